import PyProof.Rows.All
import Wide.All
import OpenK.AllK
import Wide.FinOn
import Lean
import PyProof.EqAt
import PyProof.EqKinds
import PyProof.TupleCall
import PyProof.IsiBase
import PyProof.ExcArgsOwn
import PyProof.ExcAttrAll.ValueError
import PyProof.Draws
import PyProof.WalksMore
import PyProof.EnumMake
import PyProof.FitsBits
import PyProof.ListRange
import PyProof.Rows.SeqMore
import PySem.Challenge.RW_platecuts_k51_turns_counted
set_option Elab.async false
set_option linter.all false
set_option maxRecDepth 100000
namespace L2
open PySem PySem.Spec PyProof.Rows
abbrev Key := Sum Int Str
def keyIs : Key → Value → Bool
  | .inl k,v => Value.isInt k v
  | .inr x,v => Value.isStrOf x v
def keyH (w : World) : Key → Int
  | .inl k => hashInt k
  | .inr x => hashStr w x
theorem keyIs_shape : ∀ {k : Key} {v : Value},keyIs k v = true → (∃ i t,k = Sum.inl i ∧ v = Value.int i t) ∨ (∃ x t,k = Sum.inr x ∧ v = Value.str x t)
  | .inl i,v,h => by
    obtain ⟨t,e⟩ := Value.isInt_shape (k := i) (v := v) h
    exact .inl ⟨i,t,rfl,e⟩
  | .inr x,v,h => by
    obtain ⟨t,e⟩ := Value.isStrOf_shape (x := x) (v := v) h
    exact .inr ⟨x,t,rfl,e⟩
theorem key_ll (a b : Int) : decide ((Sum.inl a : Key) = Sum.inl b) = (a == b) := by
  by_cases e : a = b
  · subst e; simp
  · have h : ¬ (Sum.inl a : Key) = Sum.inl b := fun q => e (Sum.inl.inj q)
    rw [decide_eq_false h]
    exact (beq_eq_false_iff_ne.mpr e).symm
theorem key_rr (a b : Str) : decide ((Sum.inr a : Key) = Sum.inr b) = decide (a = b) := by
  by_cases e : a = b
  · subst e; simp
  · have h : ¬ (Sum.inr a : Key) = Sum.inr b := fun q => e (Sum.inr.inj q)
    rw [decide_eq_false h,decide_eq_false e]
theorem key_lr (a : Int) (b : Str) : decide ((Sum.inl a : Key) = Sum.inr b) = false := decide_eq_false (fun q => nomatch q)
theorem key_rl (a : Str) (b : Int) : decide ((Sum.inr a : Key) = Sum.inl b) = false := decide_eq_false (fun q => nomatch q)
def mixKind (prog : Program) (w : World) : PySem.KeyKind prog w Key where
  is := keyIs
  hash := keyH w
  inj := fun v a b ha hb => by
    rcases keyIs_shape ha with ⟨i,t,rfl,rfl⟩ | ⟨x,t,rfl,rfl⟩
    · rcases keyIs_shape hb with ⟨j,u,rfl,e⟩ | ⟨y,u,rfl,e⟩
      · injection e with e1 _; rw [e1]
      · exact nomatch e
    · rcases keyIs_shape hb with ⟨j,u,rfl,e⟩ | ⟨y,u,rfl,e⟩
      · exact nomatch e
      · injection e with e1 _; rw [e1]
  byValue := fun k v h => by
    rcases keyIs_shape h with ⟨i,t,rfl,rfl⟩ | ⟨x,t,rfl,rfl⟩ <;> rfl
  pyHash := fun hv h => by
    rcases keyIs_shape hv with ⟨i,t,rfl,rfl⟩ | ⟨x,t,rfl,rfl⟩
    · exact wpAny_pyHash_int h
    · exact wpAny_pyHash_str h
  eqBool := fun hu hv h => by
    rcases keyIs_shape hu with ⟨i,t,rfl,rfl⟩ | ⟨x,t,rfl,rfl⟩
    · rcases keyIs_shape hv with ⟨j,u,rfl,rfl⟩ | ⟨y,u,rfl,rfl⟩
      · rw [key_ll] at h; exact wpAny_eqBool_int h
      · rw [key_lr] at h; exact SeqAt.EqAt.int_str i t y u _ _ _ _ h
    · rcases keyIs_shape hv with ⟨j,u,rfl,rfl⟩ | ⟨y,u,rfl,rfl⟩
      · rw [key_rl] at h; exact SeqAt.EqAt.str_int x t j u _ _ _ _ h
      · rw [key_rr] at h; exact wpAny_eqBool_str h
  «strs» := fun k x t v h => by
    rcases keyIs_shape h with ⟨i,u,rfl,e⟩ | ⟨y,u,rfl,e⟩
    · exact nomatch e
    · injection e with e1 _
      subst e1
      cases v <;> rfl
end L2
namespace L2
open PySem PySem.Spec PyProof.Rows
inductive V where
  | non | bl (b : Bool) | int (i : Int) | str (x : Str) | byt (b : Array UInt8) | flt (b : UInt64) | ref (a : Addr) | ty (n : String)
  deriving DecidableEq
def RelV : V → Value → Prop
  | .non,u => u = Value.none
  | .bl b,u => u = Value.bool b
  | .int i,u => ∃ t,u = Value.int i t
  | .str x,u => ∃ t,u = Value.str x t
  | .byt b,u => ∃ t,u = Value.bytes b t
  | .flt b,u => ∃ t,u = Value.float b t
  | .ref a,u => u = Value.ref a
  | .ty n,u => u = Value.type n
abbrev Vals : List V → List Value → Prop := Paired RelV
theorem Vals.length {xs : List V} {us : List Value} (r : Vals xs us) : xs.length = us.length := Paired.length r
theorem Vals.get : ∀ {xs : List V} {us : List Value} {i : Nat} {x : V},Vals xs us → xs[i]? = some x → ∃ u,us[i]? = some u ∧ RelV x u
  | _,_,_,_,.nil,e => by simp at e
  | _,_,0,_,.cons r _,e => by simp at e; subst e; exact ⟨_,rfl,r⟩
  | _,_,i + 1,x,.cons _ t,e => by
    obtain ⟨u,h1,h2⟩ := Vals.get (i := i) (x := x) t (by simpa using e)
    exact ⟨u,by simpa using h1,h2⟩
theorem Vals.set {x : V} {u : Value} (r : RelV x u) : ∀ {xs : List V} {us : List Value} (i : Nat),Vals xs us → Vals (xs.set i x) (us.set i u)
  | _,_,_,.nil => .nil
  | _,_,0,.cons _ t => .cons r t
  | _,_,i + 1,.cons q t => .cons q (Vals.set r i t)
theorem Vals.append : ∀ {xs ys : List V} {us ws : List Value},Vals xs us → Vals ys ws → Vals (xs ++ ys) (us ++ ws)
  | _,_,_,_,.nil,s => s
  | _,_,_,_,.cons r t,s => .cons r (Vals.append t s)
theorem Vals.take : ∀ {xs : List V} {us : List Value} (n : Nat),Vals xs us → Vals (xs.take n) (us.take n)
  | _,_,0,_ => .nil
  | _,_,_ + 1,.nil => .nil
  | _,_,n + 1,.cons r t => .cons r (Vals.take n t)
theorem Vals.drop : ∀ {xs : List V} {us : List Value} (n : Nat),Vals xs us → Vals (xs.drop n) (us.drop n)
  | _,_,0,r => r
  | _,_,_ + 1,.nil => .nil
  | _,_,n + 1,.cons _ t => Vals.drop n t
def RelO : Option V → Option Value → Prop
  | some v,some u => RelV v u
  | none,none => True
  | _,_ => False
def KV {κ : Type} : List (κ × V) → List (κ × Value) → Prop := Paired fun (p : κ × V) (q : κ × Value) => p.1 = q.1 ∧ RelV p.2 q.2
def kV : Key → V
  | .inl i => .int i
  | .inr x => .str x
inductive HO where
  | lst (xs : List V)
  | tup (xs : List V)
  | dK (kvs : List (Key × V)) | dT (kvs : List (List Key × V))
  | set (S : Int → Bool) (n : Nat)
  | ins (C dx : Addr) (fs : List (Str × V))
  | own (x : Addr)
  | xd (fs : List (Str × V))
  | met (f x : Addr)
  | rng (lo hi : Int)
  | frz (o : Obj) (u : HO)
  | tbl (ps : Array Value)
  | ext (φ : Heap → Prop)
abbrev Hp := Addr → Option HO
def upd (H : Hp) (a : Addr) (o : HO) : Hp := fun b => if b = a then some o else H b
theorem upd_same {H : Hp} {a : Addr} {o : HO} : upd H a o a = some o := by unfold upd; rw [if_pos rfl]
theorem upd_ne {H : Hp} {a b : Addr} {o : HO} (h : b ≠ a) : upd H a o b = H b := by unfold upd; rw [if_neg h]
theorem ne_of_none {H : Hp} {a b : Addr} {o : HO} (h : H a = some o) (h' : H b = none) : a ≠ b := by
  intro e; subst e; rw [h] at h'; cases h'
section
variable (P : Program) (w : World)
def ObjOk (H : Hp) (h : Heap) (a : Addr) : HO → Prop
  | .lst xs => xs.length ≤ sizeLine ∧ ∃ (its : List Value) (n : Nat),Vals xs its ∧ h.get? a = some { cls := .type "list",data := .seq its.toArray n }
  | .tup xs => xs.length ≤ sizeLine ∧ ∃ its : List Value,Vals xs its ∧ IsTup h a its.toArray
  | .dK kvs => kvs.length ≤ sizeLine ∧ (a == sysModules) = false ∧ ∃ vs,KV kvs vs ∧ h.DictOf (mixKind P w) a vs
  | .dT kvs => kvs.length ≤ sizeLine ∧ (a == sysModules) = false ∧ ∃ xs : List (List Key × Addr × Value),
      Paired (fun (p : List Key × V) (q : List Key × Addr × Value) => p.1 = q.1 ∧ H q.2.1 = some (.tup (p.1.map kV)) ∧ RelV p.2 q.2.2) kvs xs ∧
      ∃ o es ep,h.get? a = some o ∧ o.ExactDict ∧ o.data = .dict es ep ∧ es.toList = xs.map (entryOfKey (tupleKind (mixKind P w))) ∧ (xs.map (·.1)).Nodup
  | .set S n => h.SetOf (intKind P w) a S n
  | .ins C dx fs => H dx = some (.own a) ∧ fs.length ≤ 1000 ∧ dx ≠ a ∧ h.get? a = some (PySem.W.instObj C dx) ∧
      ∃ mA,h.Ns1 dx mA ∧ (∀ f,RelO (fs.lookup f) (mA f)) ∧ PySem.Within mA (fs.map (·.1))
  | .own _ => ∃ o,h.get? a = some o
  | .xd fs => ∃ mA,h.Ns1 a mA ∧ ∀ f,RelO (fs.lookup f) (mA f)
  | .rng lo hi => ∃ t u v,h.get? a = some { cls := .type "range",data := .fields #[.int lo t,.int hi u,.int 1 v] }
  | .frz o u => h.get? a = some o ∧ ObjOk H h a u
  | .tbl ps => h.get? a = some { cls := .none,data := .fields ps }
  | .met f x => h.get? a = some (PySem.W.methodObj (.ref f) (.ref x))
  | .ext φ => φ h ∧ (∃ o,h.get? a = some o) ∧ ∀ h1 h2 : Heap,φ h1 → (∀ o,h1.get? a = some o → h2.get? a = some o) → φ h2
def HOk (H : Hp) (h : Heap) : Prop := ∀ a o,H a = some o → ObjOk P w H h a o
end
section
variable {P : Program} {w : World} {H H' : Hp} {h h' : Heap} {a : Addr} {o : HO}
theorem ObjOk.lt (x : ObjOk P w H h a o) : a < h.objs.size := by
  cases o with
  | lst xs => obtain ⟨_,_,_,_,e⟩ := x; exact Heap.lt_size e
  | tup xs => obtain ⟨_,_,_,p⟩ := x; exact p.lt
  | dK kvs => obtain ⟨_,_,_,_,o,_,_,e,_⟩ := x; exact Heap.lt_size e
  | dT kvs => obtain ⟨_,_,_,_,o,_,_,e,_⟩ := x; exact Heap.lt_size e
  | set S n => obtain ⟨o,_,_,_,e,_⟩ := x; exact Heap.lt_size e
  | ins C dx fs => obtain ⟨_,_,_,e,_⟩ := x; exact Heap.lt_size e
  | own y => obtain ⟨_,e⟩ := x; exact Heap.lt_size e
  | xd fs => obtain ⟨_,⟨_,_,_,e,_⟩,_⟩ := x; exact Heap.lt_size e
  | rng lo hi => obtain ⟨_,_,_,e⟩ := x; exact Heap.lt_size e
  | frz ob u => obtain ⟨e,_⟩ := x; exact Heap.lt_size e
  | tbl ps => exact Heap.lt_size (show h.get? a = some _ from x)
  | met f y => exact Heap.lt_size (show h.get? a = some _ from x)
  | ext φ => obtain ⟨_,⟨_,e⟩,_⟩ := x; exact Heap.lt_size e
theorem Paired.mapP {α β : Type} {F G : α → β → Prop} : ∀ {l₁ : List α} {l₂ : List β},Paired F l₁ l₂ → (∀ a b,F a b → G a b) → Paired G l₁ l₂
  | _,_,.nil,_ => .nil
  | _,_,.cons r t,f => .cons (f _ _ r) (Paired.mapP t f)
theorem ObjOk.stay (x : ObjOk P w H h a o) (k : ∀ b u,(b = a ∨ H b = some (.own a)) → h.get? b = some u → h'.get? b = some u)
    (ho : ∀ b,H b = some (.own a) → H' b = some (.own a)) (ht : ∀ b xs,H b = some (.tup xs) → H' b = some (.tup xs)) : ObjOk P w H' h' a o := by
  induction o with
  | lst xs => obtain ⟨z,its,n,r,e⟩ := x; exact ⟨z,its,n,r,k _ _ (.inl rfl) e⟩
  | tup xs => obtain ⟨z,its,r,ob,e,c⟩ := x; exact ⟨z,its,r,ob,k _ _ (.inl rfl) e,c⟩
  | dK kvs => obtain ⟨z,y,vs,r,ob,es,ep,e,c⟩ := x; exact ⟨z,y,vs,r,ob,es,ep,k _ _ (.inl rfl) e,c⟩
  | dT kvs =>
    obtain ⟨z,y,xs,r,ob,es,ep,e,c⟩ := x
    exact ⟨z,y,xs,Paired.mapP r fun p q z => ⟨z.1,ht _ _ z.2.1,z.2.2⟩,ob,es,ep,k _ _ (.inl rfl) e,c⟩
  | set S n => obtain ⟨ob,es,ep,t,e,c⟩ := x; exact ⟨ob,es,ep,t,k _ _ (.inl rfl) e,c⟩
  | ins C dx fs =>
    obtain ⟨d,z,ne,e,mA,⟨od,es,ep,e2,c⟩,r⟩ := x
    exact ⟨ho _ d,z,ne,k _ _ (.inl rfl) e,mA,⟨od,es,ep,k _ _ (.inr d) e2,c⟩,r⟩
  | own y => obtain ⟨ob,e⟩ := x; exact ⟨ob,k _ _ (.inl rfl) e⟩
  | xd fs => obtain ⟨mA,⟨od,es,ep,e,c⟩,r⟩ := x; exact ⟨mA,⟨od,es,ep,k _ _ (.inl rfl) e,c⟩,r⟩
  | rng lo hi => obtain ⟨t,u,v,e⟩ := x; exact ⟨t,u,v,k _ _ (.inl rfl) e⟩
  | frz ob u ih => obtain ⟨e,q⟩ := x; exact ⟨k _ _ (.inl rfl) e,ih q⟩
  | tbl ps =>
    have e : h.get? a = some { cls := .none,data := .fields ps } := x
    show h'.get? a = some { cls := .none,data := .fields ps }
    exact k a _ (.inl rfl) e
  | met f y =>
    have e : h.get? a = some (PySem.W.methodObj (.ref f) (.ref y)) := x
    show h'.get? a = some (PySem.W.methodObj (.ref f) (.ref y))
    exact k a _ (.inl rfl) e
  | ext φ => obtain ⟨p,⟨o,e⟩,st⟩ := x; exact ⟨st _ _ p fun o q => k _ _ (.inl rfl) q,⟨o,k _ _ (.inl rfl) e⟩,st⟩
theorem HOk.lt (x : HOk P w H h) (e : H a = some o) : a < h.objs.size := (x a o e).lt
theorem HOk.fresh (x : HOk P w H h) (e : h.objs.size ≤ a) : H a = none := by
  cases q : H a with
  | none => rfl
  | some u => exact absurd (Nat.lt_of_lt_of_le (x.lt q) e) (Nat.lt_irrefl _)
theorem HOk.kept (x : HOk P w H h) (k : ∀ b u,h.get? b = some u → h'.get? b = some u) : HOk P w H h' := fun a o e =>
  (x a o e).stay (fun b u _ q => k b u q) (fun _ q => q) fun _ _ q => q
theorem HOk.laid (x : HOk P w H h) (k : ∀ b u,h.get? b = some u → h'.get? b = some u) (hp : h.objs.size ≤ a) (new : ObjOk P w (upd H a o) h' a o) : HOk P w (upd H a o) h' := fun b u e => by
  have hn := x.fresh hp
  by_cases hb : b = a
  · subst hb; rw [upd_same] at e; cases e; exact new
  · rw [upd_ne hb] at e
    exact (x b u e).stay (fun c v _ q => k c v q) (fun c q => by rw [upd_ne (ne_of_none q hn)]; exact q) fun c xs q => by rw [upd_ne (ne_of_none q hn)]; exact q
end
def Rd (H : Hp) (a : Addr) (u : HO) : Prop := H a = some u ∨ ∃ o,H a = some (.frz o u)
theorem Rd.ok {P : Program} {w : World} {H : Hp} {h : Heap} {a : Addr} {u : HO} (r : Rd H a u) (x : HOk P w H h) : ObjOk P w H h a u := by
  rcases r with r | ⟨o,r⟩
  · exact x a u r
  · obtain ⟨_,q⟩ := x a _ r
    exact q
def Mut : Option HO → Prop
  | some (.lst _) => True
  | some (.dK _) => True
  | some (.dT _) => True
  | some (.set _ _) => True
  | some (.ins _ _ _) => True
  | some (.ext _) => True
  | _ => False
section
variable {P : Program} {w : World} {H : Hp} {h h' : Heap} {x e : Addr} {o' : HO}
theorem HOk.write (ok : HOk P w H h) (mu : Mut (H x)) (he : e = x ∨ H e = some (.own x)) (k : ∀ b u,b ≠ e → h.get? b = some u → h'.get? b = some u) (heo : ∃ u,h'.get? e = some u)
    (new : ObjOk P w (upd H x o') h' x o') : HOk P w (upd H x o') h' := fun b u q => by
  have nown : ∀ c y,H c = some (.own y) → c ≠ x := fun c y r z => by subst z; rw [r] at mu; exact mu
  have ntup : ∀ c xs,H c = some (.tup xs) → c ≠ x := fun c xs r z => by subst z; rw [r] at mu; exact mu
  by_cases hb : b = x
  · subst hb; rw [upd_same] at q; cases q; exact new
  · rw [upd_ne hb] at q
    by_cases hbe : b = e
    · have q' : H b = some (.own x) := by
        rcases he with z | z
        · exact absurd (hbe.trans z) hb
        · rw [hbe]; exact z
      rw [q] at q'; cases q'
      obtain ⟨v,hv⟩ := heo
      exact ⟨v,by rw [hbe]; exact hv⟩
    · refine (ok b u q).stay (fun c v hc r => k c v ?_ r) (fun c r => by rw [upd_ne (nown c b r)]; exact r) fun c xs r => by rw [upd_ne (ntup c xs r)]; exact r
      rcases hc with rfl | hc
      · exact hbe
      · rintro rfl
        rcases he with z | z
        · exact nown c b hc z
        · rw [hc] at z; cases z; exact hb rfl
end
structure Un (fs ex : List Addr) (H H' : Hp) (h h' : Heap) : Prop where
  keep : ∀ b o,h.get? b = some o → H b = none → b ∉ fs → b ∉ ex → h'.get? b = some o
  slot : ∀ b o,h.get? b = some o → H b = none → b ∈ fs → b ∉ ex → ∃ sl,h'.get? b = some { o with slots := sl }
  free : ∀ b o,h.get? b = some o → H b = none → b ∉ ex → H' b = none
  there : ∀ b o,h.get? b = some o → b ∉ ex → ∃ o',h'.get? b = some o'
  tups : ∀ b xs,H b = some (.tup xs) → H' b = some (.tup xs)
  frzs : ∀ b o u,H b = some (.frz o u) → H' b = some (.frz o u)
  tbls : ∀ b ps,H b = some (.tbl ps) → ∃ more,H' b = some (.tbl (ps ++ more))
section
variable {fs fs' ex ex' : List Addr} {H H1 H2 : Hp} {h h1 h2 h' : Heap} {a x e : Addr} {o : HO}
theorem Un.any (u : Un fs ex H H1 h h1) {b : Addr} {ob : Obj} (q : h.get? b = some ob) (n : H b = none) (hx : b ∉ ex) : ∃ sl,h1.get? b = some { ob with slots := sl } := by
  by_cases hb : b ∈ fs
  · exact u.slot b ob q n hb hx
  · exact ⟨ob.slots,u.keep b ob q n hb hx⟩
theorem Un.kept (k : ∀ b u,h.get? b = some u → h'.get? b = some u) : Un fs ex H H h h' :=
  ⟨fun b ob q _ _ _ => k b ob q,fun b ob q _ _ _ => ⟨ob.slots,k b ob q⟩,fun _ _ _ n _ => n,fun b ob q _ => ⟨ob,k b ob q⟩,fun _ _ q => q,fun _ _ _ q => q,fun _ ps q => ⟨#[],by rw [q]; simp⟩⟩
theorem Un.refl : Un fs ex H H h h := Un.kept fun _ _ q => q
theorem Un.laid (k : ∀ b u,h.get? b = some u → h'.get? b = some u) (hp : h.objs.size ≤ a) (hn : H a = none) : Un fs ex H (upd H a o) h h' where
  keep := fun b u q _ _ _ => k b u q
  slot := fun b u q _ _ _ => ⟨u.slots,k b u q⟩
  free := fun b u q n _ => by rw [upd_ne (Nat.ne_of_lt (Nat.lt_of_lt_of_le (Heap.lt_size q) hp))]; exact n
  there := fun b u q _ => ⟨u,k b u q⟩
  tups := fun b xs q => by rw [upd_ne (ne_of_none q hn)]; exact q
  frzs := fun b u xs q => by rw [upd_ne (ne_of_none q hn)]; exact q
  tbls := fun b ps q => ⟨#[],by rw [upd_ne (ne_of_none q hn),q]; simp⟩
theorem Un.write (mu : Mut (H x)) (he : e = x ∨ H e = some (.own x)) (k : ∀ b u,b ≠ e → h.get? b = some u → h'.get? b = some u) (heo : ∃ u,h'.get? e = some u) : Un fs ex H (upd H x o) h h' := by
  have hx : ∀ b,H b = none → b ≠ x := fun b n z => by subst z; rw [n] at mu; exact mu
  have hb : ∀ b,H b = none → b ≠ e := fun b n z => by
    subst z
    rcases he with r | r
    · exact hx b n r
    · rw [n] at r; cases r
  have hm : ∀ b u,H b = some u → ¬ Mut (some u) → b ≠ x := fun b u q nm z => by subst z; rw [q] at mu; exact nm mu
  refine ⟨fun b u q n _ _ => k b u (hb b n) q,fun b u q n _ _ => ⟨u.slots,k b u (hb b n) q⟩,fun b u q n _ => by rw [upd_ne (hx b n)]; exact n,fun b u q _ => ?_,
    fun b xs q => by rw [upd_ne (hm b _ q fun z => z)]; exact q,fun b u xs q => by rw [upd_ne (hm b _ q fun z => z)]; exact q,fun b ps q => ⟨#[],by rw [upd_ne (hm b _ q fun z => z),q]; simp⟩⟩
  by_cases hbe : b = e
  · subst hbe; exact heo
  · exact ⟨u,k b u hbe q⟩
end
def trk (h : Heap) (H : Hp) : List Addr := (List.range h.objs.size).filter fun a => (H a).isSome
def hidT (h : Heap) (H : Hp) : Heap := PySem.W.hideAll h (trk h H)
theorem hidT_size (h : Heap) (H : Hp) : (hidT h H).objs.size = h.objs.size := PySem.W.hideAll_size _ _
theorem hidT_get {h : Heap} {H : Hp} {b : Addr} {o : Obj} (e : h.get? b = some o) (n : H b = none) : (hidT h H).get? b = some o :=
  PySem.W.hideAll_get _ e fun hm => by
    have q : (H b).isSome = true := (List.mem_filter.mp hm).2
    rw [n] at q; simp at q
theorem of_hidT {h : Heap} {H : Hp} {b : Addr} {o : Obj} (e : (hidT h H).get? b = some o) : h.get? b = some o ∧ H b = none := by
  have e' : h.get? b = some o := PySem.W.of_hideAll (trk h H) e
  refine ⟨e',?_⟩
  cases q : H b with
  | none => rfl
  | some x =>
    have hm : b ∈ trk h H := List.mem_filter.mpr ⟨List.mem_range.mpr (Heap.lt_size e'),by simp [q]⟩
    have z : (hidT h H).get? b = none := PySem.W.hideAll_none (trk h H) hm
    rw [z] at e; cases e
def allNews (g h : Heap) (L : Addr) : List (Addr × Obj) := (List.range h.objs.size).filterMap fun a => if a = L ∨ (g.get? a).isSome = true then none else (h.get? a).map fun o => (a,o)
def rest (g h : Heap) (L d : Addr) : List (Addr × Obj) := (allNews g h L).filter fun p => decide (p.1 ≠ d)
end L2
namespace L2
open PySem PySem.Spec PyProof.Rows
structure Mod (K : PySem.W.Frag) (mg : Str → Option Value) (base : Heap) : Prop where
  kin : K.In base
  glob : base.Ns mainGlobals mg
  blt : ∃ mb,base.Ns builtinsNs mb ∧ ∀ x : Str,x ≠ "__name__" → mb x = bootBuiltins x
  nolimit : base.NoLimit
/-- the context: a def's body (or a comprehension's block) running. base: fixed through the whole law; s₀,H₀: the entry; outer: the frames whose slots others may change (a def's callers); stack: all frames that run;
   ex: iterators that were made ahead of the entry and are walked here (a comprehension's); fn: the names whose cells were made at the entry (a def: all; a comprehension's block: its own); calm: not within an except suite; pn: pins that every state bears; xe: what is wanted of an exception that leaves the code -/
structure Cx where
  prog : Program
  w : World
  K : PySem.W.Frag
  mg : Str → Option Value
  base : Heap
  A : Around
  N : List Str
  s₀ : Shared
  H₀ : Hp
  env : Env
  outer : List Env
  stack : List Env
  ex : List Addr
  fn : Str → Bool
  calm : Bool
  pn : List (Addr × Obj)
  xe : Value → Shared → Prop
def frs (l : List Env) : List Addr := l.filterMap (·.frame)
abbrev Cx.fs (X : Cx) : List Addr := frs X.outer
def Vis (sc : Scope) (x : Str) : Prop := sc.names.lookup x = some .local ∨ sc.names.lookup x = some .cell ∨ sc.names.lookup x = some .free
def Loc (sc : Scope) (x : Str) : Prop := sc.names.lookup x = some .local ∨ sc.names.lookup x = some .cell
def Look (env : Env) (h : Heap) (m : Str → Option Value) (x : Str) (u : Value) : Prop :=
  (env.kindOf x = some .local ∧ m x = some u) ∨ ((env.kindOf x = some .cell ∨ env.kindOf x = some .free) ∧ ∃ c,env.cells.lookup x = some c ∧ h.IsCell c (some u))
structure Cx.Ok (X : Cx) : Prop where
  mod : Mod X.K X.mg X.base
  kind : X.env.scope.kind = .function
  glob : X.env.globals = mainGlobals
  blt : X.env.builtins = builtinsNs
  above : X.s₀.heap.objs.size ≤ X.env.locals
  inj : ∀ x y c,X.env.cells.lookup x = some c → X.env.cells.lookup y = some c → x = y
  has : ∀ x,(X.env.kindOf x = some .cell ∨ X.env.kindOf x = some .free) → ∃ c,X.env.cells.lookup x = some c
  cab : ∀ x c,X.fn x = true → X.env.cells.lookup x = some c → X.s₀.heap.objs.size ≤ c
  hd : X.calm = true → X.A.handled = none
  frames : X.A.frames = some X.stack
  stk : X.stack = X.outer ∨ (X.stack = X.env :: X.outer ∧ X.env.frame = some X.env.locals)
  exf : ∀ b ∈ X.ex,b ≠ X.env.locals ∧ ∀ x c,X.env.cells.lookup x = some c → c ≠ b
  bs : ∀ b o,X.base.get? b = some o → X.s₀.heap.get? b = some o ∧ X.H₀ b = none
  bsz : X.base.objs.size ≤ X.s₀.heap.objs.size
  noex : ∀ b o,X.base.get? b = some o → b ∉ X.ex
  exfs : ∀ b ∈ X.ex,b ∉ X.fs
  funs : X.s₀.heap.FunFrames X.base X.outer
  frf : ∀ b ∈ X.fs,X.H₀ b = none
structure Inv (X : Cx) (pins : List (Addr × Obj)) (σ : List (Option V)) (H : Hp) (s : Shared) : Prop where
  ok : X.Ok
  os : s.os = X.s₀.os
  bare : AllBare s.gens
  base : Un X.fs X.ex X.H₀ H X.s₀.heap s.heap
  loc : ∃ m,s.heap.Ns X.env.locals m ∧ ∀ (i : Nat) (x : Str) (v : V),X.N[i]? = some x → σ[i]? = some (some v) → Vis X.env.scope x → ∃ u,RelV v u ∧ Look X.env s.heap m x u
  cell : ∀ x c,X.env.cells.lookup x = some c → ∃ v,s.heap.IsCell c v
  free : H X.env.locals = none
  freeC : ∀ x c,X.env.cells.lookup x = some c → H c = none
  pin : ∀ p ∈ X.pn ++ pins,s.heap.get? p.1 = some p.2 ∧ H p.1 = none ∧ p.1 ≠ X.env.locals ∧ p.1 ∉ X.fs ∧ ∀ v,p.2.data ≠ .cell v
  hok : HOk X.prog X.w H s.heap
  len : σ.length = X.N.length
section
variable {X : Cx} {pins : List (Addr × Obj)} {σ : List (Option V)} {H H' : Hp} {s : Shared} {h' : Heap}
theorem Cx.Ok.nofr (ok : X.Ok) {b : Addr} {o : Obj} (e : X.base.get? b = some o) : b ∉ X.fs := fun hb => by
  have := (ok.funs.mem hb).1
  rw [e] at this; cases this
theorem Inv.bs (I : Inv X pins σ H s) : ∀ b o,X.base.get? b = some o → s.heap.get? b = some o ∧ H b = none := fun b o e =>
  ⟨I.base.keep b o (I.ok.bs b o e).1 (I.ok.bs b o e).2 (I.ok.nofr e) (I.ok.noex b o e),I.base.free b o (I.ok.bs b o e).1 (I.ok.bs b o e).2 (I.ok.noex b o e)⟩
theorem Inv.bk (I : Inv X pins σ H s) : ∀ b o,X.base.get? b = some o → s.heap.get? b = some o := fun b o e => (I.bs b o e).1
theorem Inv.mod (I : Inv X pins σ H s) : Mod X.K X.mg X.base := I.ok.mod
theorem Inv.kIn (I : Inv X pins σ H s) : X.K.In s.heap := I.ok.mod.kin.keeps I.bk
theorem Inv.fr (I : Inv X pins σ H s) : ∃ m,Fr X.base X.env.locals s.heap m :=
  let ⟨m,hn,_⟩ := I.loc
  ⟨m,hn,I.bk,Nat.le_trans I.ok.bsz I.ok.above⟩
theorem Inv.lt (I : Inv X pins σ H s) : X.env.locals < s.heap.objs.size := let ⟨_,hn,_⟩ := I.loc; hn.lt
theorem Inv.sz (I : Inv X pins σ H s) : X.s₀.heap.objs.size ≤ s.heap.objs.size := Nat.le_trans I.ok.above (Nat.le_of_lt I.lt)
theorem Inv.nofs (I : Inv X pins σ H s) {a : Addr} (h : s.heap.objs.size ≤ a) : a ∉ X.fs := fun hb => by
  obtain ⟨_,o,ho,_⟩ := I.ok.funs.mem hb
  exact absurd (Nat.lt_of_lt_of_le (Heap.lt_size ho) (Nat.le_trans I.sz h)) (Nat.lt_irrefl _)
theorem Inv.cne (I : Inv X pins σ H s) : ∀ x c,X.env.cells.lookup x = some c → c ≠ X.env.locals := fun x c e z => by
  obtain ⟨v,o,ho,hd⟩ := I.cell x c e
  obtain ⟨m,⟨o',es,ep,ho',hd',_⟩,_⟩ := I.loc
  rw [z,ho'] at ho; cases ho; rw [hd'] at hd; cases hd
theorem Inv.funs (I : Inv X pins σ H s) : s.heap.FunFrames X.base X.outer := by
  have all : ∀ (l : List Env),(∀ b ∈ frs l,b ∈ X.fs) → X.s₀.heap.FunFrames X.base l → s.heap.FunFrames X.base l := by
    intro l
    induction l with
    | nil => intro _ _; trivial
    | cons env r ih =>
      intro hs hl
      obtain ⟨hk,⟨L,o,hf,hn,ho,hd⟩,hr⟩ := hl
      have hL : L ∈ X.fs := hs L (by unfold frs; rw [List.filterMap_cons,hf]; exact List.mem_cons_self)
      obtain ⟨sl,e⟩ := I.base.slot L o ho (I.ok.frf L hL) hL fun z => I.ok.exfs L z hL
      exact ⟨hk,⟨L,_,hf,hn,e,hd⟩,ih (fun b hb => hs b (by unfold frs; rw [List.filterMap_cons,hf]; exact List.mem_cons_of_mem _ hb)) hr⟩
  exact all X.outer (fun _ hb => hb) I.ok.funs
theorem Inv.stack (I : Inv X pins σ H s) : s.heap.FunFrames X.base X.stack := by
  rcases I.ok.stk with e | ⟨e,hf⟩
  · rw [e]; exact I.funs
  · rw [e]
    obtain ⟨m,hn,_⟩ := I.loc
    refine .cons (by rw [I.ok.kind]; decide) hf hn ?_ I.funs
    exact Heap.get?_none_of_le (Nat.le_trans I.ok.bsz I.ok.above)
theorem Inv.stkSub (I : Inv X pins σ H s) : ∀ b ∈ frs X.stack,b ∈ X.env.locals :: X.fs := fun b hb => by
  rcases I.ok.stk with e | ⟨e,hf⟩
  · rw [e] at hb; exact List.mem_cons_of_mem _ hb
  · rw [e] at hb
    unfold frs at hb
    rw [List.filterMap_cons,hf] at hb
    exact hb
theorem Inv.stkFree (I : Inv X pins σ H s) : ∀ b ∈ frs X.stack,H b = none := fun b hb => by
  rcases List.mem_cons.mp (I.stkSub b hb) with e | hb
  · rw [e]; exact I.free
  · obtain ⟨_,o,ho,_⟩ := I.ok.funs.mem hb
    exact I.base.free b o ho (I.ok.frf b hb) fun z => I.ok.exfs b z hb
theorem Inv.step {g' : Array GenState} {t' : Nat} {d' : Drawn} {ch : List Addr} (I : Inv X pins σ H s)
    (hch : ∀ b ∈ ch,(b ∈ X.ex ∨ X.s₀.heap.objs.size ≤ b) ∧ b ≠ X.env.locals ∧ (∀ x c,X.env.cells.lookup x = some c → c ≠ b) ∧ ∀ p ∈ X.pn ++ pins,p.1 ≠ b)
    (keep : ∀ b o,b ≠ X.env.locals → b ∉ X.fs → b ∉ ch → s.heap.get? b = some o → H b = none → h'.get? b = some o)
    (slot : ∀ b o,b ≠ X.env.locals → b ∈ X.fs → b ∉ ch → s.heap.get? b = some o → H b = none → ∃ sl,h'.get? b = some { o with slots := sl }) (free : ∀ b o,b ∉ ch → s.heap.get? b = some o → H b = none → H' b = none)
    (there : ∀ b o,b ∉ ch → s.heap.get? b = some o → ∃ o',h'.get? b = some o')
    (tups : ∀ b xs,H b = some (.tup xs) → H' b = some (.tup xs)) (frzs : ∀ b o u,H b = some (.frz o u) → H' b = some (.frz o u)) (tbls : ∀ b ps,H b = some (.tbl ps) → ∃ more,H' b = some (.tbl (ps ++ more)))
    (ns : ∀ m,s.heap.Ns X.env.locals m → h'.Ns X.env.locals m) (hok : HOk X.prog X.w H' h') (hg : AllBare g') :
    Inv X pins σ H' { s with heap := h',gens := g',drawn := d',toks := t' } := by
  have neL : ∀ b o,X.s₀.heap.get? b = some o → b ≠ X.env.locals := fun b o e => Nat.ne_of_lt (Nat.lt_of_lt_of_le (Heap.lt_size e) I.ok.above)
  have neC : ∀ b o,X.s₀.heap.get? b = some o → b ∉ X.ex → b ∉ ch := fun b o e hx hb => by
    rcases (hch b hb).1 with z | z
    · exact hx z
    · exact absurd (Nat.lt_of_lt_of_le (Heap.lt_size e) z) (Nat.lt_irrefl _)
  have cellK : ∀ x c,X.env.cells.lookup x = some c → ∀ v,s.heap.IsCell c v → h'.IsCell c v := fun x c e v ⟨o,ho,hd⟩ => by
    have nch : c ∉ ch := fun z => (hch c z).2.2.1 x c e rfl
    by_cases hc : c ∈ X.fs
    · obtain ⟨sl,q⟩ := slot c o (I.cne x c e) hc nch ho (I.freeC x c e)
      exact ⟨_,q,hd⟩
    · exact ⟨o,keep c o (I.cne x c e) hc nch ho (I.freeC x c e),hd⟩
  refine ⟨I.ok,I.os,hg,⟨fun b o e n hb hx => ?_,fun b o e n hb hx => ?_,fun b o e n hx => ?_,fun b o e hx => ?_,fun b xs e => tups b xs (I.base.tups b xs e),fun b o xs e => frzs b o xs (I.base.frzs b o xs e),fun b ps e => ?_⟩,?_,fun x c e => ?_,?_,fun x c e => ?_,fun p hp => ?_,hok,I.len⟩
  · exact keep b o (neL b o e) hb (neC b o e hx) (I.base.keep b o e n hb hx) (I.base.free b o e n hx)
  · obtain ⟨sl,e1⟩ := I.base.slot b o e n hb hx
    obtain ⟨sl',e2⟩ := slot b _ (neL b o e) hb (neC b o e hx) e1 (I.base.free b o e n hx)
    exact ⟨sl',e2⟩
  · obtain ⟨o',e1⟩ := I.base.there b o e hx
    exact free b o' (neC b o e hx) e1 (I.base.free b o e n hx)
  · obtain ⟨o',e1⟩ := I.base.there b o e hx
    exact there b o' (neC b o e hx) e1
  · obtain ⟨m1,e1⟩ := I.base.tbls b ps e
    obtain ⟨m2,e2⟩ := tbls b _ e1
    exact ⟨m1 ++ m2,by rw [e2,Array.append_assoc]⟩
  · obtain ⟨m,hn,hl⟩ := I.loc
    refine ⟨m,ns m hn,fun i x v e1 e2 e3 => ?_⟩
    obtain ⟨u,r,l⟩ := hl i x v e1 e2 e3
    refine ⟨u,r,?_⟩
    rcases l with l | ⟨k,c,e,z⟩
    · exact .inl l
    · exact .inr ⟨k,c,e,cellK x c e _ z⟩
  · obtain ⟨v,z⟩ := I.cell x c e
    exact ⟨v,cellK x c e v z⟩
  · obtain ⟨m,⟨o,_,_,ho,_⟩,_⟩ := I.loc
    exact free _ o (fun z => (hch _ z).2.1 rfl) ho I.free
  · obtain ⟨v,o,ho,hd⟩ := I.cell x c e
    exact free c o (fun z => (hch c z).2.2.1 x c e rfl) ho (I.freeC x c e)
  · obtain ⟨e,n,ne,nf,d⟩ := I.pin p hp
    have nch : p.1 ∉ ch := fun z => (hch p.1 z).2.2.2 p hp rfl
    exact ⟨keep p.1 p.2 ne nf nch e n,free p.1 p.2 nch e n,ne,nf,d⟩
theorem Inv.un {t' : Nat} (I : Inv X pins σ H s) (u : Un X.fs [] H H' s.heap h') (hok : HOk X.prog X.w H' h') : Inv X pins σ H' { s with heap := h',toks := t' } := by
  obtain ⟨m,⟨o,es,ep,ho,r⟩,_⟩ := id I.loc
  obtain ⟨sl,hL⟩ := u.any ho I.free (by simp)
  exact I.step (g' := s.gens) (d' := s.drawn) (ch := []) (fun _ z => nomatch z) (fun b o _ hb _ e n => u.keep b o e n hb (by simp)) (fun b o _ hb _ e n => u.slot b o e n hb (by simp)) (fun b o _ e n => u.free b o e n (by simp)) (fun b o _ e => u.there b o e (by simp)) u.tups u.frzs u.tbls (fun m' hm => by
    obtain ⟨o',es',ep',ho',r'⟩ := hm
    rw [ho] at ho'; cases ho'
    exact ⟨_,es',ep',hL,r'⟩) hok I.bare
theorem Inv.call {g' : Array GenState} {t' : Nat} {d' : Drawn} {ch : List Addr} (I : Inv X pins σ H s) (u : Un (frs X.stack) ch H H' s.heap h') (hok : HOk X.prog X.w H' h') (hg : AllBare g')
    (hch : ∀ b ∈ ch,(b ∈ X.ex ∨ X.s₀.heap.objs.size ≤ b) ∧ b ≠ X.env.locals ∧ (∀ x c,X.env.cells.lookup x = some c → c ≠ b) ∧ ∀ p ∈ X.pn ++ pins,p.1 ≠ b) :
    Inv X pins σ H' { s with heap := h',gens := g',drawn := d',toks := t' } := by
  obtain ⟨m,⟨o,es,ep,ho,r⟩,_⟩ := id I.loc
  obtain ⟨sl,hL⟩ := u.any ho I.free fun z => (hch _ z).2.1 rfl
  exact I.step (ch := ch) hch (fun b o hL hb hc e n => u.keep b o e n (fun z => (List.mem_cons.mp (I.stkSub b z)).elim hL hb) hc) (fun b o _ _ hc e n => u.any e n hc) (fun b o hc e n => u.free b o e n hc) (fun b o hc e => u.there b o e hc) u.tups u.frzs u.tbls (fun m' hm => by
    obtain ⟨o',es',ep',ho',r'⟩ := hm
    rw [ho] at ho'; cases ho'
    exact ⟨_,es',ep',hL,r'⟩) hok hg
theorem Inv.turned {t' : Nat} {it : Addr} (I : Inv X pins σ H s) (k : ∀ b o,b ≠ it → s.heap.get? b = some o → h'.get? b = some o) (hn : H it = none) (hL : it ≠ X.env.locals)
    (h1 : it ∈ X.ex ∨ X.s₀.heap.objs.size ≤ it) (h2 : ∀ x c,X.env.cells.lookup x = some c → c ≠ it) (h3 : ∀ p ∈ X.pn ++ pins,p.1 ≠ it) : Inv X pins σ H { s with heap := h',toks := t' } := by
  have nit : ∀ b u,H b = some u → b ≠ it := fun b u e z => by rw [z,hn] at e; cases e
  refine I.step (g' := s.gens) (d' := s.drawn) (ch := [it]) (fun b hb => ?_) (fun b o _ _ hc e _ => k b o (fun z => hc (by simp [z])) e) (fun b o _ _ hc e _ => ⟨o.slots,k b o (fun z => hc (by simp [z])) e⟩) (fun _ _ _ _ n => n)
    (fun b o hc e => ⟨o,k b o (fun z => hc (by simp [z])) e⟩) (fun _ _ e => e) (fun _ _ _ e => e) (fun b ps e => ⟨#[],by rw [e]; simp⟩) (fun m hm => ?_) (fun b u e => ?_) I.bare
  · have e : b = it := by simpa using hb
    subst e
    exact ⟨h1,hL,h2,h3⟩
  · obtain ⟨o,es,ep,ho,r⟩ := hm
    exact ⟨o,es,ep,k _ o (Ne.symm hL) ho,r⟩
  · refine (I.hok b u e).stay (fun c v hc q => k c v ?_ q) (fun _ q => q) fun _ _ q => q
    rcases hc with z | z
    · rw [z]; exact nit b u e
    · exact nit c _ z
theorem Inv.tok (I : Inv X pins σ H s) (t : Nat) : Inv X pins σ H { s with toks := t } := I.un (h' := s.heap) (t' := t) Un.refl I.hok
theorem Inv.kept {t' : Nat} (I : Inv X pins σ H s) (k : ∀ b u,s.heap.get? b = some u → h'.get? b = some u) : Inv X pins σ H { s with heap := h',toks := t' } := I.un (Un.kept k) (I.hok.kept k)
theorem Inv.laid {a : Addr} {o : HO} {t' : Nat} (I : Inv X pins σ H s) (k : ∀ b u,s.heap.get? b = some u → h'.get? b = some u) (hp : s.heap.objs.size ≤ a) (new : ObjOk X.prog X.w (upd H a o) h' a o) :
    Inv X pins σ (upd H a o) { s with heap := h',toks := t' } := I.un (Un.laid k hp (I.hok.fresh hp)) (I.hok.laid k hp new)
theorem Inv.write {x e : Addr} {o : HO} {t' : Nat} (I : Inv X pins σ H s) (mu : Mut (H x)) (he : e = x ∨ H e = some (.own x)) (k : ∀ b u,b ≠ e → s.heap.get? b = some u → h'.get? b = some u) (heo : ∃ u,h'.get? e = some u)
    (new : ObjOk X.prog X.w (upd H x o) h' x o) : Inv X pins σ (upd H x o) { s with heap := h',toks := t' } := I.un (Un.write mu he k heo) (I.hok.write mu he k heo new)
theorem Inv.weak {σ' : List (Option V)} (I : Inv X pins σ H s) (hl : σ'.length = σ.length) (w : ∀ (i : Nat) v,σ'[i]? = some (some v) → σ[i]? = some (some v)) : Inv X pins σ' H s :=
  ⟨I.ok,I.os,I.bare,I.base,let ⟨m,hn,hl'⟩ := I.loc; ⟨m,hn,fun i x v e1 e2 e3 => hl' i x v e1 (w i v e2) e3⟩,I.cell,I.free,I.freeC,I.pin,I.hok,hl.trans I.len⟩
theorem Inv.pins_of {pins' : List (Addr × Obj)} (I : Inv X pins σ H s) (h : ∀ p ∈ pins',s.heap.get? p.1 = some p.2 ∧ H p.1 = none ∧ p.1 ≠ X.env.locals ∧ p.1 ∉ X.fs ∧ ∀ v,p.2.data ≠ .cell v) : Inv X pins' σ H s :=
  ⟨I.ok,I.os,I.bare,I.base,I.loc,I.cell,I.free,I.freeC,fun p hp => (List.mem_append.mp hp).elim (fun z => I.pin p (List.mem_append_left _ z)) (h p),I.hok,I.len⟩
theorem nodup_ix {N : List Str} (hN : N.Nodup) {i j : Nat} {x : Str} (a : N[i]? = some x) (b : N[j]? = some x) : i = j := by
  obtain ⟨h1,e1⟩ := List.getElem?_eq_some_iff.mp a
  obtain ⟨h2,e2⟩ := List.getElem?_eq_some_iff.mp b
  exact (List.getElem_inj hN).mp (e1.trans e2.symm)
theorem store_ok2 {M : Model} {A : Around} {E : Value → Shared → Prop} {i : Nat} {x : Str} {v : V} {u : Value} {Q : Unit → Shared → Prop} (I : Inv X pins σ H s) (hN : X.N.Nodup) (hi : X.N[i]? = some x) (hx : Loc X.env.scope x) (r : RelV v u)
    (h : ∀ s',Inv X pins (σ.set i (some v)) H s' → (∃ a,Heap.SameBut a s.heap s'.heap ∧ (a = X.env.locals ∨ X.env.cells.lookup x = some a)) → Q () s') (hf : X.fn x = true ∨ X.env.scope.names.lookup x = some .local := by first | exact .inl rfl | exact .inr rfl | assumption) : wpAny M A (storeName X.env x u) Q E s := by
  obtain ⟨m,hn,hl⟩ := id I.loc
  have hcls : (X.env.scope.kind == .class || (X.env.scope.kind == .module && X.env.locals != X.env.globals)) = false := by rw [I.ok.kind]; rfl
  have hiσ : i < σ.length := by rw [I.len]; exact (List.getElem?_eq_some_iff.mp hi).1
  have cne := I.cne
  have tracked : ∀ {a : Addr} {h' : Heap},(∃ o,s.heap.get? a = some o ∧ H a = none) → Heap.SameBut a s.heap h' → HOk X.prog X.w H h' := fun {a h'} ha hs b ob e => by
    obtain ⟨_,_,hfree⟩ := ha
    refine (I.hok b ob e).stay (fun c w' hc q => (hs.2 c ?_).trans q) (fun _ q => q) fun _ _ q => q
    rintro rfl
    rcases hc with rfl | hc
    · rw [hfree] at e; cases e
    · rw [hfree] at hc; cases hc
  rcases hx with hk | hk
  · refine wpAny_storeName_local hk hn (fun h' hn' hs => ?_) hcls
    obtain ⟨oL,_,_,hoL,_⟩ := id hn
    refine h _ ⟨I.ok,I.os,I.bare,⟨fun b o e n hb hx => ?_,fun b o e n hb hx => ?_,I.base.free,fun b o e hx => ?_,I.base.tups,I.base.frzs,I.base.tbls⟩,⟨_,hn',fun j y v' e1 e2 e3 => ?_⟩,fun y c e => ?_,I.free,I.freeC,fun p hp => ?_,tracked ⟨oL,hoL,I.free⟩ hs,by simpa using I.len⟩ ⟨_,hs,.inl rfl⟩
    · exact (hs.2 b (Nat.ne_of_lt (Nat.lt_of_lt_of_le (Heap.lt_size e) I.ok.above))).trans (I.base.keep b o e n hb hx)
    · obtain ⟨sl,e1⟩ := I.base.slot b o e n hb hx
      exact ⟨sl,(hs.2 b (Nat.ne_of_lt (Nat.lt_of_lt_of_le (Heap.lt_size e) I.ok.above))).trans e1⟩
    · obtain ⟨o',e1⟩ := I.base.there b o e hx
      exact ⟨o',(hs.2 b (Nat.ne_of_lt (Nat.lt_of_lt_of_le (Heap.lt_size e) I.ok.above))).trans e1⟩
    · by_cases hj : j = i
      · subst hj
        rw [hi] at e1; cases e1
        rw [List.getElem?_set_self hiσ] at e2
        cases e2
        exact ⟨u,r,.inl ⟨hk,by simp⟩⟩
      · rw [List.getElem?_set_ne (Ne.symm hj)] at e2
        obtain ⟨u',r',q⟩ := hl j y v' e1 e2 e3
        refine ⟨u',r',?_⟩
        rcases q with ⟨k,e⟩ | ⟨k,c,e,z⟩
        · refine .inl ⟨k,?_⟩
          have : y ≠ x := fun e => hj (nodup_ix hN e1 (e ▸ hi))
          simp [this,e]
        · exact .inr ⟨k,c,e,z.sameBut hs (cne y c e)⟩
    · obtain ⟨w',z⟩ := I.cell y c e
      exact ⟨w',z.sameBut hs (cne y c e)⟩
    · obtain ⟨e,n,ne,nf,d⟩ := I.pin p hp
      exact ⟨(hs.2 p.1 ne).trans e,n,ne,nf,d⟩
  · have hfn : X.fn x = true := by
      rcases hf with z | z
      · exact z
      · rw [z] at hk; cases hk
    obtain ⟨c,hc⟩ := I.ok.has x (.inl hk)
    obtain ⟨w',z⟩ := I.cell x c hc
    refine wpAny_storeName_cell I.ok.kind hk hc z (fun h' hc' hs => ?_)
    obtain ⟨oc,hoc,hocd⟩ := id z
    refine h { s with heap := h' } ⟨I.ok,I.os,I.bare,⟨fun b o e n hb hx => ?_,fun b o e n hb hx => ?_,I.base.free,fun b o e hx => ?_,I.base.tups,I.base.frzs,I.base.tbls⟩,⟨m,hn.sameBut hs (Ne.symm (cne x c hc)),fun j y v' e1 e2 e3 => ?_⟩,fun y c' e => ?_,I.free,I.freeC,fun p hp => ?_,tracked ⟨oc,hoc,I.freeC x c hc⟩ hs,by simpa using I.len⟩ ⟨c,hs,.inr hc⟩
    · exact (hs.2 b (Nat.ne_of_lt (Nat.lt_of_lt_of_le (Heap.lt_size e) (I.ok.cab x c hfn hc)))).trans (I.base.keep b o e n hb hx)
    · obtain ⟨sl,e1⟩ := I.base.slot b o e n hb hx
      exact ⟨sl,(hs.2 b (Nat.ne_of_lt (Nat.lt_of_lt_of_le (Heap.lt_size e) (I.ok.cab x c hfn hc)))).trans e1⟩
    · obtain ⟨o',e1⟩ := I.base.there b o e hx
      exact ⟨o',(hs.2 b (Nat.ne_of_lt (Nat.lt_of_lt_of_le (Heap.lt_size e) (I.ok.cab x c hfn hc)))).trans e1⟩
    · by_cases hj : j = i
      · subst hj
        rw [hi] at e1; cases e1
        rw [List.getElem?_set_self hiσ] at e2
        cases e2
        exact ⟨u,r,.inr ⟨.inl hk,c,hc,hc'⟩⟩
      · rw [List.getElem?_set_ne (Ne.symm hj)] at e2
        obtain ⟨u',r',q⟩ := hl j y v' e1 e2 e3
        refine ⟨u',r',?_⟩
        rcases q with q | ⟨k,c',e,z'⟩
        · exact .inl q
        · refine .inr ⟨k,c',e,z'.sameBut hs ?_⟩
          rintro rfl
          exact hj (nodup_ix hN e1 (I.ok.inj _ _ _ e hc ▸ hi))
    · by_cases hcc : c' = c
      · subst hcc; exact ⟨_,hc'⟩
      · obtain ⟨w2,z2⟩ := I.cell y c' e
        exact ⟨w2,z2.sameBut hs hcc⟩
    · obtain ⟨e,n,ne,nf,d⟩ := I.pin p hp
      refine ⟨(hs.2 p.1 ?_).trans e,n,ne,nf,d⟩
      intro q
      rw [q,hoc] at e
      have q' : oc = p.2 := Option.some.inj e
      exact d w' (by rw [← q']; exact hocd)
theorem store_ok {M : Model} {A : Around} {E : Value → Shared → Prop} {i : Nat} {x : Str} {v : V} {u : Value} {Q : Unit → Shared → Prop} (I : Inv X pins σ H s) (hN : X.N.Nodup) (hi : X.N[i]? = some x) (hx : Loc X.env.scope x) (r : RelV v u)
    (h : ∀ s',Inv X pins (σ.set i (some v)) H s' → Q () s') (hf : X.fn x = true ∨ X.env.scope.names.lookup x = some .local := by first | exact .inl rfl | exact .inr rfl | assumption) : wpAny M A (storeName X.env x u) Q E s :=
  store_ok2 I hN hi hx r (fun s' I' _ => h s' I') hf
theorem Inv.call' {s' : Shared} {ch : List Addr} (I : Inv X pins σ H s) (ho : s'.os = s.os) (u : Un (frs X.stack) ch H H' s.heap s'.heap) (hok : HOk X.prog X.w H' s'.heap) (hg : AllBare s'.gens)
    (hch : ∀ b ∈ ch,(b ∈ X.ex ∨ X.s₀.heap.objs.size ≤ b) ∧ b ≠ X.env.locals ∧ (∀ x c,X.env.cells.lookup x = some c → c ≠ b) ∧ ∀ p ∈ X.pn ++ pins,p.1 ≠ b) : Inv X pins σ H' s' := by
  obtain ⟨h',g',d',t',o'⟩ := s'
  have e : o' = s.os := ho
  subst e
  exact I.call (g' := g') (t' := t') (d' := d') u hok hg hch
end
abbrev XK := Value → Option Addr → Hp → Prop
abbrev St := List (Option V)
abbrev VK := V → Hp → Prop
abbrev TE := St → Hp → VK → Prop
abbrev TT := St → Hp → (Bool → Hp → Prop) → Prop
abbrev TA := St → Hp → (List V → Hp → Prop) → Prop
structure Ends where
  nx : St → Hp → Prop
  rt : VK
  bk : St → Hp → Prop := fun _ _ => False
  ct : St → Hp → Prop := fun _ _ => False
abbrev TS := Ends → St → Hp → Prop
def EP (X : Cx) (pins : List (Addr × Obj)) (σ : St) (Q : VK) (u : Value) (s' : Shared) : Prop := ∃ v H',Inv X pins σ H' s' ∧ RelV v u ∧ Q v H'
def TP (X : Cx) (pins : List (Addr × Obj)) (σ : St) (Q : Bool → Hp → Prop) (b : Bool) (s' : Shared) : Prop := ∃ H',Inv X pins σ H' s' ∧ Q b H'
def AP (X : Cx) (pins : List (Addr × Obj)) (σ : St) (Q : List V → Hp → Prop) (us : List Value) (s' : Shared) : Prop := ∃ vs H',Inv X pins σ H' s' ∧ Vals vs us ∧ Q vs H'
def SP (X : Cx) (pins : List (Addr × Obj)) (D : Ends) (f : Flow) (s' : Shared) : Prop :=
  match f with
  | .next => ∃ σ' H',Inv X pins σ' H' s' ∧ D.nx σ' H'
  | .brk => ∃ σ' H',Inv X pins σ' H' s' ∧ D.bk σ' H'
  | .cont => ∃ σ' H',Inv X pins σ' H' s' ∧ D.ct σ' H'
  | .ret u => ∃ v σ' H',Inv X pins σ' H' s' ∧ RelV v u ∧ D.rt v H'
def PE (X : Cx) (e : Expr) (t : TE) : Prop :=
  ∀ (pins : List (Addr × Obj)) (s : Shared) (σ : St) (H : Hp) (Q : VK),Inv X pins σ H s → t σ H Q → wpAny (model X.prog X.w) X.A (eval e X.env) (EP X pins σ Q) X.xe s
def PT (X : Cx) (e : Expr) (t : TT) : Prop :=
  ∀ (pins : List (Addr × Obj)) (s : Shared) (σ : St) (H : Hp) (Q : Bool → Hp → Prop),Inv X pins σ H s → t σ H Q → wpAny (model X.prog X.w) X.A (isTrue e X.env (eval e X.env)) (TP X pins σ Q) X.xe s
def PW (X : Cx) (e : Expr) (t : TT) : Prop :=
  ∀ (whole : Sem Value) (pins : List (Addr × Obj)) (s : Shared) (σ : St) (H : Hp) (Q : Bool → Hp → Prop),Inv X pins σ H s → t σ H Q → wpAny (model X.prog X.w) X.A (isTrue e X.env whole) (TP X pins σ Q) X.xe s
theorem PW.pt {X : Cx} {e : Expr} {t : TT} (h : PW X e t) : PT X e t := h _
def PA (X : Cx) (es : List Expr) (t : TA) : Prop :=
  ∀ (pos : Pos) (pins : List (Addr × Obj)) (s : Shared) (σ : St) (H : Hp) (Q : List V → Hp → Prop),Inv X pins σ H s → t σ H Q → wpAny (model X.prog X.w) X.A (spliced (backTo pos (starEach es X.env))) (AP X pins σ Q) X.xe s
def PS (X : Cx) (st : Stmt) (t : TS) : Prop :=
  ∀ (pins : List (Addr × Obj)) (s : Shared) (σ : St) (H : Hp) (D : Ends),Inv X pins σ H s → t D σ H → wpAny (model X.prog X.w) X.A (exec st X.env) (SP X pins D) X.xe s
def PSs (X : Cx) (st : List Stmt) (t : TS) : Prop :=
  ∀ (pins : List (Addr × Obj)) (s : Shared) (σ : St) (H : Hp) (D : Ends),Inv X pins σ H s → t D σ H → wpAny (model X.prog X.w) X.A (execs st X.env) (SP X pins D) X.xe s
theorem thn {α : Type} {t : Sem α} {Q Q' : α → Shared → Prop} {M : Model} {A : Around} {E : Value → Shared → Prop} {s : Shared} (h : wpAny M A t Q E s) (hQ : ∀ a s,Q a s → Q' a s) : wpAny M A t Q' E s := wpAny_mono h hQ fun _ _ x => x
end L2
namespace L2
open PySem PySem.Spec PyProof.Rows
section
variable {X : Cx}
theorem bin {a b : Expr} {ta tb : TE} (ha : PE X a ta) (hb : PE X b tb) {pins : List (Addr × Obj)} {s : Shared} {σ : St} {H : Hp} {R : V → V → Hp → Prop} (I : Inv X pins σ H s) (h : ta σ H fun x H1 => tb σ H1 fun y H2 => R x y H2)
    {α : Type} {Q : α → Shared → Prop} {f : Value → Value → Sem α}
    (hf : ∀ v u s2 x y H2,Inv X pins σ H2 s2 → RelV x v → RelV y u → R x y H2 → wpAny (model X.prog X.w) X.A (f v u) Q X.xe s2) :
    wpAny (model X.prog X.w) X.A (eval a X.env) (fun v s₁ => wpAny (model X.prog X.w) X.A (eval b X.env) (fun u s₂ => wpAny (model X.prog X.w) X.A (f v u) Q X.xe s₂) X.xe s₁) X.xe s := by
  refine thn (ha pins s σ H _ I h) fun v s1 ⟨x,H1,I1,r1,q1⟩ => ?_
  refine thn (hb pins s1 σ H1 _ I1 q1) fun u s2 ⟨y,H2,I2,r2,q2⟩ => ?_
  exact hf v u s2 x y H2 I2 r1 r2 q2
def tVar (i : Nat) : TE := fun σ H Q => ∃ v,σ[i]? = some (some v) ∧ Q v H
def tC (v : V) : TE := fun _ H Q => Q v H
theorem pe_var {i : Nat} {x : Str} {pos : Pos} (hN : X.N[i]? = some x) (hv : Vis X.env.scope x) (hd : (x == ("__debug__" : Str)) = false := by decide) (hcd : (x == ("__classdict__" : Str)) = false := by decide) : PE X (.Name x pos) (tVar i) := by
  intro pins s σ H Q I h
  obtain ⟨v,e,h⟩ := h
  obtain ⟨m,hn,hl⟩ := I.loc
  obtain ⟨u,r,l⟩ := hl i x v hN e hv
  have fin : EP X pins σ Q u s := ⟨v,H,I,r,h⟩
  rcases l with ⟨hk,hm⟩ | ⟨hk,c,hc,hcell⟩
  · exact wpAny_Name (wpAny_loadName_local I.ok.kind hk hn hm fin) hd
  · rcases hk with hk | hk
    · exact wpAny_Name (wpAny_loadName_cell I.ok.kind hk hc hcell fin) hd
    · exact wpAny_Name (wpAny_loadName_free I.ok.kind hk hc hcell fin hcd) hd
theorem pe_int {i j pos} : PE X (.Constant (.int i) j pos) (tC (.int i)) := fun _ _ _ H _ I h => wpAny_Constant_int ⟨.int i,H,I.tok _,⟨_,rfl⟩,h⟩
theorem pe_bl {b j pos} : PE X (.Constant (.bool b) j pos) (tC (.bl b)) := fun _ _ _ H _ I h => Constant_bool ⟨.bl b,H,I,rfl,h⟩
theorem pe_non {j pos} : PE X (.Constant .none j pos) (tC .non) := fun _ _ _ H _ I h => Constant_none ⟨.non,H,I,rfl,h⟩
theorem pe_str {x j pos} : PE X (.Constant (.str x) j pos) (tC (.str x)) := fun _ _ _ H _ I h => Calls.Constant_str ⟨.str x,H,I.tok _,⟨_,rfl⟩,h⟩
def Gl (X : Cx) (x : Str) : Prop := X.env.kindOf x = some .globalImplicit
theorem ld_glob {E : Value → Shared → Prop} {pins : List (Addr × Obj)} {s : Shared} {σ : St} {H : Hp} {x : Str} {u : Value} {pos : Pos} {Q : Value → Shared → Prop} (I : Inv X pins σ H s) (hg : Gl X x) (hm : X.mg x = some u) (h : Q u s)
    (hd : (x == ("__debug__" : Str)) = false := by decide) : wpAny (model X.prog X.w) X.A (eval (.Name x pos) X.env) Q E s :=
  Calls.Name_function_global I.ok.kind hg (Calls.loadGlobal_global (by rw [I.ok.glob]; exact I.mod.glob.keeps I.bk) hm h) hd
theorem ld_blt {E : Value → Shared → Prop} {pins : List (Addr × Obj)} {s : Shared} {σ : St} {H : Hp} {x : Str} {u : Value} {pos : Pos} {Q : Value → Shared → Prop} (I : Inv X pins σ H s) (hg : Gl X x) (hm : X.mg x = none) (hv : bootBuiltins x = some u) (h : Q u s)
    (hn : x ≠ "__name__" := by decide) (hd : (x == ("__debug__" : Str)) = false := by decide) : wpAny (model X.prog X.w) X.A (eval (.Name x pos) X.env) Q E s := by
  obtain ⟨mb,h1,h2⟩ := I.mod.blt
  exact Calls.Name_function_global I.ok.kind hg (Calls.loadGlobal_builtin (by rw [I.ok.glob]; exact I.mod.glob.keeps I.bk) hm (by rw [I.ok.blt]; exact h1.keeps I.bk) ((h2 x hn).trans hv) h) hd
theorem pe_glob {x : Str} {v : V} {u : Value} {pos : Pos} (hg : Gl X x) (hm : X.mg x = some u) (r : RelV v u) (hd : (x == ("__debug__" : Str)) = false := by decide) : PE X (.Name x pos) (tC v) :=
  fun _ _ _ H _ I h => ld_glob I hg hm ⟨v,H,I,r,h⟩ hd
theorem pe_bltn {x : Str} {v : V} {u : Value} {pos : Pos} (hg : Gl X x) (hm : X.mg x = none) (hv : bootBuiltins x = some u) (r : RelV v u) (hn : x ≠ "__name__" := by decide) (hd : (x == ("__debug__" : Str)) = false := by decide) : PE X (.Name x pos) (tC v) :=
  fun _ _ _ H _ I h => ld_blt I hg hm hv ⟨v,H,I,r,h⟩ hn hd
variable {a b : Expr} {ta tb : TE} {pos : Pos}
def PC (X : Cx) (op : CmpOp) (a b : Expr) (t : TE) : Prop :=
  ∀ (pins : List (Addr × Obj)) (s : Shared) (σ : St) (H : Hp) (Q : VK),Inv X pins σ H s → t σ H Q →
    wpAny (model X.prog X.w) X.A (eval a X.env) (fun v s₁ => wpAny (model X.prog X.w) X.A (eval b X.env) (fun u s₂ => wpAny (model X.prog X.w) X.A (compareOp op v u) (EP X pins σ Q) X.xe s₂) X.xe s₁) X.xe s
def tB (t : TE) : TT := fun σ H Q => t σ H fun x H1 => ∃ c,x = .bl c ∧ Q c H1
theorem pt_cmp {op : CmpOp} {t : TE} (h : PC X op a b t) (h1 : behindInMarks op b = false := by first | exact nobehind _ (by decide) (by decide) | rfl) : PT X (.Compare a [op] [b] pos) (tB t) := by
  intro pins s σ H Q I hw
  refine wpAny_isTrue_Compare1 (thn (h pins s σ H _ I hw) fun v s1 h1 => thn h1 fun u s2 h2 => thn h2 fun c s3 ⟨x,H1,I1,r1,q1⟩ => ?_) h1
  obtain ⟨d,rfl,q⟩ := q1
  cases r1
  exact wpAny_truthy_bool ⟨H1,I1,q⟩
theorem pt_val {e : Expr} {t : TE} (h : PE X e t) (he : ∀ whole,isTrue e X.env whole = (do let v ← whole; standAt e.pos; holding [v] (truthy v)) := by intro _; rfl) : PT X e (tB t) := by
  intro pins s σ H Q I hw
  refine isTrue_plain (thn (h pins s σ H _ I hw) fun v s1 ⟨x,H1,I1,r1,q1⟩ => ?_) (he _)
  obtain ⟨d,rfl,q⟩ := q1
  cases r1
  exact wpAny_truthy_bool ⟨H1,I1,q⟩
variable {tA tB' : TT} {rest : List Expr}
def tAnd (t u : TT) : TT := fun σ H Q => t σ H fun c H1 => if c = true then u σ H1 Q else Q false H1
def tOr (t u : TT) : TT := fun σ H Q => t σ H fun c H1 => if c = true then Q true H1 else u σ H1 Q
def tNot (t : TT) : TT := fun σ H Q => t σ H fun c H1 => Q (!c) H1
theorem pw_and1 (ha : PT X a tA) : PW X (.BoolOp .And [a] pos) tA := by
  intro wh pins s σ H Q I h
  refine isTrue_and (thn (ha pins s σ H Q I h) fun c s1 e => ?_)
  cases c with
  | true => exact isTrue_and_nil e
  | false => exact e
theorem pw_or1 (ha : PT X a tA) : PW X (.BoolOp .Or [a] pos) tA := by
  intro wh pins s σ H Q I h
  refine isTrue_or (thn (ha pins s σ H Q I h) fun c s1 e => ?_)
  cases c with
  | false => exact isTrue_or_nil e
  | true => exact e
theorem pw_and (ha : PT X a tA) (hb : PW X (.BoolOp .And (b :: rest) pos) tB') : PW X (.BoolOp .And (a :: b :: rest) pos) (tAnd tA tB') := by
  intro wh pins s σ H Q I h
  refine isTrue_and (thn (ha pins s σ H _ I h) fun c s1 ⟨H1,I1,q1⟩ => ?_)
  cases c with
  | true => exact hb wh pins s1 σ H1 Q I1 q1
  | false => exact ⟨H1,I1,q1⟩
theorem pw_or (ha : PT X a tA) (hb : PW X (.BoolOp .Or (b :: rest) pos) tB') : PW X (.BoolOp .Or (a :: b :: rest) pos) (tOr tA tB') := by
  intro wh pins s σ H Q I h
  refine isTrue_or (thn (ha pins s σ H _ I h) fun c s1 ⟨H1,I1,q1⟩ => ?_)
  cases c with
  | true => exact ⟨H1,I1,q1⟩
  | false => exact hb wh pins s1 σ H1 Q I1 q1
theorem pt_not (ha : PT X a tA) : PT X (.UnaryOp .Not a pos) (tNot tA) := by
  intro pins s σ H Q I h
  exact isTrue_not (ha pins s σ H (fun c H1 => Q (!c) H1) I h)
def tAndV (ta tb : TE) : TE := fun σ H Q => ta σ H fun x H1 => ∃ c,x = .bl c ∧ if c = true then tb σ H1 Q else Q (.bl false) H1
def tOrV (ta tb : TE) : TE := fun σ H Q => ta σ H fun x H1 => ∃ c,x = .bl c ∧ if c = true then Q (.bl true) H1 else tb σ H1 Q
def tNotV (ta : TE) : TE := fun σ H Q => ta σ H fun x H1 => ∃ c,x = .bl c ∧ Q (.bl (!c)) H1
theorem pe_one {op} {t : TE} (h : PE X a t) : PE X (.BoolOp op [a] pos) t := fun pins s σ H Q I hw => BoolOp_one (h pins s σ H Q I hw)
theorem pe_and (ha : PE X a ta) (hb : PE X (.BoolOp .And (b :: rest) pos) tb) : PE X (.BoolOp .And (a :: b :: rest) pos) (tAndV ta tb) := by
  intro pins s σ H Q I h
  refine BoolOp_and (thn (ha pins s σ H _ I h) fun v s1 ⟨x,H1,I1,r1,q1⟩ => ?_)
  obtain ⟨c,rfl,q1⟩ := q1
  cases r1
  refine wpAny_truthy_bool ?_
  cases c with
  | true => exact hb pins s1 σ H1 Q I1 q1
  | false => exact ⟨.bl false,H1,I1,rfl,q1⟩
theorem pe_or (ha : PE X a ta) (hb : PE X (.BoolOp .Or (b :: rest) pos) tb) : PE X (.BoolOp .Or (a :: b :: rest) pos) (tOrV ta tb) := by
  intro pins s σ H Q I h
  refine BoolOp_or (thn (ha pins s σ H _ I h) fun v s1 ⟨x,H1,I1,r1,q1⟩ => ?_)
  obtain ⟨c,rfl,q1⟩ := q1
  cases r1
  refine wpAny_truthy_bool ?_
  cases c with
  | false => exact hb pins s1 σ H1 Q I1 q1
  | true => exact ⟨.bl true,H1,I1,rfl,q1⟩
theorem pe_not (ha : PE X a ta) : PE X (.UnaryOp .Not a pos) (tNotV ta) := by
  intro pins s σ H Q I h
  refine UnaryOp_ (thn (ha pins s σ H _ I h) fun v s1 ⟨x,H1,I1,r1,q1⟩ => ?_)
  obtain ⟨c,rfl,q1⟩ := q1
  cases r1
  exact not_of (wpAny_truthy_bool ⟨.bl (!c),H1,I1,rfl,q1⟩)
def tIf (t : TT) (ta tb : TE) : TE := fun σ H Q => t σ H fun c H1 => if c = true then ta σ H1 Q else tb σ H1 Q
theorem pe_ifExp {c : Expr} (hc : PT X c tA) (ha : PE X a ta) (hb : PE X b tb) : PE X (.IfExp c a b pos) (tIf tA ta tb) := by
  intro pins s σ H Q I h
  refine wpAny_IfExp (thn (hc pins s σ H _ I h) fun d s1 ⟨H1,I1,q1⟩ => ?_)
  cases d with
  | true => exact ha pins s1 σ H1 Q I1 q1
  | false => exact hb pins s1 σ H1 Q I1 q1
end
end L2
namespace L2
open PySem PySem.Spec PyProof.Rows
def SqL (K : PySem.W.Frag) (H : Hp) (a : Addr) (xs : List V) : Prop :=
  Rd H a (.lst xs) ∨
    ∃ (o : Obj) (its : Array Value) (n : Nat),K.lookup a = some o ∧ o.cls = .type "list" ∧ o.dict = none ∧ o.data = .seq its n ∧ its.size ≤ sizeLine ∧ Vals xs its.toList
def SqT (K : PySem.W.Frag) (H : Hp) (a : Addr) (xs : List V) : Prop :=
  Rd H a (.tup xs) ∨
    ∃ (o : Obj) (its : Array Value) (n : Nat),K.lookup a = some o ∧ o.cls = .type "tuple" ∧ o.data = .seq its n ∧ its.size ≤ sizeLine ∧ Vals xs its.toList
def absV : Value → Option V
  | .none => some .non
  | .bool b => some (.bl b)
  | .int i _ => some (.int i)
  | .str x _ => some (.str x)
  | .bytes b _ => some (.byt b)
  | .float b _ => some (.flt b)
  | .ref a => some (.ref a)
  | .type n => some (.ty n)
  | _ => none
theorem RelV.abs {x : V} {u : Value} (r : RelV x u) : absV u = some x := by
  cases x with
  | non => cases r; rfl
  | bl _ => cases r; rfl
  | int _ => obtain ⟨t,rfl⟩ := r; rfl
  | str _ => obtain ⟨t,rfl⟩ := r; rfl
  | byt _ => obtain ⟨t,rfl⟩ := r; rfl
  | flt _ => obtain ⟨t,rfl⟩ := r; rfl
  | ref _ => cases r; rfl
  | ty _ => cases r; rfl
theorem RelV.inj {x y : V} {u : Value} (r : RelV x u) (q : RelV y u) : x = y := Option.some.inj (r.abs.symm.trans q.abs)
theorem Vals.inj : ∀ {xs ys : List V} {us : List Value},Vals xs us → Vals ys us → xs = ys
  | _,_,_,.nil,.nil => rfl
  | _,_,_,.cons r t,.cons r' t' => by rw [r.inj r',Vals.inj t t']
section
variable {X : Cx} {pins : List (Addr × Obj)} {σ : St} {H : Hp} {s : Shared} {a : Addr} {xs ys : List V}
theorem SqL.of {K : PySem.W.Frag} (h : H a = some (.lst xs)) : SqL K H a xs := .inl (.inl h)
theorem SqT.of {K : PySem.W.Frag} (h : H a = some (.tup xs)) : SqT K H a xs := .inl (.inl h)
theorem Inv.list (I : Inv X pins σ H s) (h : SqL X.K H a xs) : ∃ its : List Value,Vals xs its ∧ PlainL s.heap a its.toArray ∧ xs.length ≤ sizeLine := by
  rcases h with h | ⟨o,its,n,hk,hc,hd,hs,hz,r⟩
  · obtain ⟨z,its,n,r,e⟩ := h.ok I.hok
    exact ⟨its,r,⟨_,n,e,rfl,rfl,rfl⟩,z⟩
  · refine ⟨its.toList,r,⟨o,n,I.kIn a o hk,hc,hd,by simpa using hs⟩,?_⟩
    have e := r.length
    simp only [Array.length_toList] at e
    omega
theorem Inv.tuple (I : Inv X pins σ H s) (h : SqT X.K H a xs) : ∃ its : List Value,Vals xs its ∧ IsTup s.heap a its.toArray ∧ xs.length ≤ sizeLine := by
  rcases h with h | ⟨o,its,n,hk,hc,hs,hz,r⟩
  · obtain ⟨z,its,r,p⟩ := h.ok I.hok
    exact ⟨its,r,p,z⟩
  · refine ⟨its.toList,r,⟨o,I.kIn a o hk,hc,n,by simpa using hs⟩,?_⟩
    have e := r.length
    simp only [Array.length_toList] at e
    omega
theorem Inv.list_inj (I : Inv X pins σ H s) (h : SqL X.K H a xs) (h' : SqL X.K H a ys) : xs = ys := by
  obtain ⟨its,r,⟨o,n,e,_,_,d⟩,_⟩ := I.list h
  obtain ⟨its',r',⟨o',n',e',_,_,d'⟩,_⟩ := I.list h'
  rw [e] at e'; cases e'
  rw [d] at d'
  injection d' with d1 _
  have : its = its' := by simpa using congrArg Array.toList d1
  subst this
  exact r.inj r'
theorem Inv.tuple_inj (I : Inv X pins σ H s) (h : SqT X.K H a xs) (h' : SqT X.K H a ys) : xs = ys := by
  obtain ⟨its,r,⟨o,e,_,n,d⟩,_⟩ := I.tuple h
  obtain ⟨its',r',⟨o',e',_,n',d'⟩,_⟩ := I.tuple h'
  rw [e] at e'; cases e'
  rw [d] at d'
  injection d' with d1 _
  have : its = its' := by simpa using congrArg Array.toList d1
  subst this
  exact r.inj r'
end
abbrev Cx.wish (X : Cx) (E : Value → Shared → Prop) : Cx := { X with xe := E }
abbrev Cx.nox (X : Cx) : Cx := X.wish fun _ _ => False
theorem Cx.Ok.wish {X : Cx} (ok : X.Ok) (E : Value → Shared → Prop) : (X.wish E).Ok :=
  ⟨ok.mod,ok.kind,ok.glob,ok.blt,ok.above,ok.inj,ok.has,ok.cab,ok.hd,ok.frames,ok.stk,ok.exf,ok.bs,ok.bsz,ok.noex,ok.exfs,ok.funs,ok.frf⟩
theorem Cx.Ok.unwish {X : Cx} {E : Value → Shared → Prop} (ok : (X.wish E).Ok) : X.Ok :=
  ⟨ok.mod,ok.kind,ok.glob,ok.blt,ok.above,ok.inj,ok.has,ok.cab,ok.hd,ok.frames,ok.stk,ok.exf,ok.bs,ok.bsz,ok.noex,ok.exfs,ok.funs,ok.frf⟩
section
variable {X : Cx} {pins : List (Addr × Obj)} {σ : St} {H : Hp} {s : Shared} {E : Value → Shared → Prop}
theorem Inv.wish (I : Inv X pins σ H s) (E : Value → Shared → Prop) : Inv (X.wish E) pins σ H s := ⟨I.ok.wish E,I.os,I.bare,I.base,I.loc,I.cell,I.free,I.freeC,I.pin,I.hok,I.len⟩
theorem Inv.unwish (I : Inv (X.wish E) pins σ H s) : Inv X pins σ H s := ⟨I.ok.unwish,I.os,I.bare,I.base,I.loc,I.cell,I.free,I.freeC,I.pin,I.hok,I.len⟩
theorem SP.unwish {D : Ends} {f : Flow} {s' : Shared} (h : SP (X.wish E) pins D f s') : SP X pins D f s' := by
  cases f with
  | next => obtain ⟨σ',H',I,q⟩ := h; exact ⟨σ',H',I.unwish,q⟩
  | brk => obtain ⟨σ',H',I,q⟩ := h; exact ⟨σ',H',I.unwish,q⟩
  | cont => obtain ⟨σ',H',I,q⟩ := h; exact ⟨σ',H',I.unwish,q⟩
  | ret u => obtain ⟨v,σ',H',I,r,q⟩ := h; exact ⟨v,σ',H',I.unwish,r,q⟩
theorem PSs.nox {st : List Stmt} {t : TS} (h : PSs X.nox st t) : PSs X st t := fun pins s σ H D I hw =>
  wpAny_mono (h pins s σ H D (I.wish _) hw) (fun _ _ q => q.unwish) fun _ _ z => False.elim z
end
section
variable {X : Cx} {st : Stmt} {rest : List Stmt} {t u : TS} {e : Expr} {te : TE} {pos : Pos}
def tNext : TS := fun D σ H => D.nx σ H
def tSeq (t u : TS) : TS := fun D σ H => t { D with nx := u D } σ H
theorem pss_nil : PSs X [] tNext := fun _ _ σ H _ I h => wpAny_execs_nil ⟨σ,H,I,h⟩
theorem pss_cons (h1 : PS X st t) (h2 : PSs X rest u) : PSs X (st :: rest) (tSeq t u) := by
  intro pins s σ H D I h
  refine wpAny_execs_cons (thn (h1 pins s σ H { D with nx := u D } I h) fun f s1 q => ?_)
  cases f with
  | next =>
    obtain ⟨σ',H',I',q⟩ := q
    exact h2 pins s1 σ' H' D I' q
  | ret v => exact q
  | brk => exact q
  | cont => exact q
theorem pss_one (h1 : PS X st t) : PSs X [st] t := by
  intro pins s σ H D I h
  refine wpAny_execs_cons (thn (h1 pins s σ H D I h) fun f s1 q => ?_)
  cases f with
  | next => exact wpAny_execs_nil q
  | ret v => exact q
  | brk => exact q
  | cont => exact q
theorem Inv.quiet {pins : List (Addr × Obj)} {σ : St} {H : Hp} {s : Shared} (I : Inv X pins σ H s) : interactive X.env = false := by simp [interactive,I.ok.kind]
def tDrop (te : TE) : TS := fun D σ H => te σ H fun _ H1 => D.nx σ H1
theorem ps_expr (he : PE X e te) (hs : swapsWith e none pos.line X.env = pure false := by rfl) : PS X (.Expr e pos) (tDrop te) := by
  intro pins s σ H D I h
  exact wpAny_Expr_any (thn (he pins s σ H _ I h) fun v s1 ⟨x,H1,I1,r1,q1⟩ => ⟨σ,H1,I1,q1⟩) I.quiet hs
def tRet (te : TE) : TS := fun D σ H => te σ H D.rt
theorem ps_ret (he : PE X e te) : PS X (.Return (some e) pos) (tRet te) := by
  intro pins s σ H D I h
  exact wpAny_Return_some (thn (he pins s σ H _ I h) fun v s1 ⟨x,H1,I1,r1,q1⟩ => ⟨x,σ,H1,I1,r1,q1⟩)
def tIfS (c : TT) (t u : TS) : TS := fun D σ H => c σ H fun b H1 => if b = true then t D σ H1 else u D σ H1
theorem ps_if {c : Expr} {a b : List Stmt} {tc : TT} (hc : PT X c tc) (ha : PSs X a t) (hb : PSs X b u) : PS X (.If c a b pos) (tIfS tc t u) := by
  intro pins s σ H D I h
  refine wpAny_If (thn (hc pins s σ H _ I h) fun d s1 ⟨H1,I1,q1⟩ => ?_)
  cases d with
  | true => exact ha pins s1 σ H1 D I1 q1
  | false => exact hb pins s1 σ H1 D I1 q1
def tNever : TS := fun _ _ _ => False
theorem ps_never : PS X st tNever := fun _ _ _ _ _ _ h => h.elim
theorem pss_never {sts : List Stmt} : PSs X sts tNever := fun _ _ _ _ _ _ h => h.elim
end
abbrev TG := V → St → Hp → (St → Hp → Prop) → Prop
abbrev TGs := List V → St → Hp → (St → Hp → Prop) → Prop
def PG (X : Cx) (target : Expr) (t : TG) : Prop :=
  ∀ (pins : List (Addr × Obj)) (s : Shared) (σ : St) (H : Hp) (v : V) (u : Value) (Q : St → Hp → Prop),Inv X pins σ H s → RelV v u → t v σ H Q →
    wpAny (model X.prog X.w) X.A (assign target X.env u) (fun _ s' => ∃ σ' H',Inv X pins σ' H' s' ∧ Q σ' H') X.xe s
def PGs (X : Cx) (ts : List Expr) (t : TGs) : Prop :=
  ∀ (pins : List (Addr × Obj)) (s : Shared) (σ : St) (H : Hp) (vs : List V) (us : List Value) (Q : St → Hp → Prop),Inv X pins σ H s → Vals vs us → t vs σ H Q →
    wpAny (model X.prog X.w) X.A (assignInOrder ((assignEach ts X.env).map (·.2)) us) (fun _ s' => ∃ σ' H',Inv X pins σ' H' s' ∧ Q σ' H') X.xe s
abbrev TSet := V → V → V → Hp → (Hp → Prop) → Prop
def PSet (X : Cx) (t : TSet) : Prop :=
  ∀ (pins : List (Addr × Obj)) (s : Shared) (σ : St) (H : Hp) (o i v : V) (ov iv u : Value) (Q : Hp → Prop),Inv X pins σ H s → RelV o ov → RelV i iv → RelV v u → t o i v H Q →
    wpAny (model X.prog X.w) X.A (setItem ov iv u) (fun _ s' => ∃ H',Inv X pins σ H' s' ∧ Q H') X.xe s
abbrev TIp := V → V → Hp → VK → Prop
def PIp (X : Cx) (op : Operator) (t : TIp) : Prop :=
  ∀ (pins : List (Addr × Obj)) (s : Shared) (σ : St) (H : Hp) (x y : V) (v u : Value) (Q : VK),Inv X pins σ H s → RelV x v → RelV y u → t x y H Q →
    wpAny (model X.prog X.w) X.A (inplaceOp op v u) (EP X pins σ Q) X.xe s
section
variable {X : Cx} {pos : Pos}
def gName (i : Nat) : TG := fun v σ H Q => Q (σ.set i (some v)) H
theorem pg_name {i : Nat} {x : Str} (hN : X.N.Nodup) (hi : X.N[i]? = some x) (hx : Loc X.env.scope x) (hf : X.fn x = true ∨ X.env.scope.names.lookup x = some .local := by first | exact .inl rfl | exact .inr rfl | assumption) : PG X (.Name x pos) (gName i) := by
  intro pins s σ H v u Q I r h
  exact wpAny_assign_Name (store_ok I hN hi hx r (fun s' I' => ⟨_,H,I',h⟩) hf)
def gNil : TGs := fun vs σ H Q => vs = [] ∧ Q σ H
def gCons (t : TG) (u : TGs) : TGs := fun vs σ H Q => ∃ v r,vs = v :: r ∧ t v σ H fun σ' H' => u r σ' H' Q
theorem pgs_nil : PGs X [] gNil := by
  intro pins s σ H vs us Q I r h
  obtain ⟨e,h⟩ := h
  subst e
  cases r
  exact assignInOrder_nil ⟨σ,H,I,h⟩
theorem pgs_cons {e : Expr} {es : List Expr} {t : TG} {u : TGs} (h1 : PG X e t) (h2 : PGs X es u)
    (hs : (assignEach (e :: es) X.env).map (·.2) = assign e X.env :: (assignEach es X.env).map (·.2) := by rfl) : PGs X (e :: es) (gCons t u) := by
  intro pins s σ H vs us Q I r h
  obtain ⟨v,vr,e1,h⟩ := h
  subst e1
  cases r with
  | cons r rr =>
    rw [hs]
    refine assignInOrder_cons (thn (h1 pins s σ H _ _ _ I r h) fun _ s1 ⟨σ1,H1,I1,q1⟩ => ?_)
    exact h2 pins s1 σ1 H1 _ _ Q I1 rr q1
def gTup (K : PySem.W.Frag) (n : Nat) (t : TGs) : TG := fun v σ H Q => ∃ a xs,v = .ref a ∧ SqT K H a xs ∧ xs.length = n ∧ t xs σ H Q
theorem pg_tup {es : List Expr} {k : Nat} {t : TGs} {n : Nat} (hc : X.calm = true) (h : PGs X es t)
    (hn : (assignEach es X.env).length = n := by rfl) (hst : (assignEach es X.env).findIdx? (·.1) = none := by rfl) : PG X (.Tuple es k pos) (gTup X.K n t) := by
  intro pins s σ H v u Q I r hw
  obtain ⟨a,xs,e1,hq,hl,hw⟩ := hw
  subst e1
  cases r
  obtain ⟨its,rv,ht,hz⟩ := I.tuple hq
  refine assign_Tuple_tuple (I.ok.hd hc) ht (by simp [hn,← hl,rv.length]) hst fun h' hx => ?_
  have I1 : Inv X pins σ H { s with heap := h' } := I.kept (t' := s.toks) fun b o e => hx b o (Nat.ne_of_lt (Heap.lt_size e)) e
  exact h pins _ σ H xs _ Q I1 (by simpa using rv) hw
def gSub (to ti : TE) (t : TSet) : TG := fun v σ H Q => to σ H fun o H1 => ti σ H1 fun i H2 => t o i v H2 fun H3 => Q σ H3
theorem pg_sub {o i : Expr} {to ti : TE} {t : TSet} (ho : PE X o to) (hi : PE X i ti) (hs : PSet X t)
    (ha : ∀ v,assign (.Subscript o i pos) X.env v = (do
      let ov ← holding [v] (eval o X.env)
      let iv ← holding [v,ov] (eval i X.env)
      standAt pos
      holding [v,ov,iv] (setItem ov iv v)
      release [v,ov,iv] []) := by intro _; rfl) : PG X (.Subscript o i pos) (gSub to ti t) := by
  intro pins s σ H v u Q I r h
  rw [ha]
  refine wpAny_bind (wpAny_holding (thn (ho pins s σ H _ I h) fun ov s1 ⟨x,H1,I1,r1,q1⟩ => ?_))
  refine wpAny_bind (wpAny_holding (thn (hi pins s1 σ H1 _ I1 q1) fun iv s2 ⟨y,H2,I2,r2,q2⟩ => ?_))
  refine wpAny_bind (wpAny_standAt (wpAny_bind (wpAny_holding (thn (hs pins s2 σ H2 x y v ov iv u _ I2 r1 r2 r q2) fun _ s3 ⟨H3,I3,q3⟩ => ?_))))
  exact wpAny_release ⟨σ,H3,I3,q3⟩
def tAsg (te : TE) (g : TG) : TS := fun D σ H => te σ H fun x H1 => g x σ H1 D.nx
theorem ps_asg {tg e : Expr} {te : TE} {g : TG} (he : PE X e te) (hg : PG X tg g) (hs : swapsWithSole [tg] e pos.line X.env = pure false := by rfl) (hw : swappedStores [tg] e X.env = pure none := by rfl)
    (h1 : (assignEach [tg] X.env).map (·.2) = [assign tg X.env] := by rfl) : PS X (.Assign [tg] e pos) (tAsg te g) := by
  intro pins s σ H D I h
  refine wpAny_Assign_stores (thn (he pins s σ H _ I h) fun v s1 ⟨x,H1,I1,r1,q1⟩ => ?_) hs hw
  rw [h1]
  exact thn (hg pins s1 σ H1 x v _ I1 r1 q1) fun _ s2 q => q
theorem ps_set {i : Nat} {x : Str} {e : Expr} {te : TE} {pos' : Pos} (hN : X.N.Nodup) (hi : X.N[i]? = some x) (hx : Loc X.env.scope x) (he : PE X e te) (hs : swapsWith e (some (.Name x pos')) pos.line X.env = pure false := by rfl) (hf : X.fn x = true ∨ X.env.scope.names.lookup x = some .local := by first | exact .inl rfl | exact .inr rfl | assumption) :
    PS X (.Assign [.Name x pos'] e pos) (tAsg te (gName i)) := by
  intro pins s σ H D I h
  refine wpAny_Assign_Name (thn (he pins s σ H _ I h) fun v s1 ⟨y,H1,I1,r1,q1⟩ => ?_) hs
  exact store_ok I1 hN hi hx r1 (fun s2 I2 => ⟨_,H1,I2,q1⟩) hf
def tPar (i j : Nat) (ta : TA) : TS := fun D σ H => ta σ H fun vs H1 => ∃ v w,vs = [v,w] ∧ D.nx ((σ.set i (some v)).set j (some w)) H1
theorem ps_par {i j : Nat} {x y : Str} {a b : Expr} {ta : TA} {px py pt : Pos} {kt k2 pt2} (hc : X.calm = true) (hN : X.N.Nodup) (hi : X.N[i]? = some x) (hj : X.N[j]? = some y) (hij : i ≠ j)
    (hx : X.env.scope.names.lookup x = some .local) (hy : X.env.scope.names.lookup y = some .local) (ha : PA X [a,b] ta)
    (hw : swappedStores [.Tuple [.Name x px,.Name y py] kt pt] (.Tuple [a,b] k2 pt2) X.env = pure (some [x,y]))
    (hs : swapsWithSole [.Tuple [.Name x px,.Name y py] kt pt] (.Tuple [a,b] k2 pt2) pos.line X.env = pure false := by rfl) :
    PS X (.Assign [.Tuple [.Name x px,.Name y py] kt pt] (.Tuple [a,b] k2 pt2) pos) (tPar i j ta) := by
  intro pins s σ H D I h
  rw [exec_Assign_arm]
  refine wpAny_bind (wpAny_standAt ?_)
  rw [hs]
  refine wpAny_bind (wpAny_pure ?_)
  rw [if_neg (by decide)]
  refine wpAny_bind (Tuple_ (thn (ha _ pins s σ H _ I h) fun us s1 ⟨vs,H1,I1,r1,q1⟩ => ?_))
  obtain ⟨v,w,e1,q1⟩ := q1
  subst e1
  obtain ⟨u1,u2,rfl,rv,rw'⟩ : ∃ u1 u2,us = [u1,u2] ∧ RelV v u1 ∧ RelV w u2 := by
    cases r1 with
    | cons p q =>
      cases q with
      | cons p' q' =>
        cases q'
        exact ⟨_,_,rfl,p,p'⟩
  refine wpAny_newObj_type ?_ (by show 2 ≤ sizeLine; decide)
  have I2 : Inv X pins σ H1 { s1 with heap := s1.heap.push { cls := .type "tuple", data := .seq [u1, u2].toArray } } := I1.kept (t' := s1.toks) fun b o e => Heap.get?_push_of_some _ e
  rw [hw]
  refine wpAny_bind (wpAny_pure ?_)
  show wpAny (model X.prog X.w) X.A (do rule "assign.swapped-stores"; let items ← unpackItems (.ref s1.heap.objs.size) 2 none; assignInOrder [fun v => bindName X.env y v,fun v => bindName X.env x v] items.reverse; pure Flow.next) _ _ _
  refine wpAny_bind (wpAny_rule (wpAny_bind (unpackItems_tuple (items := #[u1,u2]) (I.ok.hd hc) (IsTup.new s1.heap _) fun h' hx' => ?_)))
  have I3 := I2.kept (h' := h') (t' := s1.toks) fun b o e => hx' b o (Nat.ne_of_lt (Heap.lt_size e)) e
  show wpAny _ _ (assignInOrder [fun v => bindName X.env y v,fun v => bindName X.env x v] [u2,u1] >>= fun _ => pure Flow.next) _ _ _
  refine wpAny_bind (assignInOrder_cons (wpAny_bindName (store_ok I3 hN hj (.inl hy) rw' (fun s2 I4 => ?_) (.inr hy))))
  refine assignInOrder_cons (wpAny_bindName (store_ok I4 hN hi (.inl hx) rv (fun s3 I5 => assignInOrder_nil (wpAny_pure ?_)) (.inr hx)))
  rw [List.set_comm _ _ (Ne.symm hij)] at I5
  exact ⟨_,H1,I5,q1⟩
def tAug (i : Nat) (te : TE) (ti : TIp) : TS := fun D σ H => ∃ x,σ[i]? = some (some x) ∧ te σ H fun y H1 => ti x y H1 fun z H2 => D.nx (σ.set i (some z)) H2
theorem ps_aug {i : Nat} {x : Str} {e : Expr} {te : TE} {op : Operator} {ti : TIp} {pos' : Pos} (hN : X.N.Nodup) (hi : X.N[i]? = some x) (hx : Loc X.env.scope x) (he : PE X e te) (ho : PIp X op ti) (hf : X.fn x = true ∨ X.env.scope.names.lookup x = some .local := by first | exact .inl rfl | exact .inr rfl | assumption) :
    PS X (.AugAssign (.Name x pos') op e pos) (tAug i te ti) := by
  intro pins s σ H D I h
  obtain ⟨v,e1,h⟩ := h
  obtain ⟨m,hn,hl⟩ := I.loc
  have vis : Vis X.env.scope x := by rcases hx with k | k; exact .inl k; exact .inr (.inl k)
  obtain ⟨u,r,l⟩ := hl i x v hi e1 vis
  refine wpAny_AugAssign_Name ?_
  have go : wpAny (model X.prog X.w) X.A (eval e X.env) (fun w s₂ => wpAny (model X.prog X.w) X.A (inplaceOp op u w) (fun r s₃ => wpAny (model X.prog X.w) X.A (storeName X.env x r) (fun _ => SP X pins D .next) X.xe s₃) X.xe s₂) X.xe s := by
    refine thn (he pins s σ H _ I h) fun w s1 ⟨y,H1,I1,r1,q1⟩ => ?_
    refine thn (ho pins s1 σ H1 v y u w _ I1 r r1 q1) fun z s2 ⟨zv,H2,I2,r2,q2⟩ => ?_
    exact store_ok I2 hN hi hx r2 (fun s3 I3 => ⟨_,H2,I3,q2⟩) hf
  rcases l with ⟨hk,hm⟩ | ⟨hk,c,hc,hcell⟩
  · exact wpAny_loadName_local I.ok.kind hk hn hm go
  · rcases hk with hk | hk
    · exact wpAny_loadName_cell I.ok.kind hk hc hcell go
    · rcases hx with k | k
      · have : X.env.scope.names.lookup x = some .free := hk
        rw [k] at this; cases this
      · have : X.env.scope.names.lookup x = some .free := hk
        rw [k] at this; cases this
def ipI (f : Int → Int → Int) : TIp := fun x y H Q => ∃ i j,x = .int i ∧ y = .int j ∧ Q (.int (f i j)) H
theorem ip_add : PIp X .Add (ipI fun i j => i + j) := by
  intro pins s σ H x y v u Q I r1 r2 h
  obtain ⟨i,j,e1,e2,q⟩ := h
  subst e1; subst e2
  obtain ⟨t,rfl⟩ := r1
  obtain ⟨t',rfl⟩ := r2
  exact iadd_int ⟨.int _,H,I.tok _,⟨_,rfl⟩,q⟩
end
section
variable {X : Cx} {pos : Pos}
def tWhile (c : TT) (tb : TS) : TS := fun D σ H => ∃ W : Nat → St → Hp → Prop,(∃ m,W m σ H) ∧ ∀ m σ H,W m σ H →
  c σ H fun b H1 => if b = true then ∃ N : St → Hp → Prop,(∀ σ' H',N σ' H' → ∃ m',m' < m ∧ W m' σ' H') ∧ tb { D with nx := N,ct := N,bk := D.nx } σ H1 else D.nx σ H1
theorem ps_while {c : Expr} {body : List Stmt} {tc : TT} {tb : TS} (hp : PassesOwn (model X.prog X.w) X.A X.env X.xe) (hc : PT X c tc) (hb : PSs X body tb) : PS X (.While c body [] pos) (tWhile tc tb) := by
  intro pins s σ H D I h
  obtain ⟨W,⟨m0,w0⟩,turn⟩ := h
  refine wpAny_While (codeAny_whileLoop (fun n s' => ∃ σ' H',Inv X pins σ' H' s' ∧ W n σ' H') ?_ m0 ⟨σ,H,I,w0⟩)
  rintro n s1 ⟨σ1,H1,I1,w1⟩
  refine wpAny_passesOwn hp (thn (hc pins s1 σ1 H1 _ I1 (turn n σ1 H1 w1)) fun b s2 ⟨H2,I2,q2⟩ => ?_)
  cases b with
  | true =>
    obtain ⟨N,hN,q2⟩ := q2
    rw [if_pos rfl]
    refine wpAny_passesOwn hp (thn (hb pins s2 σ1 H2 _ I2 q2) fun f s3 q3 => ?_)
    cases f with
    | next =>
      obtain ⟨σ3,H3,I3,n3⟩ := q3
      obtain ⟨m',hm,w3⟩ := hN σ3 H3 n3
      exact ⟨m',hm,σ3,H3,I3,w3⟩
    | cont =>
      obtain ⟨σ3,H3,I3,n3⟩ := q3
      obtain ⟨m',hm,w3⟩ := hN σ3 H3 n3
      exact ⟨m',hm,σ3,H3,I3,w3⟩
    | brk => exact q3
    | ret v => exact q3
  | false =>
    rw [if_neg Bool.false_ne_true]
    exact wpAny_execs_nil ⟨σ1,H2,I2,q2⟩
end
structure It where
  go : Nat → Hp → Prop
  yld : Nat → Hp → V → Hp → Prop
  stop : Nat → Hp → Prop
def FpOk (X : Cx) (pins : List (Addr × Obj)) (H : Hp) (b : Addr) : Prop :=
  H b = none ∧ b ≠ X.env.locals ∧ b ∉ X.fs ∧ (b ∈ X.ex ∨ X.s₀.heap.objs.size ≤ b) ∧ (∀ x c,X.env.cells.lookup x = some c → c ≠ b) ∧ ∀ p ∈ X.pn ++ pins,p.1 ≠ b
theorem Inv.fpOk {X : Cx} {pins : List (Addr × Obj)} {σ : St} {H H' : Hp} {s : Shared} {b : Addr} (I : Inv X pins σ H s) (hb : s.heap.objs.size ≤ b) (hn : H' b = none) : FpOk X pins H' b := by
  refine ⟨hn,Nat.ne_of_gt (Nat.lt_of_lt_of_le I.lt hb),I.nofs hb,.inr (Nat.le_trans I.sz hb),fun x c e z => ?_,fun p hp z => ?_⟩
  · obtain ⟨v,q⟩ := I.cell x c e
    exact absurd (Nat.lt_of_lt_of_le q.lt (by rw [z]; exact hb)) (Nat.lt_irrefl _)
  · exact absurd (Nat.lt_of_lt_of_le (Heap.lt_size (I.pin p hp).1) (by rw [z]; exact hb)) (Nat.lt_irrefl _)
structure Turn (P : Program) (w : World) (K : PySem.W.Frag) (tg : Expr) (J : It) (fp : List Addr) (it : Addr) (tn : Nat → Heap → Prop) : Prop where
  mem : it ∈ fp
  obj : ∀ i h,tn i h → ∀ b ∈ fp,∃ o,h.get? b = some o ∧ ∀ v,o.data ≠ .cell v
  keep : ∀ i h h',tn i h → (∀ b ∈ fp,∀ o,h.get? b = some o → h'.get? b = some o) → tn i h'
  item : ∀ (X : Cx),X.prog = P → X.w = w → X.K = K → X.calm = true → ∀ (i : Nat) (pins : List (Addr × Obj)) (s : Shared) (σ : St) (H : Hp) (E : Value → Shared → Prop),Inv X pins σ H s → (∀ b ∈ fp,FpOk X pins H b) → tn i s.heap → J.go i H →
    wpAny (model P w) X.A (pyNext (.ref it)) (fun r s1 => ∃ u,r = some u ∧
      wpAny (model P w) X.A (letOwnedTupleGo tg (.ref it) u) (fun _ s2 => ∃ x H',Inv X pins σ H' s2 ∧ RelV x u ∧ J.yld i H x H' ∧ tn (i + 1) s2.heap ∧ ∀ b ∈ fp,H' b = none) E s1) E s
  done : ∀ (X : Cx),X.prog = P → X.w = w → X.K = K → X.calm = true → ∀ (i : Nat) (pins : List (Addr × Obj)) (s : Shared) (σ : St) (H : Hp) (E : Value → Shared → Prop),Inv X pins σ H s → (∀ b ∈ fp,FpOk X pins H b) → tn i s.heap → J.stop i H →
    wpAny (model P w) X.A (pyNext (.ref it)) (fun r s1 => r = none ∧ Inv X pins σ H s1) E s
  self : ∀ (A : Around) (i : Nat) (s : Shared) (Q : Value → Shared → Prop) (E : Value → Shared → Prop),tn i s.heap → Q (.ref it) s → wpAny (model P w) A (pyIter (.ref it)) Q E s
abbrev TI := St → Hp → (It → Hp → Prop) → Prop
def PIE (X : Cx) (pins : List (Addr × Obj)) (σ : St) (tg : Expr) (R : It → Hp → Prop) (itv : Value) (s2 : Shared) : Prop :=
  ∃ (it : Addr) (fp : List Addr) (tn : Nat → Heap → Prop) (J : It) (H' : Hp),itv = .ref it ∧ Inv X pins σ H' s2 ∧ Turn X.prog X.w X.K tg J fp it tn ∧ tn 0 s2.heap ∧ (∀ b ∈ fp,FpOk X pins H' b) ∧ R J H'
def PI (X : Cx) (tg iter : Expr) (wi : TI) : Prop :=
  ∀ (pins : List (Addr × Obj)) (s : Shared) (σ : St) (H : Hp) (R : It → Hp → Prop),Inv X pins σ H s → wi σ H R →
    wpAny (model X.prog X.w) X.A (eval iter X.env) (fun v s1 => wpAny (model X.prog X.w) X.A (pyIter v) (PIE X pins σ tg R) X.xe s1) X.xe s
theorem go_of {M : Model} {A : Around} {E : Value → Shared → Prop} {s : Shared} {tg : Expr} {it : Addr} {u : Value} {o : Obj} {n : String} {vs : Array Value} {Q : Unit → Shared → Prop} (ho : s.heap.get? it = some o) (hc : o.cls = .type n) (hd : o.data = .fields vs)
    (hn : ["enumerate","zip","dict_itemiterator","dict_reverseitemiterator","odict_iterator","itertools.zip_longest","itertools.pairwise"].contains n = false) (hQ : Q () s) : wpAny M A (letOwnedTupleGo tg (.ref it) u) Q E s := by
  unfold letOwnedTupleGo
  cases tg <;> first
    | exact wpAny_pure hQ
    | (cases u <;> first
        | exact wpAny_pure hQ
        | (refine wpAny_bind (wpAny_load ho ?_)
           rw [hc,hd]
           show wpAny M A (if (["enumerate","zip","dict_itemiterator","dict_reverseitemiterator","odict_iterator","itertools.zip_longest","itertools.pairwise"].contains n && vs[0]? == some (rawInt _)) = true then _ else _) Q E s
           rw [if_neg (by intro h; rw [hn,Bool.false_and] at h; cases h)]
           exact wpAny_pure hQ))
def Itl (K : PySem.W.Frag) (a : Addr) : It :=
  ⟨fun i H => ∃ xs x,SqL K H a xs ∧ xs[i]? = some x,fun i H x H' => H' = H ∧ ∀ xs,SqL K H a xs → xs[i]? = some x,fun i H => ∃ xs,SqL K H a xs ∧ xs.length ≤ i⟩
def Itt (K : PySem.W.Frag) (a : Addr) : It :=
  ⟨fun i H => ∃ xs x,SqT K H a xs ∧ xs[i]? = some x,fun i H x H' => H' = H ∧ ∀ xs,SqT K H a xs → xs[i]? = some x,fun i H => ∃ xs,SqT K H a xs ∧ xs.length ≤ i⟩
def Itr (lo : Int) (n : Nat) : It := ⟨fun i _ => i < n,fun i H x H' => H' = H ∧ x = .int (lo + i),fun i _ => n ≤ i⟩
theorem turn_list {P : Program} {w : World} {K : PySem.W.Frag} {tg : Expr} (a it : Addr) : Turn P w K tg (Itl K a) [it] it (fun i h => h.IsListIter it a i) where
  mem := by simp
  obj := fun i h st b hb => by
    have e : b = it := by simpa using hb
    subst e
    obtain ⟨o,e,c,d⟩ := st
    exact ⟨o,e,fun v z => by rw [d] at z; cases z⟩
  keep := fun i h h' st k => st.at fun o e => k it (by simp) o e
  item := by
    intro X hP hw hK hc i pins s σ H E I hf st hg
    subst hP hw hK
    obtain ⟨xs,x,hq,hx⟩ := hg
    obtain ⟨its,rv,p,hz⟩ := I.list hq
    obtain ⟨u,hu,ru⟩ := rv.get hx
    obtain ⟨f0,f1,f2,f3,f4,f5⟩ := hf it (by simp)
    refine wpAny_pyNext_list_item st p.isList (x := u) (by simpa using hu) fun h' st' sb => ?_
    have I1 : Inv X pins σ H { s with heap := h' } := I.turned (t' := s.toks) (fun b o hb e => (sb.2 b hb).trans e) f0 f1 f3 f4 f5
    obtain ⟨o,e,c,d⟩ := id st'
    exact ⟨u,rfl,go_of (s := { s with heap := h' }) e c d (by decide) ⟨x,H,I1,ru,⟨rfl,fun ys hy => by rw [I.list_inj hy hq]; exact hx⟩,st',fun b hb => (hf b hb).1⟩⟩
  done := by
    intro X hP hw hK hc i pins s σ H E I hf st hg
    subst hP hw hK
    obtain ⟨xs,hq,hx⟩ := hg
    obtain ⟨its,rv,p,hz⟩ := I.list hq
    obtain ⟨f0,f1,f2,f3,f4,f5⟩ := hf it (by simp)
    have hl := rv.length
    exact wpAny_pyNext_list_end (I.ok.hd hc) st p.isList (by simp; omega) fun h' eb => ⟨rfl,I.turned (t' := s.toks) (fun b o hb e => eb b o hb e) f0 f1 f3 f4 f5⟩
  self := fun _ _ _ _ _ st h => wpAny_pyIter_listiter st h
theorem turn_tuple {P : Program} {w : World} {K : PySem.W.Frag} {tg : Expr} (a it : Addr) : Turn P w K tg (Itt K a) [it] it (fun i h => h.IsTupleIter it a i) where
  mem := by simp
  obj := fun i h st b hb => by
    have e : b = it := by simpa using hb
    subst e
    obtain ⟨o,e,c,d⟩ := st
    exact ⟨o,e,fun v z => by rw [d] at z; cases z⟩
  keep := fun i h h' st k => st.at fun o e => k it (by simp) o e
  item := by
    intro X hP hw hK hc i pins s σ H E I hf st hg
    subst hP hw hK
    obtain ⟨xs,x,hq,hx⟩ := hg
    obtain ⟨its,rv,p,hz⟩ := I.tuple hq
    obtain ⟨u,hu,ru⟩ := rv.get hx
    obtain ⟨f0,f1,f2,f3,f4,f5⟩ := hf it (by simp)
    refine wpAny_pyNext_tuple_item st (show s.heap.IsTuple a its.toArray from p) (x := u) (by simpa using hu) fun h' st' sb => ?_
    have I1 : Inv X pins σ H { s with heap := h' } := I.turned (t' := s.toks) (fun b o hb e => (sb.2 b hb).trans e) f0 f1 f3 f4 f5
    obtain ⟨o,e,c,d⟩ := id st'
    exact ⟨u,rfl,go_of (s := { s with heap := h' }) e c d (by decide) ⟨x,H,I1,ru,⟨rfl,fun ys hy => by rw [I.tuple_inj hy hq]; exact hx⟩,st',fun b hb => (hf b hb).1⟩⟩
  done := by
    intro X hP hw hK hc i pins s σ H E I hf st hg
    subst hP hw hK
    obtain ⟨xs,hq,hx⟩ := hg
    obtain ⟨its,rv,p,hz⟩ := I.tuple hq
    obtain ⟨f0,f1,f2,f3,f4,f5⟩ := hf it (by simp)
    have hl := rv.length
    exact wpAny_pyNext_tuple_end (I.ok.hd hc) st (show s.heap.IsTuple a its.toArray from p) (by simp; omega) fun h' eb => ⟨rfl,I.turned (t' := s.toks) (fun b o hb e => eb b o hb e) f0 f1 f3 f4 f5⟩
  self := fun _ _ _ _ _ st h => wpAny_pyIter_tupleiter st h
theorem turn_range {P : Program} {w : World} {K : PySem.W.Frag} {tg : Expr} (it : Addr) (lo : Int) (n : Nat) : Turn P w K tg (Itr lo n) [it] it (fun i h => IsRangeIter h it (lo + (i : Nat) * 1) ((n : Int) - (i : Nat)) 1) where
  mem := by simp
  obj := fun i h st b hb => by
    have e : b = it := by simpa using hb
    subst e
    exact ⟨_,st,fun v z => by
      have z' : Data.fields _ = Data.cell v := z
      cases z'⟩
  keep := fun i h h' st k => k it (by simp) _ st
  item := by
    intro X hP hw hK hc i pins s σ H E I hf st hg
    subst hP hw hK
    obtain ⟨f0,f1,f2,f3,f4,f5⟩ := hf it (by simp)
    have W := Walks.range (prog := X.prog) (w := X.w) (I.ok.hd hc) it lo 1 n
    refine W.item i s _ _ hg st fun v h' tk hv st' kk => ?_
    obtain ⟨t,rfl⟩ := hv
    have I1 : Inv X pins σ H { s with heap := h',toks := tk } := I.turned (fun b o hb e => kk b o (by simpa using hb) e) f0 f1 f3 f4 f5
    refine ⟨_, rfl, go_of (s := { s with heap := h', toks := tk }) (n := "range_iterator") st' rfl rfl (by decide) ⟨.int (lo + i), H, I1, ⟨t, ?_⟩, ⟨rfl, rfl⟩, st', fun b hb => (hf b hb).1⟩⟩
    rw [Int.mul_one]
  done := by
    intro X hP hw hK hc i pins s σ H E I hf st hg
    subst hP hw hK
    obtain ⟨f0,f1,f2,f3,f4,f5⟩ := hf it (by simp)
    exact wpAny_pyNext_range_end (I.ok.hd hc) st (by have : n ≤ i := hg; omega) fun h' eb => ⟨rfl,I.turned (t' := s.toks) (fun b o hb e => eb b o hb e) f0 f1 f3 f4 f5⟩
  self := fun _ _ _ _ _ st h => wpAny_pyIter_rangeiter st h
end L2
namespace L2
open PySem PySem.Spec PyProof.Rows
section
variable {X : Cx} {tg : Expr}
def iList (K : PySem.W.Frag) (tl : TE) : TI := fun σ H R => tl σ H fun x H1 => ∃ a,x = .ref a ∧ (∃ xs,SqL K H1 a xs) ∧ R (Itl K a) H1
def iTup (K : PySem.W.Frag) (tl : TE) : TI := fun σ H R => tl σ H fun x H1 => ∃ a,x = .ref a ∧ (∃ xs,SqT K H1 a xs) ∧ R (Itt K a) H1
theorem pi_list {l : Expr} {tl : TE} (hl : PE X l tl) : PI X tg l (iList X.K tl) := by
  intro pins s σ H R I h
  refine thn (hl pins s σ H _ I h) fun v s1 ⟨x,H1,I1,r1,q1⟩ => ?_
  obtain ⟨a,e,⟨xs,hq⟩,q⟩ := q1
  subst e
  cases r1
  obtain ⟨its,rv,p,hz⟩ := I1.list hq
  refine wpAny_pyIter_list p.isList ?_
  refine ⟨s1.heap.objs.size,[s1.heap.objs.size],_,_,H1,rfl,I1.kept (t' := s1.toks) fun b o e => Heap.get?_push_of_some _ e,turn_list a _,⟨_,Heap.get?_push_size _ rfl,rfl,rfl⟩,fun b hb => ?_,q⟩
  have e : b = s1.heap.objs.size := by simpa using hb
  subst e
  exact I1.fpOk (Nat.le_refl _) (I1.hok.fresh (Nat.le_refl _))
theorem pi_tup {l : Expr} {tl : TE} (hl : PE X l tl) : PI X tg l (iTup X.K tl) := by
  intro pins s σ H R I h
  refine thn (hl pins s σ H _ I h) fun v s1 ⟨x,H1,I1,r1,q1⟩ => ?_
  obtain ⟨a,e,⟨xs,hq⟩,q⟩ := q1
  subst e
  cases r1
  obtain ⟨its,rv,p,hz⟩ := I1.tuple hq
  refine wpAny_pyIter_tuple (show s1.heap.IsTuple a its.toArray from p) ?_
  refine ⟨s1.heap.objs.size,[s1.heap.objs.size],_,_,H1,rfl,I1.kept (t' := s1.toks) fun b o e => Heap.get?_push_of_some _ e,turn_tuple a _,⟨_,Heap.get?_push_size _ rfl,rfl,rfl⟩,fun b hb => ?_,q⟩
  have e : b = s1.heap.objs.size := by simpa using hb
  subst e
  exact I1.fpOk (Nat.le_refl _) (I1.hok.fresh (Nat.le_refl _))
theorem range_it {pins : List (Addr × Obj)} {σ : St} {H : Hp} {s : Shared} {R : It → Hp → Prop} {E : Value → Shared → Prop} {lo hi : Int} {t u v : Tok} {tk : Nat} (I : Inv X pins σ H s) (h1 : -(2 ^ 62) ≤ lo) (h2 : lo < 2 ^ 62) (h3 : -(2 ^ 62) ≤ hi) (h4 : hi < 2 ^ 62)
    (q : R (Itr lo (hi - lo).toNat) H) : wpAny (model X.prog X.w) X.A (pyIter (.ref s.heap.objs.size)) (PIE X pins σ tg R) E { s with heap := s.heap.push { cls := .type "range",data := .fields #[.int lo t,.int hi u,.int 1 v] },toks := tk } := by
  refine wpAny_pyIter_range (IsRange.new ..) (small_one h1 h2 h3 h4) ?_
  have I1 : Inv X pins σ H { s with heap := s.heap.push { cls := .type "range",data := .fields #[.int lo t,.int hi u,.int 1 v] },toks := tk } := I.kept fun b o e => Heap.get?_push_of_some _ e
  refine ⟨(s.heap.push { cls := .type "range",data := .fields #[.int lo t,.int hi u,.int 1 v] }).objs.size,[(s.heap.push { cls := .type "range",data := .fields #[.int lo t,.int hi u,.int 1 v] }).objs.size],_,_,H,rfl,
    I1.kept (t' := tk) fun b o e => Heap.get?_push_of_some _ e,turn_range _ lo (hi - lo).toNat,?_,fun b hb => ?_,q⟩
  · have e1 : lo + ((0 : Nat) : Int) * 1 = lo := by simp
    have e2 : (((hi - lo).toNat : Nat) : Int) - ((0 : Nat) : Int) = Builtin.Range.rangeSize lo hi 1 := by rw [rangeSize_one]; split <;> omega
    show IsRangeIter _ _ (lo + ((0 : Nat) : Int) * 1) ((((hi - lo).toNat : Nat) : Int) - ((0 : Nat) : Int)) 1
    rw [e1,e2]
    exact Heap.get?_push_size _ rfl
  · have e : b = (s.heap.push { cls := .type "range",data := .fields #[.int lo t,.int hi u,.int 1 v] }).objs.size := by simpa using hb
    subst e
    exact I1.fpOk (Nat.le_refl _) (I1.hok.fresh (Nat.le_refl _))
def iRng1 (ta : TA) : TI := fun σ H R => ta σ H fun vs H1 => ∃ j : Int,vs = [.int j] ∧ -(2 ^ 62) ≤ j ∧ j < 2 ^ 62 ∧ R (Itr 0 j.toNat) H1
def iRng2 (ta : TA) : TI := fun σ H R => ta σ H fun vs H1 => ∃ i j : Int,vs = [.int i,.int j] ∧ (-(2 ^ 62) ≤ i ∧ i < 2 ^ 62 ∧ -(2 ^ 62) ≤ j ∧ j < 2 ^ 62) ∧ R (Itr i (j - i).toNat) H1
theorem pi_range1 {a : Expr} {ta : TA} {p pos : Pos} (hg : Gl X "range") (hm : X.mg "range" = none) (ha : PA X [a] ta) (hs : starEach [a] X.env = [(false,eval a X.env)] := by rfl) : PI X tg (.Call (.Name "range" p) [a] [] pos) (iRng1 ta) := by
  intro pins s σ H R I h
  refine Call_ (ld_blt I hg hm boot_range (PyProof.Rows.callWith_type1 (thn (ha pos pins s σ H _ I h) fun us s1 ⟨vs,H1,I1,r1,q1⟩ => ?_) hs rfl))
  obtain ⟨j,e,q1,q2,q⟩ := q1
  subst e
  cases r1 with
  | cons r rr =>
    cases rr
    obtain ⟨t,rfl⟩ := r
    exact call_range_1 (range_it I1 (by omega) (by omega) q1 q2 (by simpa using q))
theorem pi_range2 {a b : Expr} {ta : TA} {p pos : Pos} (hg : Gl X "range") (hm : X.mg "range" = none) (ha : PA X [a,b] ta) (hs : starEach [a,b] X.env = [(false,eval a X.env),(false,eval b X.env)] := by rfl) (hs2 : starEach [b] X.env = [(false,eval b X.env)] := by rfl) :
    PI X tg (.Call (.Name "range" p) [a,b] [] pos) (iRng2 ta) := by
  intro pins s σ H R I h
  refine Call_ (ld_blt I hg hm boot_range (PyProof.Rows.callWith_type1 (thn (ha pos pins s σ H _ I h) fun us s1 ⟨vs,H1,I1,r1,q1⟩ => ?_) (by rw [hs,hs2]) (by rw [hs2]; rfl)))
  obtain ⟨i,j,e,⟨q1,q2,q3,q4⟩,q⟩ := q1
  subst e
  cases r1 with
  | cons r rr =>
    cases rr with
    | cons r' rr =>
      cases rr
      obtain ⟨t,rfl⟩ := r
      obtain ⟨t',rfl⟩ := r'
      exact call_range_2 (range_it I1 q1 q2 q3 q4 q)
def tFor (wi : TI) (g : TG) (tb : TS) : TS := fun D σ H => wi σ H fun J H1 => ∃ W : Nat → Nat → St → Hp → Prop,(∃ m,W 0 m σ H1) ∧ ∀ i m σ H,W i m σ H →
  (J.stop i H ∧ D.nx σ H) ∨ (J.go i H ∧ ∃ N : St → Hp → Prop,(∀ σ' H',N σ' H' → ∃ m',m' < m ∧ W (i + 1) m' σ' H') ∧ ∀ x H',J.yld i H x H' → g x σ H' fun σ2 H2 => tb { D with nx := N,ct := N,bk := D.nx } σ2 H2)
def pinsAt (fp : List Addr) (h : Heap) : List (Addr × Obj) := fp.filterMap fun b => (h.get? b).map fun o => (b,o)
theorem mem_pinsAt {fp : List Addr} {h : Heap} {b : Addr} {o : Obj} (hb : b ∈ fp) (e : h.get? b = some o) : (b,o) ∈ pinsAt fp h := List.mem_filterMap.mpr ⟨b,hb,by rw [e]; rfl⟩
theorem of_pinsAt {fp : List Addr} {h : Heap} {p : Addr × Obj} (hp : p ∈ pinsAt fp h) : p.1 ∈ fp ∧ h.get? p.1 = some p.2 := by
  obtain ⟨b,hb,e⟩ := List.mem_filterMap.mp hp
  cases q : h.get? b with
  | none => rw [q] at e; cases e
  | some o =>
    rw [q] at e
    have e' : (b,o) = p := Option.some.inj e
    subst e'
    exact ⟨hb,q⟩
theorem Inv.pinned {pins : List (Addr × Obj)} {σ : St} {H : Hp} {s : Shared} {fp : List Addr} (I : Inv X pins σ H s) (hf : ∀ b ∈ fp,FpOk X pins H b) (ho : ∀ b ∈ fp,∃ o,s.heap.get? b = some o ∧ ∀ v,o.data ≠ .cell v) : Inv X (pins ++ pinsAt fp s.heap) σ H s :=
  I.pins_of fun p hp => (List.mem_append.mp hp).elim (fun z => I.pin p (List.mem_append_right _ z)) fun z => by
    obtain ⟨hb,e⟩ := of_pinsAt z
    obtain ⟨f0,f1,f2,_⟩ := hf p.1 hb
    obtain ⟨o,e',d⟩ := ho p.1 hb
    rw [e] at e'; cases e'
    exact ⟨e,f0,f1,f2,d⟩
theorem Inv.unpinned {pins pl : List (Addr × Obj)} {σ : St} {H : Hp} {s : Shared} (I : Inv X (pins ++ pl) σ H s) : Inv X pins σ H s := I.pins_of fun p hp => I.pin p (List.mem_append_right _ (List.mem_append_left _ hp))
theorem ps_for {iter : Expr} {body : List Stmt} {wi : TI} {g : TG} {tb : TS} {pos : Pos} (hp : PassesOwn (model X.prog X.w) X.A X.env X.xe) (hc : X.calm = true) (hi : PI X tg iter wi) (hg : PG X tg g) (hb : PSs X body tb)
    (hs : ∀ x,foldedSetIterable iter X.env x = pure x := by intro _; rfl) : PS X (.For tg iter body [] pos) (tFor wi g tb) := by
  intro pins s σ H D I h
  refine wpAny_For (thn (hi pins s σ H _ I h) fun v s1 h1 => thn h1 fun itv s2 h2 => ?_) hs
  obtain ⟨it,fp,tn,J,H2,e,I2,T,st2,f2,W,⟨m0,w0⟩,turn⟩ := h2
  subst e
  have stat : ∀ {H' : Hp},(∀ b ∈ fp,H' b = none) → ∀ b ∈ fp,FpOk X pins H' b := fun hn b hb => ⟨hn b hb,(f2 b hb).2⟩
  refine codeAny_forLoop_any (fun n s' => ∃ i σ' H',Inv X pins σ' H' s' ∧ tn i s'.heap ∧ (∀ b ∈ fp,H' b = none) ∧ W i n σ' H') ?_ m0 ⟨0,σ,H2,I2,st2,fun b hb => (f2 b hb).1,w0⟩
  rintro n s3 ⟨i,σ3,H3,I3,st3,fr3,w3⟩
  rcases turn i n σ3 H3 w3 with ⟨stop,qn⟩ | ⟨go,N,hN,step⟩
  · refine wpAny_passesOwn hp (thn (T.done X rfl rfl rfl hc i pins s3 σ3 H3 X.xe I3 (stat fr3) st3 stop) fun r s4 ⟨hr,I4⟩ => ?_)
    subst hr
    exact wpAny_execs_nil ⟨σ3,H3,I4,qn⟩
  · refine wpAny_passesOwn hp (thn (T.item X rfl rfl rfl hc i pins s3 σ3 H3 X.xe I3 (stat fr3) st3 go) fun r s4 ⟨u,hr,h4⟩ => ?_)
    subst hr
    refine wpAny_passesOwn hp (thn h4 fun _ s5 ⟨x,H5,I5,r5,y5,st5,fr5⟩ => ?_)
    have I5' := I5.pinned (stat fr5) (T.obj _ _ st5)
    refine wpAny_passesOwn hp (thn (hg _ s5 σ3 H5 x u _ I5' r5 (step x H5 y5)) fun _ s6 ⟨σ6,H6,I6,q6⟩ => ?_)
    refine wpAny_passesOwn hp (thn (hb _ s6 σ6 H6 _ I6 q6) fun f s7 q7 => ?_)
    have again : ∀ {σ7 : St} {H7 : Hp},Inv X (pins ++ pinsAt fp s5.heap) σ7 H7 s7 → N σ7 H7 → ∃ m,m < n ∧ ∃ i σ' H',Inv X pins σ' H' s7 ∧ tn i s7.heap ∧ (∀ b ∈ fp,H' b = none) ∧ W i m σ' H' := fun {σ7 H7} I7 n7 => by
      obtain ⟨m',hm,w7⟩ := hN σ7 H7 n7
      refine ⟨m',hm,i + 1,σ7,H7,I7.unpinned,T.keep _ _ _ st5 fun b hb o e => (I7.pin (b,o) (List.mem_append_right _ (List.mem_append_right _ (mem_pinsAt hb e)))).1,fun b hb => ?_,w7⟩
      obtain ⟨o,e,d⟩ := T.obj _ _ st5 b hb
      exact (I7.pin (b,o) (List.mem_append_right _ (List.mem_append_right _ (mem_pinsAt hb e)))).2.1
    cases f with
    | next => obtain ⟨σ7,H7,I7,n7⟩ := q7; exact again I7 n7
    | cont => obtain ⟨σ7,H7,I7,n7⟩ := q7; exact again I7 n7
    | brk => obtain ⟨σ7,H7,I7,q7⟩ := q7; exact ⟨σ7,H7,I7.unpinned,q7⟩
    | ret v => obtain ⟨x7,σ7,H7,I7,r7,q7⟩ := q7; exact ⟨x7,σ7,H7,I7.unpinned,r7,q7⟩
end
theorem for_list {K : PySem.W.Frag} {a : Addr} {xs : List V} {g : TG} {tb : TS} {D : Ends} {σ : St} {H : Hp} (Pv : Nat → St → Hp → Prop) (h0 : Pv 0 σ H) (hl : ∀ i σ H,i ≤ xs.length → Pv i σ H → SqL K H a xs)
    (hs : ∀ i x σ H,xs[i]? = some x → Pv i σ H → g x σ H fun σ2 H2 => tb { D with nx := Pv (i + 1),ct := Pv (i + 1),bk := D.nx } σ2 H2) (hd : ∀ σ H,Pv xs.length σ H → D.nx σ H) :
    ∃ W : Nat → Nat → St → Hp → Prop,(∃ m,W 0 m σ H) ∧ ∀ i m σ H,W i m σ H →
      ((Itl K a).stop i H ∧ D.nx σ H) ∨ ((Itl K a).go i H ∧ ∃ N : St → Hp → Prop,(∀ σ' H',N σ' H' → ∃ m',m' < m ∧ W (i + 1) m' σ' H') ∧ ∀ x H',(Itl K a).yld i H x H' → g x σ H' fun σ2 H2 => tb { D with nx := N,ct := N,bk := D.nx } σ2 H2) := by
  refine ⟨fun i m σ H => m = xs.length - i ∧ i ≤ xs.length ∧ Pv i σ H,⟨xs.length,by simp,Nat.zero_le _,h0⟩,?_⟩
  rintro i m σ H ⟨rfl,hi,p⟩
  have q := hl i σ H hi p
  by_cases hlt : i < xs.length
  · refine .inr ⟨⟨xs,xs[i],q,by simp [hlt]⟩,Pv (i + 1),fun σ' H' p' => ⟨xs.length - (i + 1),by omega,rfl,hlt,p'⟩,fun x H' y => ?_⟩
    obtain ⟨e,y⟩ := y
    subst e
    exact hs i x σ _ (y xs q) p
  · have e : i = xs.length := by omega
    subst e
    exact .inl ⟨⟨xs,q,Nat.le_refl _⟩,hd σ H p⟩
theorem for_tup {K : PySem.W.Frag} {a : Addr} {xs : List V} {g : TG} {tb : TS} {D : Ends} {σ : St} {H : Hp} (Pv : Nat → St → Hp → Prop) (h0 : Pv 0 σ H) (hl : ∀ i σ H,i ≤ xs.length → Pv i σ H → SqT K H a xs)
    (hs : ∀ i x σ H,xs[i]? = some x → Pv i σ H → g x σ H fun σ2 H2 => tb { D with nx := Pv (i + 1),ct := Pv (i + 1),bk := D.nx } σ2 H2) (hd : ∀ σ H,Pv xs.length σ H → D.nx σ H) :
    ∃ W : Nat → Nat → St → Hp → Prop,(∃ m,W 0 m σ H) ∧ ∀ i m σ H,W i m σ H →
      ((Itt K a).stop i H ∧ D.nx σ H) ∨ ((Itt K a).go i H ∧ ∃ N : St → Hp → Prop,(∀ σ' H',N σ' H' → ∃ m',m' < m ∧ W (i + 1) m' σ' H') ∧ ∀ x H',(Itt K a).yld i H x H' → g x σ H' fun σ2 H2 => tb { D with nx := N,ct := N,bk := D.nx } σ2 H2) := by
  refine ⟨fun i m σ H => m = xs.length - i ∧ i ≤ xs.length ∧ Pv i σ H,⟨xs.length,by simp,Nat.zero_le _,h0⟩,?_⟩
  rintro i m σ H ⟨rfl,hi,p⟩
  have q := hl i σ H hi p
  by_cases hlt : i < xs.length
  · refine .inr ⟨⟨xs,xs[i],q,by simp [hlt]⟩,Pv (i + 1),fun σ' H' p' => ⟨xs.length - (i + 1),by omega,rfl,hlt,p'⟩,fun x H' y => ?_⟩
    obtain ⟨e,y⟩ := y
    subst e
    exact hs i x σ _ (y xs q) p
  · have e : i = xs.length := by omega
    subst e
    exact .inl ⟨⟨xs,q,Nat.le_refl _⟩,hd σ H p⟩
theorem for_range {lo : Int} {n : Nat} {g : TG} {tb : TS} {D : Ends} {σ : St} {H : Hp} (Pv : Nat → St → Hp → Prop) (h0 : Pv 0 σ H)
    (hs : ∀ i σ H,i < n → Pv i σ H → g (.int (lo + i)) σ H fun σ2 H2 => tb { D with nx := Pv (i + 1),ct := Pv (i + 1),bk := D.nx } σ2 H2) (hd : ∀ σ H,Pv n σ H → D.nx σ H) :
    ∃ W : Nat → Nat → St → Hp → Prop,(∃ m,W 0 m σ H) ∧ ∀ i m σ H,W i m σ H →
      ((Itr lo n).stop i H ∧ D.nx σ H) ∨ ((Itr lo n).go i H ∧ ∃ N : St → Hp → Prop,(∀ σ' H',N σ' H' → ∃ m',m' < m ∧ W (i + 1) m' σ' H') ∧ ∀ x H',(Itr lo n).yld i H x H' → g x σ H' fun σ2 H2 => tb { D with nx := N,ct := N,bk := D.nx } σ2 H2) := by
  refine ⟨fun i m σ H => m = n - i ∧ i ≤ n ∧ Pv i σ H,⟨n,by simp,Nat.zero_le _,h0⟩,?_⟩
  rintro i m σ H ⟨rfl,hi,p⟩
  by_cases hlt : i < n
  · refine .inr ⟨hlt,Pv (i + 1),fun σ' H' p' => ⟨n - (i + 1),by omega,rfl,hlt,p'⟩,fun x H' y => ?_⟩
    obtain ⟨e,y⟩ := y
    subst e y
    exact hs i σ _ hlt p
  · have e : i = n := by omega
    subst e
    exact .inl ⟨Nat.le_refl _,hd σ H p⟩
end L2
namespace L2
open PySem PySem.Spec PyProof.Rows
abbrev R2 := V → V → Hp → VK → Prop
def OpR (X : Cx) (f : Value → Value → Sem Value) (r : R2) : Prop :=
  ∀ (pins : List (Addr × Obj)) (s : Shared) (σ : St) (H : Hp) (x y : V) (v u : Value) (Q : VK),Inv X pins σ H s → RelV x v → RelV y u → r x y H Q →
    wpAny (model X.prog X.w) X.A (f v u) (EP X pins σ Q) X.xe s
def CallR (X : Cx) (f : Value) (r : List V → Hp → VK → Prop) : Prop :=
  ∀ (pins : List (Addr × Obj)) (s : Shared) (σ : St) (H : Hp) (xs : List V) (us : List Value) (Q : VK),Inv X pins σ H s → Vals xs us → r xs H Q →
    wpAny (model X.prog X.w) X.A (call f us) (EP X pins σ Q) X.xe s
def TruR (X : Cx) (r : V → Hp → (Bool → Hp → Prop) → Prop) : Prop :=
  ∀ (pins : List (Addr × Obj)) (s : Shared) (σ : St) (H : Hp) (x : V) (v : Value) (Q : Bool → Hp → Prop),Inv X pins σ H s → RelV x v → r x H Q →
    wpAny (model X.prog X.w) X.A (truthy v) (TP X pins σ Q) X.xe s
def tOp (r : R2) (ta tb : TE) : TE := fun σ H Q => ta σ H fun x H1 => tb σ H1 fun y H2 => r x y H2 Q
def rI (C : Int → Int → Prop) (g : Int → Int → V) : R2 := fun x y H Q => ∃ i j,x = .int i ∧ y = .int j ∧ C i j ∧ Q (g i j) H
def rI0 (g : Int → Int → V) : R2 := fun x y H Q => ∃ i j,x = .int i ∧ y = .int j ∧ Q (g i j) H
section
variable {X : Cx} {a b c : Expr} {ta tb tc : TE} {pos : Pos}
theorem binT (ha : PE X a ta) (hb : PE X b tb) {pins : List (Addr × Obj)} {s : Shared} {σ : St} {H : Hp} {R : V → V → Hp → Prop} (I : Inv X pins σ H s)
    (h : ta σ H fun x H1 => tb σ H1 fun y H2 => R x y H2) {Q : Value → Shared → Prop} {f : Value → Value → Sem Value}
    (hf : ∀ v u s2 x y H2,Inv X pins σ H2 s2 → RelV x v → RelV y u → R x y H2 → wpAny (model X.prog X.w) X.A (f v u) Q X.xe s2) :
    wpAny (model X.prog X.w) X.A (eval a X.env) (fun v s₁ => wpAny (model X.prog X.w) X.A (eval b X.env) (fun u s₂ => wpAny (model X.prog X.w) X.A (f v u) Q X.xe s₂) X.xe s₁) X.xe s := by
  refine thn (ha pins s σ H _ I h) fun v s1 ⟨x,H1,I1,r1,q1⟩ => ?_
  refine thn (hb pins s1 σ H1 _ I1 q1) fun u s2 ⟨y,H2,I2,r2,q2⟩ => ?_
  exact hf v u s2 x y H2 I2 r1 r2 q2
theorem pe_op {op : Operator} {r : R2} (ho : OpR X (binaryOp op) r) (ha : PE X a ta) (hb : PE X b tb) : PE X (.BinOp a op b pos) (tOp r ta tb) := by
  intro pins s σ H Q I h
  exact wpAny_BinOp (binT ha hb I h fun v u s2 x y H2 I2 rx ry q => ho pins s2 σ H2 x y v u Q I2 rx ry q)
theorem opI {f : Value → Value → Sem Value} {C : Int → Int → Prop} {g : Int → Int → Int}
    (rule : ∀ (i j : Int) (t u : Tok) (s : Shared) (Q : Value → Shared → Prop) (E : Value → Shared → Prop),C i j → Q (.int (g i j) s.toks) { s with toks := s.toks + 1 } → wpAny (model X.prog X.w) X.A (f (.int i t) (.int j u)) Q E s) :
    OpR X f (rI C fun i j => .int (g i j)) := by
  intro pins s σ H x y v u Q I rx ry h
  obtain ⟨i,j,rfl,rfl,hc,q⟩ := h
  obtain ⟨t,rfl⟩ := rx
  obtain ⟨t',rfl⟩ := ry
  exact rule i j t t' s _ _ hc ⟨.int (g i j),H,I.tok _,⟨_,rfl⟩,q⟩
theorem opI0 {f : Value → Value → Sem Value} {g : Int → Int → Int}
    (rule : ∀ (i j : Int) (t u : Tok) (s : Shared) (Q : Value → Shared → Prop) (E : Value → Shared → Prop),Q (.int (g i j) s.toks) { s with toks := s.toks + 1 } → wpAny (model X.prog X.w) X.A (f (.int i t) (.int j u)) Q E s) :
    OpR X f (rI0 fun i j => .int (g i j)) := by
  intro pins s σ H x y v u Q I rx ry h
  obtain ⟨i,j,rfl,rfl,q⟩ := h
  obtain ⟨t,rfl⟩ := rx
  obtain ⟨t',rfl⟩ := ry
  exact rule i j t t' s _ _ ⟨.int (g i j),H,I.tok _,⟨_,rfl⟩,q⟩
theorem opB0 {f : Value → Value → Sem Value} {g : Int → Int → Bool}
    (rule : ∀ (i j : Int) (t u : Tok) (s : Shared) (Q : Value → Shared → Prop) (E : Value → Shared → Prop),Q (.bool (g i j)) s → wpAny (model X.prog X.w) X.A (f (.int i t) (.int j u)) Q E s) :
    OpR X f (rI0 fun i j => .bl (g i j)) := by
  intro pins s σ H x y v u Q I rx ry h
  obtain ⟨i,j,rfl,rfl,q⟩ := h
  obtain ⟨t,rfl⟩ := rx
  obtain ⟨t',rfl⟩ := ry
  exact rule i j t t' s _ _ ⟨.bl (g i j),H,I,rfl,q⟩
def CPow (i j : Int) : Prop := 0 ≤ j ∧ j ≤ 1000000 ∧ i.natAbs < 2 ^ 64
def CMul (i j : Int) : Prop := (-(2 ^ 64) < i ∧ i < 2 ^ 64) ∨ (-(2 ^ 64) < j ∧ j < 2 ^ 64)
theorem CMul.ok {i j : Int} (h : CMul i j) : IntMulOk i j := by
  rcases h with ⟨h1,h2⟩ | ⟨h1,h2⟩
  · exact .of_left (intBits_le_64 h1 h2)
  · exact .of_right (intBits_le_64 h1 h2)
theorem op_add : OpR X (binaryOp .Add) (rI0 fun i j => .int (i + j)) := opI0 fun _ _ _ _ _ _ _ q => add_int q
theorem op_sub : OpR X (binaryOp .Sub) (rI0 fun i j => .int (i - j)) := opI0 fun _ _ _ _ _ _ _ q => sub_int q
theorem op_mul : OpR X (binaryOp .Mult) (rI CMul fun i j => .int (i * j)) := opI fun _ _ _ _ _ _ _ hc q => mul_int q hc.ok
theorem op_mod : OpR X (binaryOp .Mod) (rI (fun _ j => 0 < j) fun i j => .int (i % j)) := opI fun i j _ _ _ _ _ hc q => by
  have h1 : (0 : Int) < j := hc
  exact mod_int' (by omega) (by rw [Int.fmod_eq_emod_of_nonneg i (by omega)]; exact q)
theorem op_pow : OpR X (binaryOp .Pow) (rI CPow fun i j => .int (i ^ j.toNat)) := opI fun _ _ _ _ _ _ _ hc q => pow_int_small hc.1 hc.2.1 hc.2.2 q
end
def scal : V → V → Bool
  | .non,.non => true | .non,.int _ => true | .int _,.non => true | .non,.bl _ => true | .bl _,.non => true | .non,.str _ => true | .str _,.non => true
  | .int _,.int _ => true | .bl _,.bl _ => true | .str _,.str _ => true | .byt _,.byt _ => true
  | .int _,.str _ => true | .str _,.int _ => true | .bl _,.str _ => true | .str _,.bl _ => true
  | _,_ => false
def rEq : R2 := fun x y H Q => scal x y = true ∧ Q (.bl (decide (x = y))) H
def rNe : R2 := fun x y H Q => scal x y = true ∧ Q (.bl (!decide (x = y))) H
theorem dec_int {i j : Int} : decide (V.int i = V.int j) = (i == j) := by
  rw [Bool.eq_iff_iff]
  simp
theorem dec_bl {i j : Bool} : decide (V.bl i = V.bl j) = (i == j) := by
  rw [Bool.eq_iff_iff]
  simp
theorem dec_str {i j : Str} : decide (V.str i = V.str j) = (i == j) := by
  rw [Bool.eq_iff_iff]
  simp
theorem dec_byt {i j : Array UInt8} : decide (V.byt i = V.byt j) = (i.toList == j.toList) := by
  rw [Bool.eq_iff_iff]
  cases i
  cases j
  simp
section
variable {X : Cx} {a b c : Expr} {ta tb tc : TE} {pos : Pos}
theorem fin_bl {pins : List (Addr × Obj)} {σ : St} {H : Hp} {s : Shared} {Q : VK} {k k' : Bool} (I : Inv X pins σ H s) (q : Q (.bl k) H) (e : k = k') : EP X pins σ Q (.bool k') s := by
  subst e
  exact ⟨.bl k,H,I,rfl,q⟩
theorem op_eq : OpR X (compareOp .Eq) rEq := by
  intro pins s σ H x y v u Q I rx ry h
  obtain ⟨hs,q⟩ := h
  cases x with
  | non =>
    cases rx
    cases y with
    | non => cases ry; exact PySem.EqNone.eq_none_none (fin_bl I q (by simp))
    | bl j => cases ry; exact PySem.EqNone.eq_none_bool (fin_bl I q (by simp))
    | int j => obtain ⟨t',rfl⟩ := ry; exact PySem.EqNone.eq_none_int (fin_bl I q (by simp))
    | str j => obtain ⟨t',rfl⟩ := ry; exact PySem.EqNone.eq_none_str (fin_bl I q (by simp))
    | _ => exact absurd (show false = true from hs) Bool.false_ne_true
  | bl i =>
    cases rx
    cases y with
    | non => cases ry; exact PySem.EqNone.eq_bool_none (fin_bl I q (by simp))
    | bl j => cases ry; exact eq_bool (fin_bl I q dec_bl)
    | str j => obtain ⟨t',rfl⟩ := ry; exact PySem.EqMixed.eq_bool_str (fin_bl I q (by simp))
    | _ => exact absurd (show false = true from hs) Bool.false_ne_true
  | int i =>
    obtain ⟨t,rfl⟩ := rx
    cases y with
    | non => cases ry; exact PySem.EqNone.eq_int_none (fin_bl I q (by simp))
    | int j => obtain ⟨t',rfl⟩ := ry; exact eq_int (fin_bl I q dec_int)
    | str j => obtain ⟨t',rfl⟩ := ry; exact PySem.EqMixed.eq_int_str (fin_bl I q (by simp))
    | _ => exact absurd (show false = true from hs) Bool.false_ne_true
  | str i =>
    obtain ⟨t,rfl⟩ := rx
    cases y with
    | non => cases ry; exact PySem.EqNone.eq_str_none (fin_bl I q (by simp))
    | bl j => cases ry; exact PySem.EqMixed.eq_str_bool (fin_bl I q (by simp))
    | int j => obtain ⟨t',rfl⟩ := ry; exact PySem.EqMixed.eq_str_int (fin_bl I q (by simp))
    | str j => obtain ⟨t',rfl⟩ := ry; exact eq_str (fin_bl I q dec_str)
    | _ => exact absurd (show false = true from hs) Bool.false_ne_true
  | byt i =>
    obtain ⟨t,rfl⟩ := rx
    cases y with
    | byt j => obtain ⟨t',rfl⟩ := ry; exact PySem.W.eq_bytes (fin_bl I q dec_byt)
    | _ => exact absurd (show false = true from hs) Bool.false_ne_true
  | _ => cases y <;> exact absurd (show false = true from hs) Bool.false_ne_true
theorem op_ne : OpR X (compareOp .NotEq) rNe := by
  intro pins s σ H x y v u Q I rx ry h
  obtain ⟨hs,q⟩ := h
  cases x with
  | non =>
    cases rx
    cases y with
    | non => cases ry; exact PySem.EqNone.ne_none_none (fin_bl I q (by simp))
    | bl j => cases ry; exact PySem.EqNone.ne_none_bool (fin_bl I q (by simp))
    | int j => obtain ⟨t',rfl⟩ := ry; exact PySem.EqNone.ne_none_int (fin_bl I q (by simp))
    | str j => obtain ⟨t',rfl⟩ := ry; exact PySem.EqNone.ne_none_str (fin_bl I q (by simp))
    | _ => exact absurd (show false = true from hs) Bool.false_ne_true
  | bl i =>
    cases rx
    cases y with
    | non => cases ry; exact PySem.EqNone.ne_bool_none (fin_bl I q (by simp))
    | bl j => cases ry; exact ne_bool (fin_bl I q (congrArg not dec_bl))
    | str j => obtain ⟨t',rfl⟩ := ry; exact PySem.EqMixed.ne_bool_str (fin_bl I q (by simp))
    | _ => exact absurd (show false = true from hs) Bool.false_ne_true
  | int i =>
    obtain ⟨t,rfl⟩ := rx
    cases y with
    | non => cases ry; exact PySem.EqNone.ne_int_none (fin_bl I q (by simp))
    | int j => obtain ⟨t',rfl⟩ := ry; exact ne_int (fin_bl I q (congrArg not dec_int))
    | str j => obtain ⟨t',rfl⟩ := ry; exact PySem.EqMixed.ne_int_str (fin_bl I q (by simp))
    | _ => exact absurd (show false = true from hs) Bool.false_ne_true
  | str i =>
    obtain ⟨t,rfl⟩ := rx
    cases y with
    | non => cases ry; exact PySem.EqNone.ne_str_none (fin_bl I q (by simp))
    | bl j => cases ry; exact PySem.EqMixed.ne_str_bool (fin_bl I q (by simp))
    | int j => obtain ⟨t',rfl⟩ := ry; exact PySem.EqMixed.ne_str_int (fin_bl I q (by simp))
    | str j => obtain ⟨t',rfl⟩ := ry; exact ne_str (fin_bl I q (congrArg not dec_str))
    | _ => exact absurd (show false = true from hs) Bool.false_ne_true
  | byt i =>
    obtain ⟨t,rfl⟩ := rx
    cases y with
    | byt j => obtain ⟨t',rfl⟩ := ry; exact PySem.W.ne_bytes (fin_bl I q (congrArg not dec_byt))
    | _ => exact absurd (show false = true from hs) Bool.false_ne_true
  | _ => cases y <;> exact absurd (show false = true from hs) Bool.false_ne_true
theorem op_lt : OpR X (compareOp .Lt) (rI0 fun i j => .bl (decide (i < j))) := opB0 fun _ _ _ _ _ _ _ q => lt_int q
theorem op_le : OpR X (compareOp .LtE) (rI0 fun i j => .bl (decide (i ≤ j))) := opB0 fun _ _ _ _ _ _ _ q => le_int q
theorem op_gt : OpR X (compareOp .Gt) (rI0 fun i j => .bl (decide (j < i))) := opB0 fun _ _ _ _ _ _ _ q => gt_int q
theorem op_ge : OpR X (compareOp .GtE) (rI0 fun i j => .bl (decide (j ≤ i))) := opB0 fun _ _ _ _ _ _ _ q => ge_int q
theorem op_notN : OpR X (compareOp .IsNot) (fun x y H Q => y = .non ∧ Q (.bl (!decide (x = .non))) H) := by
  intro pins s σ H x y v u Q I rx ry h
  obtain ⟨rfl,q⟩ := h
  cases ry
  refine isnot_none_gen (fin_bl I q ?_)
  cases x <;> first
    | (cases rx; rfl)
    | (obtain ⟨t,rfl⟩ := rx; rfl)
theorem nomark (b : Expr) {op : CmpOp} (h : op ≠ .In := by decide) (h2 : op ≠ .NotIn := by decide) : behindInMarks op b = false := by
  have e1 : (op == CmpOp.In) = false := by cases op <;> first | rfl | exact absurd rfl h
  have e2 : (op == CmpOp.NotIn) = false := by cases op <;> first | rfl | exact absurd rfl h2
  cases b <;> simp [behindInMarks,e1,e2]
theorem pe_cmpR {op : CmpOp} {r : R2} (ho : OpR X (compareOp op) r) (ha : PE X a ta) (hb : PE X b tb) (hm : behindInMarks op b = false) : PE X (.Compare a [op] [b] pos) (tOp r ta tb) := by
  intro pins s σ H Q I h
  exact wpAny_Compare1 (binT ha hb I h fun v u s2 x y H2 I2 rx ry q => ho pins s2 σ H2 x y v u Q I2 rx ry q) hm
def tTest (t : TE) : TT := fun σ H Q => t σ H fun x H' => ∃ k,x = .bl k ∧ Q k H'
theorem pt_cmpR {op : CmpOp} {r : R2} (ho : OpR X (compareOp op) r) (ha : PE X a ta) (hb : PE X b tb) (hm : behindInMarks op b = false) : PT X (.Compare a [op] [b] pos) (tTest (tOp r ta tb)) := by
  intro pins s σ H Q I h
  refine wpAny_isTrue_Compare1 (thn (ha pins s σ H _ I h) fun v s1 ⟨x,H1,I1,r1,q1⟩ => thn (hb pins s1 σ H1 _ I1 q1) fun u s2 ⟨y,H2,I2,r2,q2⟩ =>
    thn (ho pins s2 σ H2 x y v u _ I2 r1 r2 q2) fun c s3 ⟨z,H3,I3,r3,k,e,q3⟩ => ?_) hm
  subst e
  cases r3
  exact wpAny_truthy_bool ⟨H3,I3,q3⟩
def tChain (r r' : R2) (ta tb tc : TE) : TE := fun σ H Q => ta σ H fun x H1 => tb σ H1 fun y H2 => r x y H2 fun z H3 => ∃ k,z = .bl k ∧
  (if k = true then tc σ H3 fun w' H4 => r' y w' H4 Q else Q (.bl false) H3)
theorem pt_chain {op op' : CmpOp} {r r' : R2} (ho : OpR X (compareOp op) r) (ho' : OpR X (compareOp op') r') (ha : PE X a ta) (hb : PE X b tb) (hc : PE X c tc)
    (hm : lastMarks [op,op'] [b,c] = false := by with_unfolding_all rfl) : PT X (.Compare a [op,op'] [b,c] pos) (tTest (tChain r r' ta tb tc)) := by
  intro pins s σ H Q I h
  refine isTrue_chain (thn (ha pins s σ H _ I h) fun v s1 ⟨x,H1,I1,r1,q1⟩ => test_link (thn (hb pins s1 σ H1 _ I1 q1) fun u s2 ⟨y,H2,I2,r2,q2⟩ =>
    thn (ho pins s2 σ H2 x y v u _ I2 r1 r2 q2) fun d s3 ⟨z,H3,I3,r3,k,e,q3⟩ => ?_)) hm
  subst e
  cases r3
  refine wpAny_truthy_bool ?_
  cases k with
  | false =>
    obtain ⟨k',e',q'⟩ := q3
    cases e'
    exact ite_ff ⟨H3,I3,q'⟩
  | true =>
    refine ite_tt (test_last (thn (hc pins s3 σ H3 _ I3 q3) fun w' s4 ⟨z',H4,I4,r4,q4⟩ => thn (ho' pins s4 σ H4 y z' u w' _ I4 r2 r4 q4) fun d' s5 ⟨z2,H5,I5,r5,k2,e2,q5⟩ => ?_))
    subst e2
    cases r5
    exact wpAny_truthy_bool ⟨H5,I5,q5⟩
def TruV (K : PySem.W.Frag) (x : V) (H : Hp) (k : Bool) : Prop :=
  match x with
  | .non => k = false
  | .bl b => k = b
  | .int i => k = (i != 0)
  | .str y => y.length ≤ sizeLine ∧ k = ((y.length : Int) != 0)
  | .byt y => y.size ≤ sizeLine ∧ k = ((y.size : Int) != 0)
  | .ref p => (∃ xs,SqL K H p xs ∧ k = !xs.isEmpty) ∨ (∃ xs,SqT K H p xs ∧ k = !xs.isEmpty) ∨ ∃ kvs,H p = some (.dK kvs) ∧ k = !kvs.isEmpty
  | _ => False
theorem isEmpty_kv {κ : Type} {kvs : List (κ × V)} {vs : List (κ × Value)} (r : KV kvs vs) : (!vs.isEmpty) = !kvs.isEmpty := by
  cases r <;> rfl
theorem isEmpty_of {xs : List V} {its : List Value} (r : Vals xs its) : (!its.toArray.isEmpty) = !xs.isEmpty := by
  cases r <;> simp
theorem line63 : (sizeLine : Nat) < 2 ^ 63 := by rw [sizeLine_eq]; decide
theorem tru_ok : TruR X (fun x H Q => ∃ k,TruV X.K x H k ∧ Q k H) := by
  intro pins s σ H x v Q I rx h
  obtain ⟨k,e,q⟩ := h
  have hl := line63
  have hs : sizeLine = 16777216 := sizeLine_eq
  cases x with
  | non =>
    cases rx
    have e' : k = false := e
    subst e'
    exact truthy_none ⟨H,I,q⟩
  | bl b =>
    cases rx
    have e' : k = b := e
    subst e'
    exact wpAny_truthy_bool ⟨H,I,q⟩
  | int i =>
    obtain ⟨t,rfl⟩ := rx
    have e' : k = (i != 0) := e
    subst e'
    exact PySem.P.truthy_int ⟨H,I,q⟩
  | str y =>
    obtain ⟨t,rfl⟩ := rx
    obtain ⟨hy,e'⟩ : y.length ≤ sizeLine ∧ k = ((y.length : Int) != 0) := e
    subst e'
    exact PySem.P.truthy_str (by omega) ⟨H,I.tok _,q⟩
  | byt y =>
    obtain ⟨t,rfl⟩ := rx
    obtain ⟨hy,e'⟩ : y.size ≤ sizeLine ∧ k = ((y.size : Int) != 0) := e
    subst e'
    exact PySem.W.truthy_bytes (by omega) ⟨H,I.tok _,q⟩
  | ref p =>
    cases rx
    have e' : (∃ xs,SqL X.K H p xs ∧ k = !xs.isEmpty) ∨ (∃ xs,SqT X.K H p xs ∧ k = !xs.isEmpty) ∨ ∃ kvs,H p = some (.dK kvs) ∧ k = !kvs.isEmpty := e
    rcases e' with ⟨xs,hx,e'⟩ | ⟨xs,hx,e'⟩ | ⟨kvs,hx,e'⟩
    · subst e'
      obtain ⟨its,r,pl,hz⟩ := I.list hx
      have hlen := r.length
      exact wpAny_truthy_list pl.isList (by simp only [List.size_toArray]; omega) ⟨H,I.tok _,by rw [isEmpty_of r]; exact q⟩
    · subst e'
      obtain ⟨its,r,pl,hz⟩ := I.tuple hx
      have hlen := r.length
      exact truthy_tuple pl (by simp only [List.size_toArray]; omega) ⟨H,I.tok _,by rw [isEmpty_of r]; exact q⟩
    · subst e'
      obtain ⟨hz,hS,vs,r,m⟩ : kvs.length ≤ sizeLine ∧ (p == sysModules) = false ∧ ∃ vs,KV kvs vs ∧ s.heap.DictOf (mixKind X.prog X.w) p vs := I.hok p _ hx
      have hlen : kvs.length = vs.length := Paired.length r
      exact wpAny_truthy_dict hS m (by omega) ⟨H,I.tok _,by rw [isEmpty_kv r]; exact q⟩
  | _ => exact (show False from e).elim
theorem pt_truth (ha : PE X a ta) (he : ∀ whole,isTrue a X.env whole = (do let v ← whole; standAt a.pos; holding [v] (truthy v))) :
    PT X a (fun σ H Q => ta σ H fun x H' => ∃ k,TruV X.K x H' k ∧ Q k H') := by
  intro pins s σ H Q I h
  exact isTrue_plain (thn (ha pins s σ H _ I h) fun v s1 ⟨x,H1,I1,r1,q1⟩ => tru_ok pins s1 σ H1 x v Q I1 r1 q1) (he _)
theorem vals1 {x : V} {us : List Value} (r : Vals [x] us) : ∃ u,us = [u] ∧ RelV x u := by
  cases r with
  | cons r1 r2 => cases r2; exact ⟨_,rfl,r1⟩
theorem vals2 {x y : V} {us : List Value} (r : Vals [x,y] us) : ∃ u w',us = [u,w'] ∧ RelV x u ∧ RelV y w' := by
  cases r with
  | cons r1 r2 =>
    cases r2 with
    | cons r3 r4 => cases r4; exact ⟨_,_,rfl,r1,r3⟩
theorem call_abs : CallR X (.builtin "abs") (fun xs H Q => ∃ i,xs = [.int i] ∧ Q (.int (if i < 0 then -i else i)) H) := by
  intro pins s σ H xs us Q I r h
  obtain ⟨i,rfl,q⟩ := h
  obtain ⟨u,rfl,t,rfl⟩ := vals1 r
  exact call_abs_int fun u tk => ⟨.int (if i < 0 then -i else i),H,I.tok _,⟨_,rfl⟩,q⟩
theorem call_max2 (hc : X.calm = true) : CallR X (.builtin "max") (fun xs H Q => ∃ i j,xs = [.int i,.int j] ∧ Q (.int (if j > i then j else i)) H) := by
  intro pins s σ H xs us Q I r h
  obtain ⟨i,j,rfl,q⟩ := h
  obtain ⟨u,w',rfl,⟨t,rfl⟩,⟨t',rfl⟩⟩ := vals2 r
  refine max_two_ints (I.ok.hd hc) fun h' tk k => ⟨_,H,I.kept k,?_,q⟩
  by_cases hj : j > i
  · rw [if_pos hj,if_pos hj]; exact ⟨_,rfl⟩
  · rw [if_neg hj,if_neg hj]; exact ⟨_,rfl⟩
theorem call_int1 : CallR X (.type "int") (fun xs H Q => (∃ i,xs = [.int i] ∧ Q (.int i) H) ∨ ∃ k,xs = [.bl k] ∧ Q (.int (if k then 1 else 0)) H) := by
  intro pins s σ H xs us Q I r h
  rcases h with ⟨i,rfl,q⟩ | ⟨k,rfl,q⟩
  · obtain ⟨u,rfl,t,rfl⟩ := vals1 r
    exact call_int_int ⟨.int i,H,I,⟨_,rfl⟩,q⟩
  · obtain ⟨u,rfl,r1⟩ := vals1 r
    cases r1
    exact call_int_bool ⟨.int (if k then 1 else 0),H,I.tok _,⟨_,rfl⟩,q⟩
end
end L2
namespace L2
open PySem PySem.Spec PyProof.Rows
structure ObjM (h : Heap) (x dx C : Addr) (mA : Str → Option Value) : Prop where
  obj : h.get? x = some (PySem.W.instObj C dx)
  ns : h.Ns1 dx mA
  ne : dx ≠ x
theorem lookIn_ns {h : Heap} {dx : Addr} {mA : Str → Option Value} (n : h.Ns1 dx mA) : ∃ od,h.get? dx = some od ∧ ∀ name,PySem.W.lookIn name od = some (mA name) := by
  obtain ⟨o,es,ep,ho,hd,hk,_,hm⟩ := n
  refine ⟨o,ho,fun name => ?_⟩
  have e := hm name
  unfold nsFind findBy at e
  rw [← Array.find?_toList] at e
  unfold PySem.W.lookIn
  rw [hd]
  dsimp only
  split
  · rename_i y q
    rw [q] at e
    exact congrArg some e
  · rename_i q
    rw [q] at e
    have a : es.toList.any (·.refKey) = false := by
      rw [List.any_eq_false]
      intro y hy
      obtain ⟨z,t,hkey⟩ := hk y (Array.mem_toList_iff.mp hy)
      simp [DictEntry.refKey,hkey]
    have a' : ¬ es.toList.any (·.refKey) = true := by rw [a]; exact Bool.false_ne_true
    rw [if_neg a']
    exact congrArg some e
theorem ObjM.look {h : Heap} {x dx C : Addr} {mA : Str → Option Value} (I : ObjM h x dx C mA) : ∃ od,PySem.W.InstAt h x (PySem.W.instObj C dx) C (some od) ∧ ∀ name,PySem.W.lookIn name od = some (mA name) :=
  let ⟨od,ho,hl⟩ := lookIn_ns I.ns
  ⟨od,⟨I.obj,rfl,rfl,ho⟩,hl⟩
section
variable {prog : Program} {w : World} {A : Around} {E : Value → Shared → Prop} {s : Shared} {K : PySem.W.Frag} {x dx C f : Addr} {mA : Str → Option Value} {name : Str} {v : Value}
theorem get_map {expr : Bool} {Q : Value → Shared → Prop} (X : K.In s.heap) (I : ObjM s.heap x dx C mA) (hg : PySem.W.plainGet K C name = true) (hh : PySem.W.hasDictIn K C = true)
    (ha : PySem.W.findIn K (.ref C) name = some none) (hv : mA name = some v) (hv' : PySem.W.handedIn v = true) (h : Q v { s with toks := s.toks + 1 }) :
    wpAny (model prog w) A (getAttr (.ref x) name expr) Q E s := by
  obtain ⟨od,J,hl⟩ := I.look
  exact PySem.W.get_value X J (PySem.W.plainGet_of hg).1 (PySem.W.findObj_own hh ha rfl (by rw [hl,hv])) hv' h
theorem get_meth {pl : Sem Bool} {Q : Value × List Value → Shared → Prop} (X : K.In s.heap) (I : ObjM s.heap x dx C mA) (hg : PySem.W.plainGet K C name = true)
    (hf : PySem.W.findIn K (.ref C) name = some (some (.ref f))) (ht : PySem.W.isFn K (.ref f) = true) (hv : mA name = none) (h : Q (.ref f,[.ref x]) s) :
    wpAny (model prog w) A (getMethod (.ref x) name pl) Q E s := by
  obtain ⟨od,J,hl⟩ := I.look
  exact PySem.W.method_fn X J (PySem.W.plainGet_of hg).1 (PySem.W.plainGet_of hg).2 hf (beq_iff_eq.mp ht) (by show (PySem.W.lookIn name od).map (·.isSome) = some false; rw [hl,hv]; rfl) h
theorem set_map {ns : List Str} {Q : Unit → Shared → Prop} (X : K.In s.heap) (I : ObjM s.heap x dx C mA)
    (hs : PySem.W.findIn K (.ref C) "__setattr__" = some (some (.builtin "object.__setattr__"))) (hp : PySem.W.plainOver K C = true) (ht : PySem.W.takerIn K C name = some none) (hh : PySem.W.hasDictIn K C = true)
    (hw : PySem.Within mA ns) (hsz : ns.length ≤ sizeLine)
    (h : ∀ h',ObjM h' x dx C (fun y => if y = name then some v else mA y) → Heap.SameBut dx s.heap h' → Q () { s with heap := h',toks := s.toks + 2 }) :
    wpAny (model prog w) A (setAttr (.ref x) name v) Q E s := by
  obtain ⟨od,J,hl⟩ := I.look
  refine PySem.W.set_plain X J hs (PySem.W.osa_open (s := { s with toks := s.toks + 1 }) (r := none) X J hp ht fun b => ?_)
  obtain ⟨cd,hc,hd'⟩ := PySem.W.any_some hh
  have hx : s.heap.get? x = some ⟨.ref C,some dx,.plain,#[]⟩ := I.obj
  refine wpAny_bind (wpAny_pure (wpAny_bind (wpAny_bind (wpAny_loadPart hx (wpAny_bind (PySem.W.Looks.here (s := { s with toks := s.toks + 1 }) (PySem.W.looks_clsIn X hc) ?_))))))
  rw [hd']
  refine wpAny_pure (a := some dx) (wpAny_bind (wpAny_pure (wpAny_bind ?_)))
  refine wpAny_nsSet1 (s := { s with toks := s.toks + 1 }) I.ns fun h' hn2 hs2 => ?_
  obtain ⟨oD,esD,epD,hoD,hdD,hcD⟩ := hn2.count (PySem.Within.cons name v hw)
  refine wpAny_bind (wpAny_lookBehind hoD (by rw [hdD]; exact pastItsLine_dict (Nat.le_trans hcD (by rw [List.length_cons]; omega))) ?_)
  exact wpAny_pure (h _ ⟨(hs2.2 _ (Ne.symm I.ne)).trans I.obj,hn2,I.ne⟩ hs2)
theorem make_map {R : Result → Shared → Prop} {vs : List Value} {kw : List (Str × Value)} (X : K.In s.heap) (hm : PySem.W.makesIn K C = true)
    (hi : PySem.W.findIn K (.ref C) "__init__" = some (some (.ref f))) (hf : PySem.W.typeIn K (.ref f) = some (.type "function"))
    (h : codeAny (model prog w) (A.under (.builtin "type.__call__" ⟨.ref C :: vs,kw⟩)) (.call (.ref f) ⟨.ref (s.heap.objs.size + 1) :: vs,kw⟩) (PySem.W.InitBack (s.heap.objs.size + 1) R)
      { s with heap := (s.heap.push PySem.W.emptyDict).push (PySem.W.instObj C s.heap.objs.size) }) :
    codeAny (model prog w) A (.call (.ref C) ⟨vs,kw⟩) R s := by
  obtain ⟨hh,g,d,t,os⟩ := s
  exact PySem.W.make_core (PySem.W.makes_of X hm) (PySem.W.looks_findIn X hi) (fun self => PySem.W.bind_fn X self hf) (.inl rfl) h
end
def putF (f : Str) (v : V) : List (Str × V) → List (Str × V)
  | [] => [(f,v)]
  | (g,x) :: r => if g = f then (g,v) :: r else (g,x) :: putF f v r
theorem lookup_putF (f g : Str) (v : V) : ∀ fs : List (Str × V),(putF f v fs).lookup g = if g = f then some v else fs.lookup g
  | [] => by
    show List.lookup g [(f,v)] = _
    by_cases h : g = f
    · have hb : (g == f) = true := beq_iff_eq.mpr h
      simp only [List.lookup,hb,if_pos h]
    · have hb : (g == f) = false := beq_eq_false_iff_ne.mpr h
      simp only [List.lookup,hb,if_neg h]
  | (k,x) :: r => by
    have ih := lookup_putF f g v r
    rw [show putF f v ((k,x) :: r) = (if k = f then (k,v) :: r else (k,x) :: putF f v r) from rfl]
    by_cases hk : k = f
    · rw [if_pos hk]
      by_cases h : g = k
      · have hb : (g == k) = true := beq_iff_eq.mpr h
        simp only [List.lookup,hb,if_pos (h.trans hk)]
      · have hb : (g == k) = false := beq_eq_false_iff_ne.mpr h
        simp only [List.lookup,hb,if_neg (fun e : g = f => h (e.trans hk.symm))]
    · rw [if_neg hk]
      by_cases h : g = k
      · have hb : (g == k) = true := beq_iff_eq.mpr h
        simp only [List.lookup,hb,if_neg (fun e : g = f => hk (h.symm.trans e))]
      · have hb : (g == k) = false := beq_eq_false_iff_ne.mpr h
        simp only [List.lookup,hb]
        exact ih
theorem keys_putF (f : Str) (v : V) : ∀ fs : List (Str × V),f ∈ (putF f v fs).map (·.1) ∧ ∀ g,g ∈ fs.map (·.1) → g ∈ (putF f v fs).map (·.1)
  | [] => ⟨by simp [putF],fun g h => by simp at h⟩
  | (k,x) :: r => by
    obtain ⟨i1,i2⟩ := keys_putF f v r
    rw [show putF f v ((k,x) :: r) = (if k = f then (k,v) :: r else (k,x) :: putF f v r) from rfl]
    by_cases hk : k = f
    · rw [if_pos hk]
      subst hk
      exact ⟨by simp,fun g h => by simpa using h⟩
    · rw [if_neg hk]
      refine ⟨?_,fun g h => ?_⟩
      · rw [List.map_cons]
        exact List.mem_cons_of_mem _ i1
      · rw [List.map_cons] at h ⊢
        rcases List.mem_cons.mp h with e | e
        · exact List.mem_cons.mpr (.inl e)
        · exact List.mem_cons_of_mem _ (i2 g e)
theorem length_putF (f : Str) (v : V) : ∀ fs : List (Str × V),(putF f v fs).length ≤ fs.length + 1
  | [] => by simp [putF]
  | (k,x) :: r => by
    have ih := length_putF f v r
    rw [show putF f v ((k,x) :: r) = (if k = f then (k,v) :: r else (k,x) :: putF f v r) from rfl]
    by_cases hk : k = f
    · rw [if_pos hk,List.length_cons,List.length_cons]; omega
    · rw [if_neg hk,List.length_cons,List.length_cons]; omega
theorem RelO.some_of {v : V} {o : Option Value} (r : RelO (some v) o) : ∃ u,o = some u ∧ RelV v u := by
  cases o with
  | none => exact (show False from r).elim
  | some u => exact ⟨u,rfl,r⟩
theorem RelO.none_of {o : Option Value} (r : RelO none o) : o = none := by
  cases o with
  | none => rfl
  | some u => exact (show False from r).elim
theorem handed_of {v : V} {u : Value} (r : RelV v u) : PySem.W.handedIn u = true := by
  cases v with
  | non => cases (show u = Value.none from r); rfl
  | bl b => cases (show u = Value.bool b from r); rfl
  | int i => obtain ⟨t,e⟩ := (show ∃ t,u = Value.int i t from r); cases e; rfl
  | str x => obtain ⟨t,e⟩ := (show ∃ t,u = Value.str x t from r); cases e; rfl
  | byt b => obtain ⟨t,e⟩ := (show ∃ t,u = Value.bytes b t from r); cases e; rfl
  | flt b => obtain ⟨t,e⟩ := (show ∃ t,u = Value.float b t from r); cases e; rfl
  | ref a => cases (show u = Value.ref a from r); rfl
  | ty n => cases (show u = Value.type n from r); rfl
section
variable {P : Program} {w : World} {H H' : Hp} {h h' : Heap} {a C dx : Addr} {fs fs' : List (Str × V)}
theorem ins_get (hok : HOk P w H h) (e : H a = some (.ins C dx fs)) : ∃ mA,ObjM h a dx C mA ∧ (∀ f,RelO (fs.lookup f) (mA f)) ∧ PySem.Within mA (fs.map (·.1)) ∧ fs.length ≤ 1000 ∧ H dx = some (.own a) := by
  obtain ⟨d,z,ne,ob,mA,n,r,q⟩ := (show ObjOk P w H h a (.ins C dx fs) from hok a _ e)
  exact ⟨mA,⟨ob,n,ne⟩,r,q,z,d⟩
end
structure Cls (K : PySem.W.Frag) (C : Addr) : Prop where
  pg : PySem.W.plainGet K C Str.empty = true
  hd : PySem.W.hasDictIn K C = true
  po : PySem.W.plainOver K C = true
  sa : PySem.W.findIn K (.ref C) "__setattr__" = some (some (.builtin "object.__setattr__"))
theorem Cls.get {K : PySem.W.Frag} {C : Addr} (c : Cls K C) (f : Str) : PySem.W.plainGet K C f = true := c.pg
def NoAttr (K : PySem.W.Frag) (C : Addr) (f : Str) : Prop := PySem.W.findIn K (.ref C) f = some none
theorem NoAttr.taker {K : PySem.W.Frag} {C : Addr} {f : Str} (n : NoAttr K C f) : PySem.W.takerIn K C f = some none := by
  unfold PySem.W.takerIn
  rw [show PySem.W.findIn K (.ref C) f = some none from n]
  rfl
structure Con (K : PySem.W.Frag) (C : Addr) (f : Str) (v : V) (u : Value) : Prop where
  at_ : PySem.W.findIn K (.ref C) f = some (some u)
  rel : RelV v u
  get : PySem.W.specialIn K u "__get__" = some none
  cp : PySem.W.copiedNames.contains f = false
structure Meth (K : PySem.W.Frag) (C : Addr) (m : Str) (f : Addr) : Prop where
  at_ : PySem.W.findIn K (.ref C) m = some (some (.ref f))
  fn : PySem.W.isFn K (.ref f) = true
  kp : PySem.W.keepIn K (.ref f) = true
section
variable {X : Cx} {pins : List (Addr × Obj)} {σ : St} {H : Hp} {s : Shared} {a C dx : Addr} {fs : List (Str × V)} {f : Str} {v : V} {A : Around} {E : Value → Shared → Prop}
theorem getattr_ok {b : Bool} {Q : Value → Shared → Prop} (I : Inv X pins σ H s) (e : H a = some (.ins C dx fs)) (c : Cls X.K C) (n : NoAttr X.K C f) (l : fs.lookup f = some v)
    (h : ∀ u s',Inv X pins σ H s' → RelV v u → Q u s') : wpAny (model X.prog X.w) A (getAttr (.ref a) f b) Q E s := by
  obtain ⟨mA,O,r,_,_,_⟩ := ins_get I.hok e
  obtain ⟨u,hu,ru⟩ := RelO.some_of (v := v) (o := mA f) (by rw [← l]; exact r f)
  exact get_map I.kIn O (c.get f) c.hd n hu (handed_of ru) (h u _ (I.tok _) ru)
theorem getmeth_ok {m : Str} {g : Addr} {pl : Sem Bool} {Q : Value × List Value → Shared → Prop} (I : Inv X pins σ H s) (e : H a = some (.ins C dx fs)) (c : Cls X.K C) (k : Meth X.K C m g) (l : fs.lookup m = none)
    (h : Q (.ref g,[.ref a]) s) : wpAny (model X.prog X.w) A (getMethod (.ref a) m pl) Q E s := by
  obtain ⟨mA,O,r,_,_,_⟩ := ins_get I.hok e
  have hn : mA m = none := RelO.none_of (by rw [← l]; exact r m)
  exact get_meth I.kIn O (c.get m) k.at_ k.fn hn h
theorem setattr_ok {y : V} {u : Value} {Q : Unit → Shared → Prop} (I : Inv X pins σ H s) (e : H a = some (.ins C dx fs)) (c : Cls X.K C) (n : NoAttr X.K C f) (hl : fs.length < 1000) (ry : RelV y u)
    (h : ∀ s',Inv X pins σ (upd H a (.ins C dx (putF f y fs))) s' → Q () s') : wpAny (model X.prog X.w) A (setAttr (.ref a) f u) Q E s := by
  obtain ⟨mA,O,r,wi,_,ho⟩ := ins_get I.hok e
  have hz : (fs.map (·.1)).length ≤ sizeLine := by rw [List.length_map,sizeLine_eq]; omega
  refine set_map I.kIn O c.sa c.po n.taker c.hd wi hz fun h' O' sb => h _ ?_
  have hd : ∃ o,h'.get? dx = some o := let ⟨o,_,_,e',_⟩ := O'.ns; ⟨o,e'⟩
  refine I.write (x := a) (e := dx) (by rw [e]; exact True.intro) (.inr ho) (fun b q hb z => (sb.2 b hb).trans z) hd ?_
  refine ⟨by rw [upd_ne O.ne]; exact ho,?_,O.ne,O'.obj,_,O'.ns,fun g => ?_,fun g hg => ?_⟩
  · have := length_putF f y fs; omega
  · show RelO ((putF f y fs).lookup g) (if g = f then some u else mA g)
    rw [lookup_putF]
    by_cases q : g = f
    · rw [if_pos q,if_pos q]; exact ry
    · rw [if_neg q,if_neg q]; exact r g
  · by_cases q : g = f
    · rw [q]; exact (keys_putF f y fs).1
    · refine (keys_putF f y fs).2 g (wi g fun z => hg ?_)
      show (if g = f then some u else mA g) = none
      rw [if_neg q]; exact z
theorem Inv.made (I : Inv X pins σ H s) : Inv X pins σ (upd (upd H s.heap.objs.size (.own (s.heap.objs.size + 1))) (s.heap.objs.size + 1) (.ins C s.heap.objs.size []))
    { s with heap := (s.heap.push PySem.W.emptyDict).push (PySem.W.instObj C s.heap.objs.size) } := by
  have e1 : (s.heap.push PySem.W.emptyDict).get? s.heap.objs.size = some PySem.W.emptyDict := Heap.get?_push_size s.heap rfl
  have e2 : ((s.heap.push PySem.W.emptyDict).push (PySem.W.instObj C s.heap.objs.size)).get? (s.heap.objs.size + 1) = some (PySem.W.instObj C s.heap.objs.size) := by
    have := Heap.get?_push_size (s.heap.push PySem.W.emptyDict) (o := PySem.W.instObj C s.heap.objs.size) rfl
    rwa [Heap.size_push] at this
  have e3 : (s.heap.push PySem.W.emptyDict).Ns s.heap.objs.size (fun _ => none) := ⟨PySem.W.emptyDict,#[],_,e1,rfl,(fun e he => absurd he (by simp)),fun _ => rfl⟩
  have I1 := I.laid (a := s.heap.objs.size) (o := .own (s.heap.objs.size + 1)) (h' := s.heap.push PySem.W.emptyDict) (t' := s.toks) (fun b u q => Heap.get?_push_of_some _ q) (Nat.le_refl _) ⟨_,e1⟩
  refine I1.laid (a := s.heap.objs.size + 1) (o := .ins C s.heap.objs.size []) (t' := s.toks) (fun b u q => Heap.get?_push_of_some _ q) (Nat.le_of_eq (Heap.size_push _ _)) ?_
  have ne : s.heap.objs.size ≠ s.heap.objs.size + 1 := Nat.ne_of_lt (Nat.lt_succ_self _)
  refine ⟨by rw [upd_ne ne,upd_same],Nat.zero_le _,ne,e2,fun _ => none,(Heap.Ns1.of_empty e3).at fun o q => Heap.get?_push_of_some _ q,fun _ => True.intro,fun y hy => absurd rfl hy⟩
theorem attr_of {prog : Program} {w : World} {env : Env} {e : Expr} {f : Str} {pos : Pos} {s : Shared} {Q : Value → Shared → Prop} (hb : attributeBase e f env (eval e env) = eval e env)
    (h : wpAny (model prog w) A (eval e env) (fun o s₁ => wpAny (model prog w) A (getAttr o f true) Q E s₁) E s) : wpAny (model prog w) A (eval (.Attribute e f pos) env) Q E s :=
  Attribute_any_ h (by rw [arm_eval_Attribute,hb])
end
def tFld (K : PySem.W.Frag) (ta : TE) (f : Str) : TE := fun σ H Q => ta σ H fun x H1 => ∃ a C dx fs v,x = .ref a ∧ H1 a = some (.ins C dx fs) ∧ Cls K C ∧ NoAttr K C f ∧ fs.lookup f = some v ∧ Q v H1
def sFld (K : PySem.W.Frag) (ta tv : TE) (f : Str) : TS := fun D σ H => tv σ H fun y H1 => ta σ H1 fun x H2 => ∃ a C dx fs,x = .ref a ∧ H2 a = some (.ins C dx fs) ∧ Cls K C ∧ NoAttr K C f ∧ fs.length < 1000 ∧
  D.nx σ (upd H2 a (.ins C dx (putF f y fs)))
section
variable {X : Cx} {o e value : Expr} {f : Str} {pos pos' tpos : Pos} {ta tv : TE}
theorem pe_fld (he : PE X e ta) (hb : attributeBase e f X.env (eval e X.env) = eval e X.env) : PE X (.Attribute e f pos) (tFld X.K ta f) := by
  intro pins s σ H Q I h
  refine attr_of hb (thn (he pins s σ H _ I h) fun u s1 ⟨x,H1,I1,rx,a,C,dx,fs,v,ex,ea,c,n,l,q⟩ => ?_)
  subst ex
  obtain rfl : u = Value.ref a := rx
  exact getattr_ok I1 ea c n l fun u' s2 I2 ru => ⟨v,H1,I2,ru,q⟩
theorem ps_fld (ha : PE X o ta) (hv : PE X value tv) (hs : swapsWith value (some (.Attribute o f pos')) pos.line X.env = pure false) : PS X (.Assign [.Attribute o f pos'] value pos) (sFld X.K ta tv f) := by
  intro pins s σ H D I h
  refine plainObj_wpAny_Assign_Attribute (thn (hv pins s σ H _ I h) fun u s1 ⟨y,H1,I1,ry,q⟩ => thn (ha pins s1 σ H1 _ I1 q) fun ov s2 ⟨x,H2,I2,rx,a,C,dx,fs,ex,ea,c,n,l,q2⟩ => ?_) hs
  subst ex
  obtain rfl : ov = Value.ref a := rx
  exact setattr_ok I2 ea c n l ry fun s3 I3 => ⟨σ,_,I3,q2⟩
theorem methcall_of {pl : Sem Bool} {m : Str} {apos : Pos} {args : List Expr} {pins : List (Addr × Obj)} {s : Shared} {σ : St} {H : Hp} {Q : Value → Shared → Prop} {te : TE} (he : PE X e te) (I : Inv X pins σ H s)
    (h : te σ H fun x H1 => ∃ a C dx fs g,x = .ref a ∧ H1 a = some (.ins C dx fs) ∧ Cls X.K C ∧ Meth X.K C m g ∧ fs.lookup m = none ∧
      ∀ s1,Inv X pins σ H1 s1 → wpAny (model X.prog X.w) X.A (callWith pos (.ref g) [.ref a] (backTo pos (starEach args X.env)) (backToKw pos (keywordEach [] X.env))) Q X.xe s1)
    (ht : eval (.Call (.Attribute e m apos) args [] pos) X.env = (do
      let ov ← eval e X.env
      standAt apos.atName
      let (f,first) ← holding [ov] (getMethod ov m pl)
      callWith pos f first (backTo pos (starEach args X.env)) (backToKw pos (keywordEach [] X.env)))) :
    wpAny (model X.prog X.w) X.A (eval (.Call (.Attribute e m apos) args [] pos) X.env) Q X.xe s := by
  refine PySem.W.methodCall_KW (pl := pl) (thn (he pins s σ H _ I h) fun u s1 ⟨x,H1,I1,rx,a,C,dx,fs,g,ex,ea,c,k,l,q⟩ => ?_) ht
  subst ex
  obtain rfl : u = Value.ref a := rx
  exact getmeth_ok I1 ea c k l (q s1 I1)
end
section
variable {X : Cx} {pins : List (Addr × Obj)} {σ : St} {H : Hp} {s : Shared} {A : Around} {E : Value → Shared → Prop} {Q : Value → Shared → Prop} {c : Value} {b : Bool}
inductive TyOf (K : PySem.W.Frag) (H : Hp) : V → Value → Prop where
  | non : TyOf K H .non (.type "NoneType")
  | bl (x : Bool) : TyOf K H (.bl x) (.type "bool")
  | int (i : Int) : TyOf K H (.int i) (.type "int")
  | str (x : Str) : TyOf K H (.str x) (.type "str")
  | flt (x : UInt64) : TyOf K H (.flt x) (.type "float")
  | lst {a : Addr} {xs : List V} (e : H a = some (.lst xs)) : TyOf K H (.ref a) (.type "list")
  | frz {a : Addr} {o : Obj} {xs : List V} (e : H a = some (.frz o (.lst xs))) : TyOf K H (.ref a) (.type "list")
  | tup {a : Addr} {xs : List V} (e : H a = some (.tup xs)) : TyOf K H (.ref a) (.type "tuple")
  | dK {a : Addr} {kvs : List (Key × V)} (e : H a = some (.dK kvs)) : TyOf K H (.ref a) (.type "dict")
  | dT {a : Addr} {kvs : List (List Key × V)} (e : H a = some (.dT kvs)) : TyOf K H (.ref a) (.type "dict")
  | ins {a C dx : Addr} {fs : List (Str × V)} (e : H a = some (.ins C dx fs)) (cl : Cls K C) (ha : PySem.W.findIn K (.ref C) "__class__" = some (some (.builtin "object.__class__")))
      (hn : PySem.W.specialIn K (.builtin "object.__class__") "__get__" = some (some (.builtin "getset_descriptor.__get__"))) (htk : PySem.W.takesIn K (.builtin "object.__class__") = some true)
      (hm : PySem.W.mroIn K C (.type "object") = some true) : TyOf K H (.ref a) (.ref C)
theorem isinst_ok {x : V} {u t : Value} (I : Inv X pins σ H s) (rx : RelV x u) (ty : TyOf X.K H x t) (e : PySem.W.kitOne X.K t c = some b) (h : ∀ tk,Q (.bool b) { s with toks := tk }) :
    wpAny (model X.prog X.w) A (call (.builtin "isinstance") [u,c]) Q E s := by
  cases ty with
  | non => cases (show u = Value.none from rx); exact PySem.W.kia_one PySem.W.kitx_none I.kIn True.intro e (fun z => nomatch z) h
  | bl y => cases (show u = Value.bool y from rx); exact PySem.W.kia_one PySem.W.kitx_bool I.kIn True.intro e (fun z => nomatch z) h
  | int i => obtain ⟨t,q⟩ := (show ∃ t,u = Value.int i t from rx); cases q; exact PySem.W.kia_one PySem.W.kitx_int I.kIn True.intro e (fun z => nomatch z) h
  | str y => obtain ⟨t,q⟩ := (show ∃ t,u = Value.str y t from rx); cases q; exact PySem.W.kia_one PySem.W.kitx_str I.kIn True.intro e (fun z => nomatch z) h
  | flt y => obtain ⟨t,q⟩ := (show ∃ t,u = Value.float y t from rx); cases q; exact PySem.W.kia_one PySem.W.kitx_float I.kIn True.intro e (fun z => nomatch z) h
  | @lst a xs ea =>
    cases (show u = Value.ref a from rx)
    obtain ⟨_,_,n,_,h1⟩ := (show ObjOk X.prog X.w H s.heap a (.lst xs) from I.hok a _ ea)
    exact PySem.W.kia_one PySem.W.kitx_list I.kIn ⟨_,h1,rfl⟩ e (fun z => nomatch z) h
  | @frz a ob xs ea =>
    cases (show u = Value.ref a from rx)
    obtain ⟨_,_,_,n,_,h1⟩ := (show ObjOk X.prog X.w H s.heap a (.frz ob (.lst xs)) from I.hok a _ ea)
    exact PySem.W.kia_one PySem.W.kitx_list I.kIn ⟨_,h1,rfl⟩ e (fun z => nomatch z) h
  | @tup a xs ea =>
    cases (show u = Value.ref a from rx)
    obtain ⟨_,_,_,p⟩ := (show ObjOk X.prog X.w H s.heap a (.tup xs) from I.hok a _ ea)
    obtain ⟨o,h1,h2,_⟩ := p
    exact PySem.W.kia_one PySem.W.kitx_tuple I.kIn ⟨o,h1,h2⟩ e (fun z => nomatch z) h
  | @dK a kvs ea =>
    cases (show u = Value.ref a from rx)
    obtain ⟨_,_,vs,_,p⟩ := (show ObjOk X.prog X.w H s.heap a (.dK kvs) from I.hok a _ ea)
    obtain ⟨o,es,ep,h1,h2,_⟩ := p
    exact PySem.W.kia_one PySem.W.kitx_dict I.kIn ⟨o,h1,h2.1⟩ e (fun z => nomatch z) h
  | @dT a kvs ea =>
    cases (show u = Value.ref a from rx)
    obtain ⟨_,_,xs,_,o,es,ep,h1,h2,_⟩ := (show ObjOk X.prog X.w H s.heap a (.dT kvs) from I.hok a _ ea)
    exact PySem.W.kia_one PySem.W.kitx_dict I.kIn ⟨o,h1,h2.1⟩ e (fun z => nomatch z) h
  | @ins a C dx fs ea cl ha hn htk hm =>
    cases (show u = Value.ref a from rx)
    obtain ⟨mA,O,_⟩ := ins_get I.hok ea
    obtain ⟨od,J,_⟩ := O.look
    exact PySem.W.kia_one (PySem.W.kitx_own (cl.get _) cl.hd ha hn htk hm) I.kIn J e (fun z => nomatch z) h
end
end L2
namespace L2
open PySem PySem.Spec PyProof.Rows
structure Room (k : Nat) (A : Around) : Prop where
  hd : A.handled = none
  dp : A.depth + 3 * k + 5 < recursionLimit
  un : A.units + 16 * k + 200 < cLine
  gd : A.guards = some []
theorem Room.mono {j k : Nat} {A : Around} (r : Room k A) (h : j ≤ k) : Room j A := ⟨r.hd,by have := r.dp; omega,by have := r.un; omega,r.gd⟩
theorem Room.deeper {k : Nat} {A : Around} (r : Room (k + 1) A) (env : Env) : Room k (A.deeper env) :=
  ⟨r.hd,by have := r.dp; show A.depth + 1 + 3 * k + 5 < _; omega,by have := r.un; show A.units + 3 + 16 * k + 200 < _; omega,r.gd⟩
theorem make_depth {A : Around} {C : Addr} {us : List Value} {kw : List (Str × Value)} : (A.under (.builtin "type.__call__" ⟨.ref C :: us,kw⟩)).depth = A.depth + 1 := by
  first | rfl | simp [Around.under,Code.weight,Code.isCreation,Code.isGuard,Code.isCaller,Code.frames,Code.isFrame,guardIds]
theorem make_units {A : Around} {C : Addr} {us : List Value} {kw : List (Str × Value)} : (A.under (.builtin "type.__call__" ⟨.ref C :: us,kw⟩)).units = A.units + 1 := by
  first | rfl | simp [Around.under,Code.cUnits,Code.frames,Code.isFrame]
theorem make_guards {A : Around} {C : Addr} {us : List Value} {kw : List (Str × Value)} : (A.under (.builtin "type.__call__" ⟨.ref C :: us,kw⟩)).guards = A.guards := by
  have e : Code.guards (.builtin "type.__call__" ⟨.ref C :: us,kw⟩) = [] := by
    have : (Code.builtin "type.__call__" ⟨.ref C :: us,kw⟩).isGuard = false := by show guardIds.contains "type.__call__" = false; decide +kernel
    simp [Code.guards,this]
  unfold Around.under
  dsimp only
  rw [e]
  rfl
theorem Room.make {k : Nat} {A : Around} (r : Room (k + 1) A) (C : Addr) (us : List Value) (kw : List (Str × Value)) : Room k (A.under (.builtin "type.__call__" ⟨.ref C :: us,kw⟩)) :=
  ⟨r.hd,by have := r.dp; rw [make_depth]; omega,by have := r.un; rw [make_units]; omega,by rw [make_guards]; exact r.gd⟩
theorem Room.depth {k : Nat} {A : Around} (r : Room k A) : A.depth < recursionLimit := by have := r.dp; omega
theorem Room.units {k : Nat} {A : Around} (r : Room k A) : A.units + 64 < cLine := by have := r.un; omega
def tNil : TA := fun _ H Q => Q [] H
def tCons (ta : TE) (tr : TA) : TA := fun σ H Q => ta σ H fun x H1 => tr σ H1 fun xs H2 => Q (x :: xs) H2
section
variable {X : Cx} {e : Expr} {es : List Expr} {te : TE} {t : TA} {pos : Pos}
theorem pa_nil : PA X [] tNil := fun _ _ _ _ H Q I h => Calls.spliced_nil ⟨[],H,I,.nil,h⟩
theorem pa_cons (ha : PE X e te) (hr : PA X es t) (hs : starEach (e :: es) X.env = (false,eval e X.env) :: starEach es X.env := by rfl) : PA X (e :: es) (tCons te t) := by
  intro pos pins s σ H Q I h
  rw [hs]
  show wpAny _ _ (spliced ((false,eval e X.env) :: backTo pos (starEach es X.env))) _ _ s
  refine Calls.spliced_cons (thn (ha pins s σ H _ I h) fun u s1 ⟨x,H1,I1,r1,q1⟩ => ?_)
  exact thn (hr pos pins s1 σ H1 _ I1 q1) fun us s2 ⟨xs,H2,I2,r2,q2⟩ => ⟨x :: xs,H2,I2,.cons r1 r2,q2⟩
def tTup (t : TA) : TE := fun σ H Q => t σ H fun xs H1 => xs.length ≤ sizeLine ∧ ∀ p,H1 p = none → Q (.ref p) (upd H1 p (.tup xs))
def tLst (t : TA) : TE := fun σ H Q => t σ H fun xs H1 => xs.length ≤ sizeLine ∧ ∀ p,H1 p = none → Q (.ref p) (upd H1 p (.lst xs))
theorem pe_tup {x1} (h : PA X es t) : PE X (.Tuple es x1 pos) (tTup t) := by
  intro pins s σ H Q I hq
  refine wpAny_Tuple_spliced (thn (h pos pins s σ H _ I hq) fun us s1 ⟨xs,H1,I1,r,z,q⟩ => ⟨by rw [← r.length]; exact z,?_⟩)
  have hf : H1 s1.heap.objs.size = none := I1.hok.fresh (Nat.le_refl _)
  refine ⟨.ref s1.heap.objs.size,upd H1 s1.heap.objs.size (.tup xs),I1.laid (t' := s1.toks) (fun b u e => Heap.get?_push_of_some _ e) (Nat.le_refl _) ?_,rfl,q _ hf⟩
  exact ⟨z,us,r,⟨_,Heap.get?_push_size _ rfl,rfl,_,rfl⟩⟩
theorem pe_lst (h : PA X es t) : PE X (.List es pos) (tLst t) := by
  intro pins s σ H Q I hq
  refine wpAny_List_spliced (thn (h pos pins s σ H _ I hq) fun us s1 ⟨xs,H1,I1,r,z,q⟩ => ⟨by rw [← r.length]; exact z,?_⟩)
  have hf : H1 s1.heap.objs.size = none := I1.hok.fresh (Nat.le_refl _)
  refine ⟨.ref s1.heap.objs.size,upd H1 s1.heap.objs.size (.lst xs),I1.laid (t' := s1.toks) (fun b u e => Heap.get?_push_of_some _ e) (Nat.le_refl _) ?_,rfl,q _ hf⟩
  exact ⟨z,us,0,r,Heap.get?_push_size _ rfl⟩
end
abbrev Sp := List V → Hp → VK → XK → Prop
abbrev CXT := List Env → Hp → Shared → XK → Value → Shared → Prop
structure Env0 (P : Program) (w : World) (K : PySem.W.Frag) (mg : Str → Option Value) (base : Heap) (A : Around) (outer : List Env) (s : Shared) (H : Hp) : Prop where
  frames : A.frames = some outer
  mod : Mod K mg base
  bs : ∀ b o,base.get? b = some o → s.heap.get? b = some o ∧ H b = none
  bsz : base.objs.size ≤ s.heap.objs.size
  funs : s.heap.FunFrames base outer
  frf : ∀ b ∈ frs outer,H b = none
  hok : HOk P w H s.heap
  bare : AllBare s.gens
def CE (outer : List Env) (P : Program) (w : World) (H : Hp) (s : Shared) (Q : VK) (u : Value) (s' : Shared) : Prop :=
  ∃ v H',s'.os = s.os ∧ AllBare s'.gens ∧ Un (frs outer) [] H H' s.heap s'.heap ∧ HOk P w H' s'.heap ∧ RelV v u ∧ Q v H'
def CR (CX : CXT) (outer : List Env) (P : Program) (w : World) (H : Hp) (s : Shared) (Q : VK) (E : XK) (r : Result) (s' : Shared) : Prop :=
  match r with
  | .ok (.ret u) => CE outer P w H s Q u s'
  | .ok _ => False
  | .error e => CX outer H s E e s'
structure FnOk (P : Program) (w : World) (K : PySem.W.Frag) (mg : Str → Option Value) (base : Heap) (CX : CXT) (k : Nat) (f : Addr) (fd : FuncData) (ps : List Str) (sp : Sp) : Prop where
  len : ∀ vs H Q E,sp vs H Q E → vs.length = ps.length
  run : ∀ (A : Around) (outer : List Env) (s : Shared) (H : Hp) (args : Args) (us : List Value) (vs : List V) (Q : VK) (E : XK),Room k A → Env0 P w K mg base A outer s H → BindsTo s fd args (ps.zip us) → Vals vs us → sp vs H Q E →
    codeAny (model P w) A (.call (.ref f) args) (CR CX outer P w H s Q E) s
theorem Env0.make {P : Program} {w : World} {K : PySem.W.Frag} {mg : Str → Option Value} {base : Heap} {A : Around} {outer : List Env} {s : Shared} {H : Hp} (e : Env0 P w K mg base A outer s H) (C : Addr) (us : List Value) (kw : List (Str × Value)) :
    Env0 P w K mg base (A.under (.builtin "type.__call__" ⟨.ref C :: us,kw⟩)) outer s H := ⟨by first | exact e.frames | (simpa [Around.under,Code.envs,Code.isFrame,pushEnvs] using e.frames),e.mod,e.bs,e.bsz,e.funs,e.frf,e.hok,e.bare⟩
section
variable {X : Cx} {pins : List (Addr × Obj)} {σ : St} {H : Hp} {s s' : Shared}
theorem Inv.env0 (I : Inv X pins σ H s) : Env0 X.prog X.w X.K X.mg X.base X.A X.stack s H :=
  ⟨I.ok.frames,I.ok.mod,I.bs,Nat.le_trans I.ok.bsz I.sz,I.stack,I.stkFree,I.hok,I.bare⟩
theorem Inv.after {Q : VK} {u : Value} (I : Inv X pins σ H s) (h : CE X.stack X.prog X.w H s Q u s') : EP X pins σ Q u s' := by
  obtain ⟨v,H',os,bare,un,hok,r,q⟩ := h
  obtain ⟨hh,g,d,t,os'⟩ := s'
  obtain rfl : os' = s.os := os
  exact ⟨v,H',I.call (h' := hh) (g' := g) (d' := d) (t' := t) (ch := []) un hok bare (fun b z => absurd z (by simp)),r,q⟩
end
def tCall (sp : Sp) (dvs : List V) (E : XK) (t : TA) : TE := fun σ H Q => t σ H fun vs H1 => sp (vs ++ dvs) H1 Q E
def tMeth (C : Addr) (m : Str) (sp : Sp) (dvs : List V) (E : XK) (ta : TE) (t : TA) : TE := fun σ H Q => ta σ H fun x H1 => ∃ a dx fs,x = .ref a ∧ H1 a = some (.ins C dx fs) ∧ fs.lookup m = none ∧
  t σ H1 fun vs H2 => sp (x :: (vs ++ dvs)) H2 Q E
def tMake (C : Addr) (sp : Sp) (dvs : List V) (E : XK) (t : TA) : TE := fun σ H Q => t σ H fun vs H1 => ∀ x dx,H1 x = none → H1 dx = none → dx ≠ x →
  sp (.ref x :: (vs ++ dvs)) (upd (upd H1 dx (.own x)) x (.ins C dx [])) (fun v H2 => v = .non ∧ Q (.ref x) H2) E
def Binds (K : PySem.W.Frag) (fd : FuncData) (ps : List Str) (ds : List Value) : Prop :=
  ∀ (s : Shared) (us : List Value),K.In s.heap → (us ++ ds).length = ps.length → BindsTo s fd ⟨us,[]⟩ (ps.zip (us ++ ds))
theorem Binds.all {K : PySem.W.Frag} {fd : FuncData} {ps : List Str} (h : ∀ us : List Value,us.length = ps.length → bindArgs fd ⟨us,[]⟩ = pure (ps.zip us)) : Binds K fd ps [] := fun s us _ hl => by
  rw [List.append_nil] at hl ⊢
  exact .of_eq (h us hl)
def Passes (CX : CXT) (X : Cx) (E : XK) : Prop := ∀ (pins : List (Addr × Obj)) (σ : St) (H : Hp) (s : Shared) (e : Value) (s' : Shared),Inv X pins σ H s → CX X.stack H s E e s' → X.xe e s'
section
variable {X : Cx} {CX : CXT} {k : Nat} {f C : Addr} {fd : FuncData} {ps : List Str} {sp : Sp} {dvs : List V} {ds : List Value} {E : XK} {x m : Str} {p pos apos : Pos} {e o : Expr} {es : List Expr} {ta : TE} {t : TA}
theorem run_fn {pins : List (Addr × Obj)} {σ : St} {H : Hp} {s : Shared} {Q : VK} {us : List Value} {vs : List V} (F : FnOk X.prog X.w X.K X.mg X.base CX k f fd ps sp) (hr : Room k X.A) (hb : Binds X.K fd ps ds) (hd : Vals dvs ds) (hx : Passes CX X E)
    (I : Inv X pins σ H s) (r : Vals vs us) (h : sp (vs ++ dvs) H Q E) : wpAny (model X.prog X.w) X.A (call (.ref f) us) (EP X pins σ Q) X.xe s := by
  have r2 : Vals (vs ++ dvs) (us ++ ds) := r.append hd
  have hl : (us ++ ds).length = ps.length := by rw [← r2.length]; exact F.len _ _ _ _ h
  refine wpAny_call (codeAny_mono (F.run X.A X.stack s H ⟨us,[]⟩ (us ++ ds) (vs ++ dvs) Q E hr I.env0 (hb s us I.kIn hl) r2 h) fun r s' hq => ?_)
  cases r with
  | error e => exact hx pins σ H s e s' I hq
  | ok fl =>
    cases fl with
    | ret u => exact I.after hq
    | next => exact False.elim hq
    | brk => exact False.elim hq
    | cont => exact False.elim hq
theorem pe_call (F : FnOk X.prog X.w X.K X.mg X.base CX k f fd ps sp) (hr : Room k X.A) (hg : Gl X x) (hm : X.mg x = some (.ref f)) (hk : PySem.W.keepIn X.K (.ref f) = true) (hb : Binds X.K fd ps ds) (hd : Vals dvs ds) (hx : Passes CX X E)
    (ha : PA X (e :: es) t) (hdb : (x == ("__debug__" : Str)) = false := by decide) (he : starEach (e :: es) X.env = (false,eval e X.env) :: starEach es X.env := by rfl) (hpl : (backTo pos (starEach es X.env)).any (·.1) = false := by rfl) :
    PE X (.Call (.Name x p) (e :: es) [] pos) (tCall sp dvs E t) := by
  intro pins s σ H Q I h
  refine wpAny_Call_Name_kw (ld_glob I hg hm ?_ hdb)
  refine PySem.W.callWith_K (h₀ := X.base) I.ok.mod.kin hk (thn (ha pos pins s σ H _ I h) fun us s1 ⟨vs,H1,I1,r,q⟩ => ⟨I1.kIn,?_⟩) he hpl
  exact run_fn F hr hb hd hx I1 r q
theorem pe_meth {pl : Sem Bool} (he : PE X o ta) (c : Cls X.K C) (hm : Meth X.K C m f) (F : FnOk X.prog X.w X.K X.mg X.base CX k f fd ps sp) (hr : Room k X.A) (hb : Binds X.K fd ps ds) (hd : Vals dvs ds) (hx : Passes CX X E) (ha : PA X (e :: es) t)
    (hst : starEach (e :: es) X.env = (false,eval e X.env) :: starEach es X.env := by rfl) (hpl : (backTo pos (starEach es X.env)).any (·.1) = false := by rfl)
    (ht : eval (.Call (.Attribute o m apos) (e :: es) [] pos) X.env = (do
      let ov ← eval o X.env
      standAt apos.atName
      let (f,first) ← holding [ov] (getMethod ov m pl)
      callWith pos f first (backTo pos (starEach (e :: es) X.env)) (backToKw pos (keywordEach [] X.env))) := by rfl) :
    PE X (.Call (.Attribute o m apos) (e :: es) [] pos) (tMeth C m sp dvs E ta t) := by
  intro pins s σ H Q I h
  refine PySem.W.methodCall_KW (pl := pl) (thn (he pins s σ H _ I h) fun u s1 ⟨x,H1,I1,rx,a,dx,fs,ex,ea,l,q⟩ => ?_) ht
  subst ex
  obtain rfl : u = Value.ref a := rx
  refine getmeth_ok I1 ea c hm l ?_
  refine PySem.W.callWith_K (first := [.ref a]) (h₀ := X.base) I.ok.mod.kin hm.kp (thn (ha pos pins s1 σ H1 _ I1 q) fun us s2 ⟨vs,H2,I2,r,q2⟩ => ⟨I2.kIn,?_⟩) hst hpl
  exact run_fn (us := .ref a :: us) (vs := .ref a :: vs) F hr hb hd hx I2 (.cons rfl r) q2
theorem pe_meth0 {pl : Sem Bool} (he : PE X o ta) (c : Cls X.K C) (hm : Meth X.K C m f) (F : FnOk X.prog X.w X.K X.mg X.base CX k f fd ps sp) (hr : Room k X.A) (hb : Binds X.K fd ps ds) (hd : Vals dvs ds) (hx : Passes CX X E)
    (ht : eval (.Call (.Attribute o m apos) [] [] pos) X.env = (do
      let ov ← eval o X.env
      standAt apos.atName
      let (f,first) ← holding [ov] (getMethod ov m pl)
      callWith pos f first (backTo pos (starEach [] X.env)) (backToKw pos (keywordEach [] X.env))) := by rfl) :
    PE X (.Call (.Attribute o m apos) [] [] pos) (tMeth C m sp dvs E ta tNil) := by
  intro pins s σ H Q I h
  refine PySem.W.methodCall_KW (pl := pl) (thn (he pins s σ H _ I h) fun u s1 ⟨x,H1,I1,rx,a,dx,fs,ex,ea,l,q⟩ => ?_) ht
  subst ex
  obtain rfl : u = Value.ref a := rx
  refine getmeth_ok I1 ea c hm l ?_
  exact PySem.W.callWith_K0 (first := [.ref a]) I1.kIn hm.kp (run_fn (us := [.ref a]) (vs := [.ref a]) F hr hb hd hx I1 (.cons rfl .nil) q)
structure Mk (K : PySem.W.Frag) (C f : Addr) : Prop where
  makes : PySem.W.makesIn K C = true
  init : PySem.W.findIn K (.ref C) "__init__" = some (some (.ref f))
  fn : PySem.W.isFn K (.ref f) = true
  kp : PySem.W.keepIn K (.ref C) = true
theorem run_make {pins : List (Addr × Obj)} {σ : St} {H : Hp} {s : Shared} {Q : VK} {us : List Value} {vs : List V} (M : Mk X.K C f) (F : FnOk X.prog X.w X.K X.mg X.base CX k f fd ps sp) (hr : Room (k + 1) X.A) (hb : Binds X.K fd ps ds) (hd : Vals dvs ds)
    (hx : Passes CX X E) (I : Inv X pins σ H s) (r : Vals vs us)
    (h : ∀ x dx,H x = none → H dx = none → dx ≠ x → sp (.ref x :: (vs ++ dvs)) (upd (upd H dx (.own x)) x (.ins C dx [])) (fun v H2 => v = .non ∧ Q (.ref x) H2) E) :
    wpAny (model X.prog X.w) X.A (call (.ref C) us) (EP X pins σ Q) X.xe s := by
  have hq := h (s.heap.objs.size + 1) s.heap.objs.size (I.hok.fresh (Nat.le_succ _)) (I.hok.fresh (Nat.le_refl _)) (Nat.ne_of_lt (Nat.lt_succ_self _))
  have I2 := Inv.made (C := C) I
  have r2 : Vals (V.ref (s.heap.objs.size + 1) :: (vs ++ dvs)) (Value.ref (s.heap.objs.size + 1) :: (us ++ ds)) := .cons rfl (r.append hd)
  have hl : (Value.ref (s.heap.objs.size + 1) :: us ++ ds).length = ps.length := by
    have e := r2.length
    rw [F.len _ _ _ _ hq] at e
    exact e.symm
  refine wpAny_call (make_map (f := f) I.kIn M.makes M.init (beq_iff_eq.mp M.fn) (codeAny_mono (F.run _ X.stack _ _ ⟨Value.ref (s.heap.objs.size + 1) :: us,[]⟩ (Value.ref (s.heap.objs.size + 1) :: (us ++ ds)) _ _ E (hr.make C us [])
    (I2.env0.make C us []) (hb _ (Value.ref (s.heap.objs.size + 1) :: us) I2.kIn hl) r2 hq) fun r s' hq' => ?_))
  cases r with
  | error e => exact hx pins σ _ _ e s' I2 hq'
  | ok fl =>
    cases fl with
    | ret u =>
      obtain ⟨v,H',I3,rv,ev,q3⟩ := I2.after hq'
      subst ev
      exact ⟨rv,⟨V.ref (s.heap.objs.size + 1),H',I3,rfl,q3⟩⟩
    | next => exact False.elim hq'
    | brk => exact False.elim hq'
    | cont => exact False.elim hq'
theorem pe_make (M : Mk X.K C f) (F : FnOk X.prog X.w X.K X.mg X.base CX k f fd ps sp) (hr : Room (k + 1) X.A) (hg : Gl X x) (hm : X.mg x = some (.ref C)) (hb : Binds X.K fd ps ds) (hd : Vals dvs ds) (hx : Passes CX X E)
    (ha : PA X (e :: es) t) (hdb : (x == ("__debug__" : Str)) = false := by decide) (he : starEach (e :: es) X.env = (false,eval e X.env) :: starEach es X.env := by rfl) (hpl : (backTo pos (starEach es X.env)).any (·.1) = false := by rfl) :
    PE X (.Call (.Name x p) (e :: es) [] pos) (tMake C sp dvs E t) := by
  intro pins s σ H Q I h
  refine wpAny_Call_Name_kw (ld_glob I hg hm ?_ hdb)
  refine PySem.W.callWith_K (h₀ := X.base) I.ok.mod.kin M.kp (thn (ha pos pins s σ H _ I h) fun us s1 ⟨vs,H1,I1,r,q⟩ => ⟨I1.kIn,?_⟩) he hpl
  exact run_make M F hr hb hd hx I1 r q
end
section
variable {X : Cx} {CX : CXT} {k : Nat} {f C : Addr} {fd : FuncData} {ps ks : List Str} {sp : Sp} {E : XK} {x m : Str} {p pos apos kpos : Pos} {e o : Expr} {es : List Expr} {kws : List Keyword} {te ta : TE} {t tk : TA} {nm : Option Str}
structure KBinds (K : PySem.W.Frag) (fd : FuncData) (ps ks : List Str) (g : List Value → List Value → List Value) (gV : List V → List V → List V) : Prop where
  to : ∀ (s : Shared) (us ws : List Value),K.In s.heap → (g us ws).length = ps.length → BindsTo s fd ⟨us,ks.zip ws⟩ (ps.zip (g us ws))
  rel : ∀ {vs : List V} {us : List Value} {zs : List V} {ws : List Value},Vals vs us → Vals zs ws → Vals (gV vs zs) (g us ws)
variable {g : List Value → List Value → List Value} {gV : List V → List V → List V}
end
structure FnScope (N P : List Str) (sc : Scope) : Prop where
  kind : sc.kind = .function
  co : sc.isCoroutine = false
  gen : sc.isGenerator = false
  nd : N.Nodup
  pre : N.take P.length = P
  par : ∀ x ∈ P,sc.names.lookup x = some .local ∨ sc.names.lookup x = some .cell
  nofree : ∀ y ∈ sc.names,y.2 ≠ .free
theorem bindL_out {kindOf : Str → Option NameKind} {x : Str} : ∀ {binds : List (Str × Value)} {m : Str → Option Value},(∀ v,(x,v) ∉ binds) → bindL kindOf binds m x = m x
  | [],_,_ => rfl
  | (n,v) :: r,m,h => by
    unfold bindL
    rw [bindL_out fun w hw => h w (List.mem_cons_of_mem _ hw)]
    split
    · have : x ≠ n := by rintro rfl; exact h v List.mem_cons_self
      simp [this]
    · rfl
theorem bindC_out {kindOf : Str → Option NameKind} {x : Str} : ∀ {binds : List (Str × Value)} {m : Str → Option Value},(∀ v,(x,v) ∉ binds) → bindC kindOf binds m x = m x
  | [],_,_ => rfl
  | (n,v) :: r,m,h => by
    unfold bindC
    rw [bindC_out fun w hw => h w (List.mem_cons_of_mem _ hw)]
    split
    · rfl
    · have : x ≠ n := by rintro rfl; exact h v List.mem_cons_self
      simp [this]
theorem bindL_get {kindOf : Str → Option NameKind} {x : Str} {v : Value} : ∀ {P : List Str} {vs : List Value} {i : Nat} {m : Str → Option Value},P.Nodup → P[i]? = some x → vs[i]? = some v → kindOf x = some .local →
    bindL kindOf (P.zip vs) m x = some v
  | [],_,_,_,_,h,_,_ => by simp at h
  | _ :: _,[],_,_,_,_,h,_ => by simp at h
  | p :: P,w :: vs,0,m,nd,h1,h2,hk => by
    simp at h1 h2; subst h1; subst h2
    show bindL kindOf ((p,w) :: P.zip vs) m p = _
    unfold bindL
    rw [bindL_out fun v hv => (List.nodup_cons.mp nd).1 (List.of_mem_zip hv).1,if_pos hk]
    simp
  | p :: P,w :: vs,i + 1,m,nd,h1,h2,hk => by
    show bindL kindOf ((p,w) :: P.zip vs) m x = _
    unfold bindL
    exact bindL_get (i := i) (List.nodup_cons.mp nd).2 (by simpa using h1) (by simpa using h2) hk
theorem bindC_get {kindOf : Str → Option NameKind} {x : Str} {v : Value} : ∀ {P : List Str} {vs : List Value} {i : Nat} {m : Str → Option Value},P.Nodup → P[i]? = some x → vs[i]? = some v → kindOf x ≠ some .local →
    bindC kindOf (P.zip vs) m x = some v
  | [],_,_,_,_,h,_,_ => by simp at h
  | _ :: _,[],_,_,_,_,h,_ => by simp at h
  | p :: P,w :: vs,0,m,nd,h1,h2,hk => by
    simp at h1 h2; subst h1; subst h2
    show bindC kindOf ((p,w) :: P.zip vs) m p = _
    unfold bindC
    rw [bindC_out fun v hv => (List.nodup_cons.mp nd).1 (List.of_mem_zip hv).1,if_neg hk]
    simp
  | p :: P,w :: vs,i + 1,m,nd,h1,h2,hk => by
    show bindC kindOf ((p,w) :: P.zip vs) m x = _
    unfold bindC
    exact bindC_get (i := i) (List.nodup_cons.mp nd).2 (by simpa using h1) (by simpa using h2) hk
def start (N : List Str) (vs : List V) : St := vs.map some ++ List.replicate (N.length - vs.length) none
def cxOf (CX : CXT) (P : Program) (w : World) (K : PySem.W.Frag) (mg : Str → Option Value) (base : Heap) (N : List Str) (qual : Str) (scope : Scope) (f : Addr) (cd : Value) (A : Around) (outer : List Env) (s : Shared) (H : Hp) (E : XK) : Cx where
  prog := P
  w := w
  K := K
  mg := mg
  base := base
  A := A.deeper (envOfC qual scope s.heap.objs.size f cd)
  N := N
  s₀ := s
  H₀ := H
  env := envOfC qual scope s.heap.objs.size f cd
  outer := outer
  stack := envOfC qual scope s.heap.objs.size f cd :: outer
  ex := []
  calm := true
  fn := fun _ => true
  pn := []
  xe := fun e s' => wpAny (model P w) (A.deeper (envOfC qual scope s.heap.objs.size f cd)) (leaving (envOfC qual scope s.heap.objs.size f cd) e) (fun _ s'' => CX outer H s E e s'') (fun e' s'' => CX outer H s E e' s'') s'
theorem cell_has {sc : Scope} {n : Nat} {x : Str} (h : sc.names.lookup x = some .cell) : ∃ c,(cellsFrom n sc.names []).lookup x = some c := by
  have q := PySem.W.cellsFrom_some sc.names n [] (.inl h)
  exact Option.isSome_iff_exists.mp q
theorem inv_start {CX : CXT} {P : Program} {w : World} {K : PySem.W.Frag} {mg : Str → Option Value} {base : Heap} {N ps : List Str} {qual : Str} {scope : Scope} {f : Addr} {cd : Value} {A : Around} {outer : List Env} {s s1 : Shared} {H : Hp} {E : XK} {us : List Value} {vs : List V}
    (S : FnScope N ps scope) (hd : A.handled = none) (e0 : Env0 P w K mg base A outer s H) (hl : vs.length = ps.length) (r : Vals vs us)
    (x : InCallC s s.heap.objs.size (bindL (envOfC qual scope s.heap.objs.size f cd).kindOf (ps.zip us) fun _ => none) (cellsFrom (s.heap.objs.size + 1) scope.names []) (bindC (envOfC qual scope s.heap.objs.size f cd).kindOf (ps.zip us) fun _ => none) s1) :
    Inv (cxOf CX P w K mg base N qual scope f cd A outer s H E) [] (start N vs) H s1 := by
  have hpl : ps.length ≤ N.length := by have := congrArg List.length S.pre; rw [List.length_take] at this; omega
  obtain ⟨h1,tk,rfl,hk⟩ := x.done
  have noA : ∀ b : Addr,b ∉ (cxOf CX P w K mg base N qual scope f cd A outer s H E).ex := fun b z => absurd (show b ∈ ([] : List Addr) from z) (by simp)
  refine ⟨⟨e0.mod,S.kind,rfl,rfl,Nat.le_refl _,fun y z c h1 h2 => ?_,fun y hy => ?_,fun y c _ h => ?_,fun _ => hd,Around.frames_deeper e0.frames,.inr ⟨rfl,rfl⟩,fun b z => absurd z (noA b),e0.bs,e0.bsz,fun b _ _ => noA b,fun b z => absurd z (noA b),e0.funs,e0.frf⟩,
    rfl,e0.bare,Un.kept hk,⟨_,x.toInCall.ns,fun i y v h1 h2 h3 => ?_⟩,fun y c h => ⟨_,x.cell y c h⟩,e0.hok.fresh (Nat.le_refl _),fun y c h => ?_,fun p hp => absurd (show p ∈ ([] : List (Addr × Obj)) from hp) (by simp),e0.hok.kept hk,?_⟩
  · exact name_of_addr x.apart (PySem.mem_of_lookup h1) (PySem.mem_of_lookup h2)
  · have hy : scope.names.lookup y = some .cell ∨ scope.names.lookup y = some .free := hy
    rcases hy with hy | hy
    · exact cell_has hy
    · exact absurd rfl (S.nofree _ (PySem.mem_of_lookup hy))
  · exact Nat.le_of_lt (x.above y c (PySem.mem_of_lookup h))
  · have hi : i < vs.length := by
      unfold start at h2
      by_cases hi : i < vs.length
      · exact hi
      · rw [List.getElem?_append_right (by simpa using hi)] at h2
        rw [List.getElem?_replicate] at h2
        split at h2 <;> cases h2
    have ha : vs[i]? = some v := by
      unfold start at h2
      rw [List.getElem?_append_left (by simpa using hi),List.getElem?_map] at h2
      cases e : vs[i]? with
      | none => rw [e] at h2; cases h2
      | some a => rw [e] at h2; cases h2; rfl
    obtain ⟨u,hu,rv⟩ := r.get ha
    have hp : ps[i]? = some y := by
      rw [← S.pre,List.getElem?_take_of_lt (by omega)]; exact h1
    have ndP : ps.Nodup := by rw [← S.pre]; exact S.nd.sublist (List.take_sublist _ _)
    refine ⟨u,rv,?_⟩
    rcases S.par y (List.mem_of_getElem? hp) with k | k
    · exact .inl ⟨k,bindL_get ndP hp hu k⟩
    · obtain ⟨c,e⟩ := cell_has (n := s.heap.objs.size + 1) k
      refine .inr ⟨.inl k,c,e,?_⟩
      have q := x.cell y c e
      rw [bindC_get ndP hp hu (by show scope.names.lookup y ≠ _; rw [k]; decide)] at q
      exact q
  · exact e0.hok.fresh (Nat.le_of_lt (x.above y c (PySem.mem_of_lookup h)))
  · unfold start
    show _ = N.length
    rw [List.length_append,List.length_map,List.length_replicate]
    omega
theorem fn_of {CX : CXT} {P : Program} {w : World} {K : PySem.W.Frag} {mg : Str → Option Value} {base : Heap} {k : Nat} {f : Addr} {name qual : Str} {params : Arguments} {body : List Stmt} {scope : Scope} {dV kV doc pm cdv ct oc : Value} {an od : Option Addr}
    {osl : Array (Option Value)} {N ps : List Str} {sp : Sp} (lk : K.lookup f = some ⟨oc,od,.func (PySem.W.fnOf name qual params body scope dV kV doc pm an cdv ct),osl⟩) (hcd : PySem.W.codeIn K cdv qual = true) (S : FnScope N ps scope)
    (len : ∀ vs H Q E,sp vs H Q E → vs.length = ps.length)
    (hbody : ∀ (A : Around) (outer : List Env) (s : Shared) (H : Hp) (vs : List V) (Q : VK) (E : XK),Room k (A.deeper (envOfC qual scope s.heap.objs.size f cdv)) → sp vs H Q E →
      ∃ t,PSs (cxOf CX P w K mg base N qual scope f cdv A outer s H E) body t ∧ t { nx := fun _ H' => Q .non H',rt := Q } (start N vs) H) :
    FnOk P w K mg base CX (k + 1) f (PySem.W.fnOf name qual params body scope dV kV doc pm an cdv ct) ps sp := by
  refine ⟨len,fun A outer s H args us vs Q E hr e0 hb r hsp => ?_⟩
  have hl := len _ _ _ _ hsp
  have KX : K.In s.heap := e0.mod.kin.keeps fun b o e => (e0.bs b o e).1
  have lim : s.heap.NoLimit := e0.mod.nolimit.keeps fun b o e => (e0.bs b o e).1
  have hkind : ∀ y ∈ ps.zip us,scope.names.lookup y.1 = some .local ∨ (scope.names.lookup y.1 = some .cell ∧ ((cellsFrom (s.heap.objs.size + 1) scope.names []).lookup y.1).isSome = true) := fun ⟨n,v⟩ hy => by
    rcases S.par n (List.of_mem_zip hy).1 with q | q
    · exact .inl q
    · exact .inr ⟨q,PySem.W.cellsFrom_some _ _ _ (.inl q)⟩
  refine codeAny_call_function hr.depth (KX _ _ lk) rfl S.co S.gen rfl (PySem.W.codeRec_of KX hcd) (hb _ _ _ _ ?_)
  refine wpAny_newFunctionEnv_cells S.kind hkind fun env he s1 x => ?_
  subst he
  refine ⟨lim.keeps x.toInCall.keep,codeAny_func ?_⟩
  obtain ⟨t,ht,hq⟩ := hbody A outer s H vs Q E (hr.deeper _) hsp
  have I : Inv (cxOf CX P w K mg base N qual scope f cdv A outer s H E) [] (start N vs) H s1 := inv_start S hr.hd e0 hl r x
  refine wpAny_mono (ht [] s1 (start N vs) H _ I hq) (fun fl s' hs => ?_) fun e s' hs => hs
  have fin : ∀ {σ' : St} {H' : Hp} {v : V} {u : Value},Inv (cxOf CX P w K mg base N qual scope f cdv A outer s H E) [] σ' H' s' → RelV v u → Q v H' → CE outer P w H s Q u s' :=
    fun {σ' H' v u} J rv q => ⟨v,H',J.os,J.bare,J.base,J.hok,rv,q⟩
  cases fl with
  | ret u =>
    obtain ⟨v,σ',H',J,rv,q⟩ := hs
    exact fin J rv q
  | next =>
    obtain ⟨σ',H',J,q⟩ := hs
    exact fin (v := V.non) (u := Value.none) J rfl q
  | brk =>
    obtain ⟨_,_,_,q⟩ := hs
    exact False.elim q
  | cont =>
    obtain ⟨_,_,_,q⟩ := hs
    exact False.elim q
end L2
namespace L2
open PySem PySem.Spec PyProof.Rows
section
variable {X : Cx} {x : Str} {p pos : Pos} {e : Expr} {es : List Expr} {t : TA} {id T : String} {r : List V → Hp → VK → Prop}
def tCB (r : List V → Hp → VK → Prop) (t : TA) : TE := fun σ H Q => t σ H fun vs H1 => r vs H1 Q
theorem pe_callB (hc : CallR X (.builtin id) r) (hg : Gl X x) (hm : X.mg x = none) (hv : bootBuiltins x = some (.builtin id)) (ha : PA X (e :: es) t) (hn : x ≠ "__name__" := by decide) (hdb : (x == ("__debug__" : Str)) = false := by decide)
    (he : starEach (e :: es) X.env = (false,eval e X.env) :: starEach es X.env := by rfl) (hpl : (backTo pos (starEach es X.env)).any (·.1) = false := by rfl) : PE X (.Call (.Name x p) (e :: es) [] pos) (tCB r t) := by
  intro pins s σ H Q I h
  refine wpAny_Call_Name_kw (ld_blt I hg hm hv ?_ hn hdb)
  exact PyProof.Rows.callWith_builtin1 (thn (ha pos pins s σ H _ I h) fun us s1 ⟨vs,H1,I1,r1,q1⟩ => hc pins s1 σ H1 vs us Q I1 r1 q1) he hpl
theorem pe_callTy (hc : CallR X (.type T) r) (hg : Gl X x) (hm : X.mg x = none) (hv : bootBuiltins x = some (.type T)) (ha : PA X (e :: es) t) (hn : x ≠ "__name__" := by decide) (hdb : (x == ("__debug__" : Str)) = false := by decide)
    (he : starEach (e :: es) X.env = (false,eval e X.env) :: starEach es X.env := by rfl) (hpl : (backTo pos (starEach es X.env)).any (·.1) = false := by rfl) : PE X (.Call (.Name x p) (e :: es) [] pos) (tCB r t) := by
  intro pins s σ H Q I h
  refine wpAny_Call_Name_kw (ld_blt I hg hm hv ?_ hn hdb)
  exact PyProof.Rows.callWith_type1 (thn (ha pos pins s σ H _ I h) fun us s1 ⟨vs,H1,I1,r1,q1⟩ => hc pins s1 σ H1 vs us Q I1 r1 q1) he hpl
end
end L2
namespace HT
open PySem PyProof.Rows
section
open PySem.SeqAt
open PySem.AutoSeq1 (wpAny_loadPart')
open PySem.MeetsSeq PySem.MeetsSeq2 PySem.MeetsSeq3
end
section
variable {prog : Program} {w : World} {A : Around} {E : Value → Shared → Prop} {s : Shared}
theorem cat_tup {t b : Addr} {vs ws : List Value} {Q : Value → Shared → Prop} (ht : IsTup s.heap t vs.toArray) (hb : IsTup s.heap b ws.toArray) (hv : vs ≠ [])
    (h1 : ws = [] → Q (.ref t) s) (h2 : ws ≠ [] → Q (.ref s.heap.objs.size) { s with heap := s.heap.push { cls := .type "tuple",data := .seq (vs ++ ws).toArray } })
    (hsz : vs.length + ws.length ≤ sizeLine) : wpAny (model prog w) A (binaryOp .Add (.ref t) (.ref b)) Q E s := by
  obtain ⟨⟨cls,dd,data,sl⟩,ho,hc,n,hd⟩ := id ht
  obtain ⟨⟨cls2,dd2,data2,sl2⟩,ho2,hc2,n2,hd2⟩ := id hb
  simp only at hc hd hc2 hd2
  subst hc hd hc2 hd2
  have e : vs.toArray ++ ws.toArray = (vs ++ ws).toArray := by simp
  by_cases hw : ws = []
  · exact concat_meets ⟨_,ho,rfl⟩ ⟨_,ho2,rfl⟩ noFill_tuple_add seq_tuple_add PySem.F.slot_tuple_add PySem.F.entry_tuple_add (PySem.F.args_tuple_add_2 _ _)
      (tuple_addW1 t b vs.toArray ws.toArray n n2 dd dd2 sl sl2 (by simpa using hv) (by simp [hw])) ⟨ho,ho2,h1 hw⟩
  · refine concat_meets ⟨_,ho,rfl⟩ ⟨_,ho2,rfl⟩ noFill_tuple_add seq_tuple_add PySem.F.slot_tuple_add PySem.F.entry_tuple_add (PySem.F.args_tuple_add_2 _ _)
      (tuple_addW2 t b vs.toArray ws.toArray n n2 dd dd2 sl sl2 (by simpa using hv) (by simpa using hw) (by rw [List.size_toArray,List.size_toArray]; exact hsz)) ⟨ho,ho2,?_⟩
    rw [e]
    exact h2 hw
def sIx (n d : Nat) : Option Int → Nat
  | none => d
  | some v => if v < 0 then (v + (n : Int)).toNat else min v.toNat n
theorem sIx_le (n d : Nat) (hd : d ≤ n) (o : Option Int) : sIx n d o ≤ n := by
  cases o with
  | none => exact hd
  | some v =>
    show (if v < 0 then (v + (n : Int)).toNat else min v.toNat n) ≤ n
    by_cases hv : v < 0
    · rw [if_pos hv]; omega
    · rw [if_neg hv]; exact Nat.min_le_right _ _
theorem clip_eq (v : Int) (n d : Nat) : (if v < 0 then max (v + (n : Int)) 0 else min v (n : Int)) = ((sIx n d (some v) : Nat) : Int) := by
  show (if v < 0 then max (v + (n : Int)) 0 else min v (n : Int)) = (((if v < 0 then (v + (n : Int)).toNat else min v.toNat n) : Nat) : Int)
  by_cases hv : v < 0
  · simp only [if_pos hv]; omega
  · simp only [if_neg hv]; omega
theorem adjust_gen (lo hi : Option Int) (n : Nat) : Builtin.Slice.sliceAdjust lo hi 1 (n : Int) = (((sIx n 0 lo : Nat) : Int),((sIx n n hi : Nat) : Int)) := by
  have h1 : ¬ ((1 : Int) < 0) := by omega
  unfold Builtin.Slice.sliceAdjust
  simp only [h1,if_false]
  refine Prod.ext ?_ ?_
  · cases lo with
    | none => rfl
    | some v => exact clip_eq v n 0
  · cases hi with
    | none => rfl
    | some v => exact clip_eq v n n
theorem places_gen (i j : Nat) : Builtin.Slice.slicePlaces (i : Int) (j : Int) 1 = j - i := by
  unfold Builtin.Slice.slicePlaces
  have h1 : (1 : Int) > 0 := by omega
  simp only [h1,if_true,Int.ediv_one]
  split <;> omega
theorem slicePart_ {v : Value} {o : Option Int} {Q : Option Int → Shared → Prop} (p : IsPart v o) (h : Q o s) : wpAny (model prog w) A (Builtin.Slice.slicePartIndex v) Q E s := by
  cases p with
  | none => exact slicePart_none h
  | int i t => exact slicePart_int h
theorem sliceApplied_gen {sl : Addr} {vl vu : Value} {lo hi : Option Int} {n : Nat} {Q : Int × Int × Nat → Shared → Prop} (hs : s.heap.IsSliceOf sl vl vu .none) (pl : IsPart vl lo) (pu : IsPart vu hi)
    (h : Q (((sIx n 0 lo : Nat) : Int),1,sIx n n hi - sIx n 0 lo) s) : wpAny (model prog w) A (Builtin.Slice.sliceApplied (.ref sl) (pure (n : Int))) Q E s := by
  obtain ⟨os,hos,hcs,hds⟩ := id hs
  unfold Builtin.Slice.sliceApplied Builtin.Slice.sliceFields
  refine wpAny_bind (wpAny_bind (wpAny_field hos hds (x := vl) rfl (wpAny_bind (wpAny_field hos hds (x := vu) rfl (wpAny_bind (wpAny_field hos hds (x := .none) rfl (wpAny_pure ?_)))))))
  refine wpAny_bind (slicePart_none ?_)
  show wpAny _ _ (if ((1 : Int) == 0) = true then _ else _) _ _ s
  rw [if_neg (by decide)]
  refine wpAny_bind (slicePart_ pl (wpAny_bind (slicePart_ pu (wpAny_bind (wpAny_pure ?_)))))
  show wpAny _ _ (match Builtin.Slice.sliceAdjust lo hi 1 (n : Int) with | (lo,hi) => pure (lo,(1 : Int),Builtin.Slice.slicePlaces lo hi 1)) _ _ s
  rw [adjust_gen lo hi n]
  show wpAny _ _ (pure (((sIx n 0 lo : Nat) : Int),(1 : Int),Builtin.Slice.slicePlaces ((sIx n 0 lo : Nat) : Int) ((sIx n n hi : Nat) : Int) 1)) _ _ s
  rw [places_gen]
  exact wpAny_pure h
theorem pick_gen (xs : Array Value) (i k : Nat) : ((List.range k).filterMap fun (m : Nat) => xs[((i : Int) + (m : Int) * 1).toNat]?).toArray = ((xs.toList.drop i).take k).toArray := by
  have e : (fun (m : Nat) => xs[((i : Int) + (m : Int) * 1).toNat]?) = fun m => xs[i + m]? := by
    funext m
    have : ((i : Int) + (m : Int) * 1).toNat = i + m := by omega
    rw [this]
  rw [e]
  have := pick_run xs i k
  rw [List.filterMap_map] at this
  have e2 : ((fun x => xs[x]?) ∘ fun x => i + x) = fun m => xs[i + m]? := rfl
  rw [e2] at this
  rw [this]
theorem getItem_tuple_cut {t sl : Addr} {items : Array Value} {vl vu : Value} {lo hi : Option Int} {Q : Value → Shared → Prop} (ht : IsTup s.heap t items) (hs : s.heap.IsSliceOf sl vl vu .none) (pl : IsPart vl lo) (pu : IsPart vu hi)
    (hw : ¬ (sIx items.size 0 lo = 0 ∧ sIx items.size items.size hi = items.size))
    (h : Q (.ref s.heap.objs.size) { s with heap := s.heap.push { cls := .type "tuple",data := .seq ((items.toList.drop (sIx items.size 0 lo)).take (sIx items.size items.size hi - sIx items.size 0 lo)).toArray } })
    (hsz : items.size ≤ sizeLine) : wpAny (model prog w) A (getItem (.ref t) (.ref sl)) Q E s := by
  have htake : sizeOk (.seq ((items.toList.drop (sIx items.size 0 lo)).take (sIx items.size items.size hi - sIx items.size 0 lo)).toArray) := by
    show ((items.toList.drop (sIx items.size 0 lo)).take (sIx items.size items.size hi - sIx items.size 0 lo)).toArray.size ≤ sizeLine
    rw [List.size_toArray,List.length_take,List.length_drop,Array.length_toList]
    omega
  have hj : sIx items.size items.size hi ≤ items.size := sIx_le _ _ (Nat.le_refl _) hi
  obtain ⟨os,hos,hcs,hds⟩ := id hs
  have hTs : s.TypeIs (.ref sl) "slice" := ⟨os,hos,hcs⟩
  unfold getItem
  try with_reducible refine wpAny_holding ?_
  first | refine wpAny_bind (wpAny_pure ?_) | skip
  refine wpAny_bind (wpAny_sequenceKey ht.typeIs (by decide) ?_)
  refine wpAny_bind (wpAny_callSpecial?_slot (name := Str.ofString "__getitem__") ht.typeIs PyProof.Rows.slot_tuple_getitem
    (wpAny_call_entry PyProof.Rows.slot_tuple_getitem ht.typeIs entry_tuple_getitem ?_ (args_tuple_getitem _ _)))
  show wpAny _ _ (Builtin.Tuple.tupleItemsOf (.ref t) >>= _) _ _ s
  refine wpAny_bind (tupleItemsOf_ ht ?_)
  refine wpAny_bind (wpAny_typeOf hTs ?_)
  rw [if_pos (by decide)]
  refine wpAny_bind (sliceApplied_gen hs pl pu ?_)
  have hno : ¬ ((((sIx items.size 0 lo : Nat) : Int) == 0 && (1 : Int) == 1 && (sIx items.size items.size hi - sIx items.size 0 lo) == items.size) = true) := by
    intro q
    rw [Bool.and_eq_true,Bool.and_eq_true] at q
    have q1 : ((sIx items.size 0 lo : Nat) : Int) = 0 := eq_of_beq q.1.1
    have q2 : sIx items.size items.size hi - sIx items.size 0 lo = items.size := eq_of_beq q.2
    exact hw ⟨by omega,by omega⟩
  show wpAny _ _ (if (((sIx items.size 0 lo : Nat) : Int) == 0 && (1 : Int) == 1 && (sIx items.size items.size hi - sIx items.size 0 lo) == items.size) = true then _ else _) _ _ s
  rw [if_neg hno,pick_gen]
  first
    | exact wpAny_bind (m := Builtin.Tuple.tupleExact _) (wpAny_newObj_type (wpAny_pure ⟨_,rfl,wpAny_pure h⟩) htake)
    | exact wpAny_bind (m := Builtin.Tuple.tupleExact _) (wpAny_newObj_type (wpAny_bind (wpAny_pure (wpAny_pure ⟨_,rfl,wpAny_pure h⟩))) htake)
    | exact wpAny_bind (wpAny_bind (m := Builtin.Tuple.tupleExact _) (wpAny_newObj_type (wpAny_pure (wpAny_pure ⟨_,rfl,wpAny_pure h⟩)) htake))
    | exact wpAny_bind (wpAny_bind (m := Builtin.Tuple.tupleExact _) (wpAny_newObj_type (wpAny_pure ⟨_,rfl,wpAny_pure h⟩) htake))
end
end HT
namespace L2
open PySem PySem.Spec PyProof.Rows
abbrev TO := St → Hp → (Option Int → Hp → Prop) → Prop
def PO (X : Cx) (e : Option Expr) (t : TO) : Prop :=
  ∀ (pins : List (Addr × Obj)) (s : Shared) (σ : St) (H : Hp) (Q : Option Int → Hp → Prop),Inv X pins σ H s → t σ H Q →
    wpAny (model X.prog X.w) X.A (evalPart e X.env) (fun u s' => ∃ o H',Inv X pins σ H' s' ∧ IsPart u o ∧ Q o H') X.xe s
def tNoPart : TO := fun _ H Q => Q none H
def tPart (t : TE) : TO := fun σ H Q => t σ H fun x H1 => ∃ i,x = .int i ∧ Q (some i) H1
section
variable {X : Cx} {e : Expr} {te : TE} {lo hi : Option Expr} {tl th : TO} {pos p2 : Pos}
theorem po_none : PO X none tNoPart := by
  intro pins s σ H Q I h
  rw [evalPart_none]
  exact wpAny_pure ⟨none,H,I,.none,h⟩
theorem po_some (h : PE X e te) : PO X (some e) (tPart te) := by
  intro pins s σ H Q I hw
  rw [evalPart_some]
  refine thn (h pins s σ H _ I hw) fun u s1 ⟨x,H1,I1,r1,q1⟩ => ?_
  obtain ⟨i,rfl,q⟩ := q1
  obtain ⟨t,rfl⟩ := r1
  exact ⟨some i,H1,I1,.int i t,q⟩
def SlR (X : Cx) (r : V → Option Int → Option Int → Hp → VK → Prop) : Prop :=
  ∀ (pins : List (Addr × Obj)) (s : Shared) (σ : St) (H : Hp) (x : V) (v vl vu : Value) (lo hi : Option Int) (sl : Addr) (Q : VK),Inv X pins σ H s → RelV x v → s.heap.IsSliceOf sl vl vu .none → IsPart vl lo → IsPart vu hi → r x lo hi H Q →
    ∃ T id,typeLookup (.type T) "__getitem__" = pure (some (.builtin id)) ∧ s.TypeIs v T ∧ wpAny (model X.prog X.w) X.A (getItem v (.ref sl)) (EP X pins σ Q) X.xe s
def tSl (r : V → Option Int → Option Int → Hp → VK → Prop) (te : TE) (tl th : TO) : TE := fun σ H Q => te σ H fun x H1 => tl σ H1 fun l H2 => th σ H2 fun u H3 => r x l u H3 Q
theorem pe_slice {r : V → Option Int → Option Int → Hp → VK → Prop} (hr : SlR X r) (he : PE X e te) (hl : PO X lo tl) (hu : PO X hi th) : PE X (.Subscript e (.Slice lo hi none p2) pos) (tSl r te tl th) := by
  intro pins s σ H Q I h
  refine Subscript_ (thn (he pins s σ H _ I h) fun v s1 ⟨x,H1,I1,r1,q1⟩ => ?_)
  refine wpAny_Slice (thn (hl pins s1 σ H1 _ I1 q1) fun vl s2 ⟨l,H2,I2,pl,q2⟩ => thn (hu pins s2 σ H2 _ I2 q2) fun vu s3 ⟨u,H3,I3,pu,q3⟩ => ?_)
  rw [evalPart_none]
  refine wpAny_pure ?_
  have I4 : Inv X pins σ H3 { s3 with heap := s3.heap.push { cls := .type "slice", data := .fields #[vl, vu, .none] } } := I3.kept (t' := s3.toks) fun b ob q => Heap.get?_push_of_some _ q
  obtain ⟨T,id,hT,ht,hg⟩ := hr pins { s3 with heap := s3.heap.push { cls := .type "slice",data := .fields #[vl,vu,.none] } } σ H3 x v vl vu l u s3.heap.objs.size Q I4 r1 (Heap.IsSliceOf.new ..) pl pu q3
  show wpAny (model X.prog X.w) X.A (subscriptTail e (.Slice lo hi none p2) v (.ref s3.heap.objs.size)) (EP X pins σ Q) X.xe { s3 with heap := s3.heap.push { cls := .type "slice",data := .fields #[vl,vu,.none] } }
  exact tail_any (ops := [.ref s3.heap.objs.size,v]) ht hT hg (by with_unfolding_all rfl)
def cutV (xs : List V) (lo hi : Option Int) : List V := (xs.drop (HT.sIx xs.length 0 lo)).take (HT.sIx xs.length xs.length hi - HT.sIx xs.length 0 lo)
theorem cutV_length (xs : List V) (lo hi : Option Int) : (cutV xs lo hi).length ≤ xs.length := by
  unfold cutV
  rw [List.length_take,List.length_drop]
  omega
def rSlT (K : PySem.W.Frag) : V → Option Int → Option Int → Hp → VK → Prop := fun x lo hi H Q => ∃ a xs,x = .ref a ∧ SqT K H a xs ∧
  ¬ (HT.sIx xs.length 0 lo = 0 ∧ HT.sIx xs.length xs.length hi = xs.length) ∧ ∀ p,H p = none → Q (.ref p) (upd H p (.tup (cutV xs lo hi)))
theorem sl_tup : SlR X (rSlT X.K) := by
  intro pins s σ H x v vl vu lo hi sl Q I rx hs pl pu h
  obtain ⟨a,xs,rfl,hx,hw,q⟩ := h
  cases rx
  obtain ⟨its,r,ht,hz⟩ := I.tuple hx
  have hlen : its.toArray.size = xs.length := by rw [List.size_toArray]; exact r.length.symm
  refine ⟨"tuple",_,PyProof.Rows.slot_tuple_getitem.lookup,ht.typeIs,?_⟩
  refine HT.getItem_tuple_cut ht hs pl pu (by rw [hlen]; exact hw) ?_ (by rw [hlen]; exact hz)
  rw [hlen]
  refine ⟨.ref s.heap.objs.size,_,I.laid (t' := s.toks) (o := .tup (cutV xs lo hi)) (fun b ob q => Heap.get?_push_of_some _ q) (Nat.le_refl _) ?_,rfl,q _ (I.hok.fresh (Nat.le_refl _))⟩
  exact ⟨Nat.le_trans (cutV_length xs lo hi) hz,_,(r.drop (HT.sIx xs.length 0 lo)).take (HT.sIx xs.length xs.length hi - HT.sIx xs.length 0 lo),IsTup.new _ _⟩
def rCatT (K : PySem.W.Frag) : R2 := fun x y H Q => ∃ a b xs ys,x = .ref a ∧ y = .ref b ∧ SqT K H a xs ∧ SqT K H b ys ∧ xs ≠ [] ∧ xs.length + ys.length ≤ sizeLine ∧
  (ys = [] → Q (.ref a) H) ∧ (ys ≠ [] → ∀ p,H p = none → Q (.ref p) (upd H p (.tup (xs ++ ys))))
theorem Vals.nil_iff {xs : List V} {us : List Value} (r : Vals xs us) : us = [] ↔ xs = [] := by
  cases r with
  | nil => simp
  | cons _ _ => simp
theorem op_catT : OpR X (binaryOp .Add) (rCatT X.K) := by
  intro pins s σ H x y v u Q I rx ry h
  obtain ⟨a,b,xs,ys,rfl,rfl,ha,hb,hx,hz,q1,q2⟩ := h
  cases rx
  cases ry
  obtain ⟨its,r1,p1,_⟩ := I.tuple ha
  obtain ⟨its2,r2,p2,_⟩ := I.tuple hb
  refine HT.cat_tup p1 p2 (fun z => hx (r1.nil_iff.mp z)) (fun z => ⟨.ref a,H,I,rfl,q1 (r2.nil_iff.mp z)⟩) (fun z => ?_) (by rw [← r1.length,← r2.length]; exact hz)
  refine ⟨.ref s.heap.objs.size,_,I.laid (t' := s.toks) (o := .tup (xs ++ ys)) (fun b ob q => Heap.get?_push_of_some _ q) (Nat.le_refl _) ?_,rfl,q2 (fun w => z (r2.nil_iff.mpr w)) _ (I.hok.fresh (Nat.le_refl _))⟩
  exact ⟨by rw [List.length_append]; exact hz,_,r1.append r2,IsTup.new _ _⟩
end
end L2
namespace L2
open PySem PySem.Spec PyProof.Rows
def ixN (n : Nat) (i : Int) : Option Nat := if 0 ≤ i then (if i < n then some i.toNat else none) else if -(n : Int) ≤ i then some (i + n).toNat else none
def atI {α : Type} (xs : List α) (i : Int) : Option α := (ixN xs.length i).bind fun j => xs[j]?
theorem ixN_seq {n : Nat} {i : Int} {j : Nat} (h : ixN n i = some j) : seqIndex? i n = some j ∧ j < n ∧ -(n : Int) ≤ i ∧ i < n := by
  unfold ixN at h
  by_cases h0 : 0 ≤ i
  · rw [if_pos h0] at h
    by_cases h1 : i < n
    · rw [if_pos h1] at h
      have e : i.toNat = j := Option.some.inj h
      exact ⟨by rw [seqIndex_of h0 h1,e],by omega,by omega,h1⟩
    · rw [if_neg h1] at h; cases h
  · rw [if_neg h0] at h
    by_cases h1 : -(n : Int) ≤ i
    · rw [if_pos h1] at h
      have e : (i + n).toNat = j := Option.some.inj h
      exact ⟨by rw [seqIndex_neg (by omega) h1,e],by omega,h1,by omega⟩
    · rw [if_neg h1] at h; cases h
theorem atI_get {α : Type} {xs : List α} {i : Int} {v : α} (h : atI xs i = some v) : ∃ j,seqIndex? i xs.length = some j ∧ xs[j]? = some v ∧ j < xs.length ∧ -(xs.length : Int) ≤ i ∧ i < xs.length := by
  unfold atI at h
  cases e : ixN xs.length i with
  | none => rw [e] at h; cases h
  | some j =>
    rw [e] at h
    obtain ⟨h1,h2,h3,h4⟩ := ixN_seq e
    exact ⟨j,h1,h,h2,h3,h4⟩
theorem atI_nat {α : Type} {xs : List α} {j : Nat} {v : α} (h : xs[j]? = some v) : atI xs (j : Int) = some v := by
  have hj : j < xs.length := (List.getElem?_eq_some_iff.mp h).1
  have e : ixN xs.length (j : Int) = some j := by
    unfold ixN
    rw [if_pos (by omega),if_pos (by omega)]; simp
  unfold atI; rw [e]; exact h
def PlainIx (b : Expr) : Prop := ∀ o i,subscripted b false o i = operate [o,i] (getItem o i)
def IxR (X : Cx) (r : R2) : Prop :=
  ∀ (value slice : Expr) (pins : List (Addr × Obj)) (s : Shared) (σ : St) (H : Hp) (x y : V) (v u : Value) (Q : VK),Inv X pins σ H s → RelV x v → RelV y u → r x y H Q →
    subscripted slice false v u = operate [v,u] (getItem v u) → wpAny (model X.prog X.w) X.A (subscriptTail value slice v u) (EP X pins σ Q) X.xe s
def MtR (X : Cx) (id : String) (r : V → List V → Hp → VK → Prop) : Prop :=
  ∀ (pins : List (Addr × Obj)) (s : Shared) (σ : St) (H : Hp) (x : V) (xs : List V) (v : Value) (us : List Value) (Q : VK),Inv X pins σ H s → RelV x v → Vals xs us → r x xs H Q →
    wpAny (model X.prog X.w) X.A (call (.builtin id) (v :: us)) (EP X pins σ Q) X.xe s
section
variable {X : Cx} {a b : Expr} {ta tb : TE} {pos : Pos}
theorem IxR.or {r r' : R2} (h : IxR X r) (h' : IxR X r') : IxR X (fun x y H Q => r x y H Q ∨ r' x y H Q) := by
  intro value slice pins s σ H x y v u Q I rx ry q hs
  rcases q with q | q
  · exact h value slice pins s σ H x y v u Q I rx ry q hs
  · exact h' value slice pins s σ H x y v u Q I rx ry q hs
theorem pe_ix {r : R2} (hr : IxR X r) (ha : PE X a ta) (hb : PE X b tb) (hs : PlainIx b) : PE X (.Subscript a b pos) (tOp r ta tb) := by
  intro pins s σ H Q I h
  exact Subscript_ (binT ha hb I h fun v u s2 x y H2 I2 rx ry q => hr a b pins s2 σ H2 x y v u Q I2 rx ry q (hs _ _))
def rIxL (K : PySem.W.Frag) : R2 := fun x y H Q => ∃ p xs i v,x = .ref p ∧ y = .int i ∧ SqL K H p xs ∧ atI xs i = some v ∧ Q v H
def rIxT (K : PySem.W.Frag) : R2 := fun x y H Q => ∃ p xs i v,x = .ref p ∧ y = .int i ∧ SqT K H p xs ∧ atI xs i = some v ∧ Q v H
def rIxS : R2 := fun x y H Q => ∃ z i c,x = .str z ∧ y = .int i ∧ z.length ≤ sizeLine ∧ atI z.cps.toList i = some c ∧ Q (.str ⟨#[c]⟩) H
theorem ix_list : IxR X (rIxL X.K) := by
  intro value slice pins s σ H x y v u Q I rx ry h hs
  obtain ⟨p,xs,i,z,rfl,rfl,hq,he,q⟩ := h
  cases rx
  obtain ⟨t,rfl⟩ := ry
  obtain ⟨its,r,pl,hz⟩ := I.list hq
  obtain ⟨j,h1,h2,h3,h4,h5⟩ := atI_get he
  obtain ⟨w,ew,rw'⟩ := r.get h2
  have hl := r.length
  have hn := line63
  have fin : EP X pins σ Q w s := ⟨z,H,I,rw',q⟩
  by_cases h0 : 0 ≤ i
  · have hj : i.toNat = j := by
      rw [seqIndex_of h0 h5] at h1
      exact Option.some.inj h1
    exact item_listR pl.isList h0 (by omega) (by rw [hj]; simpa using ew) fin hs
  · have hj : (i + (its.toArray.size : Int)).toNat = j := by
      rw [seqIndex_neg (by omega) h4] at h1
      rw [List.size_toArray,← hl]
      exact Option.some.inj h1
    exact subscriptTail_builtinR (x := w) pl.isList.typeIs slot_list_getitem.lookup
      (wpAny_getItem_list_neg (Q := fun r s' => r = w ∧ EP X pins σ Q r s') pl.isList (by omega) (by rw [List.size_toArray] <;> omega) (by omega) (by rw [hj]; simpa using ew) ⟨rfl,fin⟩) hs
theorem ix_tup : IxR X (rIxT X.K) := by
  intro value slice pins s σ H x y v u Q I rx ry h hs
  obtain ⟨p,xs,i,z,rfl,rfl,hq,he,q⟩ := h
  cases rx
  obtain ⟨t,rfl⟩ := ry
  obtain ⟨its,r,pl,hz⟩ := I.tuple hq
  obtain ⟨j,h1,h2,h3,h4,h5⟩ := atI_get he
  obtain ⟨w,ew,rw'⟩ := r.get h2
  have hl := r.length
  have hn := line63
  have fin : EP X pins σ Q w s := ⟨z,H,I,rw',q⟩
  exact subscriptTail_builtinR (x := w) pl.typeIs slot_tuple_getitem.lookup
    (getItem_tuple (j := j) (Q := fun r s' => r = w ∧ EP X pins σ Q r s') pl (by omega) (by omega) (by rw [List.size_toArray,← hl]; exact h1) (by simpa using ew) ⟨rfl,fin⟩) hs
theorem ix_str : IxR X rIxS := by
  intro value slice pins s σ H x y v u Q I rx ry h hs
  obtain ⟨z,i,c,rfl,rfl,hz,he,q⟩ := h
  obtain ⟨t,rfl⟩ := rx
  obtain ⟨t',rfl⟩ := ry
  obtain ⟨j,h1,h2,h3,h4,h5⟩ := atI_get he
  have hl : z.cps.toList.length = z.length := by simp [Str.length]
  rw [hl] at h1 h4 h5
  have hn := line63
  exact tail_any (typeIs_str s z t) slot_str_getitem.lookup (getItem_str (c := c) (by
    have e1 : decide (i < -(2 ^ 63 : Int)) = false := decide_eq_false (by omega)
    have e2 : decide (i ≥ 2 ^ 63) = false := decide_eq_false (by omega)
    rw [e1,e2,Bool.or_false]) (by rw [h1]; simpa using h2) ⟨.str ⟨#[c]⟩,H,I.tok _,⟨_,rfl⟩,q⟩) hs
def rIx (K : PySem.W.Frag) : R2 := fun x y H Q => rIxL K x y H Q ∨ rIxT K x y H Q ∨ rIxS x y H Q
theorem ix_seq : IxR X (rIx X.K) := ix_list.or (ix_tup.or ix_str)
theorem mapSeq_set (its : List Value) (n j : Nat) (u : Value) : Obj.mapSeq (·.setIfInBounds j u) { cls := .type "list",data := .seq its.toArray n } = { cls := .type "list",data := .seq (its.set j u).toArray n } := by
  simp [Obj.mapSeq]
theorem Inv.lst {pins : List (Addr × Obj)} {σ : St} {H : Hp} {s : Shared} {p : Addr} {xs : List V} (I : Inv X pins σ H s) (h : H p = some (.lst xs)) :
    ∃ (its : List Value) (n : Nat),Vals xs its ∧ s.heap.get? p = some { cls := .type "list",data := .seq its.toArray n } ∧ xs.length ≤ sizeLine := by
  obtain ⟨z,its,n,r,e⟩ := I.hok p _ h
  exact ⟨its,n,r,e,z⟩
theorem Inv.lstUpd {pins : List (Addr × Obj)} {σ : St} {H : Hp} {s : Shared} {p : Addr} {xs ys : List V} {its its' : List Value} {n n' : Nat} {f : Obj → Obj} (I : Inv X pins σ H s) (h : H p = some (.lst xs))
    (ho : s.heap.get? p = some { cls := .type "list", data := .seq its.toArray n }) (hf : f { cls := .type "list", data := .seq its.toArray n } = { cls := .type "list", data := .seq its'.toArray n' }) (r : Vals ys its') (hz : ys.length ≤ sizeLine) (t : Nat) :
    Inv X pins σ (upd H p (.lst ys)) { s with heap := s.heap.update p f,toks := t } := by
  have e : (s.heap.update p f).get? p = some { cls := .type "list", data := .seq its'.toArray n' } := by
    rw [Heap.get?_update_self f ho (by rw [hf] <;> rfl),hf]
  refine I.write (x := p) (e := p) (by rw [h]; trivial) (.inl rfl) (fun b u hb q => (Heap.get?_update_other _ _ (Ne.symm hb)).trans q) ⟨_,e⟩ ?_
  exact ⟨hz,its',n',r,e⟩
def rSetL : V → V → V → Hp → (Hp → Prop) → Prop := fun o i v H Q => ∃ p xs k j,o = .ref p ∧ i = .int k ∧ H p = some (.lst xs) ∧ ixN xs.length k = some j ∧ Q (upd H p (.lst (xs.set j v)))
theorem set_list : PSet X rSetL := by
  intro pins s σ H o i v ov iv u Q I ro ri rv h
  obtain ⟨p,xs,k,j,rfl,rfl,hp,hj,q⟩ := h
  cases ro
  obtain ⟨t,rfl⟩ := ri
  obtain ⟨its,n,r,ho,hz⟩ := I.lst hp
  obtain ⟨h1,h2,h3,h4⟩ := ixN_seq hj
  have hl := r.length
  have hn := line63
  have I' : Inv X pins σ (upd H p (.lst (xs.set j v))) { s with heap := s.heap.update p (Obj.mapSeq (·.setIfInBounds j u)) } :=
    I.lstUpd hp ho (mapSeq_set its n j u) (r.set rv j) (by rw [List.length_set]; exact hz) s.toks
  by_cases h0 : 0 ≤ k
  · have hk : k.toNat = j := by
      rw [seqIndex_of h0 h4] at h1
      exact Option.some.inj h1
    exact PySem.W.ki_setAt ho h0 (by omega) (by rw [List.size_toArray,← hl]; exact h4) (by rw [hk]; exact ⟨_,I',q⟩)
  · have hk : (k + (its.toArray.size : Int)).toNat = j := by
      rw [seqIndex_neg (by omega) h3] at h1
      rw [List.size_toArray,← hl]
      exact Option.some.inj h1
    exact PySem.W.ki_setBack ho (by omega) (by rw [List.size_toArray,← hl]; exact h3) (by omega) (by rw [hk]; exact ⟨_,I',q⟩)
theorem slice_bounds (lo hi : Option Int) (n : Nat) : (sliceBounds lo hi none n).1 = ((HT.sIx n 0 lo : Nat) : Int) ∧ (sliceBounds lo hi none n).2.1 = ((HT.sIx n n hi : Nat) : Int) ∧ (sliceBounds lo hi none n).2.2 = 1 := by
  refine ⟨?_,?_,rfl⟩
  · cases lo with
    | none => simp [sliceBounds,HT.sIx]
    | some i =>
      simp only [sliceBounds,HT.sIx,Option.getD_none,show (1 : Int) > 0 by decide,if_true]
      by_cases h : i < 0
      · simp only [h,if_true] <;> omega
      · simp only [h,if_false] <;> omega
  · cases hi with
    | none => simp [sliceBounds,HT.sIx]
    | some i =>
      simp only [sliceBounds,HT.sIx,Option.getD_none,show (1 : Int) > 0 by decide,if_true]
      by_cases h : i < 0
      · simp only [h,if_true] <;> omega
      · simp only [h,if_false] <;> omega
theorem slicePick_cut (its : List Value) (lo hi : Option Int) : slicePick its.toArray lo hi none = ((its.drop (HT.sIx its.length 0 lo)).take (HT.sIx its.length its.length hi - HT.sIx its.length 0 lo)).toArray := by
  obtain ⟨h1,h2,h3⟩ := slice_bounds lo hi its.toArray.size
  unfold slicePick
  rw [h1,h2,h3]
  simp only [sliceRange_one,pick_run,List.size_toArray] <;> rfl
def rSlL (K : PySem.W.Frag) : V → Option Int → Option Int → Hp → VK → Prop := fun x lo hi H Q => ∃ a xs,x = .ref a ∧ SqL K H a xs ∧ ∀ p,H p = none → Q (.ref p) (upd H p (.lst (cutV xs lo hi)))
theorem sl_list : SlR X (rSlL X.K) := by
  intro pins s σ H x v vl vu lo hi sl Q I rx hs pl pu h
  obtain ⟨a,xs,rfl,hx,q⟩ := h
  cases rx
  obtain ⟨its,r,ht,hz⟩ := I.list hx
  have hlen := r.length
  refine ⟨"list",_,slot_list_getitem.lookup,ht.isList.typeIs,?_⟩
  refine wpAny_getItem_list_slice ht.isList hs pl pu .none (by simp) ?_ (by rw [List.size_toArray] <;> omega)
  rw [slicePick_cut,← hlen]
  refine ⟨.ref s.heap.objs.size,_,I.laid (t' := s.toks) (o := .lst (cutV xs lo hi)) (fun b ob q => Heap.get?_push_of_some _ q) (Nat.le_refl _) ?_,rfl,q _ (I.hok.fresh (Nat.le_refl _))⟩
  exact ⟨Nat.le_trans (cutV_length xs lo hi) hz,_,0,(r.drop (HT.sIx xs.length 0 lo)).take (HT.sIx xs.length xs.length hi - HT.sIx xs.length 0 lo),Heap.get?_push_size _ rfl⟩
def flatV : V → Bool
  | .non => true
  | .bl _ => true
  | .int _ => true
  | .str _ => true
  | _ => false
def eqV : V → V → Bool
  | .non,.non => true
  | .bl a,.bl b => a == b
  | .bl a,.int b => (if a then 1 else 0) == b
  | .int a,.bl b => a == (if b then 1 else 0)
  | .int a,.int b => a == b
  | .str a,.str b => a == b
  | _,_ => false
theorem eqAt_V {A : Around} {s : Shared} {y x : V} {u v : Value} (ry : RelV y u) (rx : RelV x v) (fy : flatV y = true) (fx : flatV x = true) : SeqAt.EqAt A s u v (eqV y x) := by
  cases y with
  | non =>
    cases ry
    cases x with
    | non => cases rx; exact SeqAt.EqAt.same _
    | bl b => cases rx; exact SeqAt.EqAt.none_bool b
    | int b => obtain ⟨t,rfl⟩ := rx; exact SeqAt.EqAt.none_int b t
    | str b => obtain ⟨t,rfl⟩ := rx; exact SeqAt.EqAt.none_str b t
    | _ => exact absurd (show false = true from fx) Bool.false_ne_true
  | bl a =>
    cases ry
    cases x with
    | non => cases rx; exact SeqAt.EqAt.bool_none a
    | bl b => cases rx; exact SeqAt.EqAt.bool_bool a b
    | int b => obtain ⟨t,rfl⟩ := rx; exact SeqAt.EqAt.bool_int a b t
    | str b => obtain ⟨t,rfl⟩ := rx; exact SeqAt.EqAt.bool_str a b t
    | _ => exact absurd (show false = true from fx) Bool.false_ne_true
  | int a =>
    obtain ⟨t',rfl⟩ := ry
    cases x with
    | non => cases rx; exact SeqAt.EqAt.int_none a t'
    | bl b => cases rx; exact SeqAt.EqAt.int_bool a t' b
    | int b => obtain ⟨t,rfl⟩ := rx; exact SeqAt.EqAt.int_int a t' b t
    | str b => obtain ⟨t,rfl⟩ := rx; exact SeqAt.EqAt.int_str a t' b t
    | _ => exact absurd (show false = true from fx) Bool.false_ne_true
  | str a =>
    obtain ⟨t',rfl⟩ := ry
    cases x with
    | non => cases rx; exact SeqAt.EqAt.str_none a t'
    | bl b => cases rx; exact SeqAt.EqAt.str_bool a t' b
    | int b => obtain ⟨t,rfl⟩ := rx; exact SeqAt.EqAt.str_int a t' b t
    | str b => obtain ⟨t,rfl⟩ := rx; exact SeqAt.EqAt.str_str a t' b t
    | _ => exact absurd (show false = true from fx) Bool.false_ne_true
  | _ => exact absurd (show false = true from fy) Bool.false_ne_true
def eqU (x : V) (u : Value) : Bool := match u with
  | .none => eqV .non x
  | .bool b => eqV (.bl b) x
  | .int i _ => eqV (.int i) x
  | .str z _ => eqV (.str z) x
  | _ => false
theorem eqU_of {x y : V} {u : Value} (r : RelV y u) (f : flatV y = true) : eqU x u = eqV y x := by
  cases y with
  | non => cases r; rfl
  | bl b => cases r; rfl
  | int i => obtain ⟨t,rfl⟩ := r; rfl
  | str z => obtain ⟨t,rfl⟩ := r; rfl
  | _ => exact absurd (show false = true from f) Bool.false_ne_true
theorem any_eqU {x : V} : ∀ {xs : List V} {us : List Value},Vals xs us → xs.all flatV = true → us.any (eqU x) = xs.any fun y => eqV y x
  | _,_,.nil,_ => rfl
  | y :: xs,u :: us,.cons r t,f => by
    rw [List.all_cons,Bool.and_eq_true] at f
    rw [List.any_cons,List.any_cons,eqU_of r f.1,any_eqU t f.2]
theorem mem_eqAt {A : Around} {s : Shared} {x : V} {v : Value} (rx : RelV x v) (fx : flatV x = true) : ∀ {xs : List V} {us : List Value},Vals xs us → xs.all flatV = true → ∀ u ∈ us,SeqAt.EqAt A s u v (eqU x u)
  | _,_,.nil,_ => fun u hu => by cases hu
  | y :: xs,u :: us,.cons r t,f => fun u' hu => by
    rw [List.all_cons,Bool.and_eq_true] at f
    rcases List.mem_cons.mp hu with rfl | hu
    · rw [eqU_of r f.1]; exact eqAt_V r rx f.1 fx
    · exact mem_eqAt rx fx t f.2 u' hu
def inV (x : V) (xs : List V) : Bool := xs.any fun y => eqV y x
def rIn (K : PySem.W.Frag) (neg : Bool) : R2 := fun x y H Q => ∃ p xs,y = .ref p ∧ (SqL K H p xs ∨ SqT K H p xs) ∧ flatV x = true ∧ xs.all flatV = true ∧ Q (.bl (if neg then !inV x xs else inV x xs)) H
theorem op_in_seq : OpR X (compareOp .In) (rIn X.K false) := by
  intro pins s σ H x y v u Q I rx ry h
  obtain ⟨p,xs,rfl,hq,fx,fs,q⟩ := h
  cases ry
  rcases hq with hq | hq
  · obtain ⟨its,r,pl,hz⟩ := I.list hq
    refine SeqAt.in_listAt (eqU x) pl.isList (fun w hw => mem_eqAt rx fx r fs w (by simpa using hw)) ⟨.bl _,H,I,rfl,?_⟩
    rw [show its.toArray.any (eqU x) = its.any (eqU x) by simp,any_eqU r fs]
    exact q
  · obtain ⟨its,r,pl,hz⟩ := I.tuple hq
    refine SeqAt.in_tupleAt (eqU x) pl (fun w hw => mem_eqAt rx fx r fs w (by simpa using hw)) ⟨.bl _,H,I,rfl,?_⟩
    rw [show its.toArray.any (eqU x) = its.any (eqU x) by simp,any_eqU r fs]
    exact q
theorem op_notIn_seq : OpR X (compareOp .NotIn) (rIn X.K true) := by
  intro pins s σ H x y v u Q I rx ry h
  obtain ⟨p,xs,rfl,hq,fx,fs,q⟩ := h
  cases ry
  rcases hq with hq | hq
  · obtain ⟨its,r,pl,hz⟩ := I.list hq
    refine SeqAt.notIn_listAt (eqU x) pl.isList (fun w hw => mem_eqAt rx fx r fs w (by simpa using hw)) ⟨.bl _,H,I,rfl,?_⟩
    rw [show its.toArray.any (eqU x) = its.any (eqU x) by simp,any_eqU r fs]
    exact q
  · obtain ⟨its,r,pl,hz⟩ := I.tuple hq
    refine SeqAt.notIn_tupleAt (eqU x) pl (fun w hw => mem_eqAt rx fx r fs w (by simpa using hw)) ⟨.bl _,H,I,rfl,?_⟩
    rw [show its.toArray.any (eqU x) = its.any (eqU x) by simp,any_eqU r fs]
    exact q
theorem call_len_seq : CallR X (.builtin "len") (fun xs H Q => ∃ p ys,xs = [.ref p] ∧ (SqL X.K H p ys ∨ SqT X.K H p ys) ∧ Q (.int ys.length) H) := by
  intro pins s σ H xs us Q I r h
  obtain ⟨p,ys,rfl,hq,q⟩ := h
  obtain ⟨u,rfl,rx⟩ := vals1 r
  cases rx
  have hn := line63
  rcases hq with hq | hq
  · obtain ⟨its,r',pl,hz⟩ := I.list hq
    have hlen := r'.length
    exact Calls.call_len_list pl.isList (by simp only [List.size_toArray] <;> omega) ⟨.int ys.length,H,I.tok _,⟨s.toks + 1,by rw [List.size_toArray,hlen]⟩,q⟩
  · obtain ⟨its,r',pl,hz⟩ := I.tuple hq
    have hlen := r'.length
    exact len_tuple pl (by simp only [List.size_toArray] <;> omega) ⟨.int ys.length,H,I.tok _,⟨s.toks + 1,by rw [List.size_toArray,hlen]⟩,q⟩
theorem call_list_of : CallR X (.type "list") (fun xs H Q => ∃ p ys,xs = [.ref p] ∧ (SqL X.K H p ys ∨ SqT X.K H p ys) ∧ ∀ l,H l = none → Q (.ref l) (upd H l (.lst ys))) := by
  intro pins s σ H xs us Q I r h
  obtain ⟨p,ys,rfl,hq,q⟩ := h
  obtain ⟨u,rfl,rx⟩ := vals1 r
  cases rx
  have fin : ∀ (its : List Value),Vals ys its → ys.length ≤ sizeLine → ∀ (h' : Heap) (c' : Nat),(∀ b o',s.heap.get? b = some o' → h'.get? b = some o') →
      h'.get? s.heap.objs.size = some { cls := .type "list", dict := none, data := .seq its.toArray c', slots := #[] } → EP X pins σ Q (.ref s.heap.objs.size) { s with heap := h' } := fun its r' hz h' c' kp e =>
    ⟨.ref s.heap.objs.size,_,I.laid (t' := s.toks) kp (Nat.le_refl _) (show ObjOk X.prog X.w _ h' _ (.lst ys) from ⟨hz,its,c',r',e⟩),rfl,q _ (I.hok.fresh (Nat.le_refl _))⟩
  rcases hq with hq | hq
  · obtain ⟨its,r',pl,hz⟩ := I.list hq
    have hlen := r'.length
    obtain ⟨o,ho,hc,n,hd⟩ := pl.isList
    exact call_list_seq p (.inl rfl) ho hc hd (fun h' c' kp e => fin its r' hz h' c' kp e) (by simp only [List.size_toArray] <;> omega)
  · obtain ⟨its,r',pl,hz⟩ := I.tuple hq
    have hlen := r'.length
    obtain ⟨o,ho,hc,n,hd⟩ := pl
    exact call_list_seq p (.inr rfl) ho hc hd (fun h' c' kp e => fin its r' hz h' c' kp e) (by simp only [List.size_toArray] <;> omega)
theorem call_tuple_of : CallR X (.type "tuple") (fun xs H Q => ∃ p ys,xs = [.ref p] ∧ ((SqL X.K H p ys ∧ ∀ l,H l = none → Q (.ref l) (upd H l (.tup ys))) ∨ (SqT X.K H p ys ∧ Q (.ref p) H))) := by
  intro pins s σ H xs us Q I r h
  obtain ⟨p,ys,rfl,h⟩ := h
  obtain ⟨u,rfl,rx⟩ := vals1 r
  cases rx
  rcases h with ⟨hq,q⟩ | ⟨hq,q⟩
  · obtain ⟨its,r',pl,hz⟩ := I.list hq
    have hlen := r'.length
    refine call_tuple_list pl.isList (fun h' kp => ?_) (by simp only [List.size_toArray] <;> omega)
    have I1 : Inv X pins σ H { s with heap := h' } := I.kept (t' := s.toks) kp
    have I2 : Inv X pins σ (upd H h'.objs.size (.tup ys)) { s with heap := h'.push { cls := .type "tuple", data := .seq its.toArray } } :=
      I1.laid (t' := s.toks) (fun b o e => Heap.get?_push_of_some _ e) (Nat.le_refl _) (show ObjOk X.prog X.w _ _ _ (.tup ys) from ⟨hz,its,r',IsTup.new _ _⟩)
    exact ⟨.ref h'.objs.size,_,I2,rfl,q _ (I1.hok.fresh (Nat.le_refl _))⟩
  · obtain ⟨its,r',pl,hz⟩ := I.tuple hq
    exact call_tuple_same pl ⟨.ref p,H,I,rfl,q⟩
def tyV (K : PySem.W.Frag) (T : String) (x : V) (H : Hp) : Prop := match x with
  | .str _ => T = "str"
  | .int _ => T = "int"
  | .ref p => (T = "list" ∧ ∃ xs,SqL K H p xs) ∨ (T = "tuple" ∧ ∃ o,K.lookup p = some o ∧ o.cls = .type "tuple" ∧ o.dict = none) ∨
      (T = "dict" ∧ ((∃ kvs,H p = some (.dK kvs)) ∨ ∃ kvs,H p = some (.dT kvs))) ∨ (T = "set" ∧ ∃ S n,H p = some (.set S n))
  | _ => False
theorem tyV_is {pins : List (Addr × Obj)} {σ : St} {H : Hp} {s : Shared} {T : String} {x : V} {v : Value} (I : Inv X pins σ H s) (r : RelV x v) (ty : tyV X.K T x H) :
    s.TypeIs v T ∧ ∀ a,v = .ref a → ∃ ob,s.heap.get? a = some ob ∧ ob.dict = none := by
  cases x with
  | str z =>
    obtain ⟨t,rfl⟩ := r
    cases (show T = "str" from ty)
    exact ⟨typeIs_str s z t,fun _ e => nomatch e⟩
  | int i =>
    obtain ⟨t,rfl⟩ := r
    cases (show T = "int" from ty)
    exact ⟨typeIs_int s i t,fun _ e => nomatch e⟩
  | ref p =>
    cases r
    rcases ty with ⟨rfl,xs,hq⟩ | ⟨rfl,o,hk,hc,hd⟩ | ⟨rfl,hk⟩ | ⟨rfl,S,n,hk⟩
    · obtain ⟨its,_,pl,_⟩ := I.list hq
      refine ⟨pl.isList.typeIs,fun a e => ?_⟩
      cases e
      obtain ⟨o,n,e,c,hd,_⟩ := pl
      exact ⟨o,e,hd⟩
    · refine ⟨⟨o,I.kIn p o hk,hc⟩,fun a e => ?_⟩
      cases e
      exact ⟨o,I.kIn _ o hk,hd⟩
    · have z : ∃ o,s.heap.get? p = some o ∧ o.ExactDict := by
        rcases hk with ⟨kvs,hk⟩ | ⟨kvs,hk⟩
        · obtain ⟨_,_,_,_,o,_,_,e,ex,_⟩ := I.hok p _ hk
          exact ⟨o,e,ex⟩
        · obtain ⟨_,_,_,_,o,_,_,e,ex,_⟩ := I.hok p _ hk
          exact ⟨o,e,ex⟩
      obtain ⟨o,e,ex⟩ := z
      refine ⟨⟨o,e,ex.1⟩,fun a e2 => ?_⟩
      cases e2
      exact ⟨o,e,ex.2.1⟩
    · obtain ⟨o,_,_,_,e,ex,_⟩ := I.hok p _ hk
      refine ⟨⟨o,e,ex.1⟩,fun a e2 => ?_⟩
      cases e2
      exact ⟨o,e,ex.2.1⟩
  | _ => exact False.elim ty
def tBM0 (K : PySem.W.Frag) (T : String) (r : V → List V → Hp → VK → Prop) (to : TE) : TE := fun σ H Q => to σ H fun x H1 => tyV K T x H1 ∧ r x [] H1 Q
def tBM (K : PySem.W.Frag) (T : String) (r : V → List V → Hp → VK → Prop) (to : TE) (t : TA) : TE := fun σ H Q => to σ H fun x H1 => tyV K T x H1 ∧ t σ H1 fun xs H2 => r x xs H2 Q
variable {o e : Expr} {es : List Expr} {to : TE} {t : TA} {name : Str} {apos cpos : Pos} {T id : String} {r : V → List V → Hp → VK → Prop}
theorem pe_bm0 (pa : PlainAttrs T) (slot : Slot T name id) (hty : typeOf (.builtin id) = pure (.type "method_descriptor")) (hm : MtR X id r) (ho : PE X o to)
    (hbase : attributeBase o name X.env (eval o X.env) = eval o X.env := by rfl) (hline : (apos.endLine == cpos.line) = true := by rfl) : PE X (.Call (.Attribute o name apos) [] [] cpos) (tBM0 X.K T r to) := by
  intro pins s σ H Q I h
  refine wpAny_Call_method0_late hbase hline (thn (ho pins s σ H _ I h) fun v s1 ⟨x,H1,I1,r1,ty,q1⟩ => ?_)
  obtain ⟨h1,h2⟩ := tyV_is I1 r1 ty
  exact ⟨T,id,pa,slot,hty,h1,h2,Calls.callWith_builtin rfl (PySem.evalArgs_none (hm pins s1 σ H1 x [] v [] Q I1 r1 .nil q1))⟩
theorem pe_bm (pa : PlainAttrs T) (slot : Slot T name id) (hty : typeOf (.builtin id) = pure (.type "method_descriptor")) (hm : MtR X id r) (ho : PE X o to) (ha : PA X (e :: es) t)
    (hbase : attributeBase o name X.env (eval o X.env) = eval o X.env := by rfl)
    (hfew : ((backTo cpos (starEach (e :: es) X.env)).all (fun x => !x.1) && (backToKw cpos (keywordEach [] X.env)).all (fun x => x.1.isSome)
      && decide ((e :: es).length + ([] : List Keyword).length + (if ([] : List Keyword).isEmpty then 0 else 1) < 30)) = true := by rfl)
    (hline : (apos.endLine == cpos.line) = true := by rfl) (hs : starEach (e :: es) X.env = (false,eval e X.env) :: starEach es X.env := by rfl) (hplain : (backTo cpos (starEach es X.env)).any (·.1) = false := by rfl) :
    PE X (.Call (.Attribute o name apos) (e :: es) [] cpos) (tBM X.K T r to t) := by
  intro pins s σ H Q I h
  refine wpAny_Call_method_late hbase hfew hline rfl (thn (ho pins s σ H _ I h) fun v s1 ⟨x,H1,I1,r1,ty,q1⟩ => ?_)
  obtain ⟨h1,h2⟩ := tyV_is I1 r1 ty
  refine ⟨T,id,pa,slot,hty,h1,h2,?_⟩
  have hA := ha cpos pins s1 σ H1 _ I1 q1
  rw [hs] at hA ⊢
  refine Calls.callWith_builtin (by show (false || (backTo cpos (starEach es X.env)).any (·.1)) = false; rw [hplain] <;> rfl) (Calls.evalArgs_plain ?_)
  exact thn hA fun us s2 ⟨vs,H2,I2,r2,q2⟩ => hm pins s2 σ H2 x vs v us Q I2 r1 r2 q2
/- xs.append(e),list.index on a module's tuple .. are MtR facts of 06m -/
end
end L2
namespace L2
open PySem PySem.Spec PyProof.Rows
def MtM (X : Cx) (id : String) (r : V → List V → Hp → VK → Prop) : Prop :=
  ∀ (pins : List (Addr × Obj)) (s : Shared) (σ : St) (H : Hp) (x : V) (xs : List V) (v : Value) (us : List Value) (Q : VK),Inv X pins σ H s → RelV x v → Vals xs us → r x xs H Q →
    wpAny (model X.prog X.w) X.A (call (.builtin id) (v :: us)) (EP X pins σ Q) X.xe s
theorem Vals.one : ∀ {x : V} {us : List Value},Vals [x] us → ∃ u,us = [u] ∧ RelV x u
  | _,_,.cons r .nil => ⟨_,rfl,r⟩
theorem Vals.zero : ∀ {us : List Value},Vals [] us → us = []
  | _,.nil => rfl
theorem Vals.dropLast {xs : List V} {us : List Value} (h : Vals xs us) : Vals xs.dropLast us.dropLast := by
  induction h with
  | nil => exact .nil
  | cons r t ih =>
    cases t with
    | nil => exact .nil
    | cons q t' => exact .cons r ih
theorem erase_last {α : Type} (l : List α) : l.eraseIdx (l.length - 1) = l.dropLast := by
  induction l with
  | nil => rfl
  | cons a r ih =>
    cases r with
    | nil => rfl
    | cons b r =>
      have e : (a :: b :: r).length - 1 = ((b :: r).length - 1) + 1 := by
        have h1 : (a :: b :: r).length = r.length + 2 := rfl
        have h2 : (b :: r).length = r.length + 1 := rfl
        omega
      rw [e,List.eraseIdx_cons_succ,ih]
      all_goals rfl
section
variable {X : Cx} {pins : List (Addr × Obj)} {σ : St} {H : Hp} {s : Shared} {l b : Addr} {xs ys zs : List V}
theorem Inv.lset {its its' : List Value} {n : Nat} {f : Array Value → Array Value} {t' : Nat} (I : Inv X pins σ H s) (hH : H l = some (.lst xs))
    (e : s.heap.get? l = some { cls := .type "list", data := .seq its.toArray n }) (hf : f its.toArray = its'.toArray) (hv : Vals ys its') (hz : ys.length ≤ sizeLine) :
    Inv X pins σ (upd H l (.lst ys)) { s with heap := s.heap.update l (Obj.mapSeq f),toks := t' } := by
  have q := PySem.IsL.update e f
  rw [hf] at q
  refine I.write (x := l) (e := l) (by rw [hH]; exact trivial) (.inl rfl) (fun b' u hb hu => (Heap.get?_update_other s.heap (Obj.mapSeq f) (Ne.symm hb)).trans hu) ⟨_,q⟩ ?_
  exact ⟨hz,its',_,hv,q⟩
theorem Inv.lnew {its : List Value} {t' : Nat} (I : Inv X pins σ H s) (hv : Vals ys its) (hz : ys.length ≤ sizeLine) :
    Inv X pins σ (upd H s.heap.objs.size (.lst ys)) { s with heap := s.heap.push { cls := .type "list", data := .seq its.toArray }, toks := t' } :=
  I.laid (fun _ _ q => Heap.get?_push_of_some _ q) (Nat.le_refl _) ⟨hz,its,0,hv,Heap.get?_push_size _ rfl⟩
theorem Inv.fresh (I : Inv X pins σ H s) : H s.heap.objs.size = none := I.hok.fresh (Nat.le_refl _)
theorem Inv.lstM (I : Inv X pins σ H s) (hH : H l = some (.lst xs)) : xs.length ≤ sizeLine ∧ ∃ (its : List Value) (n : Nat),Vals xs its ∧ xs.length = its.length ∧ s.heap.get? l = some { cls := .type "list",data := .seq its.toArray n } := by
  obtain ⟨z,its,n,r,e⟩ := I.hok l _ hH
  exact ⟨z,its,n,r,r.length,e⟩
theorem notLongL {n : Nat} (h : n ≤ sizeLine) : Builtin.List.listTooLong n = false := by
  unfold Builtin.List.listTooLong
  exact decide_eq_false (by omega)
end
section
variable {X : Cx}
def rAppend : V → List V → Hp → VK → Prop := fun x vs H Q => ∃ l xs y,x = .ref l ∧ vs = [y] ∧ H l = some (.lst xs) ∧ xs.length < sizeLine ∧ Q .non (upd H l (.lst (xs ++ [y])))
theorem mt_append : MtM X "list.append" rAppend := by
  intro pins s σ H x vs v us Q I rx rv h
  obtain ⟨l,xs,y,rfl,rfl,hH,hz,q⟩ := h
  cases rx
  obtain ⟨u,rfl,ru⟩ := rv.one
  obtain ⟨z,its,n,r,hl,e⟩ := I.lstM hH
  refine call_meets F.slot_list_append ⟨_,e,rfl⟩ F.entry_list_append (F.args_list_append_2 _ _) (PySem.list_append l its.toArray n u (by rw [List.size_toArray]; omega)) ⟨e,?_⟩
  refine ⟨.non,_,I.lset (its' := its ++ [u]) hH e (by simp) (r.append (.cons ru .nil)) ?_,rfl,q⟩
  rw [List.length_append,List.length_singleton]
  omega
def rExtend : V → List V → Hp → VK → Prop := fun x vs H Q => ∃ l b xs zs,x = .ref l ∧ vs = [.ref b] ∧ H l = some (.lst xs) ∧ H b = some (.lst zs) ∧ xs.length + zs.length ≤ sizeLine ∧ Q .non (upd H l (.lst (xs ++ zs)))
theorem mt_extend : MtM X "list.extend" rExtend := by
  intro pins s σ H x vs v us Q I rx rv h
  obtain ⟨l,b,xs,zs,rfl,rfl,hH,hB,hz,q⟩ := h
  cases rx
  obtain ⟨u,rfl,ru⟩ := rv.one
  cases ru
  obtain ⟨z,its,n,r,hl,e⟩ := I.lstM hH
  obtain ⟨z2,its2,n2,r2,hl2,e2⟩ := I.lstM hB
  have hsz : its.toArray.size + its2.toArray.size ≤ sizeLine := by rw [List.size_toArray,List.size_toArray]; omega
  have hlong : ¬ (!its.toArray.isEmpty && Builtin.List.listTooLong (its.toArray.size + its2.toArray.size)) = true := by
    rw [notLongL hsz,Bool.and_false]
    exact Bool.false_ne_true
  refine call_meets F.slot_list_extend ⟨_,e,rfl⟩ F.entry_list_extend (F.args_list_extend_2 _ _)
    (AutoSeq1.list_extend_list_list_0 l its.toArray n b its2.toArray n2 hlong (by rw [List.size_toArray]; omega) (by omega)) ⟨e,e2,?_⟩
  refine ⟨.non,_,I.lset (its' := its ++ its2) hH e (by simp) (r.append r2) ?_,rfl,q⟩
  rw [List.length_append]
  omega
def rPop : V → List V → Hp → VK → Prop := fun x vs H Q => ∃ l xs y,x = .ref l ∧ vs = [] ∧ H l = some (.lst xs) ∧ xs[xs.length - 1]? = some y ∧ Q y (upd H l (.lst xs.dropLast))
theorem mt_pop : MtM X "list.pop" rPop := by
  intro pins s σ H x vs v us Q I rx rv h
  obtain ⟨l,xs,y,rfl,rfl,hH,hy,q⟩ := h
  cases rx
  have hus := rv.zero
  subst hus
  obtain ⟨z,its,n,r,hl,e⟩ := I.lstM hH
  obtain ⟨u,hu,ru⟩ := r.get hy
  have hy' : its.toArray[its.toArray.size - 1]? = some u := by
    show its.toArray[its.length - 1]? = some u
    rw [← Array.getElem?_toList,← hl]
    exact hu
  refine call_meets F.slot_list_pop ⟨_,e,rfl⟩ F.entry_list_pop (F.args_list_pop_1 _) (MeetsSeq.list_pop_last l its.toArray n u hy' (by rw [List.size_toArray]; omega)) ⟨e,?_⟩
  refine ⟨y,_,I.lset (its' := its.dropLast) hH e ?_ r.dropLast ?_,ru,q⟩
  · show its.toArray.eraseIdxIfInBounds (its.toArray.size - 1) = its.dropLast.toArray
    rw [List.size_toArray,List.eraseIdxIfInBounds_toArray,erase_last]
  · rw [List.length_dropLast]
    omega
def rCat : R2 := fun x y H Q => ∃ l b xs zs,x = .ref l ∧ y = .ref b ∧ H l = some (.lst xs) ∧ H b = some (.lst zs) ∧ xs.length + zs.length ≤ sizeLine ∧ ∀ p,H p = none → Q (.ref p) (upd H p (.lst (xs ++ zs)))
theorem op_cat : OpR X (binaryOp .Add) rCat := by
  intro pins s σ H x y v u Q I rx ry h
  obtain ⟨l,b,xs,zs,rfl,rfl,hH,hB,hz,q⟩ := h
  cases rx
  cases ry
  obtain ⟨z,its,n,r,hl,e⟩ := I.lstM hH
  obtain ⟨z2,its2,n2,r2,hl2,e2⟩ := I.lstM hB
  refine PySem.P.add_list e e2 ?_ (by rw [List.size_toArray,List.size_toArray]; omega)
  have ea : its.toArray ++ its2.toArray = (its ++ its2).toArray := by simp
  rw [ea]
  exact ⟨.ref _,_,I.lnew (t' := s.toks) (r.append r2) (by rw [List.length_append]; omega),rfl,q _ I.fresh⟩
end
section
variable {prog : Program} {w : World} {A : Around} {E : Value → Shared → Prop} {s : Shared}
end
section
variable {X : Cx}
end
end L2
namespace Att
open PySem PySem.W PySem.Calls PyProof.Rows
theorem ints_of_wellAll {P : Params} {h : Heap} : ∀ (ns : List Int) (vs : List Value),WellAll P h vs (ns.map WData.int) → IntsAre vs ns := by
  intro ns
  induction ns with
  | nil =>
    intro vs w
    rw [List.map_nil] at w
    cases w
    exact .nil
  | cons n ns ih =>
    intro vs w
    rw [List.map_cons] at w
    cases w with
    | cons a b =>
      cases a
      exact .cons _ _ (ih _ b)
theorem script_of {l : OpenLaw} {n : Nat} (hn : l.most = some n) {P : Params} {h : Heap} {args : List WData} {vals : List Value}
    (hpre : l.row.toRowW.claim.pre args = true) (hwl : WellAll P h vals args) :
    ∃ a vs ns,vals = [Value.ref a] ∧ args = [WData.list (ns.map WData.int)] ∧ h.get? a = some { cls := .type "list",data := .seq vs.toArray } ∧ IntsAre vs ns ∧ ns.length ≤ n := by
  have hsh : WShape.hasAll [] args [.list .int] = true := (pre_splitW hpre).1
  have hc : l.pre.holds [] { args := args } = true := (pre_splitW hpre).2
  obtain ⟨d,r,rfl,h1,h2⟩ := hasAllW_cons hsh
  obtain rfl := hasAllW_nil h2
  obtain ⟨xs,rfl,h3⟩ := hasW_list h1
  obtain ⟨ns,rfl⟩ := items_int h3
  have hlen : ns.length ≤ n := by
    unfold OpenLaw.pre at hc
    have h4 : (WTm.not (.lt (.lit (.int (n : Int))) (.len (.arg 0)))).holds [] { args := [.list (ns.map .int)] } = true := by
      have h4 := (holds_andW hc).1
      rw [hn] at h4
      exact h4
    have h5 := condW_of h4 (w_not (w_lt w_lit (w_len_list (w_arg rfl))))
    rw [List.length_map] at h5
    refine Nat.le_of_not_lt fun q => ?_
    have q' : (n : Int) < ((ns.length : Nat) : Int) := by omega
    first
      | (rw [decide_eq_true q'] at h5; exact absurd h5 (by decide))
      | (simp at h5; omega)
  cases hwl with
  | cons w1 w2 =>
    cases w2
    cases w1 with
    | list ho hall => exact ⟨_,_,ns,rfl,rfl,ho,ints_of_wellAll ns _ hall,hlen⟩
theorem post_true (l : OpenLaw) (args : List WData) : l.row.toRowW.claim.post args (.bool true) args = true :=
  postW_of (r := l.row.toRowW) (X := (true == true))
    (show WShape.has [] (.bool true) .bool = true by first | rfl | decide | simp [WShape.has,WShape.arms,WShape.armsAll])
    (show (WTm.eq .res (.lit (.bool true))).value [] { args := args,res := some (.bool true),after := args } = some (.bool (true == true)) from w_eq_bool (w_res rfl) w_lit) rfl
theorem attach_call {l : OpenLaw} {n : Nat} {q : Program} {loose : List Str} {XP : (Str → Option Value) → Heap → Prop} {YP : World → Heap → Prop} {d : DefRec}
    (hn : l.most = some n) (hdf : d.params.defaults = [])
    (call : ∀ (w : World) (s₀ s₁ : Shared) (mg mb : Str → Option Value) (fa : Addr) (o : Obj) (pm cd doc : Value) (a : Addr) (vs : List Value) (ns : List Int),
      Ground q loose [] XP w s₀ mg mb s₁.heap → YP w s₁.heap →
      s₁.heap.get? fa = some o → o.data = .func (docDef d.name d.params d.body d.scope pm cd doc) → s₁.heap.CodeRec cd d.name → mg d.name = some (.ref fa) →
      s₁.heap.get? a = some { cls := .type "list",data := .seq vs.toArray } → IntsAre vs ns → ns.length ≤ n → s₁.gens = #[] →
      codeAny (model l.prog w) callerA (.call (.ref fa) ⟨[.ref a],[]⟩) (fun r s' => r = .ok (.ret (.bool true)) ∧ OldK s₁.heap s'.heap ∧ s'.os = s₁.os ∧ AllBare s'.gens) s₁) :
    WalkO q loose XP YP l.row.toRowW d [] (fun f vs => PySem.call f vs) := by
  intro w s₀ s₁ mg mb G Y fa o pm cd doc dV kV ho hd hcd hD hmg hg args vals as hpre hlay hrd hwl hlo
  obtain rfl : dV = .none := Dflts.none hD hdf
  obtain rfl : kV = .none := Dflts.noKw hD
  obtain ⟨a,vs,ns,rfl,rfl,hobj,hints,hlen⟩ := script_of hn hpre hwl
  refine enter_call (codeAny_mono (call w s₀ s₁ mg mb fa o pm cd doc a vs ns G Y ho (fd_plain hd) hcd hmg hobj hints hlen hg) fun r s' hq => ?_)
  obtain ⟨rfl,h2,h3,h4⟩ := hq
  exact ⟨.inl ⟨.bool true,.bool true,[],rfl,fun _ => rfl,.bool true,post_true l _,fun _ => ⟨List.Pairwise.nil,fun _ hm => (nomatch hm)⟩⟩,h2,h3,h4⟩
section
variable {prog : Program} {w : World} {A : Around} {E : Value → Shared → Prop} {s : Shared} {K : Frag}
def ledger (h : Heap) (L d : Addr) : List (Addr × Obj) := (List.range h.objs.size).filterMap fun a => if a = L ∨ a = d then none else (h.get? a).map fun o => (a,o)
end
end Att
namespace L2
open PySem PySem.Spec PyProof.Rows
theorem vals_ints : ∀ {vs : List Value} {ns : List Int},IntsAre vs ns → Vals (ns.map V.int) vs
  | _,_,.nil => .nil
  | _,_,.cons n t h => .cons ⟨t,rfl⟩ (vals_ints h)
def Only (H : Hp) : Prop := ∀ b,H b = none ∨ ∃ o xs,H b = some (.frz o (.lst xs))
theorem law_call {P : Program} {w : World} {K : PySem.W.Frag} {mg mb : Str → Option Value} {CX : CXT} {k : Nat} {fa a : Addr} {fd : FuncData} {x : Str} {sp : Sp} {s₁ : Shared} {vs : List Value} {ns : List Int}
    (KX : K.In s₁.heap) (hns : s₁.heap.Ns mainGlobals mg) (hb : s₁.heap.Ns builtinsNs mb) (hbb : ∀ x : Str,x ≠ "__name__" → mb x = bootBuiltins x) (hlim : s₁.heap.NoLimit) (hg : s₁.gens = #[])
    (ha : s₁.heap.get? a = some { cls := .type "list",data := .seq vs.toArray }) (hi : IntsAre vs ns) (hl : ns.length ≤ sizeLine) (hr : Room k callerA)
    (F : ∀ base : Heap,K.In base → base.Ns mainGlobals mg → FnOk P w K mg base CX k fa fd [x] sp) (hbind : ∀ (s : Shared) (u : Value),BindsTo s fd ⟨[u],[]⟩ [(x,u)])
    (hsp : ∀ H : Hp,Only H → SqL K H a (ns.map V.int) → sp [.ref a] H (fun v _ => v = .bl true) fun _ _ _ => False)
    (hCX : ∀ H e s',CX [] H s₁ (fun _ _ _ => False) e s' → False) :
    codeAny (model P w) callerA (.call (.ref fa) ⟨[.ref a],[]⟩) (fun r s' => r = .ok (.ret (.bool true)) ∧ OldK s₁.heap s'.heap ∧ s'.os = s₁.os ∧ AllBare s'.gens) s₁ := by
  have rv := vals_ints hi
  have lenV := hi.length
  have core : ∀ H : Hp,Only H → SqL K H a (ns.map V.int) → HOk P w H s₁.heap → (∀ b,H b ≠ none → b = a) → (H a ≠ none → K.lookup a = none) →
      codeAny (model P w) callerA (.call (.ref fa) ⟨[.ref a],[]⟩) (fun r s' => r = .ok (.ret (.bool true)) ∧ OldK s₁.heap s'.heap ∧ s'.os = s₁.os ∧ AllBare s'.gens) s₁ := by
    intro H hO hS hok hA hK
    have base_of : ∀ {b : Addr} {o : Obj},s₁.heap.get? b = some o → H b = none → (hidT s₁.heap H).get? b = some o := fun e n => hidT_get e n
    have noA : ∀ {b : Addr} {o : Obj} {es : Array DictEntry} {ep : Nat},s₁.heap.get? b = some o → o.data = .dict es ep → H b = none := fun {b o es ep} e d => by
      cases q : H b with
      | none => rfl
      | some u =>
        have e' : b = a := hA b (by rw [q]; simp)
        subst e'
        rw [ha] at e; cases e
        have d' : Data.seq vs.toArray _ = Data.dict es ep := d
        cases d'
    have nsK : ∀ {b : Addr} {m : Str → Option Value},s₁.heap.Ns b m → (hidT s₁.heap H).Ns b m := fun {b m} ⟨o,es,ep,e,d,r⟩ => ⟨o,es,ep,base_of e (noA e d),d,r⟩
    have hKb : K.In (hidT s₁.heap H) := fun b o e => base_of (KX b o e) (by
      cases q : H b with
      | none => rfl
      | some u =>
        have e' : b = a := hA b (by rw [q]; simp)
        subst e'
        rw [hK (by rw [q]; simp)] at e; cases e)
    have hM : Mod K mg (hidT s₁.heap H) := ⟨hKb,nsK hns,⟨mb,nsK hb,hbb⟩,let ⟨mc,h1,h2⟩ := hlim; ⟨mc,nsK h1,h2⟩⟩
    have e0 : Env0 P w K mg (hidT s₁.heap H) callerA [] s₁ H := ⟨rfl,hM,fun b o e => of_hidT e,Nat.le_of_eq (hidT_size _ _),trivial,fun b hb => absurd (show b ∈ ([] : List Addr) from hb) (by simp),hok,.of_eq hg⟩
    refine codeAny_mono ((F _ hKb (nsK hns)).run callerA [] s₁ H ⟨[.ref a],[]⟩ [.ref a] [.ref a] _ _ hr e0 (hbind s₁ (.ref a)) (.cons rfl .nil) (hsp H hO hS)) fun r s' h => ?_
    cases r with
    | error e => exact (hCX H e s' h).elim
    | ok fl =>
      cases fl with
      | next => exact False.elim h
      | brk => exact False.elim h
      | cont => exact False.elim h
      | ret u =>
        obtain ⟨v,H',os,bare,un,hok',r',q⟩ := h
        have q' : v = .bl true := q
        subst q'
        obtain rfl : u = Value.bool true := r'
        refine ⟨rfl,OldK.of_keep fun b o e => ?_,os,bare⟩
        cases q : H b with
        | none => exact un.keep b o e q (by intro z; exact absurd (show b ∈ ([] : List Addr) from z) (by simp)) (by simp)
        | some u =>
          rcases hO b with z | ⟨ob,xs,z⟩
          · rw [q] at z; cases z
          · have z2 := un.frzs b ob _ z
            obtain ⟨e1,_⟩ := hok b _ z
            obtain ⟨e2,_⟩ := hok' b _ z2
            rw [e] at e1; cases e1
            exact e2
  cases hk : K.lookup a with
  | some o =>
    have e := KX a o hk
    rw [ha] at e
    cases e
    refine core (fun _ => none) (fun _ => .inl rfl) (.inr ⟨_,vs.toArray,_,hk,rfl,rfl,rfl,by rw [List.size_toArray,lenV]; exact hl,by simpa using rv⟩) (fun b u z => by have z' : (none : Option HO) = some u := z; cases z') (fun b z => absurd rfl z) fun z => absurd rfl z
  | none =>
    refine core (fun b => if b = a then some (.frz { cls := .type "list",data := .seq vs.toArray } (.lst (ns.map V.int))) else none) (fun b => ?_) (.inl (.inr ⟨{ cls := .type "list",data := .seq vs.toArray },if_pos rfl⟩)) (fun b u z => ?_) (fun b z => ?_) fun _ => hk
    · by_cases hb : b = a
      · exact .inr ⟨_,_,if_pos hb⟩
      · exact .inl (if_neg hb)
    · by_cases hb : b = a
      · have z' := (if_pos hb).symm.trans z
        cases z'
        subst hb
        exact ⟨ha,by rw [List.length_map]; exact hl,vs,_,rv,ha⟩
      · have z' := (if_neg hb).symm.trans z
        cases z'
    · by_cases hb : b = a
      · exact hb
      · exact absurd (if_neg hb) z
end L2
namespace L2
open PySem PySem.Spec PyProof.Rows
theorem walk_of {l : PySem.W.OpenLaw} {n k : Nat} {q : Program} {loose : List Str} {XP : (Str → Option Value) → Heap → Prop} {YP : World → Heap → Prop} {d : DefRec} {K : Params → PySem.W.Frag} {CX : World → CXT} {sp : World → Sp} {x : Str}
    (hn : l.most = some n) (hn2 : n ≤ sizeLine) (hdf : d.params.defaults = []) (hr : Room k callerA)
    (hY : ∀ (w : World) (h : Heap),YP w h → (K w.params).In h)
    (F : ∀ (w : World) (mg : Str → Option Value) (fa : Addr) (h : Heap),(K w.params).In h → h.Ns mainGlobals mg → mg d.name = some (.ref fa) →
      ∃ fd : FuncData,(∀ (s : Shared) (u : Value),BindsTo s fd ⟨[u],[]⟩ [(x,u)]) ∧
        ∀ base : Heap,(K w.params).In base → base.Ns mainGlobals mg → FnOk l.prog w (K w.params) mg base (CX w) k fa fd [x] (sp w))
    (hsp : ∀ (w : World) (H : Hp) (a : Addr) (ns : List Int),ns.length ≤ n → Only H → SqL (K w.params) H a (ns.map V.int) → sp w [.ref a] H (fun v _ => v = .bl true) fun _ _ _ => False)
    (hCX : ∀ (w : World) (H : Hp) (s : Shared) (e : Value) (s' : Shared),CX w [] H s (fun _ _ _ => False) e s' → False) :
    PySem.W.WalkO q loose XP YP l.row.toRowW d [] (fun f vs => PySem.call f vs) := by
  refine Att.attach_call hn hdf fun w s₀ s₁ mg mb fa o pm cd doc a vs ns G Y ho hd hcd hmg hobj hints hlen hg => ?_
  have KX := hY w _ Y
  obtain ⟨fd,hb,hF⟩ := F w mg fa _ KX G.T.g hmg
  exact law_call KX G.T.g G.T.b G.T.builtins G.T.nolimit hg hobj hints (Nat.le_trans hlen hn2) hr hF hb (fun H hO hS => hsp w H a ns hlen hO hS) fun H e s' => hCX w H s₁ e s'
end L2
namespace L2
open PySem PySem.Spec PyProof.Rows
def inClass (s : Stmt) (j : Nat) : Stmt := match s with
  | .ClassDef _ _ _ body _ _ _ _ _ _ _ => body.getD j (.Pass ⟨0,0,0,0⟩)
  | _ => .Pass ⟨0,0,0,0⟩
def defArgs (s : Stmt) : Arguments := match s with
  | .FunctionDef _ a _ _ _ _ _ _ _ _ => a
  | _ => { posonlyargs := [],args := [],vararg := none,kwonlyargs := [],kw_defaults := [],kwarg := none,defaults := [] }
def defBody (s : Stmt) : List Stmt := match s with
  | .FunctionDef _ _ b _ _ _ _ _ _ _ => b
  | _ => []
def defScope (s : Stmt) : Scope := match s with
  | .FunctionDef _ _ _ _ _ _ sc _ _ _ => sc
  | _ => { kind := .function,names := [],isGenerator := false,isCoroutine := false }
abbrev CX0 : CXT := fun _ _ _ _ _ _ => False
abbrev E0 : XK := fun _ _ _ => False
theorem pass0 {X : Cx} : Passes CX0 X E0 := fun _ _ _ _ _ _ _ h => h.elim
structure Fun (K : PySem.W.Frag) (x qual : Str) (st : Stmt) (f : Addr) (fd : FuncData) : Prop where
  ex : ∃ (oc : Value) (od : Option Addr) (kV doc pm : Value) (an : Option Addr) (cdv ct : Value) (osl : Array (Option Value)),
    fd = PySem.W.fnOf x qual (defArgs st) (defBody st) (defScope st) .none kV doc pm an cdv ct ∧ K.lookup f = some ⟨oc,od,.func fd,osl⟩ ∧ PySem.W.codeIn K cdv qual = true
  kp : PySem.W.keepIn K (.ref f) = true
section
variable {P : Program} {w : World} {K : PySem.W.Frag} {mg : Str → Option Value} {base : Heap}
theorem Fun.ok {x qual : Str} {st : Stmt} {f : Addr} {fd : FuncData} {N ps : List Str} {k : Nat} {sp : Sp} (F : Fun K x qual st f fd) (S : FnScope N ps (defScope st)) (len : ∀ vs H Q E,sp vs H Q E → vs.length = ps.length)
    (hbody : ∀ (cdv : Value) (A : Around) (outer : List Env) (s : Shared) (H : Hp) (vs : List V) (Q : VK) (E : XK),Room k (A.deeper (envOfC qual (defScope st) s.heap.objs.size f cdv)) → sp vs H Q E →
      ∃ t,PSs (cxOf CX0 P w K mg base N qual (defScope st) f cdv A outer s H E).nox (defBody st) t ∧ t { nx := fun _ H' => Q .non H',rt := Q } (start N vs) H) : FnOk P w K mg base CX0 (k + 1) f fd ps sp := by
  obtain ⟨oc,od,kV,doc,pm,an,cdv,ct,osl,rfl,lk,hcd⟩ := F.ex
  refine fn_of lk hcd S len fun A outer s H vs Q E hr hsp => ?_
  obtain ⟨t,h,q⟩ := hbody cdv A outer s H vs Q E hr hsp
  exact ⟨t,h.nox,q⟩
theorem Fun.binds {x qual : Str} {st : Stmt} {f : Addr} {fd : FuncData} {ps : List Str} (F : Fun K x qual st f fd)
    (h : ∀ (kV doc pm : Value) (an : Option Addr) (cdv ct : Value) (us : List Value),us.length = ps.length → bindArgs (PySem.W.fnOf x qual (defArgs st) (defBody st) (defScope st) .none kV doc pm an cdv ct) ⟨us,[]⟩ = pure (ps.zip us)) : Binds K fd ps [] := by
  obtain ⟨oc,od,kV,doc,pm,an,cdv,ct,osl,rfl,lk,hcd⟩ := F.ex
  exact .all (h kV doc pm an cdv ct)
theorem fun_mk {x qual : Str} {st : Stmt} {f : Addr} {oc : Value} {od an : Option Addr} {osl : Array (Option Value)} {kV doc pm cdv ct : Value} (l : K.lookup f = some ⟨oc,od,.func (PySem.W.fnOf x qual (defArgs st) (defBody st) (defScope st) .none kV doc pm an cdv ct),osl⟩)
    (c : PySem.W.codeIn K cdv qual = true) (k : PySem.W.keepIn K (.ref f) = true) : Fun K x qual st f (PySem.W.fnOf x qual (defArgs st) (defBody st) (defScope st) .none kV doc pm an cdv ct) := ⟨⟨oc,od,kV,doc,pm,an,cdv,ct,osl,rfl,l,c⟩,k⟩
end
section
variable {X : Cx}
theorem pv (i : Nat) {x : Str} {pos : Pos} (hN : X.N[i]? = some x := by rfl) (hv : Vis X.env.scope x := by first | exact Or.inl rfl | exact Or.inr (Or.inl rfl) | exact Or.inr (Or.inr rfl)) (hd : (x == ("__debug__" : Str)) = false := by decide)
    (hcd : (x == ("__classdict__" : Str)) = false := by decide) : PE X (.Name x pos) (tVar i) := pe_var hN hv hd hcd
end
theorem iteF {A B : Prop} (h : B) : if false = true then A else B := by
  rw [if_neg Bool.false_ne_true]
  exact h
theorem iteT {A B : Prop} (h : A) : if true = true then A else B := by
  rw [if_pos rfl]
  exact h
theorem ite2 {c A B : Prop} [Decidable c] (h1 : c → A) (h2 : ¬ c → B) : if c then A else B := by
  by_cases h : c
  · rw [if_pos h]
    exact h1 h
  · rw [if_neg h]
    exact h2 h
def Same (H H' : Hp) : Prop := ∀ b o,H b = some o → H' b = some o
theorem Same.refl (H : Hp) : Same H H := fun _ _ h => h
theorem Same.trans {H H1 H2 : Hp} (a : Same H H1) (b : Same H1 H2) : Same H H2 := fun c o h => b c o (a c o h)
theorem Same.free {H H' : Hp} (e : Same H H') {l : Addr} (h : H' l = Option.none) : H l = Option.none := by
  cases q : H l with
  | none => rfl
  | some o =>
    rw [e l o q] at h
    cases h
theorem Same.seq {K : PySem.W.Frag} {H H' : Hp} {a : Addr} {xs : List V} (e : Same H H') (h : SqL K H a xs) : SqL K H' a xs := by
  rcases h with (h | ⟨o,h⟩) | h
  · exact .inl (.inl (e _ _ h))
  · exact .inl (.inr ⟨o,e _ _ h⟩)
  · exact .inr h
end L2
set_option Elab.async false
set_option linter.all false
set_option maxRecDepth 100000
namespace L2
open PySem PySem.Spec PyProof.Rows
def clAdd (env : Env) : List (Str × NameKind) → List (Str × Addr) → List (Str × Addr)
  | [],acc => acc
  | (n,k) :: r,acc => clAdd env r (if (k == NameKind.free) = true then (n,(env.cells.lookup n).getD 0) :: acc else acc)
theorem clAdd_lookup (env : Env) : ∀ (names : List (Str × NameKind)) (acc : List (Str × Addr)) (x : Str) (c : Addr),(∀ y ∈ names,y.2 = .free → ∃ c,env.cells.lookup y.1 = some c) →
    (∀ x c,acc.lookup x = some c → env.cells.lookup x = some c) → (clAdd env names acc).lookup x = some c → env.cells.lookup x = some c
  | [],acc,x,c,_,h,e => h x c e
  | (n,k) :: r,acc,x,c,hf,h,e => by
    refine clAdd_lookup env r _ x c (fun y hy => hf y (List.mem_cons_of_mem _ hy)) (fun x c e' => ?_) e
    by_cases hk : (k == NameKind.free) = true
    · rw [if_pos hk] at e'
      obtain ⟨c0,hc0⟩ := hf (n,k) List.mem_cons_self (by simpa using hk)
      have hc0' : env.cells.lookup n = some c0 := hc0
      rw [List.lookup_cons] at e'
      cases hx : x == n with
      | true =>
        rw [hx] at e'
        have : x = n := by simpa using hx
        subst this
        rw [hc0'] at e' ⊢
        simpa using e'
      | false => rw [hx] at e'; exact h x c e'
    · rw [if_neg hk] at e'; exact h x c e'
theorem clAdd_keep (env : Env) : ∀ (names : List (Str × NameKind)) (acc : List (Str × Addr)) (x : Str),(∃ c,acc.lookup x = some c) → ∃ c,(clAdd env names acc).lookup x = some c
  | [],acc,x,h => h
  | (n,k) :: r,acc,x,h => by
    refine clAdd_keep env r _ x ?_
    by_cases hk : (k == NameKind.free) = true
    · rw [if_pos hk,List.lookup_cons]
      cases hx : x == n with
      | true => exact ⟨_,rfl⟩
      | false => exact h
    · rw [if_neg hk]; exact h
theorem clAdd_has (env : Env) : ∀ (names : List (Str × NameKind)) (acc : List (Str × Addr)) (x : Str),(x,NameKind.free) ∈ names → ∃ c,(clAdd env names acc).lookup x = some c
  | [],acc,x,h => by simp at h
  | (n,k) :: r,acc,x,h => by
    rcases List.mem_cons.mp h with e | e
    · have e1 : x = n := congrArg Prod.fst e
      have e2 : NameKind.free = k := congrArg Prod.snd e
      subst e1
      subst e2
      refine clAdd_keep env r _ x ?_
      rw [if_pos (by simp),List.lookup_cons]
      simp
    · exact clAdd_has env r _ x e
theorem closure_eq {env : Env} {scope : Scope} (hf : ∀ y ∈ scope.names,y.2 = .free → ∃ c,env.cells.lookup y.1 = some c) : closureFor scope env = pure (clAdd env scope.names []) := by
  have key : ∀ (names : List (Str × NameKind)) (acc : List (Str × Addr)),(∀ y ∈ names,y.2 = .free → ∃ c,env.cells.lookup y.1 = some c) →
      (forIn names acc (fun (x : Str × NameKind) (r : List (Str × Addr)) => (if (x.2 == NameKind.free) = true then do
        let a ← cellOf env x.1
        pure (ForInStep.yield ((x.1,a) :: r)) else pure (ForInStep.yield r)) ) : Sem (List (Str × Addr))) = pure (clAdd env names acc) := by
    intro names
    induction names with
    | nil => intro acc _; rfl
    | cons y r ih =>
      intro acc h
      obtain ⟨n,k⟩ := y
      have ih' := fun acc => ih acc fun z hz => h z (List.mem_cons_of_mem _ hz)
      rw [List.forIn_cons]
      by_cases hk : (k == NameKind.free) = true
      · obtain ⟨c,hc⟩ := h (n,k) List.mem_cons_self (by simpa using hk)
        have hc' : env.cells.lookup n = some c := hc
        have e1 : cellOf env n = pure c := by unfold cellOf; rw [hc']
        have e2 : clAdd env ((n,k) :: r) acc = clAdd env r ((n,c) :: acc) := by
          show clAdd env r _ = _
          rw [if_pos hk,hc']; rfl
        rw [if_pos hk,e2,← ih']
        show ((cellOf env n >>= fun a => pure (ForInStep.yield ((n,a) :: acc))) >>= _) = _
        rw [e1]
        rfl
      · have e2 : clAdd env ((n,k) :: r) acc = clAdd env r acc := by
          show clAdd env r _ = _
          rw [if_neg hk]
        rw [if_neg hk,e2,← ih']
        rfl
  have := key scope.names [] hf
  simp only [closureFor]
  exact (congrArg (fun m => m >>= fun r => (pure r : Sem _)) this).trans rfl
theorem relabel_back {env : Env} {scope : Scope} (hcell : ∀ y ∈ scope.names,y.2 ≠ .cell) {x : Str} : ((relabel scope env).names.lookup x = some .cell ∨ (relabel scope env).names.lookup x = some .free) → (x,NameKind.free) ∈ scope.names := by
  have key : ∀ names : List (Str × NameKind),(∀ y ∈ names,y.2 ≠ .cell) → ∀ k,(names.map fun (n,k) => if (k == NameKind.free && env.scope.kind == .function && env.kindOf n == some .cell) then (n,NameKind.cell) else (n,k)).lookup x = some k →
      (k = .cell ∨ k = .free) → (x,NameKind.free) ∈ names := by
    intro names
    induction names with
    | nil => intro _ k h _; simp at h
    | cons y r ih =>
      obtain ⟨n,k'⟩ := y
      intro hc k h hk
      have nc : k' ≠ .cell := hc (n,k') List.mem_cons_self
      rw [List.map_cons] at h
      by_cases hb : (k' == NameKind.free && env.scope.kind == .function && env.kindOf n == some .cell) = true
      · have hb' : k' = .free := by simp at hb; exact hb.1.1
        dsimp only at h
        rw [if_pos hb,List.lookup_cons] at h
        cases hx : x == n with
        | true => have : x = n := by simpa using hx
                  subst this; subst hb'; exact List.mem_cons_self
        | false => rw [hx] at h; exact List.mem_cons_of_mem _ (ih (fun y hy => hc y (List.mem_cons_of_mem _ hy)) k h hk)
      · dsimp only at h
        rw [if_neg hb,List.lookup_cons] at h
        cases hx : x == n with
        | true =>
          rw [hx] at h
          have : x = n := by simpa using hx
          subst this
          have e : k' = k := by simpa using h
          rcases hk with q | q
          · exact absurd (e.trans q) nc
          · rw [e,q]; exact List.mem_cons_self
        | false => rw [hx] at h; exact List.mem_cons_of_mem _ (ih (fun y hy => hc y (List.mem_cons_of_mem _ hy)) k h hk)
  rintro (h | h)
  · exact key _ hcell _ h (.inl rfl)
  · exact key _ hcell _ h (.inr rfl)
def blkCx (X : Cx) (pins : List (Addr × Obj)) (s2 : Shared) (H2 : Hp) (scope : Scope) (C : Addr) (N' : List Str) (fp : List Addr) : Cx where
  prog := X.prog
  w := X.w
  K := X.K
  mg := X.mg
  base := X.base
  A := X.A
  N := N'
  s₀ := s2
  H₀ := H2
  env := compEnvC scope (clAdd X.env scope.names []) C X.env
  outer := X.stack
  stack := X.stack
  ex := fp
  fn := fun _ => false
  calm := X.calm
  pn := X.pn ++ pins
  xe := fun _ _ => False
def blkSt (σ : St) (cap : List Nat) (k : Nat) : St := List.replicate k none ++ cap.map fun j => (σ[j]?).join
def leS (σ σ' : St) : Prop := σ'.length = σ.length ∧ ∀ (i : Nat) v,σ[i]? = some (some v) → σ'[i]? = some (some v)
theorem leS.set {σ : St} {i : Nat} {v : V} (h : σ[i]? = some none) : leS σ (σ.set i (some v)) := by
  refine ⟨by simp,fun j w e => ?_⟩
  by_cases hj : j = i
  · subst hj; rw [h] at e; cases e
  · rw [List.getElem?_set_ne (Ne.symm hj)]; exact e
structure CompOk (X : Cx) (scope : Scope) (own : List Str) (cs : List Str) (cap : List Nat) : Prop where
  kind : scope.kind = .function
  cell : ∀ y ∈ scope.names,y.2 ≠ .cell
  names : ∀ y ∈ scope.names,y.2 = .local → scope.names.lookup y.1 = some .local
  free : ∀ y ∈ scope.names,y.2 = .free → X.env.kindOf y.1 = some .cell ∨ X.env.kindOf y.1 = some .free
  caps : ∀ (i : Nat) y,cs[i]? = some y → ∃ j,cap[i]? = some j ∧ X.N[j]? = some y ∧ (y,NameKind.free) ∈ scope.names
  ownl : ∀ y ∈ own,scope.names.lookup y = some .local
  len : cs.length = cap.length
  free2 : ∀ y,(y,NameKind.free) ∈ scope.names → scope.names.lookup y = some .local → False
def PIfs (X : Cx) (ifs : List Expr) (tt : TT) : Prop :=
  ∀ (pins : List (Addr × Obj)) (s : Shared) (σ : St) (H : Hp) (Q : Bool → Hp → Prop),Inv X pins σ H s → tt σ H Q →
    wpAny (model X.prog X.w) X.A (forIn ifs true fun c r => if r = true then do let ok ← isTrue c X.env (eval c X.env); pure (ForInStep.yield ok) else pure (ForInStep.yield r)) (TP X pins σ Q) X.xe s
def tYes : TT := fun _ H Q => Q true H
theorem pifs_nil {X : Cx} : PIfs X [] tYes := fun _ _ _ H _ I h => wpAny_tests_nil ⟨H,I,h⟩
theorem pifs_one {X : Cx} {c : Expr} {tt : TT} (h : PT X c tt) : PIfs X [c] tt := fun pins s σ H Q I q => wpAny_tests_one (h pins s σ H Q I q)
def CompW (σ : St) (cap : List Nat) (k : Nat) (J : It) (g : TG) (tt : TT) (te : TE) (Q : List V → Hp → Prop) (W : Nat → Nat → List V → Hp → Prop) : Prop :=
  ∀ i m ys H,W i m ys H → (J.stop i H ∧ ys.length ≤ sizeLine ∧ Q ys H) ∨
    (J.go i H ∧ ys.length < sizeLine ∧ ∀ x H',J.yld i H x H' → g x (blkSt σ cap k) H' fun σ2 H2 => leS (blkSt σ cap k) σ2 ∧ tt σ2 H2 fun ok H3 =>
      if ok = true then te σ2 H3 (fun v H4 => ∃ m',m' < m ∧ W (i + 1) m' (ys ++ [v]) H4) else ∃ m',m' < m ∧ W (i + 1) m' ys H3)
theorem HOk.but {P : Program} {w : World} {H : Hp} {h h' : Heap} {C : Addr} (x : HOk P w H h) (n : H C = none) (k : Heap.SameBut C h h') : HOk P w H h' := fun b ob e => by
  refine (x b ob e).stay (fun c w' hc q => (k.2 c ?_).trans q) (fun _ q => q) fun _ _ q => q
  rintro rfl
  rcases hc with rfl | hc
  · rw [n] at e; cases e
  · rw [n] at hc; cases hc
theorem HOk.add {P : Program} {w : World} {H : Hp} {h : Heap} {a : Addr} {o : HO} (x : HOk P w H h) (n : H a = none) (new : ObjOk P w (upd H a o) h a o) : HOk P w (upd H a o) h := fun b u e => by
  by_cases hb : b = a
  · subst hb; rw [upd_same] at e; cases e; exact new
  · rw [upd_ne hb] at e
    exact (x b u e).stay (fun c v _ q => q) (fun c q => by rw [upd_ne (ne_of_none q n)]; exact q) fun c xs q => by rw [upd_ne (ne_of_none q n)]; exact q
section
variable {X : Cx} {pins : List (Addr × Obj)} {σ : St} {H2 : Hp} {s2 : Shared} {scope : Scope} {own cs : List Str} {cap : List Nat} {fp : List Addr}
theorem blk_start {h1 : Heap} {C : Addr} {tk : Nat} (I : Inv X pins σ H2 s2) (ok : CompOk X scope own cs cap) (hf : ∀ b ∈ fp,FpOk X pins H2 b) (hfl : ∀ b ∈ fp,b < s2.heap.objs.size)
    (hC : s2.heap.objs.size ≤ C) (hns : h1.Ns C (fun _ => none)) (old : ∀ b o,s2.heap.get? b = some o → h1.get? b = some o) :
    Inv (blkCx X pins s2 H2 scope C (own ++ cs) fp) [] (blkSt σ cap own.length) H2 { s2 with heap := h1,toks := tk } := by
  have hfr : ∀ y ∈ scope.names,y.2 = .free → ∃ c,X.env.cells.lookup y.1 = some c := fun y hy e => I.ok.has y.1 (ok.free y hy e)
  have sub : ∀ x c,(clAdd X.env scope.names []).lookup x = some c → X.env.cells.lookup x = some c := fun x c e => clAdd_lookup X.env scope.names [] x c hfr (fun _ _ z => by simp at z) e
  have clt : ∀ x c,(clAdd X.env scope.names []).lookup x = some c → c < s2.heap.objs.size := fun x c e => by
    obtain ⟨v,o,ho,_⟩ := I.cell x c (sub x c e)
    exact Heap.lt_size ho
  refine ⟨⟨I.ok.mod,ok.kind,I.ok.glob,I.ok.blt,hC,fun y z c h1 h2 => I.ok.inj y z c (sub y c h1) (sub z c h2),fun y hy => ?_,fun y c z => ?_,I.ok.hd,I.ok.frames,.inl rfl,fun b hb => ?_,I.bs,Nat.le_trans I.ok.bsz I.sz,fun b o e hb => ?_,fun b hb z => ?_,I.stack,I.stkFree⟩,
    rfl,I.bare,Un.kept old,⟨_,hns,fun i y v e1 e2 e3 => ?_⟩,fun y c e => ?_,I.hok.fresh hC,fun y c e => I.freeC y c (sub y c e),fun p hp => ?_,I.hok.kept old,?_⟩
  · have hm := relabel_back ok.cell hy
    exact clAdd_has X.env scope.names [] y hm
  · exact absurd (show false = true from z) Bool.false_ne_true
  · exact ⟨Nat.ne_of_lt (Nat.lt_of_lt_of_le (hfl b hb) hC),fun x c e => (hf b hb).2.2.2.2.1 x c (sub x c e)⟩
  · rcases (hf b hb).2.2.2.1 with z | z
    · exact I.ok.noex b o e z
    · exact absurd (Nat.lt_of_lt_of_le (Heap.lt_size (I.ok.bs b o e).1) z) (Nat.lt_irrefl _)
  · rcases List.mem_cons.mp (I.stkSub b z) with q | q
    · exact (hf b hb).2.1 q
    · exact (hf b hb).2.2.1 q
  · have hi : own.length ≤ i := by
      refine Nat.le_of_not_lt fun q => ?_
      unfold blkSt at e2
      rw [List.getElem?_append_left (by simpa using q),List.getElem?_replicate] at e2
      split at e2 <;> cases e2
    have e1' : cs[i - own.length]? = some y := by
      have e1 : (own ++ cs)[i]? = some y := e1
      rwa [List.getElem?_append_right hi] at e1
    obtain ⟨j,hj,hN,hm⟩ := ok.caps _ y e1'
    have hk := ok.free _ hm rfl
    have e2' : σ[j]? = some (some v) := by
      unfold blkSt at e2
      rw [List.getElem?_append_right (by simpa using hi),List.length_replicate,List.getElem?_map,hj] at e2
      have e2 : (σ[j]?).join = some v := by simpa using e2
      cases q : σ[j]? with
      | none => rw [q] at e2; cases e2
      | some w => rw [q] at e2; have : w = some v := e2; rw [this]
    obtain ⟨m,hn,hl⟩ := I.loc
    obtain ⟨u,ru,l⟩ := hl j y v hN e2' (by rcases hk with q | q; exact .inr (.inl q); exact .inr (.inr q))
    refine ⟨u,ru,.inr ?_⟩
    obtain ⟨c,hc⟩ := clAdd_has X.env scope.names [] y hm
    have hc' := sub y c hc
    have cellu : h1.IsCell c (some u) := by
      rcases l with ⟨k,_⟩ | ⟨k,c',e,o,ho,hd⟩
      · rcases hk with q | q <;> (have z : X.env.kindOf y = _ := q; rw [k] at z; cases z)
      · rw [hc'] at e; cases e
        exact ⟨o,old _ _ ho,hd⟩
    refine ⟨?_,c,hc,cellu⟩
    rcases e3 with z | z | z
    · exfalso
      have key : ∀ names : List (Str × NameKind),True := fun _ => trivial
      have z : (relabel scope X.env).names.lookup y = some .local := z
      have zz : scope.names.lookup y = some .local := by
        unfold relabel at z
        dsimp only at z
        revert z
        generalize scope.names = names
        induction names with
        | nil => intro z; simp at z
        | cons q r ih =>
          obtain ⟨n,k⟩ := q
          intro z
          rw [List.map_cons] at z
          by_cases hb : (k == NameKind.free && X.env.scope.kind == .function && X.env.kindOf n == some .cell) = true
          · dsimp only at z
            rw [if_pos hb,List.lookup_cons] at z
            rw [List.lookup_cons]
            cases hx : y == n with
            | true => rw [hx] at z; cases z
            | false => rw [hx] at z; exact ih z
          · dsimp only at z
            rw [if_neg hb,List.lookup_cons] at z
            rw [List.lookup_cons]
            cases hx : y == n with
            | true => rw [hx] at z; exact z
            | false => rw [hx] at z; exact ih z
      have := ok.free2 y hm zz
      exact this
    · exact .inl z
    · exact .inr z
  · obtain ⟨v,o,ho,hd⟩ := I.cell y c (sub y c e)
    exact ⟨v,o,old _ _ ho,hd⟩
  · have hp' : p ∈ X.pn ++ pins := by
      have : p ∈ (X.pn ++ pins) ++ [] := hp
      simpa using this
    obtain ⟨e,n,ne,nf,d⟩ := I.pin p hp'
    refine ⟨old _ _ e,n,Nat.ne_of_lt (Nat.lt_of_lt_of_le (Heap.lt_size e) hC),fun z => ?_,d⟩
    rcases List.mem_cons.mp (I.stkSub p.1 z) with q | q
    · exact ne q
    · exact nf q
  · show (blkSt σ cap own.length).length = (own ++ cs).length
    unfold blkSt
    rw [List.length_append,List.length_replicate,List.length_map,List.length_append,ok.len]
end
end L2
set_option Elab.async false
set_option linter.all false
set_option maxRecDepth 100000
namespace L2
open PySem PySem.Spec PyProof.Rows
section
variable {X : Cx} {pins : List (Addr × Obj)} {σ : St} {H2 : Hp} {s2 : Shared} {scope : Scope} {own cs : List Str} {cap : List Nat} {fp : List Addr} {it : Addr} {tn : Nat → Heap → Prop}
  {elt tg iter : Expr} {ifs : List Expr} {pos : Pos} {J : It} {g : TG} {tt : TT} {te : TE} {E : Value → Shared → Prop} {W : Nat → Nat → List V → Hp → Prop} {Qf : List V → Hp → Prop}
structure BlkEnd (X : Cx) (pins : List (Addr × Obj)) (σ : St) (Qf : List V → Hp → Prop) (D C : Addr) (s' : Shared) : Prop where
  ex : ∃ (ys : List V) (H' : Hp),H' D = none ∧ Qf ys H' ∧ Inv X pins σ (upd H' D (.lst ys)) s' ∧ FpOk X pins (upd H' D (.lst ys)) C
  ns : ∃ m,s'.heap.Ns C m
theorem Inv.bareP {pins' : List (Addr × Obj)} {H : Hp} {s : Shared} (I : Inv X pins' σ H s) : Inv X [] σ H s := I.pins_of fun p hp => absurd hp (by simp)
theorem comp_run {RR : Value → Addr → Result → Shared → Prop} (I : Inv X pins σ H2 s2) (ok : CompOk X scope own cs cap) (hc : X.calm = true) (T : Turn X.prog X.w X.K tg J fp it tn) (st : tn 0 s2.heap) (hf : ∀ b ∈ fp,FpOk X pins H2 b)
    (hg : ∀ C,PG (blkCx X pins s2 H2 scope C (own ++ cs) fp) tg g) (hi : ∀ C,PIfs (blkCx X pins s2 H2 scope C (own ++ cs) fp) ifs tt) (he : ∀ C,PE (blkCx X pins s2 H2 scope C (own ++ cs) fp) elt te)
    (w0 : ∃ m,W 0 m [] H2) (turn : CompW σ cap own.length J g tt te Qf W)
    (hRR : ∀ D C s',BlkEnd X pins σ Qf D C s' → RR (.ref D) C (.ok .next) s') :
    wpAny (model X.prog X.w) X.A (newList []) (fun acc s₃ => wpAny (model X.prog X.w) X.A (newFunctionEnv scope X.env.globals (clAdd X.env scope.names []) [] X.env.qual none .none (some X.env)) (fun cenv s₄ =>
      codeAny (model X.prog X.w) X.A (.compStart (.ListComp elt [⟨tg,iter,ifs,0⟩] scope pos) 0 (.ref it) acc { cenv with scope := relabel scope X.env }) (RR acc cenv.locals) s₄) E s₃) E s2 := by
  refine wpAny_newObj_type (wpAny_newFunctionEnv ok.cell (by intro y hy; simp at hy) (fun h₁ hns₁ hsb₁ => ?_) ok.kind)
  dsimp only at hns₁ hsb₁ ⊢
  generalize hHH : s2.heap.push { cls := .type "list",dict := none,data := .seq ([] : List Value).toArray } = HH at hns₁ hsb₁ ⊢
  have hCs : HH.objs.size = s2.heap.objs.size + 1 := by rw [← hHH,Heap.size_push]
  have hDC : s2.heap.objs.size ≠ HH.objs.size := by rw [hCs]; exact Nat.ne_of_lt (Nat.lt_succ_self _)
  have hCle : s2.heap.objs.size ≤ HH.objs.size := by rw [hCs]; exact Nat.le_succ _
  have hfl : ∀ b ∈ fp,b < s2.heap.objs.size := fun b hb => by
    obtain ⟨o,e,_⟩ := T.obj 0 _ st b hb
    exact Heap.lt_size e
  have old : ∀ b o,s2.heap.get? b = some o → h₁.get? b = some o := fun b o e => hsb₁.extBut b o (by rw [hCs]; exact Nat.ne_of_lt (Nat.lt_succ_of_lt (Heap.lt_size e))) (Heap.get?_push_of_some _ (hHH ▸ Heap.get?_push_of_some _ e))
  have hacc : h₁.PlainList s2.heap.objs.size #[] := ⟨_,hsb₁.extBut _ _ hDC (Heap.get?_push_of_some _ (hHH ▸ Heap.get?_push_size _ rfl))⟩
  generalize hD : s2.heap.objs.size = D at *
  generalize hCC : HH.objs.size = C at *
  have hns₁' : h₁.Ns C (fun _ => none) := hns₁
  have I0 : Inv (blkCx X pins s2 H2 scope C (own ++ cs) fp) [] (blkSt σ cap own.length) H2 { s2 with heap := h₁,toks := s2.toks + ([] : List (Str × Value)).length } :=
    blk_start I ok hf (fun b hb => by rw [hD]; exact hfl b hb) (by rw [hD]; exact hCle) hns₁' old
  have Dfs : D ∉ frs X.stack := fun hb => by
    obtain ⟨_,o,ho,_⟩ := I.stack.mem hb
    exact absurd (Heap.lt_size ho) (by rw [hD]; exact Nat.lt_irrefl _)
  have Dfp : ∀ b ∈ fp,D ≠ b := fun b hb z => absurd (hfl b hb) (by rw [← z]; exact Nat.lt_irrefl _)
  have clt : ∀ x c,(clAdd X.env scope.names []).lookup x = some c → c < D := fun x c e => by
    have e' := clAdd_lookup X.env scope.names [] x c (fun y hy e => I.ok.has y.1 (ok.free y hy e)) (fun _ _ z => by simp at z) e
    obtain ⟨v,o,ho,_⟩ := I.cell x c e'
    have := Heap.lt_size ho
    rw [hD] at this; exact this
  have plt : ∀ p ∈ X.pn ++ pins,p.1 < D := fun p hp => by
    have := Heap.lt_size (I.pin p hp).1
    rw [hD] at this; exact this
  have stat : ∀ {H' : Hp} {ob : Obj},(∀ b ∈ fp,H' b = none) → ∀ b ∈ fp,FpOk (blkCx X pins s2 H2 scope C (own ++ cs) fp) [(D,ob)] H' b := fun {H' ob} hn b hb => by
    have q := I0.ok.exf b hb
    refine ⟨hn b hb,q.1,I0.ok.exfs b hb,.inl hb,q.2,fun p hp => ?_⟩
    rcases List.mem_append.mp hp with z | z
    · exact (hf b hb).2.2.2.2.2 p z
    · have : p = (D,ob) := by simpa using z
      subst this
      exact Dfp b hb
  have loop : codeAny (model X.prog X.w) X.A (.compLoop (.ListComp elt [⟨tg,iter,ifs,0⟩] scope pos) 0 (.ref it) (.ref D) (compEnvC scope (clAdd X.env scope.names []) C X.env)) (RR (.ref D) C)
      { s2 with heap := h₁,toks := s2.toks + ([] : List (Str × Value)).length } := by
    obtain ⟨m0,w0⟩ := w0
    refine codeAny_loop rfl (fun n s' => ∃ i H' its ys,Inv (blkCx X pins s2 H2 scope C (own ++ cs) fp) [] (blkSt σ cap own.length) H' s' ∧ tn i s'.heap ∧ (∀ b ∈ fp,H' b = none) ∧ s'.heap.PlainList D its.toArray ∧ Vals ys its ∧ H' D = none ∧ W i n ys H') ?_ m0
      ⟨0,H2,[],[],I0,T.keep 0 _ _ st fun b _ o e => old b o e,fun b hb => (hf b hb).1,hacc,.nil,I.hok.fresh (by rw [hD]; exact Nat.le_refl _),w0⟩
    rintro n s3 ⟨i,H3,its,ys,I3,st3,fr3,⟨nn,pl3⟩,rv3,hD3,w3⟩
    show wpAny _ X.A ((compTurn (.ListComp elt [⟨tg,iter,ifs,0⟩] scope pos) 0 (.ref it) (.ref D) (compEnvC scope (clAdd X.env scope.names []) C X.env)).onRaise (fun x => do noteFrame x (compEnvC scope (clAdd X.env scope.names []) C X.env); theTreesLotGoes x)) _ _ s3
    refine wpAny_noted ?_
    rw [compTurn_list]
    refine wpAny_bind (wpAny_standAt (wpAny_bind ?_))
    have I3' : Inv (blkCx X pins s2 H2 scope C (own ++ cs) fp) [(D, { cls := .type "list", data := .seq its.toArray nn })] (blkSt σ cap own.length) H3 s3 :=
      I3.pins_of fun p hp => by
        have : p = (D,{ cls := .type "list",data := .seq its.toArray nn }) := by simpa using hp
        subst this
        exact ⟨pl3,hD3,hDC,Dfs,fun v z => by cases z⟩
    rcases turn i n ys H3 w3 with ⟨stop,hz,qf⟩ | ⟨go,hz,step⟩
    · refine thn (T.done (blkCx X pins s2 H2 scope C (own ++ cs) fp) rfl rfl rfl hc i _ s3 _ H3 _ I3' (stat fr3) st3 stop) fun r s4 ⟨hr,I4⟩ => ?_
      subst hr
      refine wpAny_pure (hRR D C s4 ⟨⟨ys,H3,hD3,qf,?_,?_⟩,?_⟩)
      · have pl4 := (I4.pin (D,_) (List.mem_append_right _ (List.mem_singleton.mpr rfl))).1
        have u4 := I4.base
        have Ds2 : s2.heap.get? D = none := Heap.get?_none_of_le (by rw [hD]; exact Nat.le_refl _)
        refine I.call' (s' := s4) (ch := fp) I4.os ⟨u4.keep,u4.slot,fun b o e n hx => ?_,u4.there,fun b xs e => ?_,fun b o u e => ?_,fun b ps e => ?_⟩ ?_ I4.bare fun b hb => ⟨(hf b hb).2.2.2.1,(hf b hb).2.1,(hf b hb).2.2.2.2.1,(hf b hb).2.2.2.2.2⟩
        · rw [upd_ne (fun z => by rw [z,Ds2] at e; cases e)]
          exact u4.free b o e n hx
        · have := u4.tups b xs e
          rw [upd_ne (ne_of_none this hD3)]; exact this
        · have := u4.frzs b o u e
          rw [upd_ne (ne_of_none this hD3)]; exact this
        · obtain ⟨more,e'⟩ := u4.tbls b ps e
          exact ⟨more,by rw [upd_ne (ne_of_none e' hD3)]; exact e'⟩
        · exact I4.hok.add hD3 ⟨hz,its,nn,rv3,pl4⟩
      · have CH : (upd H3 D (.lst ys)) C = none := by rw [upd_ne (Ne.symm hDC)]; exact I4.free
        exact I.fpOk (H' := upd H3 D (.lst ys)) (by rw [hD]; exact hCle) CH
      · obtain ⟨m,hn,_⟩ := I4.loc
        exact ⟨m,hn⟩
    · refine thn (T.item (blkCx X pins s2 H2 scope C (own ++ cs) fp) rfl rfl rfl hc i _ s3 _ H3 _ I3' (stat fr3) st3 go) fun r s4 ⟨u,hr,h4⟩ => ?_
      subst hr
      refine wpAny_bind (thn h4 fun _ s5 ⟨x,H5,I5,r5,y5,st5,fr5⟩ => ?_)
      have I5' := I5.pinned (stat fr5) (T.obj _ _ st5)
      refine wpAny_bind (wpAny_mono (hg C _ s5 _ H5 x u _ I5' r5 (step x H5 y5)) (fun _ s6 ⟨σ6,H6,I6,le6,q6⟩ => ?_) fun _ _ z => False.elim z)
      refine wpAny_bind (wpAny_mono (hi C _ s6 σ6 H6 _ I6 q6) (fun b s7 ⟨H7,I7,q7⟩ => ?_) fun _ _ z => False.elim z)
      have back : ∀ {pins' : List (Addr × Obj)} {H8 : Hp} {s8 : Shared},Inv (blkCx X pins s2 H2 scope C (own ++ cs) fp) pins' σ6 H8 s8 → Inv (blkCx X pins s2 H2 scope C (own ++ cs) fp) [] (blkSt σ cap own.length) H8 s8 := fun I8 =>
        I8.bareP.weak le6.1.symm fun i v e => le6.2 i v e
      cases b with
      | false =>
        rw [if_neg Bool.false_ne_true] at q7
        obtain ⟨m',hm,w7⟩ := q7
        refine wpAny_pure ⟨rfl,m',hm,i + 1,H7,its,ys,back I7,T.keep _ _ _ st5 fun b hb o e => ?_,fun b hb => ?_,⟨nn,?_⟩,rv3,?_,w7⟩
        · exact (I7.pin (b,o) (List.mem_append_right _ (List.mem_append_right _ (mem_pinsAt hb e)))).1
        · obtain ⟨o,e,d⟩ := T.obj _ _ st5 b hb
          exact (I7.pin (b,o) (List.mem_append_right _ (List.mem_append_right _ (mem_pinsAt hb e)))).2.1
        · exact (I7.pin (D,_) (List.mem_append_right _ (List.mem_append_left _ (List.mem_singleton.mpr rfl)))).1
        · exact (I7.pin (D,_) (List.mem_append_right _ (List.mem_append_left _ (List.mem_singleton.mpr rfl)))).2.1
      | true =>
        rw [if_pos rfl] at q7
        refine wpAny_bind (wpAny_bind (wpAny_mono (he C _ s7 σ6 H7 _ I7 q7) (fun y s8 ⟨v,H8,I8,r8,m',hm,w8⟩ => ?_) fun _ _ z => False.elim z))
        have pD := I8.pin (D,{ cls := .type "list",data := .seq its.toArray nn }) (List.mem_append_right _ (List.mem_append_left _ (List.mem_singleton.mpr rfl)))
        have hlen := rv3.length
        refine wpAny_bind (wpAny_list_append_plain (hsz := by rw [List.size_toArray]; omega) ⟨nn,pD.1⟩ fun h9 pl9 sb9 => wpAny_pure (wpAny_pure ?_))
        have I8' := back I8
        refine ⟨rfl,m',hm,i + 1,H8,its ++ [y],ys ++ [v],?_,T.keep _ _ _ st5 fun b hb o e => ?_,fun b hb => ?_,?_,rv3.append (.cons r8 .nil),pD.2.1,w8⟩
        · exact I8'.turned (t' := s8.toks) (fun b o hb e => sb9.extBut b o hb e) pD.2.1 hDC (.inr (by show s2.heap.objs.size ≤ D; rw [hD]; exact Nat.le_refl _)) (fun x c e => Nat.ne_of_lt (clt x c e)) fun p hp => by
            have hp' : p ∈ X.pn ++ pins := by
              have : p ∈ (X.pn ++ pins) ++ [] := hp
              simpa using this
            exact Nat.ne_of_lt (plt p hp')
        · exact sb9.extBut b o (Ne.symm (Dfp b hb)) (I8.pin (b,o) (List.mem_append_right _ (List.mem_append_right _ (mem_pinsAt hb e)))).1
        · obtain ⟨o,e,d⟩ := T.obj _ _ st5 b hb
          exact (I8.pin (b,o) (List.mem_append_right _ (List.mem_append_right _ (mem_pinsAt hb e)))).2.1
        · have e : its.toArray.push y = (its ++ [y]).toArray := by simp
          rw [← e]; exact pl9
  exact codeAny_compStart_list loop (T.self _ 0 _ _ _ (T.keep 0 _ _ st fun b _ o e => old b o e) loop)
def tComp (wi : TI) (cap : List Nat) (k : Nat) (g : TG) (tt : TT) (te : TE) : TE := fun σ H Q => wi σ H fun J H1 =>
  ∃ W : Nat → Nat → List V → Hp → Prop,(∃ m,W 0 m [] H1) ∧ CompW σ cap k J g tt te (fun ys H' => ∀ p,H' p = none → Q (.ref p) (upd H' p (.lst ys))) W
theorem pe_comp {wi : TI} (hc : X.calm = true) (hit : PI X tg iter wi) (ok : CompOk X scope own cs cap)
    (hg : ∀ pins s2 H2 C fp,PG (blkCx X pins s2 H2 scope C (own ++ cs) fp) tg g) (hi : ∀ pins s2 H2 C fp,PIfs (blkCx X pins s2 H2 scope C (own ++ cs) fp) ifs tt) (he : ∀ pins s2 H2 C fp,PE (blkCx X pins s2 H2 scope C (own ++ cs) fp) elt te)
    (hs : ∀ x,foldedSetIterable iter X.env x = pure x := by intro _; rfl) : PE X (.ListComp elt [⟨tg,iter,ifs,0⟩] scope pos) (tComp wi cap own.length g tt te) := by
  intro pins s σ H Q I h
  rw [eval_ListComp]
  refine wpAny_comprehension_free (use := none) rfl hs (closure_eq fun y hy e => I.ok.has y.1 (ok.free y hy e)) ok.kind ok.names (thn (hit pins s σ H _ I h) fun v s1 h1 => thn h1 fun itv s2 h2 => ?_)
  obtain ⟨it,fp,tn,J,H2,e,I2,T,st2,f2,W,w0,turn⟩ := h2
  subst e
  refine comp_run (RR := fun acc C => compPost (model X.prog X.w) X.A X.xe none (EP X pins σ Q) acc C) I2 ok hc T st2 f2 (fun C => hg _ _ _ _ _) (fun C => hi _ _ _ _ _) (fun C => he _ _ _ _ _) w0 turn fun D C s' B => ?_
  obtain ⟨⟨ys,H',hD,q,I',fp'⟩,m,hn⟩ := B
  obtain ⟨f0,f1,f2',f3,f4,f5⟩ := fp'
  exact ⟨m,hn,fun h' sb => ⟨.ref D,_,I'.turned (t' := s'.toks) (fun b o hb e => sb.extBut b o hb e) f0 f1 f3 f4 f5,rfl,q D hD⟩⟩
end
end L2
set_option Elab.async false
set_option linter.all false
set_option maxRecDepth 100000
namespace L2
open PySem PySem.Spec PyProof.Rows
def CDivB (i j : Int) : Prop := 0 < j ∧ j ≤ 10 ^ 60
theorem CDivB.np {i j : Int} (h : CDivB i j) : Builtin.divisionGoesByPylong i j = false := by
  refine PyProof.noPylong_of_log2 ?_
  have h1 : j.natAbs < 2 ^ 200 := by
    obtain ⟨a,b⟩ := h
    omega
  have h2 : j.natAbs.log2 < 200 := (Nat.log2_lt (by have := h.1; omega)).mpr h1
  omega
section
variable {X : Cx}
theorem op_fdivB : OpR X (binaryOp .FloorDiv) (rI CDivB fun i j => .int (i / j)) := opI fun i j _ _ _ _ _ hc q => by
  refine floordiv_int (by have := hc.1; omega) ?_ (.inl hc.np)
  rw [Int.fdiv_eq_ediv_of_nonneg _ (by have := hc.1; omega)]
  exact q
theorem Inv.kitx {pins : List (Addr × Obj)} {σ : St} {H : Hp} {s : Shared} {x : V} {u t : Value} (I : Inv X pins σ H s) (rx : RelV x u) (ty : TyOf X.K H x t) :
    ∃ P : Heap → Prop,PySem.W.KitX X.K u t P ∧ P s.heap ∧ u ≠ .builtin "__main__.__loader__#opaque" := by
  cases ty with
  | non => cases (show u = Value.none from rx); exact ⟨_,PySem.W.kitx_none,True.intro,fun z => nomatch z⟩
  | bl y => cases (show u = Value.bool y from rx); exact ⟨_,PySem.W.kitx_bool,True.intro,fun z => nomatch z⟩
  | int i => obtain ⟨t,q⟩ := (show ∃ t,u = Value.int i t from rx); cases q; exact ⟨_,PySem.W.kitx_int,True.intro,fun z => nomatch z⟩
  | str y => obtain ⟨t,q⟩ := (show ∃ t,u = Value.str y t from rx); cases q; exact ⟨_,PySem.W.kitx_str,True.intro,fun z => nomatch z⟩
  | flt y => obtain ⟨t,q⟩ := (show ∃ t,u = Value.float y t from rx); cases q; exact ⟨_,PySem.W.kitx_float,True.intro,fun z => nomatch z⟩
  | @lst a xs ea =>
    cases (show u = Value.ref a from rx)
    obtain ⟨_,_,n,_,h1⟩ := (show ObjOk X.prog X.w H s.heap a (.lst xs) from I.hok a _ ea)
    exact ⟨_,PySem.W.kitx_list,⟨_,h1,rfl⟩,fun z => nomatch z⟩
  | @frz a ob xs ea =>
    cases (show u = Value.ref a from rx)
    obtain ⟨_,_,_,n,_,h1⟩ := (show ObjOk X.prog X.w H s.heap a (.frz ob (.lst xs)) from I.hok a _ ea)
    exact ⟨_,PySem.W.kitx_list,⟨_,h1,rfl⟩,fun z => nomatch z⟩
  | @tup a xs ea =>
    cases (show u = Value.ref a from rx)
    obtain ⟨_,_,_,p⟩ := (show ObjOk X.prog X.w H s.heap a (.tup xs) from I.hok a _ ea)
    obtain ⟨o,h1,h2,_⟩ := p
    exact ⟨_,PySem.W.kitx_tuple,⟨o,h1,h2⟩,fun z => nomatch z⟩
  | @dK a kvs ea =>
    cases (show u = Value.ref a from rx)
    obtain ⟨_,_,vs,_,p⟩ := (show ObjOk X.prog X.w H s.heap a (.dK kvs) from I.hok a _ ea)
    obtain ⟨o,es,ep,h1,h2,_⟩ := p
    exact ⟨_,PySem.W.kitx_dict,⟨o,h1,h2.1⟩,fun z => nomatch z⟩
  | @dT a kvs ea =>
    cases (show u = Value.ref a from rx)
    obtain ⟨_,_,xs,_,o,es,ep,h1,h2,_⟩ := (show ObjOk X.prog X.w H s.heap a (.dT kvs) from I.hok a _ ea)
    exact ⟨_,PySem.W.kitx_dict,⟨o,h1,h2.1⟩,fun z => nomatch z⟩
  | @ins a C dx fs ea cl ha hn htk hm =>
    cases (show u = Value.ref a from rx)
    obtain ⟨mA,O,_⟩ := ins_get I.hok ea
    obtain ⟨od,J,_⟩ := O.look
    exact ⟨_,PySem.W.kitx_own (cl.get _) cl.hd ha hn htk hm,J,fun z => nomatch z⟩
def clV : V → Option Value
  | .ty T => some (.type T)
  | .ref C => some (.ref C)
  | _ => none
theorem clV.rel {v : V} {u c : Value} (e : clV v = some c) (r : RelV v u) : u = c := by
  cases v with
  | ty T => have e' : Value.type T = c := Option.some.inj e; rw [← e']; exact r
  | ref C => have e' : Value.ref C = c := Option.some.inj e; rw [← e']; exact r
  | _ => cases e
def clVs : List V → Option (List Value)
  | [] => some []
  | v :: r => match clV v,clVs r with
    | some c,some cs => some (c :: cs)
    | _,_ => none
theorem clVs.rel : ∀ {vs : List V} {us cs : List Value},clVs vs = some cs → Vals vs us → us = cs
  | [],_,_,e,.nil => Option.some.inj e
  | v :: r,_,_,e,.cons r1 r2 => by
    unfold clVs at e
    split at e
    · rename_i c cs' e1 e2
      cases e
      rw [clV.rel e1 r1,clVs.rel e2 r2]
    · cases e
theorem call_isinst : CallR X (.builtin "isinstance") (fun xs H Q => ∃ x cv t c b,xs = [x,cv] ∧ TyOf X.K H x t ∧ clV cv = some c ∧ PySem.W.kitOne X.K t c = some b ∧ Q (.bl b) H) := by
  intro pins s σ H xs us Q I rv h
  obtain ⟨x,cv,t,c,b,rfl,ty,e1,e2,q⟩ := h
  cases rv with
  | cons r1 rr =>
    cases rr with
    | cons r2 rr =>
      cases rr
      rw [clV.rel e1 r2]
      exact isinst_ok I r1 ty e2 fun tk => ⟨.bl b,H,I.tok tk,rfl,q⟩
theorem call_isinstT : CallR X (.builtin "isinstance") (fun xs H Q => ∃ x p t cvs cs b,xs = [x,.ref p] ∧ TyOf X.K H x t ∧ H p = some (.tup cvs) ∧ clVs cvs = some cs ∧ PySem.W.kitAny X.K t cs = some b ∧ Q (.bl b) H) := by
  intro pins s σ H xs us Q I rv h
  obtain ⟨x,p,t,cvs,cs,b,rfl,ty,hp,e1,e2,q⟩ := h
  cases rv with
  | cons r1 rr =>
    cases rr with
    | cons r2 rr =>
      cases rr
      cases r2
      obtain ⟨_,its,rits,o,ho,hc,n,hd⟩ := I.hok p _ hp
      obtain ⟨P,Z,p1,p2⟩ := I.kitx r1 ty
      obtain ⟨oc,od,dt,osl⟩ := o
      replace hc : oc = .type "tuple" := hc
      replace hd : dt = .seq its.toArray n := hd
      subst hc hd
      have e3 := clVs.rel e1 rits
      subst e3
      exact PySem.W.kia_tup Z I.kIn p1 ho e2 p2 fun tk => ⟨.bl b,H,I.tok tk,rfl,q⟩
end
mutual
inductive DatV (K : PySem.W.Frag) (H : Hp) : V → PyData → Prop
  | non : DatV K H .non .none
  | bl (b : Bool) : DatV K H (.bl b) (.bool b)
  | int (i : Int) : DatV K H (.int i) (.int i)
  | str (x : Str) : DatV K H (.str x) (.str x)
  | lst {a : Addr} {xs : List V} {ds : List PyData} : SqL K H a xs → DatVs K H xs ds → DatV K H (.ref a) (.list ds)
  | tup {a : Addr} {xs : List V} {ds : List PyData} : SqT K H a xs → DatVs K H xs ds → DatV K H (.ref a) (.tuple ds)
inductive DatVs (K : PySem.W.Frag) (H : Hp) : List V → List PyData → Prop
  | nil : DatVs K H [] []
  | cons {x : V} {d : PyData} {xs : List V} {ds : List PyData} : DatV K H x d → DatVs K H xs ds → DatVs K H (x :: xs) (d :: ds)
end
section
variable {X : Cx} {pins : List (Addr × Obj)} {σ : St} {H : Hp} {s : Shared}
mutual
theorem Inv.reads (I : Inv X pins σ H s) : ∀ {v : V} {d : PyData},DatV X.K H v d → ∀ {u : Value},RelV v u → ∃ as,Reads s.heap u d as
  | _,_,.non,u,r => by cases (show u = Value.none from r); exact ⟨_,.none⟩
  | _,_,.bl b,u,r => by cases (show u = Value.bool b from r); exact ⟨_,.bool b⟩
  | _,_,.int i,u,r => by obtain ⟨t,e⟩ := (show ∃ t,u = Value.int i t from r); subst e; exact ⟨_,.int i t⟩
  | _,_,.str x,u,r => by obtain ⟨t,e⟩ := (show ∃ t,u = Value.str x t from r); subst e; exact ⟨_,.str x t⟩
  | _,_,.lst (a := a) h hs,u,r => by
    cases (show u = Value.ref a from r)
    obtain ⟨its,rv,⟨o,n,e,c,_,d⟩,_⟩ := I.list h
    obtain ⟨as,ra⟩ := I.readsAll hs rv
    exact ⟨_,.list e c d (by simpa using ra)⟩
  | _,_,.tup (a := a) h hs,u,r => by
    cases (show u = Value.ref a from r)
    obtain ⟨its,rv,⟨o,e,c,n,d⟩,_⟩ := I.tuple h
    obtain ⟨as,ra⟩ := I.readsAll hs rv
    exact ⟨_,.tuple e c d (by simpa using ra)⟩
theorem Inv.readsAll (I : Inv X pins σ H s) : ∀ {vs : List V} {ds : List PyData},DatVs X.K H vs ds → ∀ {us : List Value},Vals vs us → ∃ as,ReadsAll s.heap us ds as
  | _,_,.nil,_,.nil => ⟨_,.nil⟩
  | _,_,.cons h hs,_,.cons r rs => by
    obtain ⟨as,ra⟩ := I.reads h r
    obtain ⟨bs,rb⟩ := I.readsAll hs rs
    exact ⟨_,.cons ra rb⟩
end
end
section
variable {X : Cx}
theorem op_neD (hu : X.A.units + 64 < cLine) : OpR X (compareOp .NotEq) (fun x y H Q => ∃ da db,DatV X.K H x da ∧ DatV X.K H y db ∧ SeqAt.shaped da = true ∧ SeqAt.shaped db = true ∧ Q (.bl (!PyData.eqv da db)) H) := by
  intro pins s σ H x y v u Q I rx ry h
  obtain ⟨da,db,hx,hy,s1,s2,q⟩ := h
  obtain ⟨as,ra⟩ := I.reads hx rx
  obtain ⟨bs,rb⟩ := I.reads hy ry
  exact ne_dataH ra rb s1 s2 hu ⟨.bl _,H,I,rfl,q⟩
theorem op_eqD (hu : X.A.units + 64 < cLine) : OpR X (compareOp .Eq) (fun x y H Q => ∃ da db,DatV X.K H x da ∧ DatV X.K H y db ∧ SeqAt.shaped da = true ∧ SeqAt.shaped db = true ∧ Q (.bl (PyData.eqv da db)) H) := by
  intro pins s σ H x y v u Q I rx ry h
  obtain ⟨da,db,hx,hy,s1,s2,q⟩ := h
  obtain ⟨as,ra⟩ := I.reads hx rx
  obtain ⟨bs,rb⟩ := I.reads hy ry
  exact eq_dataH ra rb s1 s2 hu ⟨.bl _,H,I,rfl,q⟩
end
section
variable {prog : Program} {w : World} {A : Around} {E : Value → Shared → Prop}
theorem draw_listN {it l : Addr} {items : Array Value} (hne : l ≠ it) : ∀ (n i : Nat) (s : Shared) (Q : List Value → Shared → Prop),s.heap.IsListIter it l i → s.heap.IsList l items → i + n ≤ items.size →
    (∀ h',h'.IsListIter it l (i + n) → Heap.SameBut it s.heap h' → Q ((items.toList.drop i).take n) { s with heap := h' }) → wpAny (model prog w) A (draw (.ref it) n) Q E s
  | 0,i,s,Q,hit,_,_,hQ => by
    show wpAny _ _ (pure []) Q E s
    exact wpAny_pure (by simpa using hQ s.heap hit (Heap.SameBut.refl ..))
  | n + 1,i,s,Q,hit,ht,hle,hQ => by
    have hlt : i < items.size := by omega
    show wpAny _ _ (pyNext (.ref it) >>= _) Q E s
    refine wpAny_bind (wpAny_pyNext_list_item hit ht (x := items[i]) (by simp [hlt]) fun h₁ hit₁ hs₁ => ?_)
    refine wpAny_bind (wpAny_holding (draw_listN hne n (i + 1) _ _ hit₁ (ht.extBut hs₁.extBut hne) (by omega) fun h₂ hit₂ hs₂ => wpAny_pure ?_))
    have hd : items.toList.drop i = items[i] :: items.toList.drop (i + 1) := by simp [List.drop_eq_getElem_cons,hlt]
    have q := hQ h₂ (by rw [show i + (n + 1) = i + 1 + n by omega]; exact hit₂) (hs₁.trans hs₂)
    rw [hd,List.take_succ_cons] at q
    exact q
theorem unpackItems_listN {s : Shared} {l : Addr} {items : Array Value} {Q : List Value → Shared → Prop} (hh : A.handled = none) (ht : s.heap.IsList l items)
    (hQ : ∀ h',Heap.ExtBut s.heap.objs.size s.heap h' → Q items.toList { s with heap := h' }) : wpAny (model prog w) A (unpackItems (.ref l) items.size none) Q E s := by
  have hlt : l ≠ s.heap.objs.size := by obtain ⟨o,ho,_⟩ := ht; exact Nat.ne_of_lt (Heap.lt_size ho)
  have hp : (s.heap.push { cls := .type "list_iterator",data := .fields #[.ref l,.int 0 0] }).IsList l items := by
    obtain ⟨o,ho,r⟩ := ht; exact ⟨o,Heap.get?_push_of_some _ ho,r⟩
  unfold unpackItems
  refine wpAny_bind ?_
  · unfold notIterableAtAll
    refine wpAny_bind (wpAny_specialOf ht.typeIs PySem.slot_list_iter.lookup ?_)
    refine wpAny_pure ?_
    simp only [Bool.false_eq_true,if_false]
    refine wpAny_bind (wpAny_holding (wpAny_pyIter_list ht ?_))
    refine wpAny_bind (wpAny_holding (draw_listN hlt items.size 0 _ _ ⟨_,Heap.get?_push_size _ rfl,rfl,rfl⟩ hp (by omega) fun h₁ hit₁ hs₁ => ?_))
    have hall : List.take items.size (List.drop 0 items.toList) = items.toList := by
      rw [List.drop_zero]; exact List.take_of_length_le (by simp)
    rw [hall]
    rw [if_neg (by simp)]
    have ht₁ : h₁.IsList l items := hp.extBut hs₁.extBut hlt
    refine wpAny_bind (wpAny_holding (wpAny_pyNext_list_end hh hit₁ ht₁ (by simp) fun h₂ he₂ => ?_))
    simp only [Option.isSome_none,Bool.false_eq_true,if_false]
    refine wpAny_pure (hQ h₂ fun b o hb e => he₂ b o hb (hs₁.extBut b o hb (Heap.get?_push_of_some _ e)))
theorem assign_Tuple_listN {s : Shared} {env : Env} {elts : List Expr} {x1} {pos : Pos} {l : Addr} {items : Array Value} {Q : Unit → Shared → Prop} (hh : A.handled = none) (ht : s.heap.IsList l items)
    (hn : (assignEach elts env).length = items.size) (hstar : (assignEach elts env).findIdx? (·.1) = none)
    (h : ∀ h',Heap.ExtBut s.heap.objs.size s.heap h' → wpAny (model prog w) A (assignInOrder ((assignEach elts env).map (·.2)) items.toList) Q E { s with heap := h' }) :
    wpAny (model prog w) A (assign (.Tuple elts x1 pos) env (.ref l)) Q E s := by
  rw [assign_Tuple]
  refine wpAny_bind (wpAny_standAt ?_)
  unfold unpack
  rw [hn,hstar]
  exact wpAny_bind (wpAny_holding (unpackItems_listN hh ht h))
end
section
variable {X : Cx} {pos : Pos}
def gSeq (K : PySem.W.Frag) (n : Nat) (t : TGs) : TG := fun v σ H Q => ∃ a xs,v = .ref a ∧ (SqL K H a xs ∨ SqT K H a xs) ∧ xs.length = n ∧ t xs σ H Q
theorem pg_seq {es : List Expr} {k : Nat} {t : TGs} {n : Nat} (hc : X.calm = true) (h : PGs X es t)
    (hn : (assignEach es X.env).length = n := by rfl) (hst : (assignEach es X.env).findIdx? (·.1) = none := by rfl) : PG X (.Tuple es k pos) (gSeq X.K n t) := by
  intro pins s σ H v u Q I r hw
  obtain ⟨a,xs,e1,hq,hl,hw⟩ := hw
  rcases hq with hq | hq
  · subst e1
    cases r
    obtain ⟨its,rv,ht,hz⟩ := I.list hq
    refine assign_Tuple_listN (I.ok.hd hc) ht.isList (by simp [hn,← hl,rv.length]) hst fun h' hx => ?_
    have I1 : Inv X pins σ H { s with heap := h' } := I.kept (t' := s.toks) fun b o e => hx b o (Nat.ne_of_lt (Heap.lt_size e)) e
    exact h pins _ σ H xs _ Q I1 (by simpa using rv) hw
  · exact pg_tup hc h hn hst pins s σ H v u Q I r ⟨a,xs,e1,hq,hl,hw⟩
end
section
variable {X : Cx}
theorem Inv.turnedN {pins : List (Addr × Obj)} {σ : St} {H : Hp} {s : Shared} {h' : Heap} {t' : Nat} {ch : List Addr} (I : Inv X pins σ H s) (hf : ∀ b ∈ ch,FpOk X pins H b) (k : ∀ b o,b ∉ ch → s.heap.get? b = some o → h'.get? b = some o) : Inv X pins σ H { s with heap := h',toks := t' } := by
  have hLc : X.env.locals ∉ ch := fun z => (hf _ z).2.1 rfl
  have nt : ∀ b u,H b = some u → b ∉ ch := fun b u e z => by rw [(hf b z).1] at e; cases e
  refine I.step (g' := s.gens) (d' := s.drawn) (ch := ch) (fun b hb => ⟨(hf b hb).2.2.2.1,(hf b hb).2.1,(hf b hb).2.2.2.2.1,(hf b hb).2.2.2.2.2⟩) (fun b o _ _ hc e _ => k b o hc e) (fun b o _ _ hc e _ => ⟨o.slots,k b o hc e⟩) (fun _ _ _ _ n => n)
    (fun b o hc e => ⟨o,k b o hc e⟩) (fun _ _ e => e) (fun _ _ _ e => e) (fun b ps e => ⟨#[],by rw [e]; simp⟩) (fun m hm => ?_) (fun b u e => ?_) I.bare
  · obtain ⟨o,es,ep,ho,r⟩ := hm
    exact ⟨o,es,ep,k _ o hLc ho,r⟩
  · refine (I.hok b u e).stay (fun c v hc q => k c v ?_ q) (fun _ q => q) fun _ _ q => q
    rcases hc with z | z
    · rw [z]; exact nt b u e
    · exact nt c _ z
theorem Inv.track {pins : List (Addr × Obj)} {σ : St} {H : Hp} {s : Shared} {a : Addr} {o : HO} (I : Inv X pins σ H s) (hf : FpOk X pins H a) (fa : X.s₀.heap.objs.size ≤ a) (new : ObjOk X.prog X.w (upd H a o) s.heap a o) : Inv X pins σ (upd H a o) s := by
  obtain ⟨f0,f1,f2,f3,f4,f5⟩ := hf
  have s0 : ∀ b o,X.s₀.heap.get? b = some o → b ≠ a := fun b o e => Nat.ne_of_lt (Nat.lt_of_lt_of_le (Heap.lt_size e) fa)
  refine ⟨I.ok,I.os,I.bare,⟨I.base.keep,I.base.slot,fun b o e n hx => ?_,I.base.there,fun b xs e => ?_,fun b o u e => ?_,fun b ps e => ?_⟩,I.loc,I.cell,?_,fun x c e => ?_,fun p hp => ?_,I.hok.add f0 new,I.len⟩
  · rw [upd_ne (s0 b o e)]; exact I.base.free b o e n hx
  · have q := I.base.tups b xs e
    rw [upd_ne (ne_of_none q f0)]; exact q
  · have q := I.base.frzs b o u e
    rw [upd_ne (ne_of_none q f0)]; exact q
  · obtain ⟨more,q⟩ := I.base.tbls b ps e
    exact ⟨more,by rw [upd_ne (ne_of_none q f0)]; exact q⟩
  · rw [upd_ne (Ne.symm f1)]; exact I.free
  · rw [upd_ne (f4 x c e)]; exact I.freeC x c e
  · obtain ⟨e,n,r⟩ := I.pin p hp
    exact ⟨e,by rw [upd_ne (f5 p hp)]; exact n,r⟩
end
structure ZipAp (z TI TO i1 i2 : Addr) : Prop where
  nd : [z,TI,TO,i1,i2].Nodup
end L2
set_option Elab.async false
set_option linter.all false
set_option maxRecDepth 100000
namespace L2
open PySem PySem.Spec PyProof.Rows
def Dn (P : Program) (w : World) (K : PySem.W.Frag) (mg : Str → Option Value) (base : Heap) (x : Str) (ps : List Str) (k : Nat) (sp : Sp) : Prop :=
  ∃ (f : Addr) (fd : FuncData),FnOk P w K mg base CX0 k f fd ps sp ∧ Binds K fd ps [] ∧ PySem.W.keepIn K (.ref f) = true ∧ mg x = some (.ref f)
theorem pe_cD {X : Cx} {k : Nat} {ps : List Str} {sp : Sp} {x : Str} {p pos : Pos} {e : Expr} {es : List Expr} {t : TA} (D : Dn X.prog X.w X.K X.mg X.base x ps k sp) (hr : Room k X.A) (hg : Gl X x) (ha : PA X (e :: es) t)
    (hdb : (x == ("__debug__" : Str)) = false := by decide) (he : starEach (e :: es) X.env = (false,eval e X.env) :: starEach es X.env := by rfl) (hpl : (backTo pos (starEach es X.env)).any (·.1) = false := by rfl) :
    PE X (.Call (.Name x p) (e :: es) [] pos) (tCall sp [] E0 t) := by
  obtain ⟨f,fd,F,hb,hk,hm⟩ := D
  exact pe_call F hr hg hm hk hb .nil pass0 ha hdb he hpl
def compChk (sc : Scope) (N : List Str) (scope : Scope) (own cs : List Str) (cap : List Nat) : Bool :=
  decide (scope.kind = .function) && scope.names.all (fun y => decide (y.2 ≠ .cell)) && scope.names.all (fun y => decide (y.2 = .local → scope.names.lookup y.1 = some .local)) &&
  scope.names.all (fun y => decide (y.2 = .free → sc.names.lookup y.1 = some .cell ∨ sc.names.lookup y.1 = some .free)) && own.all (fun y => decide (scope.names.lookup y = some .local)) &&
  decide (cs.length = cap.length) && (cs.zip cap).all (fun y => decide (N[y.2]? = some y.1) && decide ((y.1,NameKind.free) ∈ scope.names)) && scope.names.all (fun y => decide (y.2 = .free → scope.names.lookup y.1 ≠ some .local))
theorem compOk_of {X : Cx} {sc : Scope} {N : List Str} {scope : Scope} {own cs : List Str} {cap : List Nat} (h1 : X.env.scope = sc) (h2 : X.N = N) (h : compChk sc N scope own cs cap = true) : CompOk X scope own cs cap := by
  subst h1 h2
  unfold compChk at h
  simp only [Bool.and_eq_true,List.all_eq_true,decide_eq_true_eq] at h
  obtain ⟨⟨⟨⟨⟨⟨⟨a1,a2⟩,a3⟩,a4⟩,a5⟩,a6⟩,a7⟩,a8⟩ := h
  refine ⟨a1,a2,a3,a4,fun i y e => ?_,a5,a6,fun y hy e => a8 _ hy rfl e⟩
  have hi : i < cs.length := (List.getElem?_eq_some_iff.mp e).1
  have hj : i < cap.length := by rw [← a6]; exact hi
  refine ⟨cap[i],List.getElem?_eq_getElem hj,?_⟩
  have hm : (y,cap[i]) ∈ cs.zip cap := by
    have : (cs.zip cap)[i]? = some (y,cap[i]) := by
      rw [List.getElem?_zip_eq_some]
      exact ⟨e,List.getElem?_eq_getElem hj⟩
    exact List.mem_of_getElem? this
  exact a7 _ hm
theorem tYes_ite {σ : St} {H : Hp} {A B : Hp → Prop} (h : A H) : tYes σ H (fun ok H3 => if ok = true then A H3 else B H3) := by
  show (if (true : Bool) = true then A H else B H)
  rw [if_pos rfl]
  exact h
section
variable {X : Cx} {tg : Expr}
def iSeq (K : PySem.W.Frag) (tl : TE) : TI := fun σ H R => iList K tl σ H R ∨ iTup K tl σ H R
theorem pi_seq {l : Expr} {tl : TE} (hl : PE X l tl) : PI X tg l (iSeq X.K tl) := by
  intro pins s σ H R I h
  rcases h with h | h
  · exact pi_list hl pins s σ H R I h
  · exact pi_tup hl pins s σ H R I h
end
def tyNames : List String := ["NoneType","bool","int","str","list","tuple","dict"]
theorem kit_int {K : PySem.W.Frag} : ∀ T ∈ tyNames,PySem.W.kitOne K (.type T) (.type "int") = some (T == "int" || T == "bool") := by
  intro T h
  simp only [tyNames,List.mem_cons,List.not_mem_nil,or_false] at h
  rcases h with rfl | rfl | rfl | rfl | rfl | rfl | rfl <;> kernel_rfl
theorem kit_bool {K : PySem.W.Frag} : ∀ T ∈ tyNames,PySem.W.kitOne K (.type T) (.type "bool") = some (T == "bool") := by
  intro T h
  simp only [tyNames,List.mem_cons,List.not_mem_nil,or_false] at h
  rcases h with rfl | rfl | rfl | rfl | rfl | rfl | rfl <;> kernel_rfl
theorem kit_list {K : PySem.W.Frag} : ∀ T ∈ tyNames,PySem.W.kitOne K (.type T) (.type "list") = some (T == "list") := by
  intro T h
  simp only [tyNames,List.mem_cons,List.not_mem_nil,or_false] at h
  rcases h with rfl | rfl | rfl | rfl | rfl | rfl | rfl <;> kernel_rfl
theorem kit_tuple {K : PySem.W.Frag} : ∀ T ∈ tyNames,PySem.W.kitOne K (.type T) (.type "tuple") = some (T == "tuple") := by
  intro T h
  simp only [tyNames,List.mem_cons,List.not_mem_nil,or_false] at h
  rcases h with rfl | rfl | rfl | rfl | rfl | rfl | rfl <;> kernel_rfl
theorem kit_str {K : PySem.W.Frag} : ∀ T ∈ tyNames,PySem.W.kitOne K (.type T) (.type "str") = some (T == "str") := by
  intro T h
  simp only [tyNames,List.mem_cons,List.not_mem_nil,or_false] at h
  rcases h with rfl | rfl | rfl | rfl | rfl | rfl | rfl <;> kernel_rfl
theorem kit_row {K : PySem.W.Frag} : ∀ T ∈ tyNames,PySem.W.kitAny K (.type T) [.type "list",.type "tuple"] = some (T == "list" || T == "tuple") := by
  intro T h
  have h1 := kit_list (K := K) T h
  have h2 := kit_tuple (K := K) T h
  unfold PySem.W.kitAny
  rw [h1]
  cases e : (T == "list") with
  | true => rfl
  | false =>
    show PySem.W.kitAny K (.type T) [.type "tuple"] = _
    unfold PySem.W.kitAny
    rw [h2]
    cases e2 : (T == "tuple") <;> rfl
def Ty (K : PySem.W.Frag) (H : Hp) (x : V) (T : String) : Prop := T ∈ tyNames ∧ TyOf K H x (.type T)
theorem Ty.int {K : PySem.W.Frag} {H : Hp} {i : Int} : Ty K H (.int i) "int" := ⟨by simp [tyNames],.int i⟩
theorem Ty.bl {K : PySem.W.Frag} {H : Hp} {b : Bool} : Ty K H (.bl b) "bool" := ⟨by simp [tyNames],.bl b⟩
theorem Ty.non {K : PySem.W.Frag} {H : Hp} : Ty K H .non "NoneType" := ⟨by simp [tyNames],.non⟩
theorem Ty.str {K : PySem.W.Frag} {H : Hp} {x : Str} : Ty K H (.str x) "str" := ⟨by simp [tyNames],.str x⟩
theorem Ty.lst {K : PySem.W.Frag} {H : Hp} {a : Addr} {xs : List V} (e : H a = some (.lst xs)) : Ty K H (.ref a) "list" := ⟨by simp [tyNames],.lst e⟩
theorem Ty.tup {K : PySem.W.Frag} {H : Hp} {a : Addr} {xs : List V} (e : H a = some (.tup xs)) : Ty K H (.ref a) "tuple" := ⟨by simp [tyNames],.tup e⟩
theorem Ty.dK {K : PySem.W.Frag} {H : Hp} {a : Addr} {xs : List (Key × V)} (e : H a = some (.dK xs)) : Ty K H (.ref a) "dict" := ⟨by simp [tyNames],.dK e⟩
def whole : V → Int → Bool
  | .int i,l => decide (l ≤ i)
  | _,_ => false
def isBl : V → Bool
  | .bl _ => true
  | _ => false
theorem ty_int {K : PySem.W.Frag} {H : Hp} {x : V} {T : String} (t : TyOf K H x (.type T)) (h : T ∈ tyNames) : (T == "int") = true → ∃ i,x = .int i := by
  intro e
  have e' : T = "int" := by simpa using e
  subst e'
  generalize hv : Value.type "int" = tv at t
  cases t with
  | int i => exact ⟨i,rfl⟩
  | _ => exact absurd hv (by simp)
theorem ty_bool {K : PySem.W.Frag} {H : Hp} {x : V} {T : String} (t : TyOf K H x (.type T)) : (T == "bool") = isBl x := by
  generalize hv : Value.type T = tv at t
  cases t with
  | bl b => cases hv; rfl
  | non => cases hv; rfl
  | int i => cases hv; rfl
  | str i => cases hv; rfl
  | flt i => cases hv; rfl
  | lst i => cases hv; rfl
  | frz i => cases hv; rfl
  | tup i => cases hv; rfl
  | dK i => cases hv; rfl
  | dT i => cases hv; rfl
  | ins => cases hv
end L2
namespace Pc
open PySem L2
structure Pot (a b : Int) : Prop where
  a0 : 0 ≤ a
  b0 : 0 ≤ b
  b1 : b < 2147483629
def But (p : Addr) (H H' : Hp) : Prop := ∀ b o,b ≠ p → H b = some o → H' b = some o
theorem But.refl {p : Addr} {H : Hp} : But p H H := fun _ _ _ e => e
theorem But.trans {p : Addr} {H H1 H2 : Hp} (a : But p H H1) (b : But p H1 H2) : But p H H2 := fun c o n e => b c o n (a c o n e)
theorem But.upd {p : Addr} {H : Hp} {o : HO} : But p H (upd H p o) := fun b u n e => by rw [upd_ne n]; exact e
theorem But.new {p q : Addr} {H : Hp} {o : HO} (h : H q = none) : But p H (L2.upd H q o) := fun b u n e => by rw [upd_ne (ne_of_none e h)]; exact e
theorem But.same {p : Addr} {H H' : Hp} (b : But p H H') (h : H p = none) : Same H H' := fun c o e => b c o (ne_of_none e h) e
structure Kd where
  w : Int
  h : Int
  wo : Int
  wa : Int
  tu : Bool
def kdV (k : Kd) : List V := [.int k.w,.int k.h,.int k.wo,.int k.wa,.bl k.tu]
structure Good (k : Kd) : Prop where
  w : 1 ≤ k.w
  h : 1 ≤ k.h
  wo : 0 ≤ k.wo
  wa : 0 ≤ k.wa
  w' : k.w < 10 ^ 60
  h' : k.h < 10 ^ 60
  wo' : k.wo < 10 ^ 60
  wa' : k.wa < 10 ^ 60
def TupAt (H : Hp) (v : V) (k : Kd) : Prop := ∃ a,v = .ref a ∧ H a = some (.tup (kdV k))
def LstAt (H : Hp) (v : V) (k : Kd) : Prop := ∃ a,v = .ref a ∧ H a = some (.lst (kdV k))
def RowAt (H : Hp) (v : V) (k : Kd) : Prop := TupAt H v k ∨ LstAt H v k
abbrev Tups (H : Hp) : List V → List Kd → Prop := Paired (TupAt H)
theorem Tups.keep {H H' : Hp} (k : ∀ b xs,H b = some (.tup xs) → H' b = some (.tup xs)) : ∀ {xs : List V} {ks : List Kd},Tups H xs ks → Tups H' xs ks := fun r =>
  Paired.mapP r fun v kd ⟨a,e,h⟩ => ⟨a,e,k a _ h⟩
structure ToldAt (H : Hp) (t l : Addr) (bl : Int) (xs : List V) (ks : List Kd) : Prop where
  t : H t = some (.tup [.int bl,.ref l])
  l : H l = some (.lst xs)
  r : Tups H xs ks
  b0 : 0 ≤ bl
  b1 : bl < 10 ^ 60
  g : ∀ k ∈ ks,Good k
  n0 : 1 ≤ xs.length
  n1 : xs.length ≤ 8
def spWhole (K : PySem.W.Frag) : Sp := fun vs H Q _ => ∃ (x : V) (T : String) (l : Int),vs = [x,.int l] ∧ Ty K H x T ∧ Q (.bl (whole x l)) H
def spTruth (K : PySem.W.Frag) : Sp := fun vs H Q _ => ∃ (x : V) (T : String),vs = [x] ∧ Ty K H x T ∧ Q (.bl (isBl x)) H
def spRow (K : PySem.W.Frag) : Sp := fun vs H Q _ => ∃ (x : V) (T : String), vs = [x] ∧ Ty K H x T ∧ ∀ H', Same H H' → Q (.bl (T == "list" || T == "tuple")) H'
def kind5 : List V → Bool
  | [w,h,wo,wa,tu] => whole w 1 && whole h 1 && whole wo 0 && whole wa 0 && isBl tu
  | _ => false
def spIsKind (K : PySem.W.Frag) : Sp := fun vs H Q _ => ∃ (x : V) (T : String),vs = [x] ∧ Ty K H x T ∧ 
  ((T ≠ "list" ∧ T ≠ "tuple" ∧ ∀ H', Same H H' → Q (.bl false) H') ∨ ∃ (a : Addr) (xs : List V), x = .ref a ∧ (H a = some (.lst xs) ∨ H a = some (.tup xs)) ∧ (∀ y ∈ xs, ∃ U, Ty K H y U) ∧ ∀ H', Same H H' → Q (.bl (kind5 xs)) H')
theorem kind5_good {k : Kd} (g : Good k) : kind5 (kdV k) = true := by
  show (decide (1 ≤ k.w) && decide (1 ≤ k.h) && decide (0 ≤ k.wo) && decide (0 ≤ k.wa) && true) = true
  rw [decide_eq_true g.w,decide_eq_true g.h,decide_eq_true g.wo,decide_eq_true g.wa]
  rfl
theorem Ty.same {K : PySem.W.Frag} {H H' : Hp} {x : V} {T : String} (s : Same H H') (t : Ty K H x T) : Ty K H' x T := by
  refine ⟨t.1,?_⟩
  have t2 := t.2
  generalize hv : Value.type T = tv at t2 ⊢
  cases t2 with
  | non => exact .non
  | bl b => exact .bl b
  | int b => exact .int b
  | str b => exact .str b
  | flt b => exact .flt b
  | lst e => exact .lst (s _ _ e)
  | frz e => exact .frz (s _ _ e)
  | tup e => exact .tup (s _ _ e)
  | dK e => exact .dK (s _ _ e)
  | dT e => exact .dT (s _ _ e)
  | ins => cases hv
end Pc
set_option Elab.async false
set_option linter.all false
set_option maxRecDepth 100000
namespace L2
open PySem PySem.Spec PyProof.Rows
def rTupleOf (K : PySem.W.Frag) : List V → Hp → VK → Prop := fun xs H Q => ∃ p ys,xs = [V.ref p] ∧ ((SqL K H p ys ∧ ∀ l,H l = none → Q (.ref l) (upd H l (.tup ys))) ∨ (SqT K H p ys ∧ Q (.ref p) H))
def rIsi (K : PySem.W.Frag) : List V → Hp → VK → Prop := fun xs H Q => ∃ x cv t c b,xs = [x,cv] ∧ TyOf K H x t ∧ clV cv = some c ∧ PySem.W.kitOne K t c = some b ∧ Q (.bl b) H
theorem for_seqV {K : PySem.W.Frag} {j : Nat} {a : Addr} {xs : List V} {g : TG} {tb : TS} {D : Ends} {σ : St} {H : Hp} (hσ : σ[j]? = some (some (.ref a))) (hs : H a = some (.lst xs) ∨ H a = some (.tup xs)) (Pv : Nat → St → Hp → Prop) (h0 : Pv 0 σ H)
    (hk : ∀ i σ H',i ≤ xs.length → Pv i σ H' → ∀ o,H a = some o → H' a = some o)
    (ht : ∀ i x σ H,xs[i]? = some x → Pv i σ H → g x σ H fun σ2 H2 => tb { D with nx := Pv (i + 1),ct := Pv (i + 1),bk := D.nx } σ2 H2) (hd : ∀ σ H,Pv xs.length σ H → D.nx σ H) : tFor (iSeq K (tVar j)) g tb D σ H := by
  rcases hs with z | z
  · exact .inl ⟨_,hσ,a,rfl,⟨xs,SqL.of z⟩,for_list (xs := xs) Pv h0 (fun i σ H' hi p => SqL.of (hk i σ H' hi p _ z)) ht hd⟩
  · exact .inr ⟨_,hσ,a,rfl,⟨xs,SqT.of z⟩,for_tup (xs := xs) Pv h0 (fun i σ H' hi p => SqT.of (hk i σ H' hi p _ z)) ht hd⟩
def Nx (n : Nat) (Pv : Nat → List V → Hp → Prop) (i : Nat) (ys : List V) (H : Hp) : Prop := ∃ m',m' < n - i ∧ m' = n - (i + 1) ∧ i + 1 ≤ n ∧ Pv (i + 1) ys H
theorem Nx.of {n : Nat} {Pv : Nat → List V → Hp → Prop} {i : Nat} {ys : List V} {H : Hp} (h : i < n) (p : Pv (i + 1) ys H) : Nx n Pv i ys H := ⟨n - (i + 1),by omega,rfl,h,p⟩
theorem comp_seq {K : PySem.W.Frag} {a : Addr} {xs : List V} {σ : St} {cap : List Nat} {k : Nat} {g : TG} {tt : TT} {te : TE} {Q : List V → Hp → Prop} {H : Hp} (hs : H a = some (.lst xs) ∨ H a = some (.tup xs)) (Pv : Nat → List V → Hp → Prop)
    (hk : ∀ i ys H',i ≤ xs.length → Pv i ys H' → ∀ o,H a = some o → H' a = some o) (h0 : Pv 0 [] H)
    (ht : ∀ i x ys H',xs[i]? = some x → Pv i ys H' → ys.length < sizeLine ∧ g x (blkSt σ cap k) H' fun σ2 H2 => leS (blkSt σ cap k) σ2 ∧ tt σ2 H2 fun ok H3 => if ok = true then te σ2 H3 (fun v H4 => Nx xs.length Pv i (ys ++ [v]) H4) else Nx xs.length Pv i ys H3)
    (hd : ∀ ys H',Pv xs.length ys H' → ys.length ≤ sizeLine ∧ Q ys H') :
    (H a = some (.lst xs) → ∃ W,(∃ m,W 0 m [] H) ∧ CompW σ cap k (Itl K a) g tt te Q W) ∧ (H a = some (.tup xs) → ∃ W,(∃ m,W 0 m [] H) ∧ CompW σ cap k (Itt K a) g tt te Q W) := by
  refine ⟨fun z => ⟨fun i m ys H' => m = xs.length - i ∧ i ≤ xs.length ∧ Pv i ys H',⟨_,rfl,Nat.zero_le _,h0⟩,?_⟩,fun z => ⟨fun i m ys H' => m = xs.length - i ∧ i ≤ xs.length ∧ Pv i ys H',⟨_,rfl,Nat.zero_le _,h0⟩,?_⟩⟩
  · rintro i m ys H' ⟨rfl,hi,p⟩
    have z' := hk i ys H' hi p _ z
    by_cases hin : i < xs.length
    · obtain ⟨e,hg⟩ := ht i xs[i] ys H' (by simp [hin]) p
      refine .inr ⟨⟨xs,xs[i],SqL.of z',by simp [hin]⟩,e,fun x H2 yl => ?_⟩
      obtain ⟨e1,e2⟩ := yl
      have e3 := e2 xs (SqL.of z')
      have e4 : x = xs[i] := by simpa [hin] using e3.symm
      subst e1 e4
      exact hg
    · have e : i = xs.length := by omega
      subst e
      obtain ⟨a1,a2⟩ := hd ys H' p
      exact .inl ⟨⟨xs,SqL.of z',Nat.le_refl _⟩,a1,a2⟩
  · rintro i m ys H' ⟨rfl,hi,p⟩
    have z' := hk i ys H' hi p _ z
    by_cases hin : i < xs.length
    · obtain ⟨e,hg⟩ := ht i xs[i] ys H' (by simp [hin]) p
      refine .inr ⟨⟨xs,xs[i],SqT.of z',by simp [hin]⟩,e,fun x H2 yl => ?_⟩
      obtain ⟨e1,e2⟩ := yl
      have e3 := e2 xs (SqT.of z')
      have e4 : x = xs[i] := by simpa [hin] using e3.symm
      subst e1 e4
      exact hg
    · have e : i = xs.length := by omega
      subst e
      obtain ⟨a1,a2⟩ := hd ys H' p
      exact .inl ⟨⟨xs,SqT.of z',Nat.le_refl _⟩,a1,a2⟩
theorem comp_seqV {K : PySem.W.Frag} {j : Nat} {a : Addr} {xs : List V} {σ : St} {cap : List Nat} {k : Nat} {g : TG} {tt : TT} {te : TE} {Q : VK} {H : Hp} (hσ : σ[j]? = some (some (.ref a))) (hs : H a = some (.lst xs) ∨ H a = some (.tup xs)) (Pv : Nat → List V → Hp → Prop)
    (hk : ∀ i ys H',i ≤ xs.length → Pv i ys H' → ∀ o,H a = some o → H' a = some o) (h0 : Pv 0 [] H)
    (ht : ∀ i x ys H',xs[i]? = some x → Pv i ys H' → ys.length < sizeLine ∧ g x (blkSt σ cap k) H' fun σ2 H2 => leS (blkSt σ cap k) σ2 ∧ tt σ2 H2 fun ok H3 => if ok = true then te σ2 H3 (fun v H4 => Nx xs.length Pv i (ys ++ [v]) H4) else Nx xs.length Pv i ys H3)
    (hd : ∀ ys H',Pv xs.length ys H' → ys.length ≤ sizeLine ∧ ∀ p,H' p = none → Q (.ref p) (upd H' p (.lst ys))) : tComp (iSeq K (tVar j)) cap k g tt te σ H Q := by
  obtain ⟨c1,c2⟩ := comp_seq (K := K) (σ := σ) (cap := cap) (k := k) (g := g) (tt := tt) (te := te) hs Pv hk h0 ht hd
  rcases hs with z | z
  · exact .inl ⟨_,hσ,a,rfl,⟨xs,SqL.of z⟩,c1 z⟩
  · exact .inr ⟨_,hσ,a,rfl,⟨xs,SqT.of z⟩,c2 z⟩
end L2
namespace Pc
open PySem L2
def flds (b : Int) (r : Addr) : List (Str × V) := putF "kind_rows" (.ref r) (putF "blade_width" (.int b) [])
theorem kbw : ¬ (("blade_width" : Str) = "kind_rows") := by decide +kernel
theorem flds_blade (b : Int) (r : Addr) : (flds b r).lookup ("blade_width" : Str) = some (.int b) := by
  unfold flds
  rw [lookup_putF,if_neg kbw,lookup_putF,if_pos rfl]
theorem flds_rows (b : Int) (r : Addr) : (flds b r).lookup ("kind_rows" : Str) = some (.ref r) := by
  unfold flds
  rw [lookup_putF,if_pos rfl]
theorem flds_no (b : Int) (r : Addr) {m : Str} (h1 : ¬ m = "kind_rows") (h2 : ¬ m = "blade_width") : (flds b r).lookup m = none := by
  unfold flds
  rw [lookup_putF,if_neg h1,lookup_putF,if_neg h2]
  all_goals rfl
def ShopAt (C : Addr) (H : Hp) (x : Addr) (b : Int) (ks : List Kd) : Prop := ∃ dx r rs,H x = some (.ins C dx (flds b r)) ∧ H r = some (.tup rs) ∧ Tups H rs ks
theorem ShopAt.keep {C : Addr} {H H' : Hp} {x : Addr} {b : Int} {ks : List Kd} (s : ShopAt C H x b ks) (k1 : ∀ b xs,H b = some (.tup xs) → H' b = some (.tup xs)) (k2 : ∀ b C dx fs,H b = some (.ins C dx fs) → H' b = some (.ins C dx fs)) : ShopAt C H' x b ks := by
  obtain ⟨dx,r,rs,h1,h2,h3⟩ := s
  exact ⟨dx,r,rs,k2 _ _ _ _ h1,k1 _ _ h2,Tups.keep k1 h3⟩
def spInit (C : Addr) : Sp := fun vs H Q _ => ∃ (x dx ks : Addr) (b : Int) (rs : List V) (kds : List Kd),vs = [.ref x,.int b,.ref ks] ∧ H x = some (.ins C dx []) ∧ 0 ≤ b ∧ (H ks = some (.lst rs) ∨ H ks = some (.tup rs)) ∧ Paired (RowAt H) rs kds ∧ (∀ k ∈ kds,Good k) ∧ 1 ≤ rs.length ∧ rs.length ≤ 8 ∧
  ∀ H' : Hp,ShopAt C H' x b kds → (∀ c o,c ≠ x → H c = some o → H' c = some o) → Q .non H'
def spBlade (C : Addr) : Sp := fun vs H Q _ => ∃ (x : Addr) (b : Int) (ks : List Kd),vs = [.ref x] ∧ ShopAt C H x b ks ∧ Q (.int b) H
def spKinds (C : Addr) : Sp := fun vs H Q _ => ∃ (x : Addr) (b : Int) (ks : List Kd),vs = [.ref x] ∧ ShopAt C H x b ks ∧ ∀ (l : Addr) (rs : List V),H l = none → Tups H rs ks → Q (.ref l) (upd H l (.lst rs))
theorem rows_ty {K : PySem.W.Frag} {H : Hp} {k : Kd} : ∀ y ∈ kdV k,∃ U,Ty K H y U := by
  intro y hy
  simp only [kdV,List.mem_cons,List.not_mem_nil,or_false] at hy
  rcases hy with rfl | rfl | rfl | rfl | rfl
  · exact ⟨_,.int⟩
  · exact ⟨_,.int⟩
  · exact ⟨_,.int⟩
  · exact ⟨_,.int⟩
  · exact ⟨_,.bl⟩
theorem Paired.getR {α β : Type} {F : α → β → Prop} : ∀ {l₁ : List α} {l₂ : List β} {i : Nat} {x : α},Paired F l₁ l₂ → l₁[i]? = some x → ∃ y,l₂[i]? = some y ∧ F x y
  | _,_,_,_,.nil,e => by simp at e
  | _,_,0,_,.cons h _,e => by simp at e; subst e; exact ⟨_,rfl,h⟩
  | _,_,i + 1,x,.cons _ t,e => by
    obtain ⟨y,h1,h2⟩ := Paired.getR (i := i) (x := x) t (by simpa using e)
    exact ⟨y,by simpa using h1,h2⟩
theorem RowAt.same {H H' : Hp} {v : V} {k : Kd} (s : Same H H') (r : RowAt H v k) : RowAt H' v k := by
  rcases r with ⟨a,e,h⟩ | ⟨a,e,h⟩
  · exact .inl ⟨a,e,s _ _ h⟩
  · exact .inr ⟨a,e,s _ _ h⟩
theorem isKind_of {K : PySem.W.Frag} {H : Hp} {v : V} {k : Kd} {Q : VK} {E : XK} (r : RowAt H v k) (g : Good k) (q : ∀ H',Same H H' → Q (.bl true) H') : spIsKind K [v] H Q E := by
  rcases r with ⟨a,rfl,h⟩ | ⟨a,rfl,h⟩
  · exact ⟨_,_,rfl,.tup h,.inr ⟨a,_,rfl,.inr h,rows_ty,fun H' s => by rw [kind5_good g]; exact q H' s⟩⟩
  · exact ⟨_,_,rfl,.lst h,.inr ⟨a,_,rfl,.inl h,rows_ty,fun H' s => by rw [kind5_good g]; exact q H' s⟩⟩
structure ShopTxt (K : PySem.W.Frag) (C : Addr) : Prop where
  cl : Cls K C
  nB : NoAttr K C "blade_width"
  nK : NoAttr K C "kind_rows"
end Pc
set_option Elab.async false
set_option linter.all false
set_option maxRecDepth 100000
namespace L2
open PySem PySem.Spec PyProof.Rows
def Mn (P : Program) (w : World) (K : PySem.W.Frag) (mg : Str → Option Value) (base : Heap) (C : Addr) (m : Str) (ps : List Str) (k : Nat) (sp : Sp) : Prop :=
  ∃ (f : Addr) (fd : FuncData),FnOk P w K mg base CX0 k f fd ps sp ∧ Binds K fd ps [] ∧ Meth K C m f
theorem pe_mD0 {X : Cx} {k : Nat} {C : Addr} {ps : List Str} {sp : Sp} {m : Str} {o : Expr} {ta : TE} {apos pos : Pos} {pl : Sem Bool} (he : PE X o ta) (c : Cls X.K C) (D : Mn X.prog X.w X.K X.mg X.base C m ps k sp) (hr : Room k X.A)
    (ht : eval (.Call (.Attribute o m apos) [] [] pos) X.env = (do
      let ov ← eval o X.env
      standAt apos.atName
      let (f,first) ← holding [ov] (getMethod ov m pl)
      callWith pos f first (backTo pos (starEach [] X.env)) (backToKw pos (keywordEach [] X.env))) := by rfl) : PE X (.Call (.Attribute o m apos) [] [] pos) (tMeth C m sp [] E0 ta tNil) := by
  obtain ⟨f,fd,F,hb,hm⟩ := D
  exact pe_meth0 he c hm F hr hb .nil pass0 ht
def Kn (P : Program) (w : World) (K : PySem.W.Frag) (mg : Str → Option Value) (base : Heap) (x : Str) (C : Addr) (ps : List Str) (k : Nat) (sp : Sp) : Prop :=
  ∃ (f : Addr) (fd : FuncData),Mk K C f ∧ FnOk P w K mg base CX0 k f fd ps sp ∧ Binds K fd ps [] ∧ mg x = some (.ref C)
theorem pe_kD {X : Cx} {k : Nat} {C : Addr} {ps : List Str} {sp : Sp} {x : Str} {p pos : Pos} {e : Expr} {es : List Expr} {t : TA} (D : Kn X.prog X.w X.K X.mg X.base x C ps k sp) (hr : Room (k + 1) X.A) (hg : Gl X x) (ha : PA X (e :: es) t)
    (hdb : (x == ("__debug__" : Str)) = false := by decide) (he : starEach (e :: es) X.env = (false,eval e X.env) :: starEach es X.env := by rfl) (hpl : (backTo pos (starEach es X.env)).any (·.1) = false := by rfl) :
    PE X (.Call (.Name x p) (e :: es) [] pos) (tMake C sp [] E0 t) := by
  obtain ⟨f,fd,M,F,hb,hm⟩ := D
  exact pe_make M F hr hg hm hb .nil pass0 ha hdb he hpl
end L2
namespace Pc
open PySem L2
theorem Same.but {p : Addr} {H H' : Hp} (s : Same H H') : But p H H' := fun b o _ e => s b o e
theorem Same.new {q : Addr} {H : Hp} {o : HO} (h : H q = none) : Same H (upd H q o) := fun b u e => by rw [upd_ne (ne_of_none e h)]; exact e
end Pc
set_option Elab.async false
set_option linter.all false
set_option maxRecDepth 100000
namespace L2
open PySem PySem.Spec PyProof.Rows
theorem runs_det {M : Model} {Γ : PySem.Ctx} {p : Pos} {t : Sem Fin} {fs : List Frame} {s s' : Shared} {e : End} (h : Runs M Γ p t fs s e s') : ∀ {e2 : End} {s2 : Shared},Runs M Γ p t fs s e2 s2 → e = e2 ∧ s' = s2 := by
  induction h with
  | done => intro e2 s2 h2; cases h2; exact ⟨rfl,rfl⟩
  | raise => intro e2 s2 h2; cases h2; exact ⟨rfl,rfl⟩
  | again _ _ ih => intro e2 s2 h2; cases h2; rename_i a b; exact ih b
  | rule _ ih => intro e2 s2 h2; cases h2; rename_i b; exact ih b
  | «at» _ ih => intro e2 s2 h2; cases h2; rename_i b; exact ih b
  | load he _ ih => intro e2 s2 h2; cases h2; rename_i b1 b2 b3; rw [he] at b2; cases b2; exact ih b3
  | update _ _ ih => intro e2 s2 h2; cases h2; rename_i b1 b; exact ih b
  | loadIfAlive _ ih => intro e2 s2 h2; cases h2; rename_i b; exact ih b
  | point _ ih => intro e2 s2 h2; cases h2; rename_i b; exact ih b
  | alloc _ ih => intro e2 s2 h2; cases h2; rename_i b; exact ih b
  | fresh _ ih => intro e2 s2 h2; cases h2; rename_i b; exact ih b
  | ask _ ih => intro e2 s2 h2; cases h2; rename_i b; exact ih b
  | choose _ _ ih => intro e2 s2 h2; cases h2; rename_i b1 b; exact ih b
  | os _ ih => intro e2 s2 h2; cases h2; rename_i b; exact ih b
  | handled _ ih => intro e2 s2 h2; cases h2; rename_i b; exact ih b
  | genState he _ ih => intro e2 s2 h2; cases h2; rename_i b1 b2 b3; rw [he] at b2; cases b2; exact ih b3
  | stack _ ih => intro e2 s2 h2; cases h2; rename_i b; exact ih b
  | thread _ ih => intro e2 s2 h2; cases h2; rename_i b; exact ih b
  | newGen _ ih => intro e2 s2 h2; cases h2; rename_i b; exact ih b
  | call _ _ ih1 ih2 =>
    intro e2 s2 h2
    cases h2 with
    | call a b => obtain ⟨q1,q2⟩ := ih1 a; cases q1; subst q2; exact ih2 b
    | callSusp a => obtain ⟨q1,_⟩ := ih1 a; cases q1
  | callSusp _ ih1 =>
    intro e2 s2 h2
    cases h2 with
    | call a b => obtain ⟨q1,_⟩ := ih1 a; cases q1
    | callSusp a => obtain ⟨q1,q2⟩ := ih1 a; cases q1; exact ⟨rfl,q2⟩
  | yield => intro e2 s2 h2; cases h2; exact ⟨rfl,rfl⟩
  | resumeFresh hg _ _ _ ih1 ih2 =>
    intro e2 s2 h2
    cases h2 with
    | resumeFresh hg' a _ b => rw [hg] at hg'; cases hg'; obtain ⟨q1,q2⟩ := ih1 a; subst q1 q2; exact ih2 b
    | resumeSuspended hg' => rw [hg] at hg'; cases hg'
    | resumeJustStarted hg' n => exact absurd rfl n
    | resumeRunning hg' => rw [hg] at hg'; cases hg'
    | resumeFinished hg' => rw [hg] at hg'; cases hg'
  | resumeSuspended hg _ _ _ ih1 ih2 =>
    intro e2 s2 h2
    cases h2 with
    | resumeFresh hg' => rw [hg] at hg'; cases hg'
    | resumeSuspended hg' a _ b => rw [hg] at hg'; cases hg'; obtain ⟨q1,q2⟩ := ih1 a; subst q1 q2; exact ih2 b
    | resumeJustStarted hg' => rw [hg] at hg'; cases hg'
    | resumeThrowFresh hg' => rw [hg] at hg'; cases hg'
    | resumeRunning hg' => rw [hg] at hg'; cases hg'
    | resumeFinished hg' => rw [hg] at hg'; cases hg'
  | resumeJustStarted hg n _ ih =>
    intro e2 s2 h2
    cases h2 with
    | resumeFresh hg' => exact absurd rfl n
    | resumeSuspended hg' => rw [hg] at hg'; cases hg'
    | resumeJustStarted hg' n b => exact ih b
    | resumeRunning hg' => rw [hg] at hg'; cases hg'
    | resumeFinished hg' => rw [hg] at hg'; cases hg'
  | resumeThrowFresh hg _ ih =>
    intro e2 s2 h2
    cases h2 with
    | resumeSuspended hg' => rw [hg] at hg'; cases hg'
    | resumeThrowFresh hg' b => exact ih b
    | resumeRunning hg' => rw [hg] at hg'; cases hg'
    | resumeFinished hg' => rw [hg] at hg'; cases hg'
  | resumeRunning hg _ ih =>
    intro e2 s2 h2
    cases h2 with
    | resumeFresh hg' => rw [hg] at hg'; cases hg'
    | resumeSuspended hg' => rw [hg] at hg'; cases hg'
    | resumeJustStarted hg' => rw [hg] at hg'; cases hg'
    | resumeThrowFresh hg' => rw [hg] at hg'; cases hg'
    | resumeRunning hg' b => exact ih b
    | resumeFinished hg' => rw [hg] at hg'; cases hg'
  | resumeFinished hg _ ih =>
    intro e2 s2 h2
    cases h2 with
    | resumeFresh hg' => rw [hg] at hg'; cases hg'
    | resumeSuspended hg' => rw [hg] at hg'; cases hg'
    | resumeJustStarted hg' => rw [hg] at hg'; cases hg'
    | resumeThrowFresh hg' => rw [hg] at hg'; cases hg'
    | resumeRunning hg' => rw [hg] at hg'; cases hg'
    | resumeFinished hg' b => exact ih b
  | segRet _ _ ih1 ih2 =>
    intro e2 s2 h2
    cases h2 with
    | segRet a b => obtain ⟨q1,q2⟩ := ih1 a; cases q1; subst q2; exact ih2 b
    | segSuspOut _ a => obtain ⟨q1,_⟩ := ih1 a; cases q1
    | segSuspGen _ a => obtain ⟨q1,_⟩ := ih1 a; cases q1
  | segGen _ _ ih1 ih2 =>
    intro e2 s2 h2
    cases h2 with
    | segGen a b => obtain ⟨q1,q2⟩ := ih1 a; cases q1; subst q2; exact ih2 b
    | segSuspOut _ a => obtain ⟨q1,_⟩ := ih1 a; cases q1
    | segSuspGen _ a => obtain ⟨q1,_⟩ := ih1 a; cases q1
  | segSuspOut hn _ ih1 =>
    intro e2 s2 h2
    cases h2 with
    | segRet a b => obtain ⟨q1,_⟩ := ih1 a; cases q1
    | segGen a b => obtain ⟨q1,_⟩ := ih1 a; cases q1
    | segSuspOut _ a => obtain ⟨q1,q2⟩ := ih1 a; cases q1; exact ⟨rfl,q2⟩
    | segSuspGen hs a => rw [hn] at hs; cases hs
  | segSuspGen hs _ _ _ ih1 ih2 =>
    intro e2 s2 h2
    cases h2 with
    | segRet a b => obtain ⟨q1,_⟩ := ih1 a; cases q1
    | segGen a b => obtain ⟨q1,_⟩ := ih1 a; cases q1
    | segSuspOut hn a => rw [hn] at hs; cases hs
    | segSuspGen hs' a _ b => rw [hs] at hs'; cases hs'; obtain ⟨q1,q2⟩ := ih1 a; cases q1; subst q2; exact ih2 b
theorem wp_conj {α : Type} (M : Model) (Γ : PySem.Ctx) (t : Sem α) : ∀ (Q Q' : α → Pos → Shared → Prop) (E E' : Value → Pos → Shared → Prop) (p : Pos) (s : Shared),Sem.wp M Γ t Q E p s → Sem.wp M Γ t Q' E' p s →
    Sem.wp M Γ t (fun a p' s' => Q a p' s' ∧ Q' a p' s') (fun e p' s' => E e p' s' ∧ E' e p' s') p s := by
  have det : ∀ {Δ : PySem.Ctx} {p : Pos} {s : Shared} {r r' : Result} {s1 s2 : Shared},Returns M Δ p s r s1 → Returns M Δ p s r' s2 → r = r' ∧ s1 = s2 := by
    intro Δ p s r r' s1 s2 h1 h2
    obtain ⟨q1,q2⟩ := runs_det h1 h2
    cases q1
    exact ⟨rfl,q2⟩
  have detW : ∀ {Δ : PySem.Ctx} {p : Pos} {g : Nat} {r : Resume} {s : Shared} {x x' : GenResult} {s1 s2 : Shared},Wakes M Δ p g r s x s1 → Wakes M Δ p g r s x' s2 → x = x' ∧ s1 = s2 := by
    intro Δ p g r s x x' s1 s2 h1 h2
    unfold Wakes at h1 h2
    split at h1
    · exact h1.elim
    · split at h1
      · obtain ⟨e1,t1,a1,_,rfl,rfl⟩ := h1
        rename_i hg _ _
        simp only [hg] at h2
        obtain ⟨e2,t2,a2,_,rfl,rfl⟩ := h2
        obtain ⟨q1,q2⟩ := runs_det a1 a2
        subst q1 q2
        exact ⟨rfl,rfl⟩
      · rename_i hg _ _ hn
        simp only [hg] at h2
        obtain ⟨rfl,rfl⟩ := h1
        obtain ⟨rfl,rfl⟩ := h2
        exact ⟨rfl,rfl⟩
      · rename_i hg _ _
        simp only [hg] at h2
        obtain ⟨rfl,rfl⟩ := h1
        obtain ⟨rfl,rfl⟩ := h2
        exact ⟨rfl,rfl⟩
    · rename_i hg
      simp only [hg] at h2
      obtain ⟨e1,t1,a1,_,rfl,rfl⟩ := h1
      obtain ⟨e2,t2,a2,_,rfl,rfl⟩ := h2
      obtain ⟨q1,q2⟩ := runs_det a1 a2
      subst q1 q2
      exact ⟨rfl,rfl⟩
    · rename_i hg
      simp only [hg] at h2
      obtain ⟨rfl,rfl⟩ := h1
      obtain ⟨rfl,rfl⟩ := h2
      exact ⟨rfl,rfl⟩
    · rename_i hg
      simp only [hg] at h2
      obtain ⟨rfl,rfl⟩ := h1
      obtain ⟨rfl,rfl⟩ := h2
      exact ⟨rfl,rfl⟩
  induction t with
  | pure a => intro Q Q' E E' p s h h'; exact ⟨h,h'⟩
  | raise e => intro Q Q' E E' p s h h'; exact ⟨h,h'⟩
  | unsupported _ => intro Q Q' E E' p s h _; exact h
  | finish _ => intro Q Q' E E' p s h _; exact h
  | rule _ k ih => intro Q Q' E E' p s h h'; exact ih () _ _ _ _ p s h h'
  | «at» p' k ih => intro Q Q' E E' p s h h'; exact ih () _ _ _ _ p' s h h'
  | load a _ k ih =>
    intro Q Q' E E' p s h h'; obtain ⟨o,ho,h⟩ := h; obtain ⟨o',ho',h'⟩ := h'
    rw [ho] at ho'; cases ho'; exact ⟨o,ho,ih o _ _ _ _ p s h h'⟩
  | update a _ f k ih => intro Q Q' E E' p s h h'; exact ⟨h.1,ih () _ _ _ _ p _ h.2 h'.2⟩
  | loadIfAlive a k ih => intro Q Q' E E' p s h h'; exact ih _ _ _ _ _ p s h h'
  | point _ k ih => intro Q Q' E E' p s h h'; exact ih () _ _ _ _ p s h h'
  | register _ _ => intro Q Q' E E' p s h _; exact h
  | alloc o k ih => intro Q Q' E E' p s h h'; exact ih _ _ _ _ _ p _ h h'
  | fresh k ih => intro Q Q' E E' p s h h'; exact ih _ _ _ _ _ p _ h h'
  | ask k ih => intro Q Q' E E' p s h h'; exact ih _ _ _ _ _ p s h h'
  | choose src m k ih => intro Q Q' E E' p s h h'; exact ⟨h.1,ih _ _ _ _ _ p _ h.2 h'.2⟩
  | os q _ k ih => intro Q Q' E E' p s h h'; exact ih _ _ _ _ _ p _ h h'
  | call c hd _ _ k ih =>
    intro Q Q' E E' p s h h'; obtain ⟨r,s',hr,h⟩ := h; obtain ⟨r',s'',hr',h'⟩ := h'
    obtain ⟨rfl,rfl⟩ := det hr hr'
    exact ⟨r,s',hr,ih r _ _ _ _ p s' h h'⟩
  | handled own k ih => intro Q Q' E E' p s h h'; exact ih _ _ _ _ _ p s h h'
  | genState g k ih =>
    intro Q Q' E E' p s h h'; obtain ⟨st,hs,h⟩ := h; obtain ⟨st',hs',h'⟩ := h'
    rw [hs] at hs'; cases hs'; exact ⟨st,hs,ih _ _ _ _ _ p s h h'⟩
  | newGen c k ih => intro Q Q' E E' p s h h'; exact ih _ _ _ _ _ p _ h h'
  | resume g r _ k ih =>
    intro Q Q' E E' p s h h'; obtain ⟨x,s',hw,h⟩ := h; obtain ⟨x',s'',hw',h'⟩ := h'
    obtain ⟨rfl,rfl⟩ := detW hw hw'
    exact ⟨x,s',hw,ih x _ _ _ _ p s' h h'⟩
  | yield _ _ _ _ => intro Q Q' E E' p s h _; exact h
  | stack k ih => intro Q Q' E E' p s h h'; exact ih _ _ _ _ _ p s h h'
  | fork _ _ => intro Q Q' E E' p s h _; exact h
  | thread k ih => intro Q Q' E E' p s h h'; exact ih _ _ _ _ _ p s h h'
  | await _ _ _ _ _ => intro Q Q' E E' p s h _; exact h
theorem wpAny_conj {α : Type} {M : Model} {A : Around} {t : Sem α} {Q Q' : α → Shared → Prop} {E E' : Value → Shared → Prop} {s : Shared} (h : wpAny M A t Q E s) (h' : wpAny M A t Q' E' s) :
    wpAny M A t (fun a s' => Q a s' ∧ Q' a s') (fun e s' => E e s' ∧ E' e s') s := fun Γ p hΓ => wp_conj M Γ t _ _ _ _ p s (h Γ p hΓ) (h' Γ p hΓ)
def Q2 (e : Addr) (h : Heap) : Prop := ∃ oe vs,h.get? e = some oe ∧ oe.data = .fields vs ∧ vs[2]? = some .none
section
variable {M : Model} {A : Around} {E : Value → Shared → Prop} {s : Shared} {base : Heap} {env : Env} {outer l : List Env} {L e : Addr} {cls a0 fl : Value} {Q : Unit → Shared → Prop}
theorem Q2.set {e c : Addr} {h : Heap} {i : Nat} {v : Value} (hi : i ≠ 2) (q : Q2 e h) : Q2 e (h.update c (Obj.mapFields (·.setIfInBounds i v))) := by
  obtain ⟨oe,vs,he,hd,h2⟩ := q
  by_cases z : c = e
  · subst z
    have hd' := Obj.data_mapFields hd (·.setIfInBounds i v)
    exact ⟨_,_,Heap.get?_update_self _ he (Obj.isFreed_of_fields hd'),hd',by rw [Array.getElem?_setIfInBounds_ne hi]; exact h2⟩
  · exact ⟨oe,vs,(Heap.get?_update_other _ _ z).trans he,hd,h2⟩
theorem Q2.push {e : Addr} {h : Heap} {o : Obj} (q : Q2 e h) : Q2 e (h.push o) := let ⟨oe,vs,he,r⟩ := q; ⟨oe,vs,Heap.get?_push_of_some _ he,r⟩
theorem entry2 {head : Value} {nx : Bool} (hfr : A.frames = some (env :: outer)) (hl : s.heap.FunFrames base (env :: outer)) (hf : env.frame = some L) (q : Q2 e s.heap)
    (h : ∀ h₁ o ts,Q2 e h₁ → o.data = .fields ts → 3 < ts.size → Q () { s with heap := (h₁.push o).update e (Obj.mapFields (·.setIfInBounds 1 (Value.ref h₁.objs.size))) }) :
    wpAny M A (do let a ← frameOf env; let pl ← entryPlaceOf L nx; let b ← EntryCells.newEntry head a .none (rawInt L) .none pl; setField (.ref e) 1 b) Q E s := by
  obtain ⟨oe,vs,he,hd,h2⟩ := q
  have hene : e ∉ (env :: outer).filterMap (·.frame) := fun hm => by
    obtain ⟨_,o,ho,hnf⟩ := hl.mem hm
    rw [he] at ho; injection ho with ho; subst ho; exact hnf vs hd
  refine wpAny_bind (wpAny_frameOf_fun hfr hl hf fun h₁ hs₁ => ?_)
  refine wpAny_bind (wpAny_entryPlaceOf fun pl hpl => ?_)
  unfold EntryCells.newEntry newFields
  refine wpAny_bind (wpAny_newObj_type ?_ (hpl.sizeOk5 _ _ _ _ _))
  have he₁ : h₁.get? e = some oe := (hs₁.2.1 e hene).trans he
  have h2s : 2 < vs.size := (Array.getElem?_eq_some_iff.mp h2).1
  exact wpAny_setField (Heap.get?_push_of_some _ he₁) hd (by omega) (h h₁ _ _ ⟨oe,vs,he₁,hd,h2⟩ rfl (by simp only [List.size_toArray,List.length_append,List.length_cons,List.length_nil]; omega))
theorem flight2 (tr : s.heap.TracedAtW base e cls a0 fl) (q : Q2 e s.heap) : wpAny M A (setFlight (.ref e) none) (fun _ s' => Q2 e s'.heap) E s := by
  obtain ⟨oe,vs,T,oT,ts,he,hcls,hd,h1,hnT,hTe,hT,hdT,h3⟩ := tr
  unfold setFlight
  refine wpAny_bind (wpAny_field he hd h1 ?_)
  rw [if_pos (show (Value.ref T != Value.none) = true from by simp)]
  exact wpAny_setField hT hdT (Array.getElem?_eq_some_iff.mp h3).1 (q.set (by decide))
theorem note2 (hfr : A.frames = some (env :: outer)) (hf : env.frame = some L) (f : Heap.FlyingW base (env :: outer) e cls a0 s.heap) (q : Q2 e s.heap) : wpAny M A (noteFrame (.ref e) env) (fun _ s' => Q2 e s'.heap) E s := by
  obtain ⟨hkb,hen,hl,oe,vs,T,oT,ts,he,hcls,hd,h1,hnT,hTe,hT,hdT,h3⟩ := f
  unfold noteFrame
  simp only [hf]
  refine wpAny_bind (wpAny_field he hd h1 ?_)
  rw [if_pos (show (Value.ref T != Value.none) = true from by simp)]
  refine wpAny_bind (wpAny_field hT hdT h3 ?_)
  rw [if_neg (show ¬ ((Value.none == rawInt L) = true) from by simp [rawInt])]
  refine wpAny_bind (wpAny_setField hT hdT (Array.getElem?_eq_some_iff.mp h3).1 ?_)
  refine entry2 (s := { s with heap := s.heap.update T (Obj.mapFields (·.setIfInBounds 3 Value.none)) }) hfr (hl.of_keeps fun b o hb hnf => ⟨o,(Heap.get?_update_other _ _ (fun z => ?_)).trans hb,rfl⟩) hf (q.set (by decide)) fun h₁ o _ q1 _ _ => q1.push.set (by decide)
  rw [← z,hT] at hb; injection hb with hb; subst hb; exact hnf ts hdT
theorem leave2 {h : Heap} {args : List Value} (hfr : A.frames = some (env :: outer)) (hf : env.frame = some L) (hl : h.FunFrames base (env :: outer)) (hx : Heap.MadeExcOf h s.heap e cls args) : wpAny M A (leaving env (.ref e)) (fun _ s' => Q2 e s'.heap) E s := by
  obtain ⟨t,he,htn,ht⟩ := hx.there
  have q : Q2 e s.heap := ⟨_,_,he,rfl,rfl⟩
  unfold leaving noteFrame
  simp only [hf]
  refine wpAny_bind (wpAny_bind (wpAny_field he rfl (x := .none) rfl ?_))
  rw [if_neg (by decide)]
  refine entry2 (base := base) hfr (hl.of_keeps fun b o hb _ => ⟨o,hx.keeps b o hb,rfl⟩) hf q fun h₁ o ts q1 ho h3 => ?_
  obtain ⟨oe1,vs1,he1,hd1,h21⟩ := q1
  have hTe : h₁.objs.size ≠ e := Nat.ne_of_gt (Heap.lt_size he1)
  have hd3 := Obj.data_mapFields hd1 (·.setIfInBounds 1 (Value.ref h₁.objs.size))
  have he3 := Heap.get?_update_self (Obj.mapFields (·.setIfInBounds 1 (Value.ref h₁.objs.size))) (Heap.get?_push_of_some o he1) (Obj.isFreed_of_fields hd3)
  have h2s : 2 < vs1.size := (Array.getElem?_eq_some_iff.mp h21).1
  have hT := (Heap.get?_update_other (h₁.push o) (Obj.mapFields (·.setIfInBounds 1 (Value.ref h₁.objs.size))) (Ne.symm hTe)).trans (Heap.get?_push_size h₁ (Obj.isFreed_of_fields ho))
  unfold setFlight
  refine wpAny_bind (wpAny_field he3 hd3 (x := .ref h₁.objs.size) (by rw [Array.getElem?_setIfInBounds_self_of_lt (by omega)]) ?_)
  rw [if_pos (show (Value.ref h₁.objs.size != Value.none) = true from by simp)]
  exact wpAny_setField hT ho h3 ((Q2.push (o := o) ⟨oe1,vs1,he1,hd1,h21⟩).set (i := 1) (by decide) |>.set (by decide))
end
section
variable {M : Model} {A : Around} {E : Value → Shared → Prop} {s : Shared} {base : Heap} {env : Env} {outer l : List Env} {L e : Addr} {cls a0 fl : Value} {Q : Unit → Shared → Prop}
theorem leaves_madeQ {h : Heap} {args : List Value} (hfr : A.frames = some (env :: outer)) (hf : env.frame = some L) (hkb : base.StaysIn h) (hl : h.FunFrames base (env :: outer)) (hx : Heap.MadeExcOf h s.heap e cls args)
    (hQ : ∀ h' t,Heap.FlyingW base outer e cls (.ref t) h' → h'.TupAt t args → base.get? t = none → s.heap.UpToSlots h' → Q2 e h' → Q () { s with heap := h' }) : wpAny M A (leaving env (.ref e)) Q E s :=
  wpAny_mono (wpAny_conj (leave2 (E := E) hfr hf hl hx) (wpAny_leaves_madeW (Q := fun _ s' => Q2 e s'.heap → Q () s') (E := E) hfr hf hkb hl hx fun h' t a b c d q => hQ h' t a b c d q)) (fun _ _ z => z.2 z.1) fun _ _ z => z.1
theorem looks_onQ (hfr : A.frames = some (env :: outer)) (hf : env.frame = some L) (f : Heap.FlyingW base (env :: outer) e cls a0 s.heap) (q : Q2 e s.heap)
    (hQ : ∀ h',Heap.HeldW base (env :: outer) e cls a0 L h' → s.heap.UpToSlots h' → Q2 e h' → Q () { s with heap := h' }) : wpAny M A (noteFrame (.ref e) env) Q E s :=
  wpAny_mono (wpAny_conj (note2 (E := E) hfr hf f q) (wpAny_looks_onW (Q := fun _ s' => Q2 e s'.heap → Q () s') (E := E) hfr hf f fun h' a b q => hQ h' a b q)) (fun _ _ z => z.2 z.1) fun _ _ z => z.1
theorem landsQ (hh : Heap.HeldW base l e cls a0 L s.heap) (q : Q2 e s.heap) (hQ : ∀ h',Heap.FlyingW base l e cls a0 h' → s.heap.UpToSlots h' → Q2 e h' → Q () { s with heap := h' }) : wpAny M A (setFlight (.ref e) none) Q E s :=
  wpAny_mono (wpAny_conj (flight2 (E := E) hh.2.2.2 q) (wpAny_landsW (Q := fun _ s' => Q2 e s'.heap → Q () s') (E := E) hh fun h' a b q => hQ h' a b q)) (fun _ _ z => z.2 z.1) fun _ _ z => z.1
theorem lands_againQ (hh : Heap.FlyingW base l e cls a0 s.heap) (q : Q2 e s.heap) (hQ : ∀ h',Heap.FlyingW base l e cls a0 h' → s.heap.UpToSlots h' → Q2 e h' → Q () { s with heap := h' }) : wpAny M A (setFlight (.ref e) none) Q E s :=
  wpAny_mono (wpAny_conj (flight2 (E := E) hh.2.2.2.at q) (lands_againW (Q := fun _ s' => Q2 e s'.heap → Q () s') (E := E) hh fun h' a b q => hQ h' a b q)) (fun _ _ z => z.2 z.1) fun _ _ z => z.1
end
end L2
set_option Elab.async false
set_option linter.all false
set_option maxRecDepth 100000
namespace L2
open PySem PySem.Spec PyProof.Rows
theorem ObjOk.ex {P : Program} {w : World} {H : Hp} {h : Heap} {a : Addr} {o : HO} (x : ObjOk P w H h a o) : ∃ ob,h.get? a = some ob := by
  cases o with
  | lst xs => obtain ⟨_,_,_,_,e⟩ := x; exact ⟨_,e⟩
  | tup xs => obtain ⟨_,_,_,o,e,_⟩ := x; exact ⟨_,e⟩
  | dK kvs => obtain ⟨_,_,_,_,o,_,_,e,_⟩ := x; exact ⟨_,e⟩
  | dT kvs => obtain ⟨_,_,_,_,o,_,_,e,_⟩ := x; exact ⟨_,e⟩
  | set S n => obtain ⟨o,_,_,_,e,_⟩ := x; exact ⟨_,e⟩
  | ins C dx fs => obtain ⟨_,_,_,e,_⟩ := x; exact ⟨_,e⟩
  | own y => exact x
  | xd fs => obtain ⟨_,⟨_,_,_,e,_⟩,_⟩ := x; exact ⟨_,e⟩
  | rng lo hi => obtain ⟨_,_,_,e⟩ := x; exact ⟨_,e⟩
  | frz ob u => exact ⟨_,x.1⟩
  | tbl ps => exact ⟨_,(show h.get? a = some _ from x)⟩
  | met f y => exact ⟨_,(show h.get? a = some _ from x)⟩
  | ext φ => exact x.2.1
structure Flew (P : Program) (w : World) (outer : List Env) (H : Hp) (s : Shared) (ea : Addr) (C : Value) (H' : Hp) (B : Heap) (s' : Shared) : Prop where
  os : s'.os = s.os
  bare : AllBare s'.gens
  un : Un (frs outer) [] H H' s.heap s'.heap
  hok : HOk P w H' s'.heap
  fly : ∃ a0,Heap.FlyingW B outer ea C a0 s'.heap
  ctx : Q2 ea s'.heap
  cov : ∀ b o,b ∉ frs outer → (H' b ≠ none ∨ ∃ o',s.heap.get? b = some o') → s'.heap.get? b = some o → B.get? b = some o
  new : s.heap.get? ea = none ∧ H' ea = none
def CXx (P : Program) (w : World) : CXT := fun outer H s E e s' => ∃ ea C H' B,e = Value.ref ea ∧ Flew P w outer H s ea C H' B s' ∧ E C none H'
section
variable {X : Cx} {pins : List (Addr × Obj)} {σ : St} {H : Hp} {s : Shared}
theorem Inv.raised {h2 : Heap} {ea : Addr} {C : Value} {vs : List Value} {M : Model} {E : Value → Shared → Prop} {Q : Unit → Shared → Prop} (I : Inv X pins σ H s) (hst : X.stack = X.env :: X.outer) (hfr : X.env.frame = some X.env.locals) (hex : X.ex = [])
    (hx : Heap.MadeExcOf s.heap h2 ea C vs) (hQ : ∀ B h',Flew X.prog X.w X.outer X.H₀ X.s₀ ea C H B { s with heap := h' } → Q () { s with heap := h' }) :
    wpAny M X.A (leaving X.env (.ref ea)) Q E { s with heap := h2 } := by
  have fS : frs X.stack = X.env.locals :: X.fs := by rw [hst]; unfold frs; rw [List.filterMap_cons,hfr]; rfl
  have st : s.heap.FunFrames X.base (X.env :: X.outer) := by rw [← hst]; exact I.stack
  have hin : ∀ env ∈ (X.env :: X.outer),∀ b,env.frame = some b → b ∈ frs X.stack := fun env he b hb => by rw [hst]; exact List.mem_filterMap.mpr ⟨env,he,hb⟩
  have s0L : ∀ b o,X.s₀.heap.get? b = some o → b ≠ X.env.locals := fun b o e => Nat.ne_of_lt (Nat.lt_of_lt_of_le (Heap.lt_size e) I.ok.above)
  have Ubase : Un X.fs [] X.H₀ H X.s₀.heap s.heap := by have := I.base; rw [hex] at this; exact this
  have trk : ∀ b u,H b = some u → b ∉ frs X.stack := fun b u e hb => by rw [I.stkFree b hb] at e; cases e
  have ofd : ∀ b,b ∈ X.fs → ∃ o,s.heap.get? b = some o ∧ ∀ vs,o.data ≠ .fields vs := fun b hb => by
    obtain ⟨_,o,ho,hd⟩ := I.funs.mem hb
    exact ⟨o,ho,hd⟩
  refine leaves_madeQ (base := PySem.W.hideAll s.heap (frs X.stack)) (h := s.heap) (by rw [← hst]; exact I.ok.frames) hfr (fun b o q => PySem.W.of_hideAll _ q) (PySem.W.funFrames_hide st hin) hx fun h' t fl tup hbt sm q2 => hQ (PySem.W.hideAll s.heap (frs X.stack)) h' ?_
  have toB : ∀ b o,b ∉ frs X.stack → s.heap.get? b = some o → h'.get? b = some o := fun b o nb e => fl.1 _ _ (PySem.W.hideAll_get _ e nb)
  have nfs : ∀ b o,X.s₀.heap.get? b = some o → b ∉ X.fs → b ∉ frs X.stack := fun b o e nb z => by
    rw [fS] at z
    rcases List.mem_cons.mp z with q | q
    · exact s0L b o e q
    · exact nb q
  have slot1 : ∀ b o,b ∈ X.fs → s.heap.get? b = some o → ∃ sl,h'.get? b = some { o with slots := sl } := fun b o hb e => by
    obtain ⟨o',e',hd⟩ := ofd b hb
    rw [e] at e'; cases e'
    exact sm b o (hx.keeps _ _ e) hd
  refine ⟨I.os,I.bare,⟨fun b o e n hb _ => ?_,fun b o e n hb _ => ?_,fun b o e n _ => Ubase.free b o e n (by simp),fun b o e _ => ?_,Ubase.tups,Ubase.frzs,Ubase.tbls⟩,fun b u e => ?_,⟨_,fl⟩,q2,fun b o nb hh e => ?_,?_,?_⟩
  · exact toB b o (nfs b o e hb) (Ubase.keep b o e n hb (by simp))
  · obtain ⟨sl,e1⟩ := Ubase.slot b o e n hb (by simp)
    obtain ⟨sl',e2⟩ := slot1 b _ hb e1
    exact ⟨sl',e2⟩
  · obtain ⟨o',e1⟩ := Ubase.there b o e (by simp)
    by_cases hb : b ∈ X.fs
    · obtain ⟨sl,e2⟩ := slot1 b _ hb e1
      exact ⟨_,e2⟩
    · exact ⟨o',toB b o' (nfs b o e hb) e1⟩
  · refine (I.hok b u e).stay (fun c v hc q => toB c v ?_ q) (fun _ q => q) fun _ _ q => q
    rcases hc with z | z
    · rw [z]; exact trk b u e
    · exact trk c _ z
  · rcases hh with z | ⟨o',z⟩
    · cases q : H b with
      | none => exact absurd q z
      | some u =>
        obtain ⟨ob,eb⟩ := (I.hok b u q).ex
        have eB := PySem.W.hideAll_get _ eb (trk b u q)
        have := fl.1 _ _ eB
        rw [e] at this; cases this
        exact eB
    · obtain ⟨o'',e1⟩ := Ubase.there b o' z (by simp)
      have eB := PySem.W.hideAll_get _ e1 (nfs b o' z nb)
      have := fl.1 _ _ eB
      rw [e] at this; cases this
      exact eB
  · cases q : X.s₀.heap.get? ea with
    | none => rfl
    | some o =>
      obtain ⟨o',e1⟩ := Ubase.there ea o q (by simp)
      rw [hx.new] at e1; cases e1
  · cases q : H ea with
    | none => rfl
    | some u =>
      obtain ⟨ob,eb⟩ := (I.hok ea u q).ex
      rw [hx.new] at eb; cases eb
theorem Flew.inv {ea : Addr} {C : Value} {H' : Hp} {B h6 : Heap} {s' : Shared} {t : Nat} (I : Inv X pins σ H s) (f : Flew X.prog X.w X.stack H s ea C H' B s') (hB : B.StaysIn h6) (sm : s'.heap.UpToSlots h6) : Inv X pins σ H' { s' with heap := h6,toks := t } := by
  have trk : ∀ b u,H' b = some u → b ∉ frs X.stack := fun b u e hb => by
    obtain ⟨o,ho⟩ : ∃ o,s.heap.get? b = some o := let ⟨_,o,ho,_⟩ := I.stack.mem hb; ⟨o,ho⟩
    have := f.un.free b o ho (I.stkFree b hb) (by simp)
    rw [this] at e; cases e
  have slot1 : ∀ b o,b ∈ frs X.stack → s'.heap.get? b = some o → ∃ sl,h6.get? b = some { o with slots := sl } := fun b o hb e => by
    obtain ⟨a0,fl⟩ := f.fly
    obtain ⟨_,o',e',hd⟩ := fl.2.2.1.mem hb
    rw [e] at e'; cases e'
    exact sm b o e hd
  refine I.call' (ch := []) f.os ⟨fun b o e n hb _ => ?_,fun b o e n hb _ => ?_,fun b o e n _ => f.un.free b o e n (by simp),fun b o e _ => ?_,f.un.tups,f.un.frzs,f.un.tbls⟩ (fun b u e => ?_) f.bare (fun b z => absurd z (by simp))
  · exact hB _ _ (f.cov b o hb (.inr ⟨o,e⟩) (f.un.keep b o e n hb (by simp)))
  · obtain ⟨sl,e1⟩ := f.un.slot b o e n hb (by simp)
    obtain ⟨sl',e2⟩ := slot1 b _ hb e1
    exact ⟨sl',e2⟩
  · obtain ⟨o',e1⟩ := f.un.there b o e (by simp)
    by_cases hb : b ∈ frs X.stack
    · obtain ⟨sl,e2⟩ := slot1 b _ hb e1
      exact ⟨_,e2⟩
    · exact ⟨o',hB _ _ (f.cov b o' hb (.inr ⟨o,e⟩) e1)⟩
  · refine (f.hok b u e).stay (fun c v hc q => ?_) (fun _ q => q) fun _ _ q => q
    have hc' : H' c ≠ none := by
      rcases hc with z | z
      · rw [z,e]; exact fun z => nomatch z
      · rw [z]; exact fun z => nomatch z
    have nc : c ∉ frs X.stack := by
      cases q' : H' c with
      | none => exact absurd q' hc'
      | some u' => exact trk c u' q'
    exact hB _ _ (f.cov c v nc (.inl hc') q)
end
def bmVE : List Value := [.type "ValueError",.type "Exception",.type "BaseException",.type "object"]
def ExcC (K : PySem.W.Frag) (C : Addr) : Prop := PySem.W.excIn K C bmVE "ValueError.__new__" = true
theorem ExcC.obj {K : PySem.W.Frag} {C : Addr} {h : Heap} (X : K.In h) (q : ExcC K C) : ∃ bm N nm qn bs hdct sn sub ab col dd k0 k1 k2 k3 k5 mN,
    h.get? C = some (excClassObj nm qn C N bs bm hdct sn sub ab col dd k0 k1 k2 k3 k5 "ValueError.__new__") ∧ h.Ns N mN ∧ mN "__init__" = none ∧ OwnTail h bmVE bm := by
  unfold ExcC PySem.W.excIn at q
  split at q
  · rename_i dd cd sl ho
    split at q
    · rename_i C' bm k0 k1 k2 k3 n k5 hm hs
      simp only [Bool.and_eq_true,beq_iff_eq,Bool.not_eq_true'] at q
      obtain ⟨⟨⟨⟨⟨e1,e2⟩,e3⟩,e4⟩,e5⟩,e6⟩ := q
      obtain ⟨nm,bs,mro,ns,qn,hd,sn,sub,ab,col,del⟩ := cd
      dsimp only at hm e3 e5 e6
      subst e1 e2 hm e3
      obtain ⟨l⟩ := sl
      simp only at hs
      subst hs
      exact ⟨bm,ns,nm,qn,bs,hd,sn,sub,ab,col,dd,k0,k1,k2,k3,k5,_,X _ _ ho,.of_isNs (PySem.W.isNs_of_in X e5),PySem.W.nsMap_none_of_in X e5 e6,PySem.W.tail_of_in X e4⟩
    · cases q
  · cases q
section
variable {X : Cx} {x : Str} {C : Addr} {e0 : Expr} {np cpos pos : Pos} {t : TA}
def tRaise (R : Value → Hp → Prop) (C : Addr) (t : TA) : TS := fun _ σ H => t σ H fun vs H1 => vs.length ≤ sizeLine ∧ R (.ref C) H1
theorem ps_raise {R : Value → Hp → Prop} (hc : X.calm = true) (hg : Gl X x) (hm : X.mg x = some (.ref C)) (ec : ExcC X.K C) (ha : PA X [e0] t)
    (hR : ∀ pins σ H s h2 ea vs,Inv X pins σ H s → Heap.MadeExcOf s.heap h2 ea (.ref C) vs → R (.ref C) H → X.xe (.ref ea) { s with heap := h2 })
    (he : starEach [e0] X.env = [(false,eval e0 X.env)] := by rfl) (hd : (x == ("__debug__" : Str)) = false := by decide) :
    PS X (.Raise (some (.Call (.Name x np) [e0] [] cpos)) none pos) (tRaise R C t) := by
  intro pins s σ H D I h
  obtain ⟨bm,N,nm,qn,bs,hdct,sn,sub,ab,col,dd,k0,k1,k2,k3,k5,mN,hC,hN,hni,T⟩ := ec.obj I.ok.mod.kin
  refine wpAny_Raise_call_subT (C := C) (nm := nm) (q := qn) (N := N) (bs := bs) (bm := bm) (hdct := hdct) (sn := sn) (sub := sub) (ab := ab) (col := col) (dd := dd) (k0 := k0) (k1 := k1) (k2 := k2) (k3 := k3) (k5 := k5)
    PySem.F.excBase_ValueError (mN := mN) (T.hasType PySem.F.excBase_ValueError.hasBase) (I.ok.hd hc) (by rw [he]; rfl) hni (ld_glob I hg hm ⟨rfl,?_⟩ hd)
  have h2 := ha cpos pins s σ H _ I h
  rw [he] at h2 ⊢
  refine Calls.evalArgs_plain (thn h2 fun us s2 ⟨vs,H1,I1,rv,hl,q⟩ => ⟨rfl,by rw [← rv.length]; exact hl,I1.bk _ _ hC,hN.keeps I1.bk,T.keeps I1.bk,fun h' ea hx => ?_⟩)
  exact hR pins σ H1 s2 h' ea us I1 hx q
end
section
variable {P : Program} {w : World} {K : PySem.W.Frag} {mg : Str → Option Value} {base : Heap}
theorem raise_ends {N : List Str} {qual : Str} {scope : Scope} {f : Addr} {cd : Value} {A : Around} {outer : List Env} {s₀ : Shared} {H₀ : Hp} {E : XK} {C : Addr} :
    ∀ pins σ H s h2 ea vs,Inv (cxOf (CXx P w) P w K mg base N qual scope f cd A outer s₀ H₀ E) pins σ H s → Heap.MadeExcOf s.heap h2 ea (.ref C) vs → (fun c H => E c none H) (Value.ref C) H →
      (cxOf (CXx P w) P w K mg base N qual scope f cd A outer s₀ H₀ E).xe (.ref ea) { s with heap := h2 } := fun pins σ H s h2 ea vs I hx q =>
  I.raised (E := fun e' s'' => CXx P w outer H₀ s₀ E e' s'') rfl rfl rfl hx fun B h' f => ⟨ea,_,H,B,rfl,f,q⟩
theorem Fun.okX {x qual : Str} {st : Stmt} {f : Addr} {fd : FuncData} {N ps : List Str} {k : Nat} {sp : Sp} (F : Fun K x qual st f fd) (S : FnScope N ps (defScope st)) (len : ∀ vs H Q E,sp vs H Q E → vs.length = ps.length)
    (hbody : ∀ (cdv : Value) (A : Around) (outer : List Env) (s : Shared) (H : Hp) (vs : List V) (Q : VK) (E : XK),Room k (A.deeper (envOfC qual (defScope st) s.heap.objs.size f cdv)) → sp vs H Q E →
      ∃ t,PSs (cxOf (CXx P w) P w K mg base N qual (defScope st) f cdv A outer s H E) (defBody st) t ∧ t { nx := fun _ H' => Q .non H',rt := Q } (start N vs) H) : FnOk P w K mg base (CXx P w) (k + 1) f fd ps sp := by
  obtain ⟨oc,od,kV,doc,pm,an,cdv,ct,osl,rfl,lk,hcd⟩ := F.ex
  exact fn_of lk hcd S len fun A outer s H vs Q E hr hsp => hbody cdv A outer s H vs Q E hr hsp
end
def XP (X : Cx) (pins : List (Addr × Obj)) (σ : St) (E : XK) (v : Value) (s' : Shared) : Prop := ∃ ea C H H' B s0,v = Value.ref ea ∧ Inv X pins σ H s0 ∧ Flew X.prog X.w X.stack H s0 ea C H' B s' ∧ E C none H'
abbrev TX := St → Hp → VK → XK → Prop
def PEx (X : Cx) (e : Expr) (t : TX) : Prop :=
  ∀ (pins : List (Addr × Obj)) (s : Shared) (σ : St) (H : Hp) (Q : VK) (E : XK),Inv X pins σ H s → t σ H Q E → wpAny (model X.prog X.w) X.A (eval e X.env) (EP X pins σ Q) (XP X pins σ E) s
section
variable {X : Cx} {k : Nat} {f C : Addr} {fd : FuncData} {ps : List Str} {sp : Sp} {x m : Str} {p pos apos : Pos} {e o : Expr} {es : List Expr} {ta : TE} {t : TA}
theorem run_fnX {pins : List (Addr × Obj)} {σ : St} {H : Hp} {s : Shared} {Q : VK} {E : XK} {us : List Value} {vs : List V} (F : FnOk X.prog X.w X.K X.mg X.base (CXx X.prog X.w) k f fd ps sp) (hr : Room k X.A) (hb : Binds X.K fd ps [])
    (I : Inv X pins σ H s) (r : Vals vs us) (h : sp vs H Q E) : wpAny (model X.prog X.w) X.A (call (.ref f) us) (EP X pins σ Q) (XP X pins σ E) s := by
  have hl : (us ++ []).length = ps.length := by rw [List.append_nil,← r.length]; exact F.len _ _ _ _ h
  have b := hb s us I.kIn hl
  rw [List.append_nil] at b
  refine wpAny_call (codeAny_mono (F.run X.A X.stack s H ⟨us,[]⟩ us vs Q E hr I.env0 b r h) fun r s' hq => ?_)
  cases r with
  | error e =>
    obtain ⟨ea,C,H',B,e1,fl,q⟩ := hq
    exact ⟨ea,C,H,H',B,s,e1,I,fl,q⟩
  | ok fl =>
    cases fl with
    | ret u => exact I.after hq
    | next => exact False.elim hq
    | brk => exact False.elim hq
    | cont => exact False.elim hq
end
end L2
set_option Elab.async false
set_option linter.all false
set_option maxRecDepth 100000
namespace L2
open PySem PySem.Spec PyProof.Rows
def Cx.marked (X : Cx) (ea : Addr) : Cx := { X with A := X.A.mark (some (.ref ea)),calm := false,xe := fun _ _ => False }
section
variable {X : Cx} {pins : List (Addr × Obj)} {σ : St} {H : Hp} {s : Shared}
theorem Inv.mark (I : Inv X pins σ H s) (ea : Addr) : Inv (X.marked ea) pins σ H s :=
  ⟨⟨I.ok.mod,I.ok.kind,I.ok.glob,I.ok.blt,I.ok.above,I.ok.inj,I.ok.has,I.ok.cab,fun z => absurd (show false = true from z) Bool.false_ne_true,I.ok.frames,I.ok.stk,I.ok.exf,I.ok.bs,I.ok.bsz,I.ok.noex,I.ok.exfs,I.ok.funs,I.ok.frf⟩,
    I.os,I.bare,I.base,I.loc,I.cell,I.free,I.freeC,I.pin,I.hok,I.len⟩
theorem Inv.unmark {ea : Addr} (ok : X.Ok) (I : Inv (X.marked ea) pins σ H s) : Inv X pins σ H s :=
  ⟨ok,I.os,I.bare,I.base,I.loc,I.cell,I.free,I.freeC,I.pin,I.hok,I.len⟩
theorem Inv.track2 {a : Addr} {o : HO} (I : Inv X pins σ H s) (f0 : H a = none) (f1 : a ≠ X.env.locals) (hna : X.s₀.heap.get? a = none) (f4 : ∀ x c,X.env.cells.lookup x = some c → c ≠ a) (f5 : ∀ p ∈ X.pn ++ pins,p.1 ≠ a)
    (new : ObjOk X.prog X.w (upd H a o) s.heap a o) : Inv X pins σ (upd H a o) s := by
  have s0 : ∀ b o,X.s₀.heap.get? b = some o → b ≠ a := fun b o e z => by rw [z,hna] at e; cases e
  refine ⟨I.ok,I.os,I.bare,⟨I.base.keep,I.base.slot,fun b o e n hx => ?_,I.base.there,fun b xs e => ?_,fun b o u e => ?_,fun b ps e => ?_⟩,I.loc,I.cell,?_,fun x c e => ?_,fun p hp => ?_,I.hok.add f0 new,I.len⟩
  · rw [upd_ne (s0 b o e)]; exact I.base.free b o e n hx
  · have q := I.base.tups b xs e
    rw [upd_ne (ne_of_none q f0)]; exact q
  · have q := I.base.frzs b o u e
    rw [upd_ne (ne_of_none q f0)]; exact q
  · obtain ⟨more,q⟩ := I.base.tbls b ps e
    exact ⟨more,by rw [upd_ne (ne_of_none q f0)]; exact q⟩
  · rw [upd_ne (Ne.symm f1)]; exact I.free
  · rw [upd_ne (f4 x c e)]; exact I.freeC x c e
  · obtain ⟨e,n,r⟩ := I.pin p hp
    exact ⟨e,by rw [upd_ne (f5 p hp)]; exact n,r⟩
theorem name_gone {M : Model} {A : Around} {E : Value → Shared → Prop} {i : Nat} {x : Str} {pos : Pos} {Q : Unit → Shared → Prop} (I : Inv X pins σ H s) (hN : X.N.Nodup) (hi : X.N[i]? = some x) (hk : X.env.scope.names.lookup x = some .local)
    (h : ∀ s',Inv X pins (σ.set i none) H s' → Q () s') : wpAny M A (do bindName X.env x .none; unbindBehindTheSuite X.env x pos) Q E s := by
  obtain ⟨m,hn,hl⟩ := id I.loc
  have hcls : (X.env.scope.kind == .class || (X.env.scope.kind == .module && X.env.locals != X.env.globals)) = false := by rw [I.ok.kind]; rfl
  refine wpAny_nameGoes_keeps hk hn hcls fun h' v hn' hs => h _ ?_
  obtain ⟨oL,_,_,hoL,_⟩ := id hn
  have cne := I.cne
  have hok : HOk X.prog X.w H h' := I.hok.but I.free hs
  refine ⟨I.ok,I.os,I.bare,⟨fun b o e n hb hx => ?_,fun b o e n hb hx => ?_,I.base.free,fun b o e hx => ?_,I.base.tups,I.base.frzs,I.base.tbls⟩,⟨_,hn',fun j y v' e1 e2 e3 => ?_⟩,fun y c e => ?_,I.free,I.freeC,fun p hp => ?_,hok,by simpa using I.len⟩
  · exact (hs.2 b (Nat.ne_of_lt (Nat.lt_of_lt_of_le (Heap.lt_size e) I.ok.above))).trans (I.base.keep b o e n hb hx)
  · obtain ⟨sl,e1⟩ := I.base.slot b o e n hb hx
    exact ⟨sl,(hs.2 b (Nat.ne_of_lt (Nat.lt_of_lt_of_le (Heap.lt_size e) I.ok.above))).trans e1⟩
  · obtain ⟨o',e1⟩ := I.base.there b o e hx
    exact ⟨o',(hs.2 b (Nat.ne_of_lt (Nat.lt_of_lt_of_le (Heap.lt_size e) I.ok.above))).trans e1⟩
  · have hj : j ≠ i := fun z => by
      subst z
      have hiσ : j < σ.length := by rw [I.len]; exact (List.getElem?_eq_some_iff.mp hi).1
      rw [List.getElem?_set_self hiσ] at e2
      cases e2
    rw [List.getElem?_set_ne (Ne.symm hj)] at e2
    obtain ⟨u',r',q⟩ := hl j y v' e1 e2 e3
    refine ⟨u',r',?_⟩
    rcases q with ⟨k,e⟩ | ⟨k,c,e,z⟩
    · refine .inl ⟨k,?_⟩
      have : y ≠ x := fun e => hj (nodup_ix hN e1 (e ▸ hi))
      simp [this,e]
    · exact .inr ⟨k,c,e,z.sameBut hs (cne y c e)⟩
  · obtain ⟨v',z⟩ := I.cell y c e
    exact ⟨v',z.sameBut hs (cne y c e)⟩
  · obtain ⟨e,n,ne,nf,d⟩ := I.pin p hp
    exact ⟨(hs.2 p.1 ne).trans e,n,ne,nf,d⟩
end
def IsA (a : Addr) (C : Value) (h : Heap) : Prop := ∃ o,h.get? a = some o ∧ o.cls = C ∧ ∃ vs,o.data = .fields vs ∧ vs[2]? = some .none
theorem IsA.of {a : Addr} {C : Value} {h : Heap} (x : ∃ o,h.get? a = some o ∧ o.cls = C) (q : Q2 a h) : IsA a C h := by
  obtain ⟨o,e,c⟩ := x
  obtain ⟨o',vs,e',d,n⟩ := q
  rw [e] at e'
  cases e'
  exact ⟨o,e,c,vs,d,n⟩
theorem IsA.obj {P : Program} {w : World} {H : Hp} {h : Heap} {a : Addr} {C : Value} (x : IsA a C h) : ObjOk P w H h a (.ext (IsA a C)) := by
  obtain ⟨o,e,c⟩ := id x
  exact ⟨x,⟨o,e⟩,fun h1 h2 ⟨o',e',c'⟩ k => ⟨o',k o' e',c'⟩⟩
section
variable {X : Cx} {e : Expr} {tx : TX} {ts : TS} {i : Nat} {n y : Str} {CE : Addr} {b₀ : Stmt} {suite : List Stmt} {np hpos epos pos : Pos}
end
structure RoomH (k : Nat) (A : Around) : Prop where
  dp : A.depth + 3 * k + 5 < recursionLimit
  un : A.units + 16 * k + 200 < cLine
structure FnH (P : Program) (w : World) (K : PySem.W.Frag) (mg : Str → Option Value) (base : Heap) (k : Nat) (f : Addr) (fd : FuncData) (ps : List Str) (sp : Sp) : Prop where
  len : ∀ vs H Q E,sp vs H Q E → vs.length = ps.length
  run : ∀ (A : Around) (outer : List Env) (s : Shared) (H : Hp) (args : Args) (us : List Value) (vs : List V) (Q : VK) (E : XK),RoomH k A → Env0 P w K mg base A outer s H → BindsTo s fd args (ps.zip us) → Vals vs us → sp vs H Q E →
    codeAny (model P w) A (.call (.ref f) args) (CR CX0 outer P w H s Q E) s
end L2
set_option maxRecDepth 100000
namespace PySem
open Sem (wp)
open PySem.W (Frag Looks looks_findIn looks_subIn)
structure ExK (K : Frag) (C : Addr) : Prop where
  lkC : PySem.W.findIn K (.ref C) "__class__" = some (some (.builtin "object.__class__"))
  lkG : PySem.W.findIn K (.ref C) "__getattribute__" = some (some (.builtin "BaseException.__getattribute__"))
  lkA : PySem.W.findIn K (.ref C) "__getattr__" = some none
  subB : PySem.W.subIn K (.ref C) (.type "BaseException") = some true
  subO : PySem.W.subIn K (.ref C) (.type "object") = some true
  cls : (PySem.W.clsIn K C).isSome = true
section
variable {prog : Program} {w : World} {A : Around} {E : Value → Shared → Prop} {h : Heap} {g : Array GenState} {d : Drawn} {t : Nat} {os : OsState} {a : Addr} {o : Obj} {K : Frag} {C : Addr}
theorem xclass_get {R : Result → Shared → Prop} (X : K.In h) (F0 : ExK K C) (hx : h.get? a = some o) (hc : o.cls = .ref C) (hq : R (.ok (.ret (.ref C))) ⟨h,g,d,t,os⟩) :
    codeAny (model prog w) A (.call (.builtin "getset_descriptor.__get__") ⟨[.builtin "object.__class__",.ref a,.ref C],[]⟩) R ⟨h,g,d,t,os⟩ := by
  have hT5 : (⟨h,g,d,t,os⟩ : Shared).TypeIs (.builtin "object.__class__") "getset_descriptor" := F.typeOf_object_class
  have L : Looks (model prog w) h (isSubtype (.ref C) (.type (".".intercalate ("object.__class__".cutAt '.').dropLast))) true := by
    rw [F.owner_object_class]; exact looks_subIn X F0.subO
  refine codeAny_call_builtin F.slot_gs_get.plain F.entry_gs_get (F.slot_gs_get.check _ _ _ _ _ _ _ _ hT5 (F.args_gs_get _ _ _) ?_)
  repeat (any_goals (first | assumption | (with_reducible refine wpAny_loadPart_at hx ?_; rw [hc]) | (with_reducible refine Looks.at L ?_) | wp_step))
  refine ⟨Code.quiet_builtin _ (by decide +kernel),codeAny_builtin F.entry_object_class ?_⟩
  repeat (any_goals (first | assumption | (with_reducible refine wpAny_loadPart_at hx ?_; rw [hc]) | wp_step))
theorem xclass_entry {tk : Tok} {Q : Fin → Shared → Prop} (X : K.In h) (F0 : ExK K C) (hx : h.get? a = some o) (hc : o.cls = .ref C) (hq : Q (.done (.ret (.ref C))) ⟨h,g,d,t,os⟩) :
    wpAny (model prog w) A (Builtin.«object.__getattribute__» ⟨[.ref a,.str "__class__" tk],[]⟩) Q E ⟨h,g,d,t,os⟩ := by
  have hT5 : (⟨h,g,d,t,os⟩ : Shared).TypeIs (.builtin "object.__class__") "getset_descriptor" := F.typeOf_object_class
  have f5 := F.typeOf_object_class
  have f6 := F.slot_gs_get.lookup
  have f7 := F.slot_gs_set.lookup
  have L : Looks (model prog w) h (typeLookup (.ref C) "__class__") _ := looks_findIn X F0.lkC
  repeat (any_goals (first | assumption | (with_reducible refine wpAny_loadPart_at hx ?_; rw [hc]) | (with_reducible refine Looks.at L ?_) | wp_step))
  refine xclass_get X F0 hx hc ?_
  repeat (any_goals (first | assumption | wp_step))
theorem xcheck_ga {nameV : Value} {Q : Unit → Shared → Prop} (X : K.In h) (F0 : ExK K C) (hx : h.get? a = some o) (hc : o.cls = .ref C) (hq : Q () ⟨h,g,d,t,os⟩) :
    wpAny (model prog w) A (checkBuiltinCall "BaseException.__getattribute__" ⟨[.ref a,nameV],[]⟩) Q E ⟨h,g,d,t,os⟩ := by
  have hk : builtinKind "BaseException.__getattribute__" = some .slot := by decide +kernel
  have hsplit : splitId "BaseException.__getattribute__" = some ("BaseException","__getattribute__") := by decide +kernel
  have L : Looks (model prog w) h (isSubtype (.ref C) (.type "BaseException")) true := looks_subIn X F0.subB
  have ha := F.args_bexc_ga (.ref a) nameV
  simp only [checkBuiltinCall,hk,hsplit]
  refine wpAny_bind ?_
  · unfold isInstance
    repeat (first | (with_reducible refine wpAny_loadPart_at hx ?_; rw [hc]) | (with_reducible refine Looks.at L ?_) | wp_step)
    exact hq
theorem xclass_call {tk : Tok} {R : Result → Shared → Prop} (X : K.In h) (F0 : ExK K C) (hx : h.get? a = some o) (hc : o.cls = .ref C) (hq : R (.ok (.ret (.ref C))) ⟨h,g,d,t,os⟩) :
    codeAny (model prog w) A (.call (.builtin "BaseException.__getattribute__") ⟨[.ref a,.str "__class__" tk],[]⟩) R ⟨h,g,d,t,os⟩ :=
  codeAny_call_builtin F.attrBase_ValueError.ga.plain F.entry_bexc_ga (xcheck_ga X F0 hx hc (xclass_entry X F0 hx hc hq))
theorem xclass_by {tk : Tok} {Q : Value → Shared → Prop} (X : K.In h) (F0 : ExK K C) (hx : h.get? a = some o) (hc : o.cls = .ref C) (hq : Q (.ref C) ⟨h,g,d,t,os⟩) :
    wpAny (model prog w) A (getAttrBy (.ref a) (.str "__class__" tk) false) Q E ⟨h,g,d,t,os⟩ := by
  have LG : Looks (model prog w) h (typeLookup (.ref C) "__getattribute__") _ := looks_findIn X F0.lkG
  have LA : Looks (model prog w) h (typeLookup (.ref C) "__getattr__") _ := looks_findIn X F0.lkA
  have f3 := F.attrBase_ValueError.ga.bind (.ref a)
  have hx2 : (Value.builtin "BaseException.__getattribute__" == Value.builtin "object.__getattribute__") = false := by decide +kernel
  have hx1 : (onTheHeap (Value.ref C) && Value.builtin "BaseException.__getattribute__" == Value.builtin "object.__getattribute__") = false := by rw [hx2]; rfl
  repeat (any_goals (first | assumption | (with_reducible refine wpAny_loadPart_at hx ?_; rw [hc]) | (with_reducible refine Looks.at LG ?_) | (with_reducible refine Looks.at LA ?_) | wp_step))
  refine xclass_call X F0 hx hc ?_
  repeat (any_goals (first | assumption | wp_step))
theorem xclass_attr {Q : Option Value → Shared → Prop} (X : K.In h) (F0 : ExK K C) (hx : h.get? a = some o) (hc : o.cls = .ref C) (hq : Q (some (.ref C)) ⟨h,g,d,t + 1,os⟩) :
    wpAny (model prog w) A (getAttr? (.ref a) "__class__") Q E ⟨h,g,d,t,os⟩ := by
  unfold getAttr? getAttrBy?
  repeat (any_goals (first | assumption | with_reducible apply xclass_by X F0 hx hc | wp_step))
end
end PySem
namespace L2
open PySem PySem.Spec PyProof.Rows
theorem kitx_ex {K : PySem.W.Frag} {x C : Addr} (F0 : ExK K C) : PySem.W.KitX K (.ref x) (.ref C) (IsA x (.ref C)) where
  ty := fun M h _ ⟨o,e,c,_⟩ => by
    have L : PySem.W.Looks M h (typeOf (.ref x)) o.cls := (PySem.W.Looks.ld e).andThen .now
    rw [c] at L
    exact L
  it := fun _ _ X _ => by
    have z := F0.cls
    unfold PySem.W.clsIn at z
    split at z
    · rename_i c' d' cd' sl' ho
      intro A' Q' E' s' k q
      unfold isType loadHead
      exact wpAny_bind (wpAny_loadPart (k _ _ (X _ _ ho)) (wpAny_pure q))
    · cases z
  ne := fun h tp dd its n sl X htp => by
    have z := F0.cls
    refine Bool.eq_false_iff.mpr fun q => ?_
    have e : C = tp := Value.ref.inj (beq_iff_eq.mp q)
    subst e
    unfold PySem.W.clsIn at z
    split at z
    · rename_i c' d' cd' sl' ho
      have z := (X _ _ ho).symm.trans htp
      cases z
    · cases z
  ca := fun {_ _ _ _ _ s} X p k => by
    obtain ⟨h,g,d,t,os⟩ := s
    obtain ⟨o,e,c,_⟩ := p
    exact xclass_attr X F0 e c k
section
variable {X : Cx}
theorem call_isinstX {C : Addr} (F0 : ExK X.K C) : CallR X (.builtin "isinstance") (fun xs H Q => ∃ a cv c b,xs = [.ref a,cv] ∧ H a = some (.ext (IsA a (.ref C))) ∧ clV cv = some c ∧ PySem.W.kitOne X.K (.ref C) c = some b ∧ Q (.bl b) H) := by
  intro pins s σ H xs us Q I rv h
  obtain ⟨a,cv,c,b,rfl,ha,e1,e2,q⟩ := h
  cases rv with
  | cons r1 rr =>
    cases rr with
    | cons r2 rr =>
      cases rr
      cases r1
      rw [clV.rel e1 r2]
      exact PySem.W.kia_one (kitx_ex F0) I.kIn (I.hok a _ ha).1 e2 (fun z => nomatch z) fun tk => ⟨.bl b,H,I.tok tk,rfl,q⟩
end
end L2
set_option Elab.async false
set_option linter.all false
set_option maxRecDepth 100000
namespace PySem
open Sem (wp)
open AutoSeq1 (wpAny_loadPart')
section
variable {prog : Program} {w : World} {A : Around} {E : Value → Shared → Prop} {s : Shared}
theorem nextOf_tup_item {it t : Addr} {i : Nat} {items} {x : Value} {Q : Value → Shared → Prop} (hit : s.heap.IsTupleIter it t i)
    (ht : s.heap.IsTuple t items) (hx : items[i]? = some x)
    (hQ : ∀ h',h'.IsTupleIter it t (i + 1) → Heap.SameBut it s.heap h' → Q x { s with heap := h' }) :
    wpAny (model prog w) A (Builtin.SmallTypes.nextOf (.ref it)) Q E s := by
  obtain ⟨o,ho,hc,hd⟩ := id hit
  obtain ⟨ol,hol,_,nl,hdl⟩ := ht
  unfold Builtin.SmallTypes.nextOf
  refine wpAny_bind (wpAny_callSpecial?_slot (name := Str.ofString "__next__") hit.typeIs F.slot_tuple_iterator_next
    (wpAny_call_entry F.slot_tuple_iterator_next hit.typeIs F.entry_tuple_iterator_next ?_ (F.args_tuple_iterator_next_1 _)))
  show wpAny _ _ (field (.ref it) 0 >>= _) _ _ s
  refine wpAny_bind (wpAny_field ho hd (x := .ref t) rfl ?_)
  show wpAny _ _ (if (Value.ref t == Value.none) = true then _ else _) _ _ s
  rw [if_neg (show ¬ ((Value.ref t == Value.none) = true) from Bool.false_ne_true)]
  show wpAny _ _ (field (.ref it) 1 >>= _) _ _ s
  refine wpAny_bind (wpAny_field ho hd (x := .int i 0) rfl ?_)
  show wpAny _ _ (seqItems? (.ref t) >>= _) _ _ s
  refine wpAny_bind (wpAny_seqItems hol hdl ?_)
  simp only [Int.toNat_natCast,hx]
  refine wpAny_bind (wpAny_setField ho hd (by simp) (wpAny_pure ⟨x,rfl,wpAny_pure (hQ _ ?_ (Heap.SameBut.update ..))⟩))
  exact ⟨_,Heap.get?_update_self _ ho (Obj.isFreed_of_fields (Obj.data_mapFields hd _)),(Obj.cls_mapFields ..).trans hc,by
    rw [Obj.data_mapFields hd]; simp [rawInt]⟩
theorem nextOf_tup_end {it t : Addr} {i : Nat} {items} {Q : Value → Shared → Prop} (hh : A.handled = none)
    (hit : s.heap.IsTupleIter it t i) (ht : s.heap.IsTuple t items) (hx : items[i]? = none)
    (hE : ∀ h' e, Heap.ExtBut it s.heap h' → (∃ o, h'.get? e = some o ∧ o.cls = .type "StopIteration") → E (.ref e) { s with heap := h' }) :
    wpAny (model prog w) A (Builtin.SmallTypes.nextOf (.ref it)) Q E s := by
  obtain ⟨o,ho,hc,hd⟩ := id hit
  obtain ⟨ol,hol,_,nl,hdl⟩ := ht
  unfold Builtin.SmallTypes.nextOf
  refine wpAny_bind (wpAny_callSpecial?_slot (name := Str.ofString "__next__") hit.typeIs F.slot_tuple_iterator_next
    (wpAny_call_entry F.slot_tuple_iterator_next hit.typeIs F.entry_tuple_iterator_next ?_ (F.args_tuple_iterator_next_1 _)))
  show wpAny _ _ (field (.ref it) 0 >>= _) _ _ s
  refine wpAny_bind (wpAny_field ho hd (x := .ref t) rfl ?_)
  show wpAny _ _ (if (Value.ref t == Value.none) = true then _ else _) _ _ s
  rw [if_neg (show ¬ ((Value.ref t == Value.none) = true) from Bool.false_ne_true)]
  show wpAny _ _ (field (.ref it) 1 >>= _) _ _ s
  refine wpAny_bind (wpAny_field ho hd (x := .int i 0) rfl ?_)
  show wpAny _ _ (seqItems? (.ref t) >>= _) _ _ s
  refine wpAny_bind (wpAny_seqItems hol hdl ?_)
  simp only [Int.toNat_natCast,hx]
  refine wpAny_bind (wpAny_rule (wpAny_bind (wpAny_setField ho hd (by simp) ?_)))
  show wpAny _ _ (newExc (.type "StopIteration") [] >>= _) _ _ _
  refine wpAny_bind ?_
  simp only [newExc,newTuple]
  refine wpAny_bind (wpAny_newObj_type ?_ (by size_fits))
  refine wpAny_bind (m := firstArgMember _ _) (wpAny_of_eq (a := Value.none) (by first | rfl | (simp only [firstArgMember]; rfl)) ?_)
  refine wpAny_newObj_type ?_ (by size_fits)
  simp only [raiseNew]
  refine wpAny_bind (wpAny_handled ?_)
  first | rw [show A.in1.handled = none from hh] | rw [hh]
  refine wpAny_bind (wpAny_pure (wpAny_throw ?_))
  exact hE _ _ (((Heap.SameBut.update ..).extBut.push _).push _) ⟨_,Heap.get?_push_size _ rfl,rfl⟩
end
theorem drawsTup {prog : Program} {w : World} {A : Around} (hh : A.handled = none) (it l : Addr) (hne : l ≠ it) (items : Array Value) :
    Draws prog w A it [it,l] items.size (fun i v => items[i]? = some v) (fun i h => h.IsTupleIter it l i ∧ h.IsTuple l items) where
  live := fun _ _ st => let ⟨o,ho,_⟩ := st.1; ⟨o,ho⟩
  frame := fun _ _ _ st hk => ⟨st.1.at fun o e => hk it (by simp) o e,let ⟨o,ho,r⟩ := st.2; ⟨o,hk l (by simp) o ho,r⟩⟩
  item := fun i s Q E hi st hQ => by
    refine nextOf_tup_item st.1 st.2 (x := items[i]) (by simp [hi]) fun h' hit' hs' => ?_
    exact hQ _ h' s.toks (by simp [hi]) ⟨hit',st.2.extBut hs'.extBut hne⟩ hs'
  done := fun s Q E st hE => nextOf_tup_end hh st.1 st.2 (by simp) hE
theorem enumerate_newT (l : Addr) (items : Array Value) (n : Nat) (dct : Option Addr) (sl : Array (Option Value)) :
    Meets (Builtin.«enumerate.__new__» ⟨[.type "enumerate",.ref l],[]⟩) (fun _ R s => s.heap.get? l = some { cls := .type "tuple",dict := dct,data := .seq items n,slots := sl } ∧
      R (.ok (.ret (.ref (s.heap.push { cls := .type "tuple_iterator",data := .fields #[.ref l,.int 0 0] }).objs.size)))
        { s with heap := (s.heap.push { cls := .type "tuple_iterator",data := .fields #[.ref l,.int 0 0] }).push { cls := .type "enumerate",data := .fields #[.none,.bool false,.ref s.heap.objs.size,rawInt 0,.none,.none] } }) :=
  .of_wp fun prog w A R s h => by
    obtain ⟨hp,g,d,tk,os⟩ := s; obtain ⟨hl,h⟩ := h
    have hsub := sub_enumerate
    have hL : Heap.IsTuple (Shared.heap ⟨hp,g,d,tk,os⟩) l items := ⟨_,hl,rfl,n,rfl⟩
    wp_walk using wpAny_loadPart' hl
    refine wpAny_stack_any fun st => wpAny_pure ?_
    split
    · rename_i c _ _ _ _ _
      cases (c == Value.type "enumerate")
      · wp_walk using wpAny_loadPart' hl,wpAny_pyIter_tuple hL
        exact ⟨_,rfl,h⟩
      · wp_walk using wpAny_loadPart' hl,wpAny_pyIter_tuple hL
        exact ⟨_,rfl,h⟩
    · wp_walk using wpAny_loadPart' hl,wpAny_pyIter_tuple hL
      exact ⟨_,rfl,h⟩
section
variable {prog : Program} {w : World} {A : Around} {E : Value → Shared → Prop} {s : Shared}
theorem call_enumerate_tup {l : Addr} {items : Array Value} {Q : Value → Shared → Prop} (hL : s.heap.IsTuple l items)
    (h : ∀ h',IsEnum h' (s.heap.objs.size + 1) s.heap.objs.size 0 .none → h'.IsTupleIter s.heap.objs.size l 0 → h'.objs.size = s.heap.objs.size + 2 →
      (∀ b o,s.heap.get? b = some o → h'.get? b = some o) → Q (.ref (s.heap.objs.size + 1)) { s with heap := h' }) :
    wpAny (model prog w) A (call (.type "enumerate") [.ref l]) Q E s := by
  obtain ⟨⟨c,dct,dt,sl⟩,hl,hc,n,hd⟩ := hL
  replace hc : c = .type "tuple" := hc
  replace hd : dt = .seq items n := hd
  subst hc hd
  refine callType_new F.called_enumerate (by decide) (F.typeCall_enumerate_1 _) (F.newCall_enumerate_1 _) (fun obj => F.args_object_init_2 obj _) F.entry_enumerate_new
    (enumerate_newT l items n dct sl) ⟨hl,?_⟩
  have hz : (s.heap.push { cls := .type "tuple_iterator",data := .fields #[.ref l,.int 0 0] }).objs.size = s.heap.objs.size + 1 := Heap.size_push ..
  show _ ∧ _
  rw [hz]
  have he : IsEnum ((s.heap.push { cls := .type "tuple_iterator",data := .fields #[.ref l,.int 0 0] }).push
      { cls := .type "enumerate",data := .fields #[.none,.bool false,.ref s.heap.objs.size,rawInt 0,.none,.none] }) (s.heap.objs.size + 1) s.heap.objs.size 0 .none := by
    have := Heap.get?_push_size (s.heap.push { cls := .type "tuple_iterator",data := .fields #[.ref l,.int 0 0] })
      (o := { cls := .type "enumerate",data := .fields #[.none,.bool false,.ref s.heap.objs.size,rawInt 0,.none,.none] }) rfl
    rw [hz] at this; exact this
  refine ⟨⟨_,he,rfl⟩,h _ he ⟨_,Heap.get?_push_of_some _ (Heap.get?_push_size _ rfl),rfl,rfl⟩ (by rw [Heap.size_push,hz]) fun b o x => Heap.get?_push_of_some _ (Heap.get?_push_of_some _ x)⟩
end
end PySem
set_option Elab.async false
set_option linter.all false
set_option maxRecDepth 100000
namespace L2
open PySem PySem.Spec PyProof.Rows
def Ite (f : List V → HO) (l : Addr) : It :=
  ⟨fun i H => ∃ xs x,H l = some (f xs) ∧ xs[i]? = some x,
   fun i H v H' => ∃ p xs x,H p = none ∧ v = .ref p ∧ H' = upd H p (.tup [.int i,x]) ∧ H l = some (f xs) ∧ xs[i]? = some x,
   fun i H => ∃ xs,H l = some (f xs) ∧ xs.length ≤ i⟩
section
variable {X : Cx} {pins : List (Addr × Obj)} {σ : St} {H : Hp} {s : Shared}
theorem enum_step {f : List V → HO} {tn : Nat → Heap → Prop} {es : List Expr} {kk : Nat} {tp : Pos} {e it l : Addr} {i : Nat} {xs : List V} {x : V} {u : Value} {tk : Nat} {h' : Heap} {E : Value → Shared → Prop} (hne : e ≠ it) (I : Inv X pins σ H s) (hf : ∀ b ∈ [e,it],FpOk X pins H b) (hl : H l = some (f xs)) (hx : xs[i]? = some x)
    (ho : ∀ b ∈ [e, it], b < s.heap.objs.size) (r : RelV x u) (b1 : IsEnumOut h' e it ((i : Int) + 1) u s.heap.objs.size) (b3 : h'.get? s.heap.objs.size = some { cls := .type "tuple", data := .seq #[.int i tk, u] })
    (bk : ∀ b o,b ≠ e → b ≠ it → s.heap.get? b = some o → h'.get? b = some o) (hn : ∀ h'',IsEnum h'' e it ((i + 1 : Nat) : Int) u → Heap.SameBut e h' h'' → tn (i + 1) h'') :
    wpAny (model X.prog X.w) X.A (letOwnedTupleGo (.Tuple es kk tp) (.ref e) (.ref s.heap.objs.size)) (fun _ s2 => ∃ x H',Inv X pins σ H' s2 ∧ RelV x (.ref s.heap.objs.size) ∧ (Ite f l).yld i H x H' ∧ tn (i + 1) s2.heap ∧ ∀ b ∈ [e,it],H' b = none) E { s with heap := h',toks := tk + 1 } := by
  refine wpAny_letOwnedTupleGo_enum b1 fun h'' c1 cs => ?_
  have es' : e < s.heap.objs.size := ho e (by simp)
  have k2 : ∀ b o,b ∉ [e,it] → s.heap.get? b = some o → h''.get? b = some o := fun b o hb q => by
    simp only [List.mem_cons,List.not_mem_nil,or_false,not_or] at hb
    exact cs.extBut b o hb.1 (bk b o hb.1 hb.2 q)
  have I1 : Inv X pins σ H { s with heap := h'',toks := tk + 1 } := I.turnedN (t' := tk + 1) hf k2
  have hp : h''.get? s.heap.objs.size = some { cls := .type "tuple", data := .seq #[.int i tk, u] } := cs.extBut _ _ (Nat.ne_of_gt es') b3
  have hn0 : H s.heap.objs.size = none := I.hok.fresh (Nat.le_refl _)
  have fpk := I.fpOk (H' := H) (Nat.le_refl _) hn0
  have I2 : Inv X pins σ (upd H s.heap.objs.size (.tup [.int i,x])) { s with heap := h'',toks := tk + 1 } := I1.track fpk I.sz ⟨by show 2 ≤ sizeLine; decide,[.int i tk,u],.cons ⟨tk,rfl⟩ (.cons r .nil),_,hp,rfl,_,rfl⟩
  refine ⟨.ref s.heap.objs.size,_,I2,rfl,⟨_,xs,x,hn0,rfl,rfl,hl,hx⟩,hn h'' c1 cs,fun b hb => ?_⟩
  rw [upd_ne (Nat.ne_of_lt (ho b hb))]
  exact (hf b hb).1
end
theorem turn_enumL {P : Program} {w : World} {K : PySem.W.Frag} {es : List Expr} {kk : Nat} {tp : Pos} (l e it : Addr) (hne : e ≠ it) :
    Turn P w K (.Tuple es kk tp) (Ite .lst l) [e,it] e (fun i h => (∃ old,IsEnum h e it i old) ∧ h.IsListIter it l i) where
  mem := by simp
  obj := fun i h st b hb => by
    obtain ⟨⟨old,a1⟩,⟨o2,a2,_,d2⟩⟩ := st
    simp only [List.mem_cons,List.not_mem_nil,or_false] at hb
    rcases hb with rfl | rfl
    · exact ⟨_,a1,fun v q => by cases q⟩
    · exact ⟨_,a2,fun v q => by rw [d2] at q; cases q⟩
  keep := fun i h h' st k => by
    obtain ⟨⟨old,a1⟩,a2⟩ := st
    exact ⟨⟨old,k e (by simp) _ a1⟩,a2.at fun o q => k it (by simp) o q⟩
  item := by
    intro X hP hw hK hc i pins s σ H E I hf st hg
    subst hP hw hK
    obtain ⟨⟨old,a1⟩,a2⟩ := st
    obtain ⟨xs,x,e1,ex⟩ := hg
    obtain ⟨its,rv,p1,_⟩ := I.list (SqL.of e1)
    obtain ⟨u,hu,r⟩ := rv.get ex
    have ho : ∀ b ∈ [e,it],b < s.heap.objs.size := fun b hb => by
      obtain ⟨o2,a2',_⟩ := a2
      simp only [List.mem_cons,List.not_mem_nil,or_false] at hb
      rcases hb with rfl | rfl
      · exact Heap.lt_size a1
      · exact Heap.lt_size a2'
    refine wpAny_pyNext_enum_item a1 a2 p1.isList (x := u) (by simpa using hu) hne fun h' b1 b2 b3 b4 bk => ⟨_,rfl,?_⟩
    exact enum_step (tn := fun i h => (∃ old,IsEnum h e it i old) ∧ h.IsListIter it l i) hne I hf e1 ex ho r b1 b3 bk fun h'' c1 cs => ⟨⟨u,c1⟩,b2.extBut cs.extBut (Ne.symm hne)⟩
  done := by
    intro X hP hw hK hc i pins s σ H E I hf st hg
    subst hP hw hK
    obtain ⟨⟨old,a1⟩,a2⟩ := st
    obtain ⟨xs,e1,ex⟩ := hg
    obtain ⟨its,rv,p1,_⟩ := I.list (SqL.of e1)
    have lv := rv.length
    refine wpAny_pyNext_enum_end (I.ok.hd hc) a1 a2 p1.isList (by simp; omega) fun h' bk => ⟨rfl,?_⟩
    exact I.turnedN (t' := s.toks) hf fun b o hb q => by
      simp only [List.mem_cons,List.not_mem_nil,or_false,not_or] at hb
      exact bk b o hb.2 q
  self := fun _ _ _ _ _ st h => by obtain ⟨⟨old,a1⟩,_⟩ := st; exact wpAny_pyIter_enum a1 h
theorem turn_enumT {P : Program} {w : World} {K : PySem.W.Frag} {es : List Expr} {kk : Nat} {tp : Pos} (l e it : Addr) (hne : e ≠ it) :
    Turn P w K (.Tuple es kk tp) (Ite .tup l) [e,it] e (fun i h => (∃ old,IsEnum h e it i old) ∧ h.IsTupleIter it l i) where
  mem := by simp
  obj := fun i h st b hb => by
    obtain ⟨⟨old,a1⟩,⟨o2,a2,_,d2⟩⟩ := st
    simp only [List.mem_cons,List.not_mem_nil,or_false] at hb
    rcases hb with rfl | rfl
    · exact ⟨_,a1,fun v q => by cases q⟩
    · exact ⟨_,a2,fun v q => by rw [d2] at q; cases q⟩
  keep := fun i h h' st k => by
    obtain ⟨⟨old,a1⟩,a2⟩ := st
    exact ⟨⟨old,k e (by simp) _ a1⟩,a2.at fun o q => k it (by simp) o q⟩
  item := by
    intro X hP hw hK hc i pins s σ H E I hf st hg
    subst hP hw hK
    obtain ⟨⟨old,a1⟩,a2⟩ := st
    obtain ⟨xs,x,e1,ex⟩ := hg
    obtain ⟨its,rv,p1,_⟩ := I.tuple (SqT.of e1)
    obtain ⟨u,hu,r⟩ := rv.get ex
    have lt : i < its.toArray.size := by simp; exact (List.getElem?_eq_some_iff.mp hu).1
    have ho : ∀ b ∈ [e,it],b < s.heap.objs.size := fun b hb => by
      obtain ⟨o2,a2',_⟩ := a2
      simp only [List.mem_cons,List.not_mem_nil,or_false] at hb
      rcases hb with rfl | rfl
      · exact Heap.lt_size a1
      · exact Heap.lt_size a2'
    have nl : ∀ b ∈ [e,it],l ≠ b := fun b hb q => by rw [q,(hf b hb).1] at e1; cases e1
    have p1' : s.heap.IsTuple l its.toArray := p1
    have DD : Draws X.prog X.w X.A.in1 it [it,l] its.toArray.size (fun i v => its.toArray[i]? = some v) (fun i h => h.IsTupleIter it l i ∧ h.IsTuple l its.toArray) := drawsTup (show X.A.in1.handled = none from I.ok.hd hc) it l (nl it (by simp)) its.toArray
    refine wpAny_pyNext_enum_itemD DD a1 ⟨a2,p1'⟩ lt hne (by simp only [List.mem_cons,List.not_mem_nil,or_false,not_or]; exact ⟨hne,Ne.symm (nl e (by simp))⟩) fun x' h' tk px b1 b2 b3 b4 bk => ⟨_,rfl,?_⟩
    have hu' : its.toArray[i]? = some u := by simpa using hu
    have eu : u = x' := Option.some.inj (hu'.symm.trans px)
    subst eu
    exact enum_step (tn := fun i h => (∃ old,IsEnum h e it i old) ∧ h.IsTupleIter it l i) hne I hf e1 ex ho r b1 b3 bk fun h'' c1 cs => ⟨⟨u,c1⟩,b2.1.extBut cs.extBut (Ne.symm hne)⟩
  done := by
    intro X hP hw hK hc i pins s σ H E I hf st hg
    subst hP hw hK
    obtain ⟨⟨old,a1⟩,a2⟩ := st
    obtain ⟨xs,e1,ex⟩ := hg
    obtain ⟨its,rv,p1,_⟩ := I.tuple (SqT.of e1)
    have lv := rv.length
    have p1' : s.heap.IsTuple l its.toArray := p1
    have hT : s.TypeIs (.ref e) "enumerate" := ⟨_,a1,rfl⟩
    unfold pyNext
    refine wpAny_bind (wpAny_attempt (wpAny_callSpecial?_slot (name := Str.ofString "__next__") hT F.slot_enumerate_next
      (wpAny_call_entry F.slot_enumerate_next hT F.entry_enumerate_next ?_ (F.args_enumerate_next_1 _))))
    show wpAny _ _ (field (.ref e) 2 >>= _) _ _ _
    refine wpAny_bind (wpAny_field a1 rfl (x := .ref it) rfl ?_)
    refine wpAny_bind (nextOf_tup_end (I.ok.hd hc) a2 p1' (by simp; omega) fun h' x he' hx' => ?_)
    obtain ⟨o,ho,hc⟩ := hx'
    refine wpAny_bind (wpAny_isInstance (T := "StopIteration") (b := true) ⟨o,ho,hc⟩ isSubtype_stop ?_)
    refine wpAny_pure ⟨rfl,?_⟩
    exact I.turnedN (t' := s.toks) hf fun b o hb q => by
      simp only [List.mem_cons,List.not_mem_nil,or_false,not_or] at hb
      exact he' b o hb.2 q
  self := fun _ _ _ _ _ st h => by obtain ⟨⟨old,a1⟩,_⟩ := st; exact wpAny_pyIter_enum a1 h
def iEnum (ta : TA) : TI := fun σ H R => ta σ H fun vs H1 => ∃ l xs,vs = [.ref l] ∧ ((H1 l = some (.lst xs) ∧ R (Ite .lst l) H1) ∨ (H1 l = some (.tup xs) ∧ R (Ite .tup l) H1))
theorem pi_enum {X : Cx} {a : Expr} {ta : TA} {p pos tp : Pos} {es : List Expr} {kk : Nat} (hg : Gl X "enumerate") (hm : X.mg "enumerate" = none) (ha : PA X [a] ta)
    (hs : starEach [a] X.env = [(false,eval a X.env)] := by rfl) :
    PI X (.Tuple es kk tp) (.Call (.Name "enumerate" p) [a] [] pos) (iEnum ta) := by
  intro pins s σ H R I h
  refine Call_ (ld_blt I hg hm PyProof.Rows.boot_enumerate (PyProof.Rows.callWith_type1 (thn (ha pos pins s σ H _ I h) fun us s1 ⟨vs,H1,I1,r1,q1⟩ => ?_) (by rw [hs]; rfl) (by rfl)))
  obtain ⟨l,xs,rfl,q⟩ := q1
  cases r1 with
  | cons r rr =>
    cases rr
    cases r
    rcases q with ⟨e1,q⟩ | ⟨e1,q⟩
    · obtain ⟨its1,rv1,p1,_⟩ := I1.list (SqL.of e1)
      refine call_enumerate_list p1.isList fun h' z1 z2 sz keep => ?_
      have I2 : Inv X pins σ H1 { s1 with heap := h' } := I1.kept (t' := s1.toks) keep
      refine wpAny_pyIter_enum z1 ⟨s1.heap.objs.size + 1,[s1.heap.objs.size + 1,s1.heap.objs.size],_,_,H1,rfl,I2,turn_enumL l _ _ (Nat.succ_ne_self _),⟨⟨_,z1⟩,z2⟩,fun b hb => ?_,q⟩
      have hb' : s1.heap.objs.size ≤ b := by
        simp only [List.mem_cons,List.not_mem_nil,or_false] at hb
        rcases hb with rfl | rfl <;> omega
      exact I1.fpOk hb' (I1.hok.fresh hb')
    · obtain ⟨its1,rv1,p1,_⟩ := I1.tuple (SqT.of e1)
      have p1' : s1.heap.IsTuple l its1.toArray := p1
      refine call_enumerate_tup p1' fun h' z1 z2 sz keep => ?_
      have I2 : Inv X pins σ H1 { s1 with heap := h' } := I1.kept (t' := s1.toks) keep
      refine wpAny_pyIter_enum z1 ⟨s1.heap.objs.size + 1,[s1.heap.objs.size + 1,s1.heap.objs.size],_,_,H1,rfl,I2,turn_enumT l _ _ (Nat.succ_ne_self _),⟨⟨_,z1⟩,z2⟩,fun b hb => ?_,q⟩
      have hb' : s1.heap.objs.size ≤ b := by
        simp only [List.mem_cons,List.not_mem_nil,or_false] at hb
        rcases hb with rfl | rfl <;> omega
      exact I1.fpOk hb' (I1.hok.fresh hb')
theorem for_enum {f : List V → HO} (hf : ∀ xs ys,f xs = f ys → xs = ys) {l : Addr} {xs : List V} {g : TG} {tb : TS} {D : Ends} {σ : St} {H : Hp} (Pv : Nat → St → Hp → Prop) (h0 : Pv 0 σ H) (hk : ∀ i σ H',Pv i σ H' → H' l = some (f xs))
    (ht : ∀ i x p σ H,xs[i]? = some x → H p = none → Pv i σ H → g (.ref p) σ (upd H p (.tup [.int i,x])) fun σ2 H2 => tb { D with nx := Pv (i + 1),ct := Pv (i + 1),bk := D.nx } σ2 H2) (hd : ∀ σ H,Pv xs.length σ H → D.nx σ H) :
    ∃ W : Nat → Nat → St → Hp → Prop,(∃ m,W 0 m σ H) ∧ ∀ i m σ H,W i m σ H →
      ((Ite f l).stop i H ∧ D.nx σ H) ∨ ((Ite f l).go i H ∧ ∃ N : St → Hp → Prop,(∀ σ' H',N σ' H' → ∃ m',m' < m ∧ W (i + 1) m' σ' H') ∧ ∀ x H',(Ite f l).yld i H x H' → g x σ H' fun σ2 H2 => tb { D with nx := N,ct := N,bk := D.nx } σ2 H2) := by
  refine ⟨fun i m σ H => m = xs.length - i ∧ i ≤ xs.length ∧ Pv i σ H,⟨xs.length,by simp,Nat.zero_le _,h0⟩,?_⟩
  rintro i m σ H ⟨rfl,hi,p⟩
  have e1 := hk i σ H p
  by_cases hlt : i < xs.length
  · refine .inr ⟨⟨xs,xs[i],e1,by simp [hlt]⟩,Pv (i + 1),fun σ' H' p' => ⟨xs.length - (i + 1),by omega,rfl,hlt,p'⟩,fun v H' y => ?_⟩
    obtain ⟨q,xs',x,hq,rfl,rfl,e1',ex⟩ := y
    rw [e1] at e1'
    cases hf _ _ (Option.some.inj e1')
    exact ht i x q σ H ex hq p
  · have e : i = xs.length := by omega
    subst e
    exact .inl ⟨⟨xs,e1,Nat.le_refl _⟩,hd σ H p⟩
end L2
set_option Elab.async false
set_option linter.all false
set_option maxRecDepth 100000
namespace Pc
open PySem L2
def turnable (k : Kd) : Bool := k.tu && !decide (k.w = k.h)
def spTurned (K : PySem.W.Frag) : Sp := fun vs H Q _ => ∃ (a : Addr) (k : Kd),vs = [.ref a] ∧ H a = some (.tup (kdV k)) ∧ Q (.bl (turnable k)) H
def isLy (ks : List Kd) (x t : V) : Bool := match x,t with
  | .int i,.bl b => decide (0 ≤ i) && match ks[i.toNat]? with
    | some k => !b || turnable k
    | none => false
  | _,_ => false
def spIsLying (K : PySem.W.Frag) (C : Addr) : Sp := fun vs H Q _ => ∃ (s : Addr) (b : Int) (ks : List Kd) (x t : V) (T U : String),vs = [.ref s,x,t] ∧ ShopAt C H s b ks ∧ Ty K H x T ∧ Ty K H t U ∧ Q (.bl (isLy ks x t)) H
end Pc
set_option Elab.async false
set_option linter.all false
set_option maxRecDepth 100000
namespace L2
open PySem PySem.Spec PyProof.Rows
section
variable {X : Cx}
theorem pe_mD {k : Nat} {C : Addr} {ps : List Str} {sp : Sp} {m : Str} {o : Expr} {e : Expr} {es : List Expr} {ta : TE} {t : TA} {apos pos : Pos} {pl : Sem Bool} (he : PE X o ta) (c : Cls X.K C) (D : Mn X.prog X.w X.K X.mg X.base C m ps k sp) (hr : Room k X.A) (ha : PA X (e :: es) t)
    (hst : starEach (e :: es) X.env = (false,eval e X.env) :: starEach es X.env := by rfl) (hpl : (backTo pos (starEach es X.env)).any (·.1) = false := by rfl)
    (ht : eval (.Call (.Attribute o m apos) (e :: es) [] pos) X.env = (do
      let ov ← eval o X.env
      standAt apos.atName
      let (f,first) ← holding [ov] (getMethod ov m pl)
      callWith pos f first (backTo pos (starEach (e :: es) X.env)) (backToKw pos (keywordEach [] X.env))) := by rfl) : PE X (.Call (.Attribute o m apos) (e :: es) [] pos) (tMeth C m sp [] E0 ta t) := by
  obtain ⟨f,fd,F,hb,hm⟩ := D
  exact pe_meth he c hm F hr hb .nil pass0 ha hst hpl ht
def MnX (P : Program) (w : World) (K : PySem.W.Frag) (mg : Str → Option Value) (base : Heap) (C : Addr) (m : Str) (ps : List Str) (k : Nat) (sp : Sp) : Prop :=
  ∃ (f : Addr) (fd : FuncData),FnOk P w K mg base (CXx P w) k f fd ps sp ∧ Binds K fd ps [] ∧ Meth K C m f
end
end L2
set_option Elab.async false
set_option linter.all false
set_option maxRecDepth 100000
namespace L2
open PySem PySem.Spec PyProof.Rows
theorem passX {P : Program} {w : World} {X : Cx} : Passes (CXx P w) X E0 := fun _ _ _ _ _ _ _ ⟨_,_,_,_,_,_,h⟩ => h.elim
section
variable {X : Cx}
theorem pe_mDX {k : Nat} {C : Addr} {ps : List Str} {sp : Sp} {m : Str} {o : Expr} {e : Expr} {es : List Expr} {ta : TE} {t : TA} {apos pos : Pos} {pl : Sem Bool} (he : PE X o ta) (c : Cls X.K C) (D : MnX X.prog X.w X.K X.mg X.base C m ps k sp) (hr : Room k X.A) (ha : PA X (e :: es) t)
    (hst : starEach (e :: es) X.env = (false,eval e X.env) :: starEach es X.env := by rfl) (hpl : (backTo pos (starEach es X.env)).any (·.1) = false := by rfl)
    (ht : eval (.Call (.Attribute o m apos) (e :: es) [] pos) X.env = (do
      let ov ← eval o X.env
      standAt apos.atName
      let (f,first) ← holding [ov] (getMethod ov m pl)
      callWith pos f first (backTo pos (starEach (e :: es) X.env)) (backToKw pos (keywordEach [] X.env))) := by rfl) : PE X (.Call (.Attribute o m apos) (e :: es) [] pos) (tMeth C m sp [] E0 ta t) := by
  obtain ⟨f,fd,F,hb,hm⟩ := D
  exact pe_meth he c hm F hr hb .nil passX ha hst hpl ht
end
end L2
namespace Pc
open PySem L2
end Pc
namespace Pc
open PySem PySem.Spec L2
end Pc
set_option Elab.async false
set_option linter.all false
set_option maxRecDepth 100000
namespace L2
open PySem PySem.Spec PyProof.Rows
section
variable {K : PySem.W.Frag} {C X : Addr}
theorem exc_cls (h : ExcC K C) : (PySem.W.clsIn K C).isSome = true ∧ PySem.W.typeIn K (.ref C) = some (.type "type") := by
  unfold ExcC PySem.W.excIn at h
  split at h
  · rename_i e
    refine ⟨?_,?_⟩
    · unfold PySem.W.clsIn
      rw [e]
      rfl
    · show Option.map (fun x => x.cls) (List.lookup C K) = _
      rw [e]
      rfl
  · cases h
theorem kitCls_of {t : Value} {b : Bool} (hx : ExcC K X) (s : PySem.W.subIn K t (.ref X) = some b) : PySem.W.kitCls K t (.ref X) = some b := by
  obtain ⟨h1,h2⟩ := exc_cls hx
  unfold PySem.W.kitCls
  simp only [h1,h2,s]
  rfl
theorem kit_self : PySem.W.kitOne K (.ref C) (.ref C) = some true := by
  unfold PySem.W.kitOne
  rw [if_pos (by simp)]
theorem exm_of (hx : ExcC K X) (b : PySem.W.subIn K (.ref X) (.type "BaseException") = some true) (s : PySem.W.subIn K (.ref C) (.ref X) = some true) : PySem.W.exmOne K (.ref C) (.ref X) = some true := by
  unfold PySem.W.exmOne
  rw [b,if_pos (show ((some true == some true) = true) from rfl)]
  exact kitCls_of hx s
end
end L2
set_option Elab.async false
set_option linter.all false
set_option maxRecDepth 100000
namespace L2
open PySem PySem.Spec PyProof.Rows
section
variable {X : Cx} {k : Nat} {f C : Addr} {fd : FuncData} {ps : List Str} {sp : Sp} {x : Str} {p pos : Pos} {e : Expr} {es : List Expr} {t : TA}
end
section
variable {X : Cx}
theorem op_catT0 : OpR X (binaryOp .Add) (fun x y H Q => ∃ a b ys,x = .ref a ∧ y = .ref b ∧ SqT X.K H a [] ∧ SqT X.K H b ys ∧ Q (.ref b) H) := by
  intro pins s σ H x y v u Q I rx ry h
  obtain ⟨a,b,ys,rfl,rfl,ha,hb,q⟩ := h
  cases rx
  cases ry
  obtain ⟨its,r1,p1,_⟩ := I.tuple ha
  obtain ⟨its2,r2,p2,_⟩ := I.tuple hb
  cases r1
  obtain ⟨⟨cls,dd,data,sl⟩,ho,hc,n,hd⟩ := p1
  obtain ⟨⟨cls2,dd2,data2,sl2⟩,ho2,hc2,n2,hd2⟩ := p2
  simp only at hc hd hc2 hd2
  subst hc hd hc2 hd2
  exact concat_meets ⟨_,ho,rfl⟩ ⟨_,ho2,rfl⟩ noFill_tuple_add seq_tuple_add PySem.F.slot_tuple_add PySem.F.entry_tuple_add (PySem.F.args_tuple_add_2 _ _)
      (tuple_addW0 a b _ _ n n2 dd dd2 sl sl2 rfl) ⟨ho,ho2,⟨.ref b,H,I,rfl,q⟩⟩
end
end L2
namespace Pc
open PySem L2
end Pc
namespace Pc
open PySem L2
end Pc
set_option Elab.async false
set_option linter.all false
set_option maxRecDepth 100000
namespace L2
open PySem PySem.Spec PyProof.Rows
section
variable {X : Cx}
def rCatA : R2 := fun x y H Q => ∃ a b xs ys,x = .ref a ∧ y = .ref b ∧ H a = some (.tup xs) ∧ H b = some (.tup ys) ∧ xs.length + ys.length ≤ sizeLine ∧
  ∀ m H',(H' = H ∧ (m = a ∨ m = b)) ∨ (H m = none ∧ H' = upd H m (.tup (xs ++ ys))) → H' m = some (.tup (xs ++ ys)) → Q (.ref m) H'
theorem op_catA : OpR X (binaryOp .Add) rCatA := by
  intro pins s σ H x y v u Q I rx ry h
  obtain ⟨a,b,xs,ys,rfl,rfl,ha,hb,hz,q⟩ := h
  by_cases hx : xs = []
  · subst hx
    exact op_catT0 pins s σ H _ _ v u Q I rx ry ⟨a,b,ys,rfl,rfl,SqT.of ha,SqT.of hb,q b H (.inl ⟨rfl,.inr rfl⟩) hb⟩
  · refine op_catT pins s σ H _ _ v u Q I rx ry ⟨a,b,xs,ys,rfl,rfl,SqT.of ha,SqT.of hb,hx,hz,fun e => ?_,fun e p hp => q p _ (.inr ⟨hp,rfl⟩) upd_same⟩
    subst e
    exact q a H (.inl ⟨rfl,.inl rfl⟩) (by rw [List.append_nil]; exact ha)
end
end L2
namespace Pc
open PySem L2
end Pc
set_option Elab.async false
set_option linter.all false
set_option maxRecDepth 100000
namespace L2
open PySem PySem.Spec PyProof.Rows
section
variable {X : Cx}
end
theorem atI_int {α : Type} {xs : List α} {i : Int} {v : α} (h0 : 0 ≤ i) (h : xs[i.toNat]? = some v) : atI xs i = some v := by
  have e : i = ((i.toNat : Nat) : Int) := by omega
  have z : atI xs ((i.toNat : Nat) : Int) = some v := atI_nat h
  rw [← e] at z; exact z
end L2
namespace Pc
open PySem L2
def PotB (H : Hp) (p : Addr) : Prop := ∃ a b : Int,0 ≤ a ∧ 0 ≤ b ∧ b < 2147483648 ∧ H p = some (.lst [.int a,.int b])
theorem PotB.new {H : Hp} {p q : Addr} {o : HO} (x : PotB H p) (h : H q = none) : PotB (upd H q o) p := by
  obtain ⟨a,b,h1,h2,h3,e⟩ := x
  exact ⟨a,b,h1,h2,h3,by rw [upd_ne (ne_of_none e h)]; exact e⟩
theorem PotB.same {H H' : Hp} {p : Addr} (x : PotB H p) (s : Same H H') : PotB H' p := by
  obtain ⟨a,b,h1,h2,h3,e⟩ := x
  exact ⟨a,b,h1,h2,h3,s _ _ e⟩
theorem PotB.some {H : Hp} {p : Addr} (x : PotB H p) : H p ≠ none := by
  obtain ⟨a,b,h1,h2,h3,e⟩ := x
  rw [e]; exact fun z => by cases z
theorem PotB.ne {H : Hp} {p q : Addr} (x : PotB H p) (h : H q = none) : p ≠ q := fun z => x.some (z ▸ h)
def spPotB : Sp := fun vs H Q _ => ∃ (c : Int),vs = [.int c] ∧ ∀ (p : Addr) (H' : Hp),H p = none → PotB H' p → Same H H' → Q (.ref p) H'
def spDrawB : Sp := fun vs H Q _ => ∃ (p : Addr) (m : Int),vs = [.ref p,.int m] ∧ PotB H p ∧ 0 < m ∧ m ≤ 10 ^ 60 ∧ ∀ (r : Int) (H' : Hp),0 ≤ r → r < m → PotB H' p → But p H H' → Q (.int r) H'
end Pc
set_option Elab.async false
set_option linter.all false
set_option maxRecDepth 100000
namespace L2
open PySem
end L2
namespace Pc
open PySem L2
def dI (ns : List Int) : PyData := .list (ns.map PyData.int)
theorem datI {K : PySem.W.Frag} {H : Hp} : ∀ ns : List Int,DatVs K H (ns.map V.int) (ns.map PyData.int)
  | [] => .nil
  | n :: r => .cons (.int n) (datI r)
theorem canI : ∀ ns : List Int,PyData.canLayAll0 (ns.map PyData.int) = true
  | [] => rfl
  | n :: r => by simp [PyData.canLayAll0,PyData.canLay0,canI r]
theorem depI : ∀ ns : List Int,PyData.depthAll (ns.map PyData.int) = 0
  | [] => rfl
  | n :: r => by simp [PyData.depthAll,PyData.depth,depI r]
theorem shapedI (ns : List Int) : SeqAt.shaped (dI ns) = true := by
  unfold dI
  simp [SeqAt.shaped,PyData.canLay0,PyData.depth,canI ns,depI ns]
end Pc
set_option Elab.async false
set_option linter.all false
set_option maxRecDepth 100000
namespace L2
open PySem PySem.Spec PyProof.Rows
section
variable {X : Cx} {k : Nat} {ps : List Str} {sp : Sp} {x : Str} {p pos : Pos} {e : Expr} {es : List Expr} {t : TA}
def DnX (P : Program) (w : World) (K : PySem.W.Frag) (mg : Str → Option Value) (base : Heap) (x : Str) (ps : List Str) (k : Nat) (sp : Sp) : Prop :=
  ∃ (f : Addr) (fd : FuncData),FnOk P w K mg base (CXx P w) k f fd ps sp ∧ Binds K fd ps [] ∧ PySem.W.keepIn K (.ref f) = true ∧ mg x = some (.ref f)
def tCallX (sp : Sp) (t : TA) : TX := fun σ H Q E => t σ H fun vs H1 => sp vs H1 Q E
theorem pex_cD (D : DnX X.prog X.w X.K X.mg X.base x ps k sp) (hr : Room k X.A) (hg : Gl X x) (ha : PA X.nox (e :: es) t)
    (hdb : (x == ("__debug__" : Str)) = false := by decide) (he : starEach (e :: es) X.env = (false,eval e X.env) :: starEach es X.env := by rfl) (hpl : (backTo pos (starEach es X.env)).any (·.1) = false := by rfl) :
    PEx X (.Call (.Name x p) (e :: es) [] pos) (tCallX sp t) := by
  obtain ⟨f,fd,F,hb,hk,hm⟩ := D
  intro pins s σ H Q E I h
  refine wpAny_Call_Name_kw (ld_glob I hg hm ?_ hdb)
  refine PySem.W.callWith_K (h₀ := X.base) I.ok.mod.kin hk (wpAny_mono (ha pos pins s σ H _ (I.wish _) h) (fun us s1 ⟨vs,H1,I1,r,q⟩ => ⟨I1.kIn,?_⟩) fun _ _ z => False.elim z) he hpl
  exact run_fnX F hr hb I1.unwish r q
end
section
variable {X : Cx} {e : Expr} {tx : TX} {ts : TS} {i j : Nat} {n m y : Str} {CE : Addr} {b₀ : Stmt} {suite : List Stmt} {np mp hpos epos pos : Pos}
end
end L2
set_option Elab.async false
set_option linter.all false
set_option maxRecDepth 100000
namespace L2
open PySem PySem.Spec PyProof.Rows
abbrev TXS := St → Hp → (Hp → Prop) → XK → Prop
def PSx (X : Cx) (b : List Stmt) (t : TXS) : Prop :=
  ∀ (pins : List (Addr × Obj)) (s : Shared) (σ : St) (H : Hp) (N : Hp → Prop) (E : XK),Inv X pins σ H s → t σ H N E → wpAny (model X.prog X.w) X.A (execs b X.env) (fun fl s' => fl = Flow.next ∧ ∃ H',Inv X pins σ H' s' ∧ N H') (XP X pins σ E) s
section
variable {X : Cx} {e c : Expr} {a b : List Stmt} {tx : TX} {ta tb : TXS} {tt : TT} {pos : Pos}
theorem psx_expr (he : PEx X e tx) (hs : swapsWith e none pos.line X.env = pure false := by rfl) : PSx X [.Expr e pos] (fun σ H N E => tx σ H (fun _ H1 => N H1) E) := by
  intro pins s σ H N E I h
  exact wpAny_execs_cons (wpAny_Expr_any (wpAny_mono (he pins s σ H _ _ I h) (fun v s1 ⟨x,H1,I1,r1,q1⟩ => wpAny_execs_nil ⟨rfl,H1,I1,q1⟩) fun v s1 hx => hx) I.quiet hs)
end
def tTryC (K : PySem.W.Frag) (i : Nat) (CE : Addr) (tx : TXS) (ts : Addr → TS) : TS := fun D σ H => tx σ H (fun H1 => D.nx σ H1) (fun c _ H1 => PySem.W.exmOne K c (.ref CE) = some true ∧ ∀ ea,H1 ea = none →
  ts ea { nx := fun σ2 H2 => D.nx (σ2.set i none) H2,rt := D.rt,bk := fun σ2 H2 => D.bk (σ2.set i none) H2,ct := fun σ2 H2 => D.ct (σ2.set i none) H2 } (σ.set i (some (.ref ea))) (upd H1 ea (.ext (IsA ea c))))
section
variable {X : Cx} {body : List Stmt} {tx : TXS} {ts : Addr → TS} {i : Nat} {n y : Str} {CE : Addr} {b₀ : Stmt} {suite : List Stmt} {np hpos epos pos : Pos}
theorem ps_tryC (hst : X.stack = X.env :: X.outer) (hfr : X.env.frame = some X.env.locals) (hex : X.ex = []) (he : PSx X body tx) (hN : X.N.Nodup) (hi : X.N[i]? = some n) (hk : X.env.scope.names.lookup n = some .local) (hg : Gl X y) (hm : X.mg y = some (.ref CE))
    (hsu : ∀ ea,PSs (X.marked ea) (b₀ :: suite) (ts ea)) (hd : (y == ("__debug__" : Str)) = false := by decide) :
    PS X (.Try body [.ExceptHandler (some (.Name y np)) (some n) (b₀ :: suite) hpos] [] [] pos) (tTryC X.K i CE tx ts) := by
  intro pins s σ H D I h
  refine wpAny_Try_except (wpAny_mono (he pins s σ H _ _ I h) (fun fl s1 ⟨e1,H1,I1,q1⟩ => ?_) fun v s1 hx => ?_)
  · subst e1
    exact wpAny_execs_nil ⟨σ,H1,I1,q1⟩
  obtain ⟨ea,c,H0,H',B,s0,rfl,I0,f,hm1,q⟩ := hx
  obtain ⟨a0,fl⟩ := f.fly
  rw [hst] at fl
  refine looks_onQ (by rw [← hst]; exact I.ok.frames) hfr fl f.ctx fun h4 held4 sm4 q4 => ?_
  refine landsQ held4 q4 fun h5 fl5 sm5 q5 => ?_
  have I5 : Inv X pins σ H' { s1 with heap := h5 } := f.inv (t := s1.toks) I0 fl5.1 (sm4.trans sm5)
  obtain ⟨ob,hob,hobc⟩ := fl5.there
  refine wpAny_handleBy_cons (codeAny_handlers_test (ld_glob (X := X.marked ea) (I5.mark ea) hg hm ?_ hd)) (by intro q; cases q)
  have LT : PySem.W.Looks (model X.prog X.w) h5 (typeOf (.ref ea)) c := hobc ▸ (PySem.W.Looks.ld hob).andThen .now
  refine (PySem.W.exm_one (M := model X.prog X.w) I5.kIn LT hm1).here ?_
  show codeAny _ _ _ _ _
  refine codeAny_handlers_suite_as ?_
  refine lands_againQ fl5 q5 fun h6 fl6 sm6 q6 => ?_
  have I6 : Inv X pins σ H' { s1 with heap := h6 } := f.inv (t := s1.toks) I0 fl6.1 ((sm4.trans sm5).trans sm6)
  have I7 : Inv X pins σ (upd H' ea (.ext (IsA ea c))) { s1 with heap := h6 } := by
    refine I6.track2 f.new.2 (fun z => ?_) ?_ (fun x c' e z => ?_) (fun p hp z => ?_) (IsA.obj (IsA.of fl6.there q6))
    · obtain ⟨m,⟨o,_,_,ho,_⟩,_⟩ := I0.loc
      have := f.new.1
      rw [z,ho] at this; cases this
    · cases q' : X.s₀.heap.get? ea with
      | none => rfl
      | some o =>
        obtain ⟨o',e1⟩ := I0.base.there ea o q' (by rw [hex]; simp)
        have := f.new.1
        rw [e1] at this; cases this
    · obtain ⟨v,o,ho,_⟩ := I0.cell x c' e
      have := f.new.1
      rw [← z,ho] at this; cases this
    · have := (I0.pin p hp).1
      rw [z,f.new.1] at this; cases this
  refine store_ok (X := X.marked ea) (I7.mark ea) hN hi (.inl hk) (v := .ref ea) rfl (fun s7 I8 => ?_) (.inr hk)
  refine wpAny_mono (hsu ea pins s7 _ _ _ I8 (q ea f.new.2)) (fun fl s8 hq => ?_) fun _ _ z => False.elim z
  cases fl with
  | next =>
    obtain ⟨σ',H'',J,q'⟩ := hq
    exact name_gone (J.unmark I.ok) hN hi hk fun s9 J9 => ⟨_,_,J9,q'⟩
  | brk =>
    obtain ⟨σ',H'',J,q'⟩ := hq
    exact name_gone (J.unmark I.ok) hN hi hk fun s9 J9 => ⟨_,_,J9,q'⟩
  | cont =>
    obtain ⟨σ',H'',J,q'⟩ := hq
    exact name_gone (J.unmark I.ok) hN hi hk fun s9 J9 => ⟨_,_,J9,q'⟩
  | ret u =>
    obtain ⟨v,σ',H'',J,r,q'⟩ := hq
    exact name_gone (J.unmark I.ok) hN hi hk fun s9 J9 => ⟨_,_,_,J9,r,q'⟩
end
end L2
set_option Elab.async false
set_option linter.all false
set_option maxRecDepth 100000
namespace L2
open PySem PySem.Spec PyProof.Rows
section
variable {M : Model} {A : Around} {E : Value → Shared → Prop} {s : Shared} {base : Heap} {env : Env} {outer : List Env} {L e : Addr} {cls a0 : Value} {Q : Unit → Shared → Prop}
theorem leave3 (hfr : A.frames = some (env :: outer)) (hf : env.frame = some L) (f : Heap.FlyingW base (env :: outer) e cls a0 s.heap) (q : Q2 e s.heap) : wpAny M A (leaving env (.ref e)) (fun _ s' => Q2 e s'.heap) E s := by
  unfold leaving
  exact wpAny_bind (looks_onQ hfr hf f q fun h4 held4 sm4 q4 => flight2 held4.2.2.2 q4)
theorem leaves_onQ (hfr : A.frames = some (env :: outer)) (hf : env.frame = some L) (f : Heap.FlyingW base (env :: outer) e cls a0 s.heap) (q : Q2 e s.heap)
    (hQ : ∀ h',Heap.FlyingW base outer e cls a0 h' → s.heap.UpToSlots h' → Q2 e h' → Q () { s with heap := h' }) : wpAny M A (leaving env (.ref e)) Q E s :=
  wpAny_mono (wpAny_conj (leave3 (E := E) hfr hf f q) (wpAny_leaves_onW (Q := fun _ s' => Q2 e s'.heap → Q () s') (E := E) hfr hf f fun h' a b q => hQ h' a b q)) (fun _ _ z => z.2 z.1) fun _ _ z => z.1
end
section
variable {P : Program} {w : World} {K : PySem.W.Frag} {mg : Str → Option Value} {base : Heap} {N : List Str} {qual : Str} {scope : Scope} {f : Addr} {cd : Value} {A : Around} {outer : List Env} {s₀ : Shared} {H₀ : Hp} {E : XK}
theorem pass_on {pins : List (Addr × Obj)} {σ : St} {v : Value} {s1 : Shared} (hx : XP (cxOf (CXx P w) P w K mg base N qual scope f cd A outer s₀ H₀ E) pins σ E v s1) : (cxOf (CXx P w) P w K mg base N qual scope f cd A outer s₀ H₀ E).xe v s1 := by
  obtain ⟨ea,C,H0,H',B,s0,rfl,I0,fl,q⟩ := hx
  obtain ⟨a0,fw⟩ := fl.fly
  have I0' := I0
  show wpAny (model P w) (A.deeper (envOfC qual scope s₀.heap.objs.size f cd)) (leaving (envOfC qual scope s₀.heap.objs.size f cd) (.ref ea)) _ _ s1
  refine leaves_onQ I0.ok.frames rfl fw fl.ctx fun h' fw' sm q2 => ⟨ea,C,H',B,rfl,?_,q⟩
  have J : Inv (cxOf (CXx P w) P w K mg base N qual scope f cd A outer s₀ H₀ E) pins σ H' { s1 with heap := h' } := fl.inv (t := s1.toks) I0 fw'.1 sm
  have newE : s₀.heap.get? ea = none := by
    cases z : s₀.heap.get? ea with
    | none => rfl
    | some o =>
      obtain ⟨o',e1⟩ := I0.base.there ea o z (by show ea ∉ ([] : List Addr); simp)
      have := fl.new.1
      rw [e1] at this; cases this
  refine ⟨J.os,J.bare,J.base,J.hok,⟨a0,fw'⟩,q2,fun b o nb hh e => ?_,⟨newE,fl.new.2⟩⟩
  have nbs : b ∉ frs (envOfC qual scope s₀.heap.objs.size f cd :: outer) := fun z => by
    have z' : b = s₀.heap.objs.size ∨ b ∈ frs outer := by
      unfold frs at z ⊢
      rw [List.filterMap_cons] at z
      exact List.mem_cons.mp z
    rcases z' with z | z
    · subst z
      rcases hh with hh | ⟨o',hh⟩
      · exact hh J.free
      · exact absurd (Heap.lt_size hh) (Nat.lt_irrefl _)
    · exact nb z
  have key : ∃ o1,s1.heap.get? b = some o1 ∧ (H' b ≠ none ∨ ∃ o',s0.heap.get? b = some o') := by
    rcases hh with hh | ⟨o',hh⟩
    · cases z : H' b with
      | none => exact absurd z hh
      | some u =>
        obtain ⟨ob,eb⟩ := (fl.hok b u z).ex
        exact ⟨ob,eb,.inl (by rw [← z] at *; exact hh)⟩
    · obtain ⟨o1,e1⟩ := I0.base.there b o' hh (by show b ∉ ([] : List Addr); simp)
      obtain ⟨o2,e2⟩ := fl.un.there b o1 e1 (by simp)
      exact ⟨o2,e2,.inr ⟨o1,e1⟩⟩
  obtain ⟨o1,e1,hh'⟩ := key
  have eB := fl.cov b o1 nbs hh' e1
  have := fw'.1 b o1 eB
  rw [e] at this
  cases this
  exact eB
theorem ps_exprX {e : Expr} {tx : TX} {pos : Pos} (he : PEx (cxOf (CXx P w) P w K mg base N qual scope f cd A outer s₀ H₀ E) e tx) (hs : swapsWith e none pos.line (cxOf (CXx P w) P w K mg base N qual scope f cd A outer s₀ H₀ E).env = pure false := by rfl) :
    PS (cxOf (CXx P w) P w K mg base N qual scope f cd A outer s₀ H₀ E) (.Expr e pos) (fun D σ H => tx σ H (fun _ H1 => D.nx σ H1) E) := by
  intro pins s σ H D I h
  exact wpAny_Expr_any (wpAny_mono (he pins s σ H _ _ I h) (fun v s1 ⟨x,H1,I1,r1,q1⟩ => ⟨σ,H1,I1,q1⟩) fun v s1 hx => pass_on hx) I.quiet hs
end
end L2
set_option Elab.async false
set_option linter.all false
set_option maxRecDepth 100000
namespace PySem
open Spec
section
variable {prog : Program} {w : World} {A : Around} {E : Value → Shared → Prop} {s : Shared} {l : Addr} {xs : Array (Int × Tok)}
end
end PySem
namespace L2
open PySem PySem.Spec PyProof.Rows
section
variable {X : Cx}
theorem comp_rng {lo : Int} {n : Nat} {σ : St} {cap : List Nat} {k : Nat} {g : TG} {tt : TT} {te : TE} {Q : List V → Hp → Prop} {H : Hp} (Pv : Nat → List V → Hp → Prop) (h0 : Pv 0 [] H)
    (ht : ∀ i ys H',i < n → Pv i ys H' → ys.length < sizeLine ∧ g (.int (lo + i)) (blkSt σ cap k) H' fun σ2 H2 => leS (blkSt σ cap k) σ2 ∧ tt σ2 H2 fun ok H3 => if ok = true then te σ2 H3 (fun v H4 => Nx n Pv i (ys ++ [v]) H4) else Nx n Pv i ys H3)
    (hd : ∀ ys H',Pv n ys H' → ys.length ≤ sizeLine ∧ Q ys H') : ∃ W,(∃ m,W 0 m [] H) ∧ CompW σ cap k (Itr lo n) g tt te Q W := by
  refine ⟨fun i m ys H' => m = n - i ∧ i ≤ n ∧ Pv i ys H',⟨_,rfl,Nat.zero_le _,h0⟩,?_⟩
  rintro i m ys H' ⟨rfl,hi,p⟩
  by_cases hin : i < n
  · obtain ⟨e,hg⟩ := ht i ys H' hin p
    refine .inr ⟨hin,e,fun x H2 yl => ?_⟩
    obtain ⟨e1,e2⟩ := yl
    subst e1 e2
    exact hg
  · have e : i = n := by omega
    subst e
    obtain ⟨a1,a2⟩ := hd ys H' p
    exact .inl ⟨Nat.le_refl _,a1,a2⟩
end
end L2
namespace PySem
end PySem
set_option Elab.async false
set_option linter.all false
set_option maxRecDepth 100000
namespace L2
open PySem PySem.Spec PyProof.Rows
def tLR (ta : TA) : TE := fun σ H Q => ta σ H fun vs H1 => ∃ j : Int,vs = [.int j] ∧ 0 ≤ j ∧ j ≤ 1000 ∧ ∀ l,H1 l = none → Q (.ref l) (upd H1 l (.lst (((List.range j.toNat).map (Int.ofNat ·)).map V.int)))
theorem valsR {acc : Array Value} {n : Nat} (h : ItemsOf (fun i v => ∃ t,v = Value.int (0 + (i : Int) * 1) t) acc n) : Vals (((List.range n).map (Int.ofNat ·)).map V.int) acc.toList := by
  obtain ⟨hz,hi⟩ := h
  have key : ∀ (m : Nat) (l : List Value) (k : Nat),l.length = m → (∀ j v,l[j]? = some v → ∃ t,v = Value.int (0 + ((j + k : Nat) : Int) * 1) t) → Vals (((List.range' k m).map (Int.ofNat ·)).map V.int) l := by
    intro m
    induction m with
    | zero => intro l k hl _; rw [List.length_eq_zero_iff.mp hl]; exact .nil
    | succ m ih =>
      intro l k hl hv
      cases l with
      | nil => cases hl
      | cons v r =>
        obtain ⟨t,e⟩ := hv 0 v rfl
        subst e
        rw [List.range'_succ]
        refine .cons ⟨t,?_⟩ (ih r (k + 1) (by simpa using hl) fun j v hj => ?_)
        · congr 1
          simp
        · obtain ⟨t,e⟩ := hv (j + 1) v (by simpa using hj)
          exact ⟨t,by rw [e]; congr 1; omega⟩
  rw [List.range_eq_range']
  exact key n acc.toList 0 (by simpa using hz) fun j v hj => by simpa using hi j v (by simpa using hj)
section
variable {X : Cx}
theorem pe_listRng {a : Expr} {ta : TA} {p p' pos pos' : Pos} (hc : X.calm = true) (hgl : Gl X "list") (hml : X.mg "list" = none) (hg : Gl X "range") (hm : X.mg "range" = none) (ha : PA X [a] ta) (hs : starEach [a] X.env = [(false, eval a X.env)] := by rfl)
    (hs2 : starEach [Expr.Call (.Name "range" p') [a] [] pos'] X.env = [(false, eval (.Call (.Name "range" p') [a] [] pos') X.env)] := by rfl) :
    PE X (.Call (.Name "list" p) [.Call (.Name "range" p') [a] [] pos'] [] pos) (tLR ta) := by
  intro pins s σ H Q I h
  refine Call_ (ld_blt I hgl hml boot_list (PyProof.Rows.callWith_type1 ?_ hs2 rfl))
  rw [hs2]
  show wpAny _ _ (spliced ((false, eval (.Call (.Name "range" p') [a] [] pos') X.env) :: backTo pos [])) _ _ s
  refine Calls.spliced_cons ?_
  refine Call_ (ld_blt I hg hm boot_range (PyProof.Rows.callWith_type1 (thn (ha pos' pins s σ H _ I h) fun us s1 ⟨vs,H1,I1,r1,q1⟩ => ?_) hs rfl))
  obtain ⟨j,e,j0,j1,q⟩ := q1
  subst e
  obtain ⟨u,rfl,t,rfl⟩ := vals1 r1
  refine call_range_1 (Calls.spliced_nil ?_)
  have I2 : Inv X pins σ H1 { s1 with heap := s1.heap.push { cls := .type "range",data := .fields #[.int 0 s1.toks,.int j t,.int 1 (s1.toks + 1)] },toks := s1.toks + 1 + 1 } := I1.kept fun b o e => Heap.get?_push_of_some _ e
  refine call_list_range (n := j.toNat) (I.ok.hd hc) (IsRange.new ..) (small_one (by omega) (by omega) (by omega) (by omega)) (by rw [rangeSize_one]; split <;> omega) (by omega) fun h' tk acc c' kp e hi => ?_
  refine ⟨.ref _,_,I2.laid (t' := tk) kp (Nat.le_refl _) (show ObjOk X.prog X.w _ h' _ (.lst _) from ⟨?_,acc.toList,c',valsR hi,by simpa using e⟩),rfl,q _ (I2.hok.fresh (Nat.le_refl _))⟩
  rw [List.length_map,List.length_map,List.length_range]
  have : 1000 ≤ sizeLine := by decide
  omega
def rCatS (K : PySem.W.Frag) : R2 := fun x y H Q => ∃ l b xs zs,x = .ref l ∧ y = .ref b ∧ SqL K H l xs ∧ SqL K H b zs ∧ xs.length + zs.length ≤ sizeLine ∧ ∀ p,H p = none → Q (.ref p) (upd H p (.lst (xs ++ zs)))
theorem op_catS : OpR X (binaryOp .Add) (rCatS X.K) := by
  intro pins s σ H x y v u Q I rx ry h
  obtain ⟨l,b,xs,zs,rfl,rfl,hl,hb,hz,q⟩ := h
  cases rx
  cases ry
  obtain ⟨its,r,pl,z⟩ := I.list hl
  obtain ⟨its2,r2,pl2,z2⟩ := I.list hb
  have hl1 := r.length
  have hl2 := r2.length
  obtain ⟨⟨cls,dd,data,sl⟩,n,ho,hc,_,hd⟩ := pl
  obtain ⟨⟨cls2,dd2,data2,sl2⟩,n2,ho2,hc2,_,hd2⟩ := pl2
  simp only at hc hd hc2 hd2
  subst hc hd hc2 hd2
  have e : its.toArray ++ its2.toArray = (its ++ its2).toArray := by simp
  refine concat_meets ⟨_,ho,rfl⟩ ⟨_,ho2,rfl⟩ noFill_list_add seq_list_add PySem.F.slot_list_add PySem.F.entry_list_add (PySem.F.args_list_add_2 _ _) (list_addW l b its.toArray its2.toArray n n2 dd dd2 sl sl2 (by rw [List.size_toArray,List.size_toArray]; omega)) ⟨ho,ho2,?_⟩
  rw [e]
  exact ⟨.ref _,_,I.lnew (t' := s.toks) (r.append r2) (by rw [List.length_append]; omega),rfl,q _ I.fresh⟩
end
end L2
set_option Elab.async false
set_option linter.all false
set_option maxRecDepth 100000
namespace Pc
open PySem L2
def top (i : Nat) : Stmt := PySem.Challenge.pw_platecuts_k51_turns_counted.main.body.getD i (.Pass ⟨0,0,0,0⟩)
abbrev sWall : Stmt := top 0
abbrev sWhole : Stmt := top 10
abbrev sTruth : Stmt := top 11
abbrev sRow : Stmt := top 12
abbrev sCheckPlate : Stmt := top 13
abbrev sLiesIn : Stmt := top 18
abbrev sCutParts : Stmt := top 19
abbrev sBeginsWith : Stmt := top 26
abbrev sIsCut : Stmt := top 27
abbrev sIsLeaf : Stmt := top 28
abbrev sSpotsBehind : Stmt := top 29
abbrev sIsTree : Stmt := top 30
abbrev sCheckTree : Stmt := top 31
abbrev sTurnsOf : Stmt := top 33
abbrev sIsKind : Stmt := top 37
abbrev sTurned : Stmt := top 38
abbrev sShopInit : Stmt := inClass (top 39) 0
abbrev sShopBlade : Stmt := inClass (top 39) 1
abbrev sShopKinds : Stmt := inClass (top 39) 2
abbrev sShopWanted : Stmt := inClass (top 39) 3
abbrev sShopLyings : Stmt := inClass (top 39) 4
abbrev sShopIsLying : Stmt := inClass (top 39) 5
abbrev sShopSides : Stmt := inClass (top 39) 6
abbrev sPot : Stmt := top 41
abbrev sDraw : Stmt := top 42
abbrev sGreat : Stmt := top 43
abbrev sLeaf : Stmt := top 44
abbrev sWay : Stmt := top 45
abbrev sTree : Stmt := top 46
abbrev sLRow : Stmt := top 47
abbrev sBeside : Stmt := top 48
abbrev sAround : Stmt := top 49
abbrev sDeep : Stmt := top 50
abbrev sDrawn : Stmt := top 51
abbrev sWays : Stmt := top 52
abbrev sDue : Stmt := top 53
abbrev sListed : Stmt := top 54
abbrev sBad : Stmt := top 55
abbrev sSpoilt : Stmt := top 56
abbrev sRefused : Stmt := top 57
abbrev sSide : Stmt := top 58
abbrev sLaw : Stmt := top 59
section
variable {P : Program} {w : World} {K : PySem.W.Frag} {mg : Str → Option Value} {base : Heap}
structure Blt (mg : Str → Option Value) : Prop where
  isi : mg "isinstance" = none
  int : mg "int" = none
  bool : mg "bool" = none
  list : mg "list" = none
  tuple : mg "tuple" = none
  len : mg "len" = none
  range : mg "range" = none
  max : mg "max" = none
  min : mg "min" = none
  abs : mg "abs" = none
  divmod : mg "divmod" = none
  sum : mg "sum" = none
  sorted : mg "sorted" = none
  all : mg "all" = none
  repr : mg "repr" = none
  zip : mg "zip" = none
  enumerate : mg "enumerate" = none
  mostk : ∃ t,mg "MOST_KINDS" = some (.int 8 t)
  fivek : ∃ t,mg "THINGS_OF_A_KIND" = some (.int 5 t)
end
theorem at_mem {xs : List V} {i : Int} (h0 : 0 ≤ i) (h1 : i < xs.length) : ∃ v,atI xs i = some v ∧ v ∈ xs := by
  have hk : i.toNat < xs.length := by omega
  exact ⟨xs[i.toNat],atI_int h0 (List.getElem?_eq_getElem hk),List.getElem_mem hk⟩
theorem put1 {p c : Addr} {H0 H : Hp} {o : HO} (b : But p H0 H) (pt : PotB H p) (h : H c = none) : ∃ H',upd H c o = H' ∧ H' c = some o ∧ c ≠ p ∧ Same H H' ∧ But p H0 H' ∧ PotB H' p :=
  ⟨_,rfl,upd_same,Ne.symm (pt.ne h),Same.new h,b.trans (But.new h),pt.new h⟩
theorem seqCut {t u : TS} {D : Ends} {σ : St} {H : Hp} (J : St → Hp → Prop) (h1 : ∀ R : St → Hp → Prop,(∀ σ' H',J σ' H' → R σ' H') → t { D with nx := R } σ H) (h2 : ∀ σ' H',J σ' H' → u D σ' H') : tSeq t u D σ H := h1 _ h2
section
variable {P : Program} {w : World} {K : PySem.W.Frag} {mg : Str → Option Value} {base : Heap}
theorem scWhole : FnScope ["thing","least"] ["thing","least"] (defScope sWhole) := ⟨rfl,rfl,rfl,by decide +kernel,rfl,by decide +kernel,by decide +kernel⟩
theorem ok_whole {f : Addr} {fd : FuncData} (F : Fun K "is_whole" "is_whole" sWhole f fd) (B : Blt mg) : FnOk P w K mg base CX0 1 f fd ["thing","least"] (spWhole K) := by
  refine F.ok scWhole (fun vs H Q E h => ?_) (fun cdv A outer s H vs Q E hr h => ?_)
  · obtain ⟨x,T,l,rfl,_⟩ := h
    rfl
  obtain ⟨x,T,l,rfl,⟨tn,ty⟩,q⟩ := h
  refine ⟨_,pss_one (ps_ret (pe_and (pe_callB call_isinst rfl B.isi PyProof.Rows.boot_isinstance (pa_cons (pv 0) (pa_cons (pe_bltn (v := .ty "int") rfl B.int PyProof.Rows.boot_int rfl) pa_nil)))
    (pe_and (pe_not (pe_callB call_isinst rfl B.isi PyProof.Rows.boot_isinstance (pa_cons (pv 0) (pa_cons (pe_bltn (v := .ty "bool") rfl B.bool PyProof.Rows.boot_bool rfl) pa_nil))))
    (pe_one (pe_cmpR op_ge (pv 0) (pv 1) (nomark _)))))),?_⟩
  refine ⟨_,rfl,x,_,_,_,_,rfl,ty,rfl,kit_int T tn,_,rfl,?_⟩
  have tb := ty_bool ty
  refine ite2 (fun c => ?_) (fun c => ?_)
  · refine ⟨_,rfl,x,_,_,_,_,rfl,ty,rfl,kit_bool T tn,_,rfl,_,rfl,?_⟩
    refine ite2 (fun c2 => ?_) (fun c2 => ?_)
    · have hT : (T == "int") = true := by
        have : (T == "bool") = false := by simpa using c2
        rw [this,Bool.or_false] at c; exact c
      obtain ⟨i,rfl⟩ := ty_int ty tn hT
      exact ⟨_,rfl,_,rfl,_,_,rfl,rfl,q⟩
    · have hT : isBl x = true := by
        rw [← tb]
        cases e : (T == "bool") with
        | true => rfl
        | false => rw [e] at c2; exact absurd rfl c2
      cases x <;> first | exact q | (exact absurd hT Bool.false_ne_true)
  · have hx : whole x l = false := by
      cases x with
      | int i =>
        exfalso
        have ty' := ty
        generalize hv : Value.type T = tv at ty'
        cases ty' with
        | int => cases hv; exact c rfl
      | _ => rfl
    rw [hx] at q
    exact q
theorem scTruth : FnScope ["thing"] ["thing"] (defScope sTruth) := ⟨rfl,rfl,rfl,by decide +kernel,rfl,by decide +kernel,by decide +kernel⟩
theorem ok_truth {f : Addr} {fd : FuncData} (F : Fun K "is_truth" "is_truth" sTruth f fd) (B : Blt mg) : FnOk P w K mg base CX0 1 f fd ["thing"] (spTruth K) := by
  refine F.ok scTruth (fun vs H Q E h => ?_) (fun cdv A outer s H vs Q E hr h => ?_)
  · obtain ⟨x,T,rfl,_⟩ := h
    rfl
  obtain ⟨x,T,rfl,⟨tn,ty⟩,q⟩ := h
  refine ⟨_,pss_one (ps_ret (pe_callB call_isinst rfl B.isi PyProof.Rows.boot_isinstance (pa_cons (pv 0) (pa_cons (pe_bltn (v := .ty "bool") rfl B.bool PyProof.Rows.boot_bool rfl) pa_nil)))),?_⟩
  refine ⟨_,rfl,x,_,_,_,_,rfl,ty,rfl,kit_bool T tn,?_⟩
  rw [ty_bool ty]
  exact q
theorem scRow : FnScope ["thing"] ["thing"] (defScope sRow) := ⟨rfl,rfl,rfl,by decide +kernel,rfl,by decide +kernel,by decide +kernel⟩
theorem ok_row {f : Addr} {fd : FuncData} (F : Fun K "is_row" "is_row" sRow f fd) (B : Blt mg) : FnOk P w K mg base CX0 1 f fd ["thing"] (spRow K) := by
  refine F.ok scRow (fun vs H Q E h => ?_) (fun cdv A outer s H vs Q E hr h => ?_)
  · obtain ⟨x,T,rfl,_⟩ := h
    rfl
  obtain ⟨x,T,rfl,ty,q⟩ := h
  refine ⟨_,pss_one (ps_ret (pe_callB call_isinstT rfl B.isi PyProof.Rows.boot_isinstance (pa_cons (pv 0) (pa_cons (pe_tup (pa_cons (pe_bltn (v := .ty "list") rfl B.list PyProof.Rows.boot_list rfl) (pa_cons (pe_bltn (v := .ty "tuple") rfl B.tuple PyProof.Rows.boot_tuple rfl) pa_nil))) pa_nil)))),?_⟩
  refine ⟨_,rfl,(by show 2 ≤ sizeLine; decide),fun p hp => ?_⟩
  have s1 : Same H (upd H p (.tup [.ty "list",.ty "tuple"])) := fun b o e => by rw [upd_ne (ne_of_none e hp)]; exact e
  have t2 := Ty.same s1 ty
  exact ⟨x,p,_,_,_,_,rfl,t2.2,upd_same,rfl,kit_row T ty.1,q _ s1⟩
theorem scIsKind : FnScope ["thing","wide","high","worth","wanted","turns"] ["thing"] (defScope sIsKind) := ⟨rfl,rfl,rfl,by decide +kernel,rfl,by decide +kernel,by decide +kernel⟩
theorem ok_iskind {f : Addr} {fd : FuncData} (F : Fun K "is_kind" "is_kind" sIsKind f fd) (B : Blt mg) (DW : Dn P w K mg base "is_whole" ["thing","least"] 1 (spWhole K)) (DT : Dn P w K mg base "is_truth" ["thing"] 1 (spTruth K)) (DR : Dn P w K mg base "is_row" ["thing"] 1 (spRow K)) :
    FnOk P w K mg base CX0 2 f fd ["thing"] (spIsKind K) := by
  refine F.ok scIsKind (fun vs H Q E h => ?_) (fun cdv A outer s H vs Q E hr h => ?_)
  · obtain ⟨x,T,rfl,_⟩ := h
    rfl
  obtain ⟨x,T,rfl,ty,q⟩ := h
  obtain ⟨tk,htk⟩ := B.fivek
  have nd := scIsKind.nd
  refine ⟨_,pss_cons (ps_if (PW.pt (pw_or (pt_not (pt_val (pe_cD DR hr rfl (pa_cons (pv 0) pa_nil)))) (pw_or1 (pt_cmpR op_ne (pe_callB call_len_seq rfl B.len PySem.boot_len (pa_cons (pv 0) pa_nil)) (pe_glob (v := .int 5) rfl htk ⟨tk,rfl⟩) (nomark _))))) (pss_one (ps_ret pe_bl)) pss_nil)
    (pss_cons (ps_asg (pv 0) (pg_seq rfl (pgs_cons (pg_name (i := 1) nd rfl (Or.inl rfl)) (pgs_cons (pg_name (i := 2) nd rfl (Or.inl rfl)) (pgs_cons (pg_name (i := 3) nd rfl (Or.inl rfl)) (pgs_cons (pg_name (i := 4) nd rfl (Or.inl rfl)) (pgs_cons (pg_name (i := 5) nd rfl (Or.inl rfl)) pgs_nil)))))))
    (pss_cons (ps_if (PW.pt (pw_or (pt_not (pt_val (pe_cD DW hr rfl (pa_cons (pv 1) (pa_cons pe_int pa_nil))))) (pw_or1 (pt_not (pt_val (pe_cD DW hr rfl (pa_cons (pv 2) (pa_cons pe_int pa_nil)))))))) (pss_one (ps_ret pe_bl)) pss_nil)
    (pss_one (ps_ret (pe_and (pe_cD DW hr rfl (pa_cons (pv 3) (pa_cons pe_int pa_nil))) (pe_and (pe_cD DW hr rfl (pa_cons (pv 4) (pa_cons pe_int pa_nil))) (pe_one (pe_cD DT hr rfl (pa_cons (pv 5) pa_nil))))))))),?_⟩
  refine ⟨_,rfl,x,T,rfl,ty,fun H1 s1 => ⟨_,rfl,?_⟩⟩
  rcases q with ⟨n1,n2,q⟩ | ⟨a,xs,rfl,hx,its,q⟩
  · have e : (T == "list" || T == "tuple") = false := by simp [n1,n2]
    rw [e]
    refine iteT (iteT ?_)
    exact q H1 s1
  · have e : (T == "list" || T == "tuple") = true := by
      have t2 := ty.2
      generalize hv : Value.type T = tv at t2
      generalize hr : V.ref a = rv at t2
      cases t2 with
      | lst _ => cases hv; rfl
      | frz _ => cases hv; rfl
      | tup _ => cases hv; rfl
      | dK e => cases hr; rcases hx with z | z <;> (rw [z] at e; cases e)
      | dT e => cases hr; rcases hx with z | z <;> (rw [z] at e; cases e)
      | ins => cases hv
      | _ => cases hr
    rw [e]
    have sq : SqL K H1 a xs ∨ SqT K H1 a xs := by
      rcases hx with z | z
      · exact .inl (SqL.of (s1 _ _ z))
      · exact .inr (SqT.of (s1 _ _ z))
    refine iteF ⟨_,rfl,a,xs,rfl,sq,rfl,_,rfl,?_⟩
    refine ite2 (fun c => ?_) (fun c => ?_)
    · have hl : xs.length ≠ 5 := fun z => by rw [z] at c; exact absurd c (by decide)
      have : kind5 xs = false := by
        unfold kind5
        split
        · exact absurd rfl hl
        · rfl
      rw [this] at q
      exact q H1 s1
    · have hl : xs.length = 5 := by
        by_cases z : xs.length = 5
        · exact z
        · exfalso
          apply c
          have : ¬ (V.int (xs.length : Int) = V.int 5) := fun h => z (by have := V.int.inj h; omega)
          rw [decide_eq_false this]; rfl
      obtain ⟨x1,x2,x3,x4,x5,rfl⟩ : ∃ x1 x2 x3 x4 x5,xs = [x1,x2,x3,x4,x5] := by
        match xs,hl with
        | [a,b,c,d,e],_ => exact ⟨a,b,c,d,e,rfl⟩
      obtain ⟨T1,t1⟩ := its x1 (by simp)
      obtain ⟨T2,t2⟩ := its x2 (by simp)
      obtain ⟨T3,t3⟩ := its x3 (by simp)
      obtain ⟨T4,t4⟩ := its x4 (by simp)
      obtain ⟨T5,t5⟩ := its x5 (by simp)
      refine ⟨_,rfl,a,_,rfl,sq,rfl,x1,_,rfl,x2,_,rfl,x3,_,rfl,x4,_,rfl,x5,_,rfl,rfl,?_⟩
      refine ⟨_,rfl,x1,T1,1,rfl,Ty.same s1 t1,_,rfl,?_⟩
      have q' : ∀ b,kind5 [x1,x2,x3,x4,x5] = b → Q (.bl b) H1 := fun b e => by rw [← e]; exact q H1 s1
      have k5 : kind5 [x1,x2,x3,x4,x5] = (whole x1 1 && whole x2 1 && whole x3 0 && whole x4 0 && isBl x5) := rfl
      cases w1 : whole x1 1 with
      | false =>
        refine iteT (iteT ?_)
        exact q' false (by rw [k5,w1]; rfl)
      | true =>
        refine iteF ⟨_,rfl,x2,T2,1,rfl,Ty.same s1 t2,_,rfl,?_⟩
        cases w2 : whole x2 1 with
        | false =>
          refine iteT ?_
          exact q' false (by rw [k5,w1,w2]; rfl)
        | true =>
          refine iteF ⟨_,rfl,x3,T3,0,rfl,Ty.same s1 t3,_,rfl,?_⟩
          cases w3 : whole x3 0 with
          | false =>
            refine iteF ?_
            exact q' false (by rw [k5,w1,w2,w3]; rfl)
          | true =>
            refine iteT ⟨_,rfl,x4,T4,0,rfl,Ty.same s1 t4,_,rfl,?_⟩
            cases w4 : whole x4 0 with
            | false =>
              refine iteF ?_
              exact q' false (by rw [k5,w1,w2,w3,w4]; rfl)
            | true =>
              refine iteT ⟨_,rfl,x5,T5,rfl,Ty.same s1 t5,?_⟩
              exact q' _ (by rw [k5,w1,w2,w3,w4]; rfl)
end
section
variable {P : Program} {w : World} {K : PySem.W.Frag} {mg : Str → Option Value} {base : Heap}
theorem scInit : FnScope ["self","blade","kinds","kind"] ["self","blade","kinds"] (defScope sShopInit) := ⟨rfl,rfl,rfl,by decide +kernel,rfl,by decide +kernel,by decide +kernel⟩
theorem ok_init {f C : Addr} {fd : FuncData} (F : Fun K "__init__" "Shop.__init__" sShopInit f fd) (B : Blt mg) (T : ShopTxt K C) (DW : Dn P w K mg base "is_whole" ["thing","least"] 1 (spWhole K)) (DR : Dn P w K mg base "is_row" ["thing"] 1 (spRow K))
    (DK : Dn P w K mg base "is_kind" ["thing"] 2 (spIsKind K)) : FnOk P w K mg base CX0 3 f fd ["self","blade","kinds"] (spInit C) := by
  refine F.ok scInit (fun vs H Q E h => ?_) (fun cdv A outer s H vs Q E hr h => ?_)
  · obtain ⟨x,dx,ks,b,rs,kds,rfl,_⟩ := h
    rfl
  obtain ⟨x,dx,ks,b,rs,kds,rfl,hx,b0,hks,hrs,hgd,n1,n8,q⟩ := h
  have hr1 := hr.mono (show 1 ≤ 2 by decide)
  obtain ⟨tk,htk⟩ := B.mostk
  have nd := scInit.nd
  have n8' : (8 : Nat) < sizeLine := by decide
  refine ⟨_,pss_cons (ps_if (pt_not (pt_val (pe_cD DW hr1 rfl (pa_cons (pv 1) (pa_cons pe_int pa_nil))))) pss_never pss_nil)
    (pss_cons (ps_if (PW.pt (pw_or (pt_not (pt_val (pe_cD DR hr1 rfl (pa_cons (pv 2) pa_nil)))) (pw_or1 (pt_not (pt_chain op_le op_le pe_int (pe_callB call_len_seq rfl B.len PySem.boot_len (pa_cons (pv 2) pa_nil)) (pe_glob (v := .int 8) rfl htk ⟨tk,rfl⟩)))))) pss_never pss_nil)
    (pss_cons (ps_for PassesOwn.never rfl (pi_seq (pv 2)) (pg_name (i := 3) nd rfl (Or.inl rfl)) (pss_one (ps_if (pt_not (pt_val (pe_cD DK hr rfl (pa_cons (pv 3) pa_nil)))) pss_never pss_nil)))
    (pss_cons (ps_fld (pv 0) (pv 1) rfl)
    (pss_one (ps_fld (pv 0) (pe_callTy call_tuple_of rfl B.tuple PyProof.Rows.boot_tuple (pa_cons (pe_comp (own := ["kind"]) (cs := []) (cap := []) rfl (pi_seq (pv 2))
      (compOk_of (sc := defScope sShopInit) (N := ["self","blade","kinds","kind"]) rfl rfl (by decide +kernel))
      (fun _ _ _ _ _ => pg_name (i := 0) (by show List.Nodup (["kind"] : List Str); decide +kernel) rfl (Or.inl rfl) (Or.inr rfl)) (fun _ _ _ _ _ => pifs_nil)
      (fun _ _ _ _ _ => pe_callTy (r := rTupleOf K) call_tuple_of rfl B.tuple PyProof.Rows.boot_tuple (pa_cons (pv 0) pa_nil))) pa_nil)) rfl))))),?_⟩
  refine ⟨_,rfl,.int b,_,0,rfl,.int,_,rfl,?_⟩
  have wb : whole (.int b) 0 = true := decide_eq_true b0
  rw [wb]
  refine iteF ?_
  have tyk : ∃ T,Ty K H (.ref ks) T ∧ (T == "list" || T == "tuple") = true := by
    rcases hks with e | e
    · exact ⟨_,.lst e,rfl⟩
    · exact ⟨_,.tup e,rfl⟩
  obtain ⟨T0,ty0,te0⟩ := tyk
  refine ⟨_,rfl,.ref ks,T0,rfl,ty0,fun H1 s1 => ⟨_,rfl,?_⟩⟩
  rw [te0]
  have sq : ∀ {H2 : Hp},Same H H2 → SqL K H2 ks rs ∨ SqT K H2 ks rs := fun s2 => by
    rcases hks with z | z
    · exact .inl (SqL.of (s2 _ _ z))
    · exact .inr (SqT.of (s2 _ _ z))
  refine iteF ⟨_,rfl,ks,rs,rfl,sq s1,_,_,rfl,rfl,_,rfl,?_⟩
  rw [decide_eq_true (show (1 : Int) ≤ (rs.length : Int) by omega)]
  refine iteT ⟨_,_,rfl,rfl,_,rfl,?_⟩
  rw [decide_eq_true (show (rs.length : Int) ≤ 8 by omega)]
  refine iteF ?_
  have len2 := Paired.length hrs
  refine for_seqV (j := 2) (a := ks) (xs := rs) rfl (hks.imp (fun z => s1 _ _ z) fun z => s1 _ _ z) (fun i σ H2 => ∃ v,σ = [some (.ref x),some (.int b),some (.ref ks),v] ∧ Same H1 H2) ⟨none,rfl,Same.refl _⟩ (fun i σ H2 _ ⟨_,_,s2⟩ o e => s2 _ _ e) ?_ ?_
  · rintro i y σ H2 hi ⟨v,rfl,s2⟩
    obtain ⟨k,hk,rk⟩ := Paired.getR hrs hi
    refine ⟨_,rfl,?_⟩
    simp only [tNil,List.append_nil]
    refine isKind_of ((rk.same s1).same s2) (hgd k (List.mem_of_getElem? hk)) fun H3 s3 => ⟨_,rfl,iteF ?_⟩
    exact ⟨_,rfl,s2.trans s3⟩
  rintro σ H2 ⟨v,rfl,s12⟩
  have s2 : Same H H2 := s1.trans s12
  refine ⟨_,rfl,_,rfl,x,C,dx,[],rfl,s2 _ _ hx,T.cl,T.nB,(by show 0 < 1000; decide),?_⟩
  have k3 : ∀ c o,c ≠ x → H c = some o → (upd H2 x (.ins C dx (putF "blade_width" (.int b) []))) c = some o := fun c o n e => by rw [upd_ne n]; exact s2 c o e
  have x3 : (upd H2 x (.ins C dx (putF "blade_width" (.int b) []))) x = some (.ins C dx (putF "blade_width" (.int b) [])) := upd_same
  generalize upd H2 x (.ins C dx (putF "blade_width" (.int b) [])) = H3 at k3 x3 ⊢
  have rx : ∀ c xs,H c = some (.lst xs) ∨ H c = some (.tup xs) → c ≠ x := fun c xs e z => by
    subst z
    rcases e with e | e <;> (rw [hx] at e; cases e)
  dsimp only [sFld,tCB,tCons]
  refine comp_seqV (j := 2) (a := ks) (xs := rs) rfl (hks.imp (fun z => k3 _ _ (rx _ _ (.inl z)) z) fun z => k3 _ _ (rx _ _ (.inr z)) z) (fun i ys H4 => ys.length = i ∧ Same H3 H4 ∧ Tups H4 ys (kds.take i)) (fun i ys H4 _ ⟨_,s4,_⟩ o e => s4 _ _ e) ⟨rfl,Same.refl _,.nil⟩ ?_ ?_
  · rintro i y ys H4 hi ⟨hy,s4,ty4⟩
    have hin : i < rs.length := (List.getElem?_eq_some_iff.mp hi).1
    obtain ⟨k,hk,rk⟩ := Paired.getR hrs hi
    have tk1 : kds.take (i + 1) = kds.take i ++ [k] := by rw [List.take_add_one,hk]; rfl
    refine ⟨by omega,leS.set rfl,tYes_ite ?_⟩
    rcases rk with ⟨a,rfl,h⟩ | ⟨a,rfl,h⟩
    · have h4 := s4 _ _ (k3 _ _ (rx _ _ (.inr h)) h)
      exact ⟨_,rfl,a,_,rfl,.inr ⟨SqT.of h4,Nx.of hin ⟨by rw [List.length_append,hy]; rfl,s4,by rw [tk1]; exact Paired.snoc ty4 ⟨a,rfl,h4⟩⟩⟩⟩
    · have h4 := s4 _ _ (k3 _ _ (rx _ _ (.inl h)) h)
      refine ⟨_,rfl,a,_,rfl,.inl ⟨SqL.of h4,fun l hl => Nx.of hin ⟨by rw [List.length_append,hy]; rfl,fun c o e => ?_,?_⟩⟩⟩
      · have e4 := s4 c o e
        rw [upd_ne (ne_of_none e4 hl)]; exact e4
      · rw [tk1]
        exact Paired.snoc (Tups.keep (fun c xs e => by rw [upd_ne (ne_of_none e hl)]; exact e) ty4) ⟨l,rfl,upd_same⟩
  rintro ys H4 ⟨hy,s4,ty4⟩
  refine ⟨by omega,fun p hp => ?_⟩
  refine ⟨p,ys,rfl,.inl ⟨SqL.of upd_same,fun r hr' => ?_⟩⟩
  have hpr : r ≠ p := fun z => by rw [z,upd_same] at hr'; cases hr'
  have hr4 : H4 r = none := by rw [upd_ne hpr] at hr'; exact hr'
  have x4 := s4 _ _ x3
  have xp : x ≠ p := ne_of_none x4 hp
  have xr : x ≠ r := ne_of_none x4 hr4
  refine ⟨_,rfl,x,C,dx,_,rfl,(by rw [upd_ne xr,upd_ne xp]; exact x4),T.cl,T.nK,(Nat.lt_of_le_of_lt (length_putF _ _ _) (by decide)),?_⟩
  rw [len2,List.take_length] at ty4
  refine q _ ⟨dx,r,ys,upd_same,by rw [upd_ne (Ne.symm xr),upd_same],?_⟩ fun c o n e => ?_
  · refine Tups.keep (fun c xs e => ?_) ty4
    rw [upd_ne (fun z => by rw [z,x4] at e; cases e),upd_ne (ne_of_none e hr4),upd_ne (ne_of_none e hp)]
    exact e
  · have e4 := s4 _ _ (k3 c o n e)
    rw [upd_ne n,upd_ne (ne_of_none e4 hr4),upd_ne (ne_of_none e4 hp)]
    exact e4
theorem scBlade : FnScope ["self"] ["self"] (defScope sShopBlade) := ⟨rfl,rfl,rfl,by decide +kernel,rfl,by decide +kernel,by decide +kernel⟩
theorem ok_blade {f C : Addr} {fd : FuncData} (F : Fun K "blade" "Shop.blade" sShopBlade f fd) (T : ShopTxt K C) : FnOk P w K mg base CX0 1 f fd ["self"] (spBlade C) := by
  refine F.ok scBlade (fun vs H Q E h => ?_) (fun cdv A outer s H vs Q E hr h => ?_)
  · obtain ⟨x,b,ks,rfl,_⟩ := h
    rfl
  obtain ⟨x,b,ks,rfl,⟨dx,r,rs,h1,h2,h3⟩,q⟩ := h
  exact ⟨_,pss_one (ps_ret (pe_fld (pv 0) rfl)),_,rfl,x,C,dx,_,_,rfl,h1,T.cl,T.nB,flds_blade _ _,q⟩
theorem scKinds : FnScope ["self"] ["self"] (defScope sShopKinds) := ⟨rfl,rfl,rfl,by decide +kernel,rfl,by decide +kernel,by decide +kernel⟩
theorem ok_kinds {f C : Addr} {fd : FuncData} (F : Fun K "kinds" "Shop.kinds" sShopKinds f fd) (T : ShopTxt K C) (ml : mg "list" = none) : FnOk P w K mg base CX0 1 f fd ["self"] (spKinds C) := by
  refine F.ok scKinds (fun vs H Q E h => ?_) (fun cdv A outer s H vs Q E hr h => ?_)
  · obtain ⟨x,b,ks,rfl,_⟩ := h
    rfl
  obtain ⟨x,b,ks,rfl,⟨dx,r,rs,h1,h2,h3⟩,q⟩ := h
  refine ⟨_,pss_one (ps_ret (pe_callTy call_list_of rfl ml PyProof.Rows.boot_list (pa_cons (pe_fld (pv 0) rfl) pa_nil))),?_⟩
  exact ⟨_,rfl,x,C,dx,_,_,rfl,h1,T.cl,T.nK,flds_rows _ _,r,rs,rfl,.inr (SqT.of h2),fun l hl => q l rs hl h3⟩
end
section
variable {P : Program} {w : World} {K : PySem.W.Frag} {mg : Str → Option Value} {base : Heap}
theorem scTurned : FnScope ["kind"] ["kind"] (defScope sTurned) := ⟨rfl,rfl,rfl,by decide +kernel,rfl,by decide +kernel,by decide +kernel⟩
theorem ok_turned {f : Addr} {fd : FuncData} (F : Fun K "can_lie_turned" "can_lie_turned" sTurned f fd) : FnOk P w K mg base CX0 1 f fd ["kind"] (spTurned K) := by
  refine F.ok scTurned (fun vs H Q E h => ?_) (fun cdv A outer s H vs Q E hr h => ?_)
  · obtain ⟨a,k,rfl,_⟩ := h
    rfl
  obtain ⟨a,k,rfl,ha,q⟩ := h
  refine ⟨_,pss_one (ps_ret (pe_and (pe_ix ix_tup (pv 0) pe_int (fun _ _ => rfl)) (pe_one (pe_cmpR op_ne (pe_ix ix_tup (pv 0) pe_int (fun _ _ => rfl)) (pe_ix ix_tup (pv 0) pe_int (fun _ _ => rfl)) (nomark _))))),?_⟩
  refine ⟨_,rfl,a,_,4,_,rfl,rfl,SqT.of ha,rfl,_,rfl,?_⟩
  unfold turnable at q
  refine ite2 (fun c => ?_) (fun c => ?_)
  · rw [c,Bool.true_and] at q
    refine ⟨_,rfl,a,_,0,_,rfl,rfl,SqT.of ha,rfl,_,rfl,a,_,1,_,rfl,rfl,SqT.of ha,rfl,rfl,?_⟩
    rw [dec_int]
    rw [show (decide (k.w = k.h)) = (k.w == k.h) from rfl] at q
    exact q
  · have c' : k.tu = false := by simpa using c
    rw [c',Bool.false_and] at q
    exact q
theorem scIsLying : FnScope ["self","kind","turned"] ["self","kind","turned"] (defScope sShopIsLying) := ⟨rfl,rfl,rfl,by decide +kernel,rfl,by decide +kernel,by decide +kernel⟩
theorem ok_islying {f C : Addr} {fd : FuncData} (F : Fun K "is_lying" "Shop.is_lying" sShopIsLying f fd) (B : Blt mg) (T : ShopTxt K C) (DW : Dn P w K mg base "is_whole" ["thing","least"] 1 (spWhole K)) (DU : Dn P w K mg base "is_truth" ["thing"] 1 (spTruth K)) (DT : Dn P w K mg base "can_lie_turned" ["kind"] 1 (spTurned K)) :
    FnOk P w K mg base CX0 2 f fd ["self","kind","turned"] (spIsLying K C) := by
  refine F.ok scIsLying (fun vs H Q E h => ?_) (fun cdv A outer s H vs Q E hr h => ?_)
  · obtain ⟨s,b,ks,x,t,T0,U,rfl,_⟩ := h
    rfl
  obtain ⟨s,b,ks,x,t,T0,U,rfl,⟨dx,r,rs,h1,h2,h3⟩,tx,tt,q⟩ := h
  have len3 := Paired.length h3
  refine ⟨_,pss_cons (ps_if (PW.pt (pw_or (pt_not (pt_val (pe_cD DW hr rfl (pa_cons (pv 1) (pa_cons pe_int pa_nil))))) (pw_or (pt_cmpR op_ge (pv 1) (pe_callB call_len_seq rfl B.len PySem.boot_len (pa_cons (pe_fld (pv 0) rfl) pa_nil)) (nomark _))
      (pw_or1 (pt_not (pt_val (pe_cD DU hr rfl (pa_cons (pv 2) pa_nil)))))))) (pss_one (ps_ret pe_bl)) pss_nil)
    (pss_one (ps_ret (pe_or (pe_not (pv 2)) (pe_one (pe_cD DT hr rfl (pa_cons (pe_ix ix_tup (pe_fld (pv 0) rfl) (pv 1) (fun _ _ => rfl)) pa_nil)))))),?_⟩
  refine ⟨_,rfl,x,_,0,rfl,tx,_,rfl,?_⟩
  cases hw : whole x 0 with
  | false =>
    have e : isLy ks x t = false := by
      cases x with
      | int i =>
        have h0 : decide (0 ≤ i) = false := hw
        cases t <;> first | rfl | (show (decide (0 ≤ i) && _) = false; rw [h0,Bool.false_and])
      | _ => rfl
    rw [e] at q
    exact iteT (iteT q)
  | true =>
    have ex : ∃ i,x = .int i ∧ 0 ≤ i := by
      cases x with
      | int i => exact ⟨i,rfl,of_decide_eq_true hw⟩
      | _ => cases hw
    obtain ⟨i,rfl,i0⟩ := ex
    refine iteF ⟨_,rfl,_,rfl,s,C,dx,_,_,rfl,h1,T.cl,T.nK,flds_rows _ _,r,rs,rfl,.inr (SqT.of h2),i,_,rfl,rfl,_,rfl,?_⟩
    by_cases hi : (rs.length : Int) ≤ i
    · rw [decide_eq_true hi]
      have e : isLy ks (.int i) t = false := by
        have hn : ks[i.toNat]? = none := List.getElem?_eq_none (by omega)
        cases t <;> first | rfl | (show (decide (0 ≤ i) && match ks[i.toNat]? with | some k => _ | none => false) = false; rw [hn,Bool.and_false])
      rw [e] at q
      exact iteT (iteT q)
    · rw [decide_eq_false hi]
      refine iteF ⟨_,rfl,t,_,rfl,tt,_,rfl,?_⟩
      have hlt : i.toNat < ks.length := by omega
      cases hb : isBl t with
      | false =>
        have e : isLy ks (.int i) t = false := by cases t <;> first | rfl | cases hb
        rw [e] at q
        exact iteT q
      | true =>
        have ex : ∃ c,t = .bl c := by cases t <;> first | exact ⟨_,rfl⟩ | cases hb
        obtain ⟨c,rfl⟩ := ex
        obtain ⟨y,hy⟩ : ∃ y,rs[i.toNat]? = some y := ⟨rs[i.toNat]'(by omega),by simp [show i.toNat < rs.length by omega]⟩
        obtain ⟨k,hk,a,rfl,ha⟩ := Paired.getR h3 hy
        have e : isLy ks (.int i) (.bl c) = (!c || turnable k) := by
          show (decide (0 ≤ i) && match ks[i.toNat]? with | some k => (!c || turnable k) | none => false) = _
          rw [hk,decide_eq_true i0,Bool.true_and]
        rw [e] at q
        refine iteF ⟨_,rfl,c,rfl,_,rfl,?_⟩
        refine ite2 (fun d => ?_) (fun d => ?_)
        · rw [d,Bool.true_or] at q
          exact q
        · have d' : (!c) = false := by simpa using d
          rw [d',Bool.false_or] at q
          have at' : atI rs i = some (.ref a) := by
            have en : ixN rs.length i = some i.toNat := by
              unfold ixN
              rw [if_pos i0,if_pos (by omega)]
            unfold atI
            rw [en]
            exact hy
          exact ⟨_,rfl,s,C,dx,_,_,rfl,h1,T.cl,T.nK,flds_rows _ _,_,rfl,r,rs,i,_,rfl,rfl,SqT.of h2,at',a,k,rfl,ha,q⟩
end
def sidesV (k : Kd) (c : Bool) : List V := if c = true then [.int k.h,.int k.w] else [.int k.w,.int k.h]
def spSides (K : PySem.W.Frag) (C NL : Addr) : Sp := fun vs H Q E => ∃ (s : Addr) (b : Int) (ks : List Kd) (x t : V) (T U : String),vs = [.ref s,x,t] ∧ ShopAt C H s b ks ∧ Ty K H x T ∧ Ty K H t U ∧
  (isLy ks x t = false → E (.ref NL) none H) ∧ ∀ (i : Int) (c : Bool) (k : Kd) (p : Addr),x = .int i → t = .bl c → ks[i.toNat]? = some k → isLy ks x t = true → H p = none → Q (.ref p) (upd H p (.tup (sidesV k c)))
theorem isLy_true {ks : List Kd} {x t : V} (h : isLy ks x t = true) : ∃ (i : Int) (c : Bool) (k : Kd),x = .int i ∧ t = .bl c ∧ 0 ≤ i ∧ ks[i.toNat]? = some k := by
  unfold isLy at h
  split at h
  · rename_i i c
    rw [Bool.and_eq_true] at h
    obtain ⟨h1,h2⟩ := h
    split at h2
    · rename_i k hk
      exact ⟨i,c,k,rfl,rfl,of_decide_eq_true h1,hk⟩
    · cases h2
  · cases h
theorem atI_of {rs : List V} {i : Int} {v : V} (i0 : 0 ≤ i) (h : rs[i.toNat]? = some v) : atI rs i = some v := by
  have en : ixN rs.length i = some i.toNat := by
    unfold ixN
    have := (List.getElem?_eq_some_iff.mp h).1
    rw [if_pos i0,if_pos (by omega)]
  unfold atI
  rw [en]
  exact h
section
variable {P : Program} {w : World} {K : PySem.W.Frag} {mg : Str → Option Value} {base : Heap}
theorem scSides : FnScope ["self","kind","turned","row"] ["self","kind","turned"] (defScope sShopSides) := ⟨rfl,rfl,rfl,by decide +kernel,rfl,by decide +kernel,by decide +kernel⟩
theorem ok_sides {f C NL : Addr} {fd : FuncData} (F : Fun K "sides" "Shop.sides" sShopSides f fd) (T : ShopTxt K C) (ML : Mn P w K mg base C "is_lying" ["self","kind","turned"] 2 (spIsLying K C)) (mn : mg "NoLying" = some (.ref NL)) (ec : ExcC K NL) :
    FnOk P w K mg base (CXx P w) 3 f fd ["self","kind","turned"] (spSides K C NL) := by
  refine F.okX scSides (fun vs H Q E h => ?_) (fun cdv A outer s H vs Q E hr h => ?_)
  · obtain ⟨s,b,ks,x,t,T0,U,rfl,_⟩ := h
    rfl
  obtain ⟨s,b,ks,x,t,T0,U,rfl,S,tx,tt,he,hq⟩ := h
  have nd := scSides.nd
  refine ⟨_,pss_cons (ps_if (pt_not (pt_val (pe_mD (pv 0) T.cl ML hr (pa_cons (pv 1) (pa_cons (pv 2) pa_nil))))) (pss_one (ps_raise (R := fun c H => E c none H) rfl rfl mn ec (pa_cons pe_str pa_nil) raise_ends)) pss_nil)
    (pss_cons (ps_set (i := 3) nd rfl (Or.inl rfl) (pe_ix ix_tup (pe_fld (pv 0) rfl) (pv 1) (fun _ _ => rfl)))
    (pss_cons (ps_if (pt_val (pv 2)) (pss_one (ps_ret (pe_tup (pa_cons (pe_ix ix_tup (pv 3) pe_int (fun _ _ => rfl)) (pa_cons (pe_ix ix_tup (pv 3) pe_int (fun _ _ => rfl)) pa_nil))))) pss_nil)
    (pss_one (ps_ret (pe_tup (pa_cons (pe_ix ix_tup (pv 3) pe_int (fun _ _ => rfl)) (pa_cons (pe_ix ix_tup (pv 3) pe_int (fun _ _ => rfl)) pa_nil))))))),?_⟩
  obtain ⟨dx,r,rs,h1,h2,h3⟩ := id S
  refine ⟨_,rfl,s,dx,_,rfl,h1,flds_no _ _ (by decide +kernel) (by decide +kernel),_,rfl,_,rfl,s,b,ks,x,t,T0,U,rfl,S,tx,tt,_,rfl,?_⟩
  cases hl : isLy ks x t with
  | false =>
    refine iteT ?_
    exact ⟨(by show 1 ≤ sizeLine; decide),he hl⟩
  | true =>
    obtain ⟨i,c,k,rfl,rfl,i0,hk⟩ := isLy_true hl
    have len3 := Paired.length h3
    have hik := (List.getElem?_eq_some_iff.mp hk).1
    obtain ⟨y,hy⟩ : ∃ y,rs[i.toNat]? = some y := ⟨rs[i.toNat]'(by omega),by simp [show i.toNat < rs.length by omega]⟩
    obtain ⟨k',hk',a,rfl,ha⟩ := Paired.getR h3 hy
    rw [hk] at hk'
    obtain rfl := Option.some.inj hk'
    refine iteF ?_
    refine ⟨_,rfl,s,C,dx,_,_,rfl,h1,T.cl,T.nK,flds_rows _ _,_,rfl,r,rs,i,_,rfl,rfl,SqT.of h2,atI_of i0 hy,?_⟩
    refine ⟨_,rfl,_,rfl,?_⟩
    cases c with
    | true =>
      refine iteT ?_
      refine ⟨_,rfl,a,_,1,_,rfl,rfl,SqT.of ha,rfl,_,rfl,a,_,0,_,rfl,rfl,SqT.of ha,rfl,(by show 2 ≤ sizeLine; decide),fun p hp => ?_⟩
      exact hq i true k p rfl rfl hk hl hp
    | false =>
      refine iteF ?_
      refine ⟨_,rfl,a,_,0,_,rfl,rfl,SqT.of ha,rfl,_,rfl,a,_,1,_,rfl,rfl,SqT.of ha,rfl,(by show 2 ≤ sizeLine; decide),fun p hp => ?_⟩
      exact hq i false k p rfl rfl hk hl hp
end
mutual
inductive Dt (p : Addr) (H : Hp) : V → PyData → Prop
  | non : Dt p H .non .none
  | bl (b : Bool) : Dt p H (.bl b) (.bool b)
  | int (i : Int) : Dt p H (.int i) (.int i)
  | str (z : Str) : Dt p H (.str z) (.str z)
  | lst {a : Addr} {xs : List V} {ds : List PyData} : a ≠ p → H a = some (.lst xs) → Dts p H xs ds → Dt p H (.ref a) (.list ds)
  | tup {a : Addr} {xs : List V} {ds : List PyData} : H a = some (.tup xs) → Dts p H xs ds → Dt p H (.ref a) (.tuple ds)
  | emp {a : Addr} : H a = some (.dK []) → Dt p H (.ref a) (.dict [])
inductive Dts (p : Addr) (H : Hp) : List V → List PyData → Prop
  | nil : Dts p H [] []
  | cons {x : V} {d : PyData} {xs : List V} {ds : List PyData} : Dt p H x d → Dts p H xs ds → Dts p H (x :: xs) (d :: ds)
end
mutual
theorem Dt.same {p : Addr} {H H' : Hp} (s : Same H H') : ∀ {v : V} {d : PyData},Dt p H v d → Dt p H' v d
  | _,_,.non => .non
  | _,_,.bl b => .bl b
  | _,_,.int i => .int i
  | _,_,.str z => .str z
  | _,_,.lst n h r => .lst n (s _ _ h) (r.same s)
  | _,_,.tup h r => .tup (s _ _ h) (r.same s)
  | _,_,.emp h => .emp (s _ _ h)
theorem Dts.same {p : Addr} {H H' : Hp} (s : Same H H') : ∀ {vs : List V} {ds : List PyData},Dts p H vs ds → Dts p H' vs ds
  | _,_,.nil => .nil
  | _,_,.cons a r => .cons (a.same s) (r.same s)
end
theorem Dts.length {p : Addr} {H : Hp} : ∀ {vs : List V} {ds : List PyData},Dts p H vs ds → vs.length = ds.length
  | _,_,.nil => rfl
  | _,_,.cons _ r => by rw [List.length_cons,List.length_cons,r.length]
theorem Dt.ty {K : PySem.W.Frag} {p : Addr} {H : Hp} {v : V} {d : PyData} (h : Dt p H v d) : ∃ T,Ty K H v T := by
  cases h with
  | non => exact ⟨_,Ty.non⟩
  | bl b => exact ⟨_,Ty.bl⟩
  | int i => exact ⟨_,Ty.int⟩
  | str z => exact ⟨_,Ty.str⟩
  | lst _ h _ => exact ⟨_,Ty.lst h⟩
  | tup h _ => exact ⟨_,Ty.tup h⟩
  | emp h => exact ⟨_,Ty.dK h⟩
mutual
theorem Dt.but {p : Addr} {H H' : Hp} (hp : ∃ xs,H p = some (.lst xs)) (b : But p H H') : ∀ {v : V} {d : PyData},Dt p H v d → Dt p H' v d
  | _,_,.non => .non
  | _,_,.bl b => .bl b
  | _,_,.int i => .int i
  | _,_,.str z => .str z
  | _,_,.lst n h r => .lst n (b _ _ n h) (r.but hp b)
  | _,_,.tup h r => .tup (b _ _ (fun z => by obtain ⟨_,e⟩ := hp; rw [z,e] at h; cases h) h) (r.but hp b)
  | _,_,.emp h => .emp (b _ _ (fun z => by obtain ⟨_,e⟩ := hp; rw [z,e] at h; cases h) h)
theorem Dts.but {p : Addr} {H H' : Hp} (hp : ∃ xs,H p = some (.lst xs)) (b : But p H H') : ∀ {vs : List V} {ds : List PyData},Dts p H vs ds → Dts p H' vs ds
  | _,_,.nil => .nil
  | _,_,.cons a r => .cons (a.but hp b) (r.but hp b)
end
mutual
def wt : PyData → Nat
  | .str z => z.length + 1
  | .list ds => wts ds + 1
  | .tuple ds => wts ds + 1
  | _ => 1
def wts : List PyData → Nat
  | [] => 0
  | d :: r => wt d + wts r
end
theorem wtpos (d : PyData) : 1 ≤ wt d := by cases d <;> simp only [wt] <;> omega
def rowOf : PyData → Option (List PyData)
  | .list ds => some ds
  | .tuple ds => some ds
  | _ => none
theorem rowOf_lt {d x : PyData} {ds : List PyData} (h : rowOf d = some ds) (hx : x ∈ ds) : sizeOf x < sizeOf d := by
  have := List.sizeOf_lt_of_mem hx
  cases d <;> simp only [rowOf,Option.some.injEq,reduceCtorEq] at h
  · subst h; simp; omega
  · subst h; simp; omega
theorem Dt.row {K : PySem.W.Frag} {p : Addr} {H : Hp} {v : V} {d : PyData} (h : Dt p H v d) : (rowOf d = none ∧ ∃ T,Ty K H v T ∧ (T == "list" || T == "tuple") = false) ∨ ∃ a xs ds T,rowOf d = some ds ∧ v = .ref a ∧ (H a = some (.lst xs) ∨ H a = some (.tup xs)) ∧ Dts p H xs ds ∧ Ty K H v T ∧ (T == "list" || T == "tuple") = true := by
  cases h with
  | non => exact .inl ⟨rfl,_,Ty.non,rfl⟩
  | bl b => exact .inl ⟨rfl,_,Ty.bl,rfl⟩
  | int i => exact .inl ⟨rfl,_,Ty.int,rfl⟩
  | str z => exact .inl ⟨rfl,_,Ty.str,rfl⟩
  | lst _ h r => exact .inr ⟨_,_,_,_,rfl,rfl,.inl h,r,Ty.lst h,rfl⟩
  | tup h r => exact .inr ⟨_,_,_,_,rfl,rfl,.inr h,r,Ty.tup h,rfl⟩
  | emp h => exact .inl ⟨rfl,_,Ty.dK h,rfl⟩
def bw (d : PyData) (z : Str) (n : Nat) : Bool := match rowOf d with
  | some (.str y :: r) => decide (r.length + 1 = n) && decide (y = z)
  | _ => false
section
variable {P : Program} {w : World} {K : PySem.W.Frag} {mg : Str → Option Value} {base : Heap}
def spBegins : Sp := fun vs H Q _ => ∃ (pp : Addr) (v : V) (d : PyData) (z : Str) (n : Nat),vs = [v,.str z,.int n] ∧ 1 ≤ n ∧ Dt pp H v d ∧ ∀ H',Same H H' → Q (.bl (bw d z n)) H'
theorem scbegins : FnScope ["thing","word","many"] ["thing","word","many"] (defScope sBeginsWith) := ⟨rfl,rfl,rfl,by decide +kernel,rfl,by decide +kernel,by decide +kernel⟩
theorem ok_begins {f : Addr} {fd : FuncData} (F : Fun K "begins_with" "begins_with" sBeginsWith f fd) (B : Blt mg) (bs : mg "str" = none) (DR : Dn P w K mg base "is_row" ["thing"] 1 (spRow K)) : FnOk P w K mg base CX0 2 f fd ["thing","word","many"] (spBegins) := by
  refine F.ok scbegins (fun vs H Q E h => ?_) (fun cdv A outer s H vs Q E hr h => ?_)
  · obtain ⟨pp,v,d,z,n,rfl,_⟩ := h
    rfl
  obtain ⟨pp,v,d,z,n,rfl,n1,hd,q⟩ := h
  have nd := scbegins.nd
  refine ⟨_,(@pss_cons _ _ _ _ _ (@ps_if _ _ _ _ _ _ _ _ (PW.pt (pw_or (@pt_not _ _ _ _ (@pt_val _ _ _ (@pe_cD _ _ _ _ _ _ _ _ _ _ DR hr rfl (@pa_cons _ _ _ _ _ (pv 0) pa_nil rfl) (by decide) rfl rfl) (by intro _; rfl))) (pw_or1 (@pt_cmpR _ _ _ _ _ _ _ _ op_ne (@pe_callB _ _ _ _ _ _ _ _ _ call_len_seq rfl B.len PySem.boot_len (@pa_cons _ _ _ _ _ (pv 0) pa_nil rfl) (by decide) (by decide) rfl rfl) (pv 2) (nomark _))))) (@pss_one _ _ _ (@ps_ret _ _ _ _ pe_bl)) pss_nil) (@pss_one _ _ _ (@ps_ret _ _ _ _ (pe_and (@pe_callB _ _ _ _ _ _ _ _ _ call_isinst rfl B.isi PyProof.Rows.boot_isinstance (@pa_cons _ _ _ _ _ (@pe_ix _ _ _ _ _ _ _ ix_seq (pv 0) pe_int (fun _ _ => rfl)) (@pa_cons _ _ _ _ _ (pe_bltn (v := .ty "str") rfl bs PyProof.Rows.boot_str rfl) pa_nil rfl) rfl) (by decide) (by decide) rfl rfl) (pe_one (@pe_cmpR _ _ _ _ _ _ _ _ op_eq (@pe_ix _ _ _ _ _ _ _ ix_seq (pv 0) pe_int (fun _ _ => rfl)) (pv 1) (nomark _))))))),?_⟩
  rcases hd.row (K := K) with ⟨e,T,ty,hT⟩ | ⟨a,xs,ds,T,e,rfl,hx,dx,ty,hT⟩
  · refine ⟨_,rfl,v,T,rfl,ty,fun H1 s1 => ⟨_,rfl,?_⟩⟩
    rw [hT]
    have q1 := q H1 s1
    unfold bw at q1
    rw [e] at q1
    exact iteT (iteT q1)
  refine ⟨_,rfl,_,T,rfl,ty,fun H1 s1 => ⟨_,rfl,?_⟩⟩
  rw [hT]
  have sq : SqL K H1 a xs ∨ SqT K H1 a xs := hx.imp (fun z => SqL.of (s1 _ _ z)) fun z => SqT.of (s1 _ _ z)
  refine iteF ⟨_,rfl,a,_,rfl,sq,_,rfl,rfl,_,rfl,?_⟩
  have q1 := q H1 s1
  have len := dx.length
  cases dx with
  | nil =>
    rw [show decide (V.int (([] : List V).length : Int) = V.int (n : Int)) = false from decide_eq_false (fun z => by have := V.int.inj z; simp at this; omega)]
    unfold bw at q1
    rw [e] at q1
    exact iteT q1
  | @cons x d1 xs ds hd1 dr =>
    have a0 : atI (x :: xs) 0 = some x := atI_int (Int.le_refl _) rfl
    have ixs : ∀ Q' : VK,Q' x H1 → rIx K (.ref a) (.int 0) H1 Q' := fun Q' h => sq.elim (fun z => .inl ⟨a,_,0,x,rfl,rfl,z,a0,h⟩) (fun z => .inr (.inl ⟨a,_,0,x,rfl,rfl,z,a0,h⟩))
    rw [List.length_cons,List.length_cons] at len
    by_cases hn : ds.length + 1 = n
    · rw [show decide (V.int ((x :: xs).length : Int) = V.int (n : Int)) = true from decide_eq_true (by rw [List.length_cons,len,hn])]
      refine iteF ⟨_,rfl,ixs _ ?_⟩
      cases hd1 with
      | str y =>
        refine ⟨_,_,_,_,_,rfl,(Ty.str (K := K)).2,rfl,kit_str "str" (by simp [tyNames]),_,rfl,iteT ?_⟩
        refine ⟨_,rfl,ixs _ ⟨_,rfl,rfl,?_⟩⟩
        unfold bw at q1
        rw [e] at q1
        simp only [hn,decide_true,Bool.true_and] at q1
        rw [show decide (V.str y = V.str z) = decide (y = z) from decide_eq_decide.mpr ⟨V.str.inj,congrArg _⟩]
        exact q1
      | non => exact ⟨_,_,_,_,_,rfl,(Ty.non (K := K)).2,rfl,kit_str "NoneType" (by simp [tyNames]),_,rfl,iteF (by unfold bw at q1; rw [e] at q1; exact q1)⟩
      | bl b => exact ⟨_,_,_,_,_,rfl,(Ty.bl (K := K)).2,rfl,kit_str "bool" (by simp [tyNames]),_,rfl,iteF (by unfold bw at q1; rw [e] at q1; exact q1)⟩
      | int i => exact ⟨_,_,_,_,_,rfl,(Ty.int (K := K)).2,rfl,kit_str "int" (by simp [tyNames]),_,rfl,iteF (by unfold bw at q1; rw [e] at q1; exact q1)⟩
      | lst _ h r => exact ⟨_,_,_,_,_,rfl,(Ty.lst (s1 _ _ h) (K := K)).2,rfl,kit_str "list" (by simp [tyNames]),_,rfl,iteF (by unfold bw at q1; rw [e] at q1; exact q1)⟩
      | tup h r => exact ⟨_,_,_,_,_,rfl,(Ty.tup (s1 _ _ h) (K := K)).2,rfl,kit_str "tuple" (by simp [tyNames]),_,rfl,iteF (by unfold bw at q1; rw [e] at q1; exact q1)⟩
      | emp h => exact ⟨_,_,_,_,_,rfl,(Ty.dK (s1 _ _ h) (K := K)).2,rfl,kit_str "dict" (by simp [tyNames]),_,rfl,iteF (by unfold bw at q1; rw [e] at q1; exact q1)⟩
    · rw [show decide (V.int ((x :: xs).length : Int) = V.int (n : Int)) = false from decide_eq_false (fun z => hn (by have := V.int.inj z; rw [List.length_cons,len] at this; omega))]
      refine iteT ?_
      have z : bw d z n = false := by
        unfold bw
        rw [e]
        cases d1 <;> simp [hn]
      rw [z] at q1
      exact q1
def sd1 (k : Kd) (c : Bool) : Int := if c = true then k.h else k.w
def sd2 (k : Kd) (c : Bool) : Int := if c = true then k.w else k.h
theorem sides_eq (k : Kd) (c : Bool) : sidesV k c = [.int (sd1 k c),.int (sd2 k c)] := by cases c <;> rfl
def lieV (ks : List Kd) (w h : Int) (kv tv xv yv : V) : Bool := isLy ks kv tv && whole xv 0 && whole yv 0 && (match kv,tv,xv,yv with
  | .int i,.bl c,.int x,.int y => (match ks[i.toNat]? with
    | some k => decide (x + sd1 k c ≤ w) && decide (y + sd2 k c ≤ h)
    | none => false)
  | _,_,_,_ => false)
def spLiesG (K : PySem.W.Frag) (C : Addr) : Sp := fun vs H Q _ => ∃ (s : Addr) (b : Int) (ks : List Kd) (w h : Int) (kv tv xv yv : V) (T1 T2 T3 T4 : String),vs = [.ref s,.int w,.int h,kv,tv,xv,yv] ∧ ShopAt C H s b ks ∧ Ty K H kv T1 ∧ Ty K H tv T2 ∧ Ty K H xv T3 ∧ Ty K H yv T4 ∧ ∀ H',Same H H' → Q (.bl (lieV ks w h kv tv xv yv)) H'
theorem scliesG : FnScope ["shop","wide","high","kind","turned","x","y","piece_wide","piece_high"] ["shop","wide","high","kind","turned","x","y"] (defScope sLiesIn) := ⟨rfl,rfl,rfl,by decide +kernel,rfl,by decide +kernel,by decide +kernel⟩
theorem ok_liesG {f C NL : Addr} {fd : FuncData} (F : Fun K "lies_in" "lies_in" sLiesIn f fd) (T : ShopTxt K C) (DW : Dn P w K mg base "is_whole" ["thing","least"] 1 (spWhole K)) (MI : Mn P w K mg base C "is_lying" ["self","kind","turned"] 2 (spIsLying K C)) (MS : MnX P w K mg base C "sides" ["self","kind","turned"] 3 (spSides K C NL)) : FnOk P w K mg base CX0 4 f fd ["shop","wide","high","kind","turned","x","y"] (spLiesG K C) := by
  refine F.ok scliesG (fun vs H Q E h => ?_) (fun cdv A outer s H vs Q E hr h => ?_)
  · obtain ⟨s,b,ks,w1,h1,kv,tv,xv,yv,T1,T2,T3,T4,rfl,_⟩ := h
    rfl
  obtain ⟨s,b,ks,w1,h1',kv,tv,xv,yv,T1,T2,T3,T4,rfl,S,t1,t2,t3,t4,q⟩ := h
  have nd := scliesG.nd
  have hr1 := hr.mono (show 1 ≤ 3 by decide)
  have hr2 := hr.mono (show 2 ≤ 3 by decide)
  refine ⟨_,(@pss_cons _ _ _ _ _ (@ps_if _ _ _ _ _ _ _ _ (PW.pt (pw_or (@pt_not _ _ _ _ (@pt_val _ _ _ (pe_mD (pv 0) T.cl MI hr2 (@pa_cons _ _ _ _ _ (pv 3) (@pa_cons _ _ _ _ _ (pv 4) pa_nil rfl) rfl)) (by intro _; rfl))) (pw_or (@pt_not _ _ _ _ (@pt_val _ _ _ (@pe_cD _ _ _ _ _ _ _ _ _ _ DW hr1 rfl (@pa_cons _ _ _ _ _ (pv 5) (@pa_cons _ _ _ _ _ pe_int pa_nil rfl) rfl) (by decide) rfl rfl) (by intro _; rfl))) (pw_or1 (@pt_not _ _ _ _ (@pt_val _ _ _ (@pe_cD _ _ _ _ _ _ _ _ _ _ DW hr1 rfl (@pa_cons _ _ _ _ _ (pv 6) (@pa_cons _ _ _ _ _ pe_int pa_nil rfl) rfl) (by decide) rfl rfl) (by intro _; rfl))))))) (@pss_one _ _ _ (@ps_ret _ _ _ _ pe_bl)) pss_nil) (@pss_cons _ _ _ _ _ (@ps_asg _ _ _ _ _ _ (pe_mDX (pv 0) T.cl MS hr (@pa_cons _ _ _ _ _ (pv 3) (@pa_cons _ _ _ _ _ (pv 4) pa_nil rfl) rfl)) (pg_tup rfl (pgs_cons (pg_name (i := 7) nd rfl (Or.inl rfl)) (pgs_cons (pg_name (i := 8) nd rfl (Or.inl rfl)) pgs_nil))) rfl rfl rfl) (@pss_one _ _ _ (@ps_ret _ _ _ _ (pe_and (@pe_cmpR _ _ _ _ _ _ _ _ op_le (@pe_op _ _ _ _ _ _ _ _ op_add (pv 5) (pv 7)) (pv 1) (nomark _)) (pe_one (@pe_cmpR _ _ _ _ _ _ _ _ op_le (@pe_op _ _ _ _ _ _ _ _ op_add (pv 6) (pv 8)) (pv 2) (nomark _)))))))),?_⟩
  obtain ⟨dx,r,rs,h1,h2,h3⟩ := id S
  refine ⟨_,rfl,s,dx,_,rfl,h1,(flds_no _ _ (by decide +kernel) (by decide +kernel)),_,rfl,_,rfl,s,b,ks,kv,tv,T1,T2,rfl,S,t1,t2,_,rfl,?_⟩
  cases ly : isLy ks kv tv with
  | false =>
    have q1 := q H (Same.refl _)
    unfold lieV at q1
    rw [ly] at q1
    exact iteT (iteT q1)
  | true =>
  refine iteF ⟨_,rfl,xv,T3,0,rfl,t3,_,rfl,?_⟩
  cases hx : whole xv 0 with
  | false =>
    have q1 := q H (Same.refl _)
    unfold lieV at q1
    rw [ly,hx] at q1
    exact iteT (iteT q1)
  | true =>
  refine iteF ⟨_,rfl,yv,T4,0,rfl,t4,_,rfl,?_⟩
  cases hy : whole yv 0 with
  | false =>
    have q1 := q H (Same.refl _)
    unfold lieV at q1
    rw [ly,hx,hy] at q1
    exact iteT q1
  | true =>
  refine iteF ?_
  obtain ⟨i,c,k,rfl,rfl,i0,hk⟩ := isLy_true ly
  obtain ⟨x1,rfl⟩ : ∃ i,xv = .int i := by cases xv <;> first | exact ⟨_,rfl⟩ | cases hx
  obtain ⟨y1,rfl⟩ : ∃ i,yv = .int i := by cases yv <;> first | exact ⟨_,rfl⟩ | cases hy
  refine ⟨_,rfl,s,dx,_,rfl,h1,(flds_no _ _ (by decide +kernel) (by decide +kernel)),_,rfl,_,rfl,s,b,ks,.int i,.bl c,T1,T2,rfl,S,t1,t2,fun z => absurd z (by rw [ly]; decide),fun i' c' k' p e1 e2 hk' _ hp => ?_⟩
  cases e1
  cases e2
  rw [hk] at hk'
  cases hk'
  rw [sides_eq]
  have q1 := q _ (Same.new hp (o := .tup [.int (sd1 k c),.int (sd2 k c)]))
  refine ⟨p,_,rfl,SqT.of upd_same,rfl,_,_,rfl,_,_,rfl,rfl,?_⟩
  refine ⟨_,rfl,_,rfl,_,_,rfl,rfl,_,rfl,_,_,rfl,rfl,_,rfl,?_⟩
  unfold lieV at q1
  rw [ly,hx,hy] at q1
  simp only [hk,Bool.true_and] at q1
  refine ite2 (fun cc => ?_) (fun cc => ?_)
  · refine ⟨_,rfl,_,rfl,_,_,rfl,rfl,_,rfl,_,_,rfl,rfl,?_⟩
    rw [cc,Bool.true_and] at q1
    exact q1
  · rw [show decide (x1 + sd1 k c ≤ w1) = false by simpa using cc,Bool.false_and] at q1
    exact q1
end
section
variable {P : Program} {w : World} {K : PySem.W.Frag} {mg : Str → Option Value} {base : Heap}
structure TrC (K : PySem.W.Frag) (mg : Str → Option Value) (wa : Addr) : Prop where
  dn : ∃ t,mg "DOWN" = some (.str "down" t)
  rs : ∃ t,mg "REST" = some (.str "rest" t)
  pc : ∃ t,mg "PIECE" = some (.str "piece" t)
  n1 : ∃ t,mg "THINGS_OF_A_REST" = some (.int 1 t)
  n5 : ∃ t,mg "THINGS_OF_A_PIECE" = some (.int 5 t)
  n4 : ∃ t,mg "THINGS_OF_A_CUT" = some (.int 4 t)
  wy : mg "WAYS" = some (.ref wa)
  wq : ∀ H,SqT K H wa [.str "down",.str "across"]
def cutP (b side : Int) : PyData → Bool
  | .int p => decide (1 ≤ p) && decide (p + b < side)
  | _ => false
def cutOk (b side : Int) (d : PyData) : Bool := match rowOf d with
  | some [_,p,_,_] => cutP b side p
  | _ => false
def isC (b w h : Int) (d : PyData) : Bool := if bw d "down" 4 = true then cutOk b w d else if bw d "across" 4 = true then cutOk b h d else false
def lieD (ks : List Kd) (w h : Int) : PyData → PyData → PyData → PyData → Bool
  | .int i,.bool c,.int x,.int y => lieV ks w h (.int i) (.bl c) (.int x) (.int y)
  | _,_,_,_ => false
def isL (ks : List Kd) (w h : Int) (d : PyData) : Bool := if bw d "piece" 5 = true then (match rowOf d with
  | some [_,k,t,x,y] => lieD ks w h k t x y
  | _ => false) else bw d "rest" 1
def spParts2 : Sp := fun vs H Q _ => ∃ (b w h p : Int) (t : Addr) (dn : Bool),vs = [.int b,.ref t,.str (if dn = true then "down" else "across"),.int p] ∧ H t = some (.tup [.int w,.int h]) ∧
  ∀ (u t1 t2 : Addr) (H' : Hp),H' u = some (.tup [.ref t1,.ref t2]) → H' t1 = some (.tup (if dn = true then [.int p,.int h] else [.int w,.int p])) → H' t2 = some (.tup (if dn = true then [.int (w - p - b),.int h] else [.int w,.int (h - p - b)])) → Same H H' → Q (.ref u) H'
def spCut : Sp := fun vs H Q _ => ∃ (pp : Addr) (b x y w h : Int) (sp : Addr) (v : V) (d : PyData),vs = [.int b,.ref sp] ∧ H sp = some (.tup [.int x,.int y,.int w,.int h,v]) ∧ Dt pp H v d ∧ ∀ H',Same H H' → Q (.bl (isC b w h d)) H'
def spLeaf (C : Addr) : Sp := fun vs H Q _ => ∃ (pp : Addr) (b' x y w h : Int) (s sp : Addr) (ks : List Kd) (v : V) (d : PyData),vs = [.ref s,.ref sp] ∧ ShopAt C H s b' ks ∧ H sp = some (.tup [.int x,.int y,.int w,.int h,v]) ∧ Dt pp H v d ∧ ∀ H',Same H H' → Q (.bl (isL ks w h d)) H'
def spBehind : Sp := fun vs H Q _ => ∃ (b x y w h p : Int) (sp a : Addr) (dn : Bool) (l r : V),vs = [.int b,.ref sp] ∧ H sp = some (.tup [.int x,.int y,.int w,.int h,.ref a]) ∧ (H a = some (.lst [.str (if dn = true then "down" else "across"),.int p,l,r]) ∨ H a = some (.tup [.str (if dn = true then "down" else "across"),.int p,l,r])) ∧
  ∀ (u t1 t2 : Addr) (H' : Hp),H u = none → H' u = some (.lst [.ref t1,.ref t2]) → H' t1 = some (.tup (if dn = true then [.int x,.int y,.int p,.int h,l] else [.int x,.int y,.int w,.int p,l])) →
    H' t2 = some (.tup (if dn = true then [.int (x + (p + b)),.int y,.int (w - p - b),.int h,r] else [.int x,.int (y + (p + b)),.int w,.int (h - p - b),r])) → Same H H' → Q (.ref u) H'
theorem scparts2 : FnScope ["blade","part","way","p","wide","high"] ["blade","part","way","p"] (defScope sCutParts) := ⟨rfl,rfl,rfl,by decide +kernel,rfl,by decide +kernel,by decide +kernel⟩
theorem ok_parts2 {f wa : Addr} {fd : FuncData} (F : Fun K "cut_parts" "cut_parts" sCutParts f fd) (Z : TrC K mg wa) : FnOk P w K mg base CX0 1 f fd ["blade","part","way","p"] (spParts2) := by
  refine F.ok scparts2 (fun vs H Q E h => ?_) (fun cdv A outer s H vs Q E hr h => ?_)
  · obtain ⟨b,w1,h1,p1,t,dn,rfl,_⟩ := h
    rfl
  obtain ⟨b,w1,h1,p1,t,dn,rfl,ht,q⟩ := h
  have nd := scparts2.nd
  obtain ⟨tdn,hdn⟩ := Z.dn
  obtain ⟨trs,hrs⟩ := Z.rs
  obtain ⟨tpc,hpc⟩ := Z.pc
  obtain ⟨tn1,hn1⟩ := Z.n1
  obtain ⟨tn5,hn5⟩ := Z.n5
  obtain ⟨tn4,hn4⟩ := Z.n4
  refine ⟨_,(@pss_cons _ _ _ _ _ (@ps_asg _ _ _ _ _ _ (pv 1) (pg_tup rfl (pgs_cons (pg_name (i := 4) nd rfl (Or.inl rfl)) (pgs_cons (pg_name (i := 5) nd rfl (Or.inl rfl)) pgs_nil))) rfl rfl rfl) (@pss_cons _ _ _ _ _ (@ps_if _ _ _ _ _ _ _ _ (@pt_cmpR _ _ _ _ _ _ _ _ op_eq (pv 2) (pe_glob (v := .str "down") rfl hdn ⟨tdn,rfl⟩) (nomark _)) (@pss_one _ _ _ (@ps_ret _ _ _ _ (@pe_tup _ _ _ _ _ (@pa_cons _ _ _ _ _ (@pe_tup _ _ _ _ _ (@pa_cons _ _ _ _ _ (pv 3) (@pa_cons _ _ _ _ _ (pv 5) pa_nil rfl) rfl)) (@pa_cons _ _ _ _ _ (@pe_tup _ _ _ _ _ (@pa_cons _ _ _ _ _ (@pe_op _ _ _ _ _ _ _ _ op_sub (@pe_op _ _ _ _ _ _ _ _ op_sub (pv 4) (pv 3)) (pv 0)) (@pa_cons _ _ _ _ _ (pv 5) pa_nil rfl) rfl)) pa_nil rfl) rfl)))) pss_nil) (@pss_one _ _ _ (@ps_ret _ _ _ _ (@pe_tup _ _ _ _ _ (@pa_cons _ _ _ _ _ (@pe_tup _ _ _ _ _ (@pa_cons _ _ _ _ _ (pv 4) (@pa_cons _ _ _ _ _ (pv 3) pa_nil rfl) rfl)) (@pa_cons _ _ _ _ _ (@pe_tup _ _ _ _ _ (@pa_cons _ _ _ _ _ (pv 4) (@pa_cons _ _ _ _ _ (@pe_op _ _ _ _ _ _ _ _ op_sub (@pe_op _ _ _ _ _ _ _ _ op_sub (pv 5) (pv 3)) (pv 0)) pa_nil rfl) rfl)) pa_nil rfl) rfl)))))),?_⟩
  refine ⟨_,rfl,t,_,rfl,SqT.of ht,rfl,_,_,rfl,_,_,rfl,rfl,?_⟩
  cases dn with
  | true =>
    refine ⟨_,rfl,rfl,_,rfl,iteT ?_⟩
    refine ⟨_,rfl,_,rfl,(by show 2 ≤ sizeLine; decide),fun t1 h1' => ?_⟩
    have sa : Same H (upd H t1 (.tup [.int p1,.int h1])) := Same.new h1'
    have ka : (upd H t1 (.tup [.int p1,.int h1])) t1 = some (.tup [.int p1,.int h1]) := upd_same
    generalize upd H t1 (.tup [.int p1,.int h1]) = Ha at sa ka ⊢
    refine ⟨_,rfl,_,rfl,_,_,rfl,rfl,_,rfl,_,_,rfl,rfl,_,rfl,(by show 2 ≤ sizeLine; decide),fun t2 h2' => ?_⟩
    have sb : Same Ha (upd Ha t2 (.tup [.int (w1 - p1 - b),.int h1])) := Same.new h2'
    have kb : (upd Ha t2 (.tup [.int (w1 - p1 - b),.int h1])) t2 = some (.tup [.int (w1 - p1 - b),.int h1]) := upd_same
    generalize upd Ha t2 (.tup [.int (w1 - p1 - b),.int h1]) = Hb at sb kb ⊢
    refine ⟨(by show 2 ≤ sizeLine; decide),fun u hu => ?_⟩
    have sc : Same Hb (upd Hb u (.tup [.ref t1,.ref t2])) := Same.new hu
    have kc : (upd Hb u (.tup [.ref t1,.ref t2])) u = some (.tup [.ref t1,.ref t2]) := upd_same
    generalize upd Hb u (.tup [.ref t1,.ref t2]) = Hc at sc kc ⊢
    exact q u t1 t2 Hc kc (sc _ _ (sb _ _ ka)) (sc _ _ kb) ((sa.trans sb).trans sc)
  | false =>
    refine ⟨_,rfl,rfl,_,rfl,iteF ?_⟩
    refine ⟨_,rfl,_,rfl,(by show 2 ≤ sizeLine; decide),fun t1 h1' => ?_⟩
    have sa : Same H (upd H t1 (.tup [.int w1,.int p1])) := Same.new h1'
    have ka : (upd H t1 (.tup [.int w1,.int p1])) t1 = some (.tup [.int w1,.int p1]) := upd_same
    generalize upd H t1 (.tup [.int w1,.int p1]) = Ha at sa ka ⊢
    refine ⟨_,rfl,_,rfl,_,rfl,_,_,rfl,rfl,_,rfl,_,_,rfl,rfl,(by show 2 ≤ sizeLine; decide),fun t2 h2' => ?_⟩
    have sb : Same Ha (upd Ha t2 (.tup [.int w1,.int (h1 - p1 - b)])) := Same.new h2'
    have kb : (upd Ha t2 (.tup [.int w1,.int (h1 - p1 - b)])) t2 = some (.tup [.int w1,.int (h1 - p1 - b)]) := upd_same
    generalize upd Ha t2 (.tup [.int w1,.int (h1 - p1 - b)]) = Hb at sb kb ⊢
    refine ⟨(by show 2 ≤ sizeLine; decide),fun u hu => ?_⟩
    have sc : Same Hb (upd Hb u (.tup [.ref t1,.ref t2])) := Same.new hu
    have kc : (upd Hb u (.tup [.ref t1,.ref t2])) u = some (.tup [.ref t1,.ref t2]) := upd_same
    generalize upd Hb u (.tup [.ref t1,.ref t2]) = Hc at sc kc ⊢
    exact q u t1 t2 Hc kc (sc _ _ (sb _ _ ka)) (sc _ _ kb) ((sa.trans sb).trans sc)
theorem bw_row {d : PyData} {z : Str} {n : Nat} (h : bw d z n = true) : ∃ r,rowOf d = some (.str z :: r) ∧ r.length + 1 = n := by
  unfold bw at h
  split at h
  · rename_i y r e
    rw [Bool.and_eq_true] at h
    have := of_decide_eq_true h.2
    subst this
    exact ⟨r,e,of_decide_eq_true h.1⟩
  · cases h
theorem Dt.ref_row {p : Addr} {H : Hp} {v : V} {d : PyData} {ds : List PyData} (h : Dt p H v d) (e : rowOf d = some ds) : ∃ a xs,v = .ref a ∧ (H a = some (.lst xs) ∨ H a = some (.tup xs)) ∧ Dts p H xs ds := by
  cases h <;> simp only [rowOf,Option.some.injEq,reduceCtorEq] at e
  · subst e; exact ⟨_,_,rfl,.inl ‹_›,‹_›⟩
  · subst e; exact ⟨_,_,rfl,.inr ‹_›,‹_›⟩
theorem ixR {H H1 : Hp} {a : Addr} {xs : List V} (s1 : Same H H1) (hx : H a = some (.lst xs) ∨ H a = some (.tup xs)) {i : Int} {x : V} (e : atI xs i = some x) {Q' : VK} (h : Q' x H1) : rIx K (.ref a) (.int i) H1 Q' :=
  hx.elim (fun z => .inl ⟨a,_,i,x,rfl,rfl,SqL.of (s1 _ _ z),e,h⟩) (fun z => .inr (.inl ⟨a,_,i,x,rfl,rfl,SqT.of (s1 _ _ z),e,h⟩))
theorem sccut : FnScope ["blade","spot","tree","way","side"] ["blade","spot"] (defScope sIsCut) := ⟨rfl,rfl,rfl,by decide +kernel,rfl,by decide +kernel,by decide +kernel⟩
theorem ok_cut {f wa : Addr} {fd : FuncData} (F : Fun K "is_cut" "is_cut" sIsCut f fd) (Z : TrC K mg wa) (DB : Dn P w K mg base "begins_with" ["thing","word","many"] 2 spBegins) (DW : Dn P w K mg base "is_whole" ["thing","least"] 1 (spWhole K)) : FnOk P w K mg base CX0 3 f fd ["blade","spot"] (spCut) := by
  refine F.ok sccut (fun vs H Q E h => ?_) (fun cdv A outer s H vs Q E hr h => ?_)
  · obtain ⟨pp,b,x1,y1,w1,h1,sp,v,d,rfl,_⟩ := h
    rfl
  obtain ⟨pp,b,x0',y0',w1,h1,sp,v,d,rfl,hsp,hd,q⟩ := h
  have nd := sccut.nd
  obtain ⟨tdn,hdn⟩ := Z.dn
  obtain ⟨trs,hrs⟩ := Z.rs
  obtain ⟨tpc,hpc⟩ := Z.pc
  obtain ⟨tn1,hn1⟩ := Z.n1
  obtain ⟨tn5,hn5⟩ := Z.n5
  obtain ⟨tn4,hn4⟩ := Z.n4
  have hr1 := hr.mono (show 1 ≤ 2 by decide)
  refine ⟨_,(@pss_cons _ _ _ _ _ (@ps_set _ _ 2 _ _ _ _ nd rfl (Or.inl rfl) (@pe_ix _ _ _ _ _ _ _ ix_tup (pv 1) pe_int (fun _ _ => rfl)) rfl (Or.inl rfl)) (@pss_cons _ _ _ _ _ (@ps_for _ _ _ _ _ _ _ _ PassesOwn.never rfl (pi_tup (pe_glob (v := .ref wa) rfl Z.wy rfl)) (pg_name (i := 3) nd rfl (Or.inl rfl)) (@pss_one _ _ _ (@ps_if _ _ _ _ _ _ _ _ (@pt_val _ _ _ (@pe_cD _ _ _ _ _ _ _ _ _ _ DB hr rfl (@pa_cons _ _ _ _ _ (pv 2) (@pa_cons _ _ _ _ _ (pv 3) (@pa_cons _ _ _ _ _ (pe_glob (v := .int 4) rfl hn4 ⟨tn4,rfl⟩) pa_nil rfl) rfl) rfl) (by decide) rfl rfl) (by intro _; rfl)) (@pss_cons _ _ _ _ _ (@ps_set _ _ 4 _ _ _ _ nd rfl (Or.inl rfl) (pe_ifExp (@pt_cmpR _ _ _ _ _ _ _ _ op_eq (pv 3) (pe_glob (v := .str "down") rfl hdn ⟨tdn,rfl⟩) (nomark _)) (@pe_ix _ _ _ _ _ _ _ ix_tup (pv 1) pe_int (fun _ _ => rfl)) (@pe_ix _ _ _ _ _ _ _ ix_tup (pv 1) pe_int (fun _ _ => rfl))) rfl (Or.inl rfl)) (@pss_one _ _ _ (@ps_ret _ _ _ _ (pe_and (@pe_cD _ _ _ _ _ _ _ _ _ _ DW hr1 rfl (@pa_cons _ _ _ _ _ (@pe_ix _ _ _ _ _ _ _ ix_seq (pv 2) pe_int (fun _ _ => rfl)) (@pa_cons _ _ _ _ _ pe_int pa_nil rfl) rfl) (by decide) rfl rfl) (pe_one (@pe_cmpR _ _ _ _ _ _ _ _ op_lt (@pe_op _ _ _ _ _ _ _ _ op_add (@pe_ix _ _ _ _ _ _ _ ix_seq (pv 2) pe_int (fun _ _ => rfl)) (pv 0)) (pv 4) (nomark _))))))) pss_nil)) (by intro _; rfl)) (@pss_one _ _ _ (@ps_ret _ _ _ _ pe_bl)))),?_⟩
  refine ⟨_,rfl,sp,_,4,_,rfl,rfl,SqT.of hsp,rfl,?_⟩
  refine ⟨wa, rfl, ⟨_, Z.wq H⟩, for_tup (xs := [.str "down", .str "across"]) (fun i σ H' => (∃ v3 v4, σ = [some (.int b), some (.ref sp), some v, v3, v4]) ∧ Same H H' ∧ (1 ≤ i → bw d "down" 4 = false) ∧ (2 ≤ i → bw d "across" 4 = false)) ⟨⟨_, _, rfl⟩, Same.refl _, fun z => absurd z (by decide), fun z => absurd z (by decide)⟩ (fun i σ H' _ _ => Z.wq H') ?_ ?_⟩
  · rintro i y σ H1 hi ⟨⟨v3,v4,rfl⟩,s1,g1,g2⟩
    match i,hi with
    | 0,hi =>
      cases hi
      refine ⟨_,rfl,_,rfl,pp,v,d,"down",4,rfl,by decide,hd.same s1,fun H2 s12 => ⟨_,rfl,?_⟩⟩
      have s2 := s1.trans s12
      refine ite2 (fun hb => ?_) (fun hb => ⟨⟨_,_,rfl⟩,s2,fun _ => by simpa using hb,fun z => absurd z (by decide)⟩)
      obtain ⟨r0,er,rl⟩ := bw_row hb
      obtain ⟨a,xs,rfl,hx,dx⟩ := hd.ref_row er
      cases dx with
      | @cons x0 _ xs0 _ hd0 dx =>
      match r0,rl,dx with
      | [d1,d2,d3],_,.cons (x := x1) hd1 (.cons (x := x2) hd2 (.cons (x := x3) hd3 .nil)) =>
      have sp2 := s2 _ _ hsp
      have co : cutOk b w1 d = cutP b w1 d1 := by
        unfold cutOk
        rw [er]
      refine ⟨_,rfl,rfl,_,rfl,iteT ⟨_,rfl,sp,_,2,_,rfl,rfl,SqT.of sp2,rfl,?_⟩⟩
      have at1 : atI [x0,x1,x2,x3] 1 = some x1 := atI_int (by decide) rfl
      obtain ⟨T1,t1⟩ := (hd1.same s2).ty (K := K)
      refine ⟨_,rfl,ixR s2 hx at1 ⟨x1,T1,1,rfl,t1,_,rfl,?_⟩⟩
      have q1 := q H2 s2
      unfold isC at q1
      rw [if_pos hb,co] at q1
      cases hd1 with
      | int p =>
        have q1 : Q (.bl (decide (1 ≤ p) && decide (p + b < w1))) H2 := q1
        refine ite2 (fun cc => ?_) (fun cc => ?_)
        · have cc : decide (1 ≤ p) = true := cc
          refine ⟨_,rfl,ixR s2 hx at1 ⟨_,rfl,_,_,rfl,rfl,_,rfl,_,_,rfl,rfl,?_⟩⟩
          rw [cc,Bool.true_and] at q1
          exact q1
        · have cc : ¬ decide (1 ≤ p) = true := cc
          rw [show decide (1 ≤ p) = false by simpa using cc,Bool.false_and] at q1
          exact q1
      | _ => exact iteF q1
    | 1,hi =>
      cases hi
      have hb0 := g1 (by decide)
      refine ⟨_,rfl,_,rfl,pp,v,d,"across",4,rfl,by decide,hd.same s1,fun H2 s12 => ⟨_,rfl,?_⟩⟩
      have s2 := s1.trans s12
      refine ite2 (fun hb => ?_) (fun hb => ⟨⟨_,_,rfl⟩,s2,fun _ => hb0,fun _ => by simpa using hb⟩)
      obtain ⟨r0,er,rl⟩ := bw_row hb
      obtain ⟨a,xs,rfl,hx,dx⟩ := hd.ref_row er
      cases dx with
      | @cons x0 _ xs0 _ hd0 dx =>
      match r0,rl,dx with
      | [d1,d2,d3],_,.cons (x := x1) hd1 (.cons (x := x2) hd2 (.cons (x := x3) hd3 .nil)) =>
      have sp2 := s2 _ _ hsp
      have co : cutOk b h1 d = cutP b h1 d1 := by
        unfold cutOk
        rw [er]
      refine ⟨_,rfl,rfl,_,rfl,iteF ⟨_,rfl,sp,_,3,_,rfl,rfl,SqT.of sp2,rfl,?_⟩⟩
      have at1 : atI [x0,x1,x2,x3] 1 = some x1 := atI_int (by decide) rfl
      obtain ⟨T1,t1⟩ := (hd1.same s2).ty (K := K)
      refine ⟨_,rfl,ixR s2 hx at1 ⟨x1,T1,1,rfl,t1,_,rfl,?_⟩⟩
      have q1 := q H2 s2
      unfold isC at q1
      rw [if_neg (by rw [hb0]; decide),if_pos hb,co] at q1
      cases hd1 with
      | int p =>
        have q1 : Q (.bl (decide (1 ≤ p) && decide (p + b < h1))) H2 := q1
        refine ite2 (fun cc => ?_) (fun cc => ?_)
        · have cc : decide (1 ≤ p) = true := cc
          refine ⟨_,rfl,ixR s2 hx at1 ⟨_,rfl,_,_,rfl,rfl,_,rfl,_,_,rfl,rfl,?_⟩⟩
          rw [cc,Bool.true_and] at q1
          exact q1
        · have cc : ¬ decide (1 ≤ p) = true := cc
          rw [show decide (1 ≤ p) = false by simpa using cc,Bool.false_and] at q1
          exact q1
      | _ => exact iteF q1
  · rintro σ H1 ⟨⟨v3,v4,rfl⟩,s1,g1,g2⟩
    have q1 := q H1 s1
    unfold isC at q1
    rw [if_neg (by rw [g1 (by decide)]; decide),if_neg (by rw [g2 (by decide)]; decide)] at q1
    exact q1
theorem shopS {C : Addr} {H H' : Hp} {s : Addr} {b : Int} {ks : List Kd} (k : Same H H') (S : ShopAt C H s b ks) : ShopAt C H' s b ks := S.keep (fun c o e => k _ _ e) (fun c C' d fs e => k _ _ e)
theorem scleaf : FnScope ["shop","spot","x","y","wide","high","tree"] ["shop","spot"] (defScope sIsLeaf) := ⟨rfl,rfl,rfl,by decide +kernel,rfl,by decide +kernel,by decide +kernel⟩
theorem ok_leaf {f wa C : Addr} {fd : FuncData} (F : Fun K "is_leaf" "is_leaf" sIsLeaf f fd) (Z : TrC K mg wa) (DB : Dn P w K mg base "begins_with" ["thing","word","many"] 2 spBegins) (DL : Dn P w K mg base "lies_in" ["shop","wide","high","kind","turned","x","y"] 4 (spLiesG K C)) : FnOk P w K mg base CX0 5 f fd ["shop","spot"] (spLeaf C) := by
  refine F.ok scleaf (fun vs H Q E h => ?_) (fun cdv A outer s H vs Q E hr h => ?_)
  · obtain ⟨pp,b',x1,y1,w1,h1,s,sp,ks,v,d,rfl,_⟩ := h
    rfl
  obtain ⟨pp,b',x0',y0',w1,h1,s,sp,ks,v,d,rfl,S,hsp,hd,q⟩ := h
  have nd := scleaf.nd
  obtain ⟨tdn,hdn⟩ := Z.dn
  obtain ⟨trs,hrs⟩ := Z.rs
  obtain ⟨tpc,hpc⟩ := Z.pc
  obtain ⟨tn1,hn1⟩ := Z.n1
  obtain ⟨tn5,hn5⟩ := Z.n5
  obtain ⟨tn4,hn4⟩ := Z.n4
  have hr2 := hr.mono (show 2 ≤ 4 by decide)
  refine ⟨_,(@pss_cons _ _ _ _ _ (@ps_asg _ _ _ _ _ _ (pv 1) (pg_tup rfl (pgs_cons (pg_name (i := 2) nd rfl (Or.inl rfl)) (pgs_cons (pg_name (i := 3) nd rfl (Or.inl rfl)) (pgs_cons (pg_name (i := 4) nd rfl (Or.inl rfl)) (pgs_cons (pg_name (i := 5) nd rfl (Or.inl rfl)) (pgs_cons (pg_name (i := 6) nd rfl (Or.inl rfl)) pgs_nil)))))) rfl rfl rfl) (@pss_cons _ _ _ _ _ (@ps_if _ _ _ _ _ _ _ _ (@pt_val _ _ _ (@pe_cD _ _ _ _ _ _ _ _ _ _ DB hr2 rfl (@pa_cons _ _ _ _ _ (pv 6) (@pa_cons _ _ _ _ _ (pe_glob (v := .str "piece") rfl hpc ⟨tpc,rfl⟩) (@pa_cons _ _ _ _ _ (pe_glob (v := .int 5) rfl hn5 ⟨tn5,rfl⟩) pa_nil rfl) rfl) rfl) (by decide) rfl rfl) (by intro _; rfl)) (@pss_one _ _ _ (@ps_ret _ _ _ _ (@pe_cD _ _ _ _ _ _ _ _ _ _ DL hr rfl (@pa_cons _ _ _ _ _ (pv 0) (@pa_cons _ _ _ _ _ (pv 4) (@pa_cons _ _ _ _ _ (pv 5) (@pa_cons _ _ _ _ _ (@pe_ix _ _ _ _ _ _ _ ix_seq (pv 6) pe_int (fun _ _ => rfl)) (@pa_cons _ _ _ _ _ (@pe_ix _ _ _ _ _ _ _ ix_seq (pv 6) pe_int (fun _ _ => rfl)) (@pa_cons _ _ _ _ _ (@pe_ix _ _ _ _ _ _ _ ix_seq (pv 6) pe_int (fun _ _ => rfl)) (@pa_cons _ _ _ _ _ (@pe_ix _ _ _ _ _ _ _ ix_seq (pv 6) pe_int (fun _ _ => rfl)) pa_nil rfl) rfl) rfl) rfl) rfl) rfl) rfl) (by decide) rfl rfl))) pss_nil) (@pss_one _ _ _ (@ps_ret _ _ _ _ (@pe_cD _ _ _ _ _ _ _ _ _ _ DB hr2 rfl (@pa_cons _ _ _ _ _ (pv 6) (@pa_cons _ _ _ _ _ (pe_glob (v := .str "rest") rfl hrs ⟨trs,rfl⟩) (@pa_cons _ _ _ _ _ (pe_glob (v := .int 1) rfl hn1 ⟨tn1,rfl⟩) pa_nil rfl) rfl) rfl) (by decide) rfl rfl))))),?_⟩
  refine ⟨_,rfl,sp,_,rfl,SqT.of hsp,rfl,_,_,rfl,_,_,rfl,_,_,rfl,_,_,rfl,_,_,rfl,rfl,?_⟩
  refine ⟨_,rfl,pp,v,d,"piece",5,rfl,by decide,hd,fun H1 s1 => ⟨_,rfl,?_⟩⟩
  refine ite2 (fun hb => ?_) (fun hb => ?_)
  · obtain ⟨r0,er,rl⟩ := bw_row hb
    obtain ⟨a,xs,rfl,hx,dx⟩ := hd.ref_row er
    cases dx with
    | @cons x0 _ xs0 _ hd0 dx =>
    match r0,rl,dx with
    | [d1,d2,d3,d4],_,.cons (x := x1) hd1 (.cons (x := x2) hd2 (.cons (x := x3) hd3 (.cons (x := x4) hd4 .nil))) =>
    have a1 : atI [x0,x1,x2,x3,x4] 1 = some x1 := atI_int (by decide) rfl
    have a2 : atI [x0,x1,x2,x3,x4] 2 = some x2 := atI_int (by decide) rfl
    have a3 : atI [x0,x1,x2,x3,x4] 3 = some x3 := atI_int (by decide) rfl
    have a4 : atI [x0,x1,x2,x3,x4] 4 = some x4 := atI_int (by decide) rfl
    obtain ⟨T1,t1⟩ := (hd1.same s1).ty (K := K)
    obtain ⟨T2,t2⟩ := (hd2.same s1).ty (K := K)
    obtain ⟨T3,t3⟩ := (hd3.same s1).ty (K := K)
    obtain ⟨T4,t4⟩ := (hd4.same s1).ty (K := K)
    refine ⟨_,rfl,_,rfl,_,rfl,_,rfl,ixR s1 hx a1 ⟨_,rfl,ixR s1 hx a2 ⟨_,rfl,ixR s1 hx a3 ⟨_,rfl,ixR s1 hx a4 ?_⟩⟩⟩⟩
    refine ⟨s,b',ks,w1,h1,x1,x2,x3,x4,T1,T2,T3,T4,rfl,shopS s1 S,t1,t2,t3,t4,fun H2 s2 => ?_⟩
    have q1 := q H2 (s1.trans s2)
    unfold isL at q1
    rw [if_pos hb,er] at q1
    have e : lieD ks w1 h1 d1 d2 d3 d4 = lieV ks w1 h1 x1 x2 x3 x4 := by
      cases hd1 with
      | int i => cases hd2 with
        | bl c => cases hd3 with
          | int x => cases hd4 with
            | int y => rfl
            | _ => simp [lieD,lieV,whole]
          | _ => simp [lieD,lieV,whole]
        | _ => simp [lieD,lieV,isLy]
      | _ => simp [lieD,lieV,isLy]
    have q1 : Q (.bl (lieD ks w1 h1 d1 d2 d3 d4)) H2 := q1
    rw [e] at q1
    exact q1
  · refine ⟨_,rfl,pp,v,d,"rest",1,rfl,by decide,hd.same s1,fun H2 s2 => ?_⟩
    have q1 := q H2 (s1.trans s2)
    unfold isL at q1
    rw [if_neg hb] at q1
    exact q1
theorem scbehind : FnScope ["blade","spot","x","y","wide","high","tree","way","p","first","second","wide_ahead","high_ahead","wide_behind","high_behind","step","far_x","far_y"] ["blade","spot"] (defScope sSpotsBehind) := ⟨rfl,rfl,rfl,by decide +kernel,rfl,by decide +kernel,by decide +kernel⟩
set_option maxHeartbeats 1000000 in
theorem ok_behind {f wa : Addr} {fd : FuncData} (F : Fun K "spots_behind" "spots_behind" sSpotsBehind f fd) (Z : TrC K mg wa) (DP : Dn P w K mg base "cut_parts" ["blade","part","way","p"] 1 spParts2) : FnOk P w K mg base CX0 2 f fd ["blade","spot"] (spBehind) := by
  refine F.ok scbehind (fun vs H Q E h => ?_) (fun cdv A outer s H vs Q E hr h => ?_)
  · obtain ⟨b,x1,y1,w1,h1,p1,sp,a,dn,l,r,rfl,_⟩ := h
    rfl
  obtain ⟨b,x1,y1,w1,h1,p1,sp,a,dn,l,r,rfl,hsp,ha,q⟩ := h
  have nd := scbehind.nd
  obtain ⟨tdn,hdn⟩ := Z.dn
  obtain ⟨trs,hrs⟩ := Z.rs
  obtain ⟨tpc,hpc⟩ := Z.pc
  obtain ⟨tn1,hn1⟩ := Z.n1
  obtain ⟨tn5,hn5⟩ := Z.n5
  obtain ⟨tn4,hn4⟩ := Z.n4
  refine ⟨_,(@pss_cons _ _ _ _ _ (@ps_asg _ _ _ _ _ _ (pv 1) (pg_tup rfl (pgs_cons (pg_name (i := 2) nd rfl (Or.inl rfl)) (pgs_cons (pg_name (i := 3) nd rfl (Or.inl rfl)) (pgs_cons (pg_name (i := 4) nd rfl (Or.inl rfl)) (pgs_cons (pg_name (i := 5) nd rfl (Or.inl rfl)) (pgs_cons (pg_name (i := 6) nd rfl (Or.inl rfl)) pgs_nil)))))) rfl rfl rfl) (@pss_cons _ _ _ _ _ (@ps_asg _ _ _ _ _ _ (pv 6) (pg_seq rfl (pgs_cons (pg_name (i := 7) nd rfl (Or.inl rfl)) (pgs_cons (pg_name (i := 8) nd rfl (Or.inl rfl)) (pgs_cons (pg_name (i := 9) nd rfl (Or.inl rfl)) (pgs_cons (pg_name (i := 10) nd rfl (Or.inl rfl)) pgs_nil))))) rfl rfl rfl) (@pss_cons _ _ _ _ _ (@ps_asg _ _ _ _ _ _ (@pe_cD _ _ _ _ _ _ _ _ _ _ DP hr rfl (@pa_cons _ _ _ _ _ (pv 0) (@pa_cons _ _ _ _ _ (@pe_tup _ _ _ _ _ (@pa_cons _ _ _ _ _ (pv 4) (@pa_cons _ _ _ _ _ (pv 5) pa_nil rfl) rfl)) (@pa_cons _ _ _ _ _ (pv 7) (@pa_cons _ _ _ _ _ (pv 8) pa_nil rfl) rfl) rfl) rfl) (by decide) rfl rfl) (pg_tup rfl (pgs_cons (pg_tup rfl (pgs_cons (pg_name (i := 11) nd rfl (Or.inl rfl)) (pgs_cons (pg_name (i := 12) nd rfl (Or.inl rfl)) pgs_nil))) (pgs_cons (pg_tup rfl (pgs_cons (pg_name (i := 13) nd rfl (Or.inl rfl)) (pgs_cons (pg_name (i := 14) nd rfl (Or.inl rfl)) pgs_nil))) pgs_nil))) rfl rfl rfl) (@pss_cons _ _ _ _ _ (@ps_set _ _ 15 _ _ _ _ nd rfl (Or.inl rfl) (@pe_op _ _ _ _ _ _ _ _ op_add (pv 8) (pv 0)) rfl (Or.inl rfl)) (@pss_cons _ _ _ _ _ (@ps_asg _ _ _ _ _ _ (pe_ifExp (@pt_cmpR _ _ _ _ _ _ _ _ op_eq (pv 7) (pe_glob (v := .str "down") rfl hdn ⟨tdn,rfl⟩) (nomark _)) (@pe_tup _ _ _ _ _ (@pa_cons _ _ _ _ _ (@pe_op _ _ _ _ _ _ _ _ op_add (pv 2) (pv 15)) (@pa_cons _ _ _ _ _ (pv 3) pa_nil rfl) rfl)) (@pe_tup _ _ _ _ _ (@pa_cons _ _ _ _ _ (pv 2) (@pa_cons _ _ _ _ _ (@pe_op _ _ _ _ _ _ _ _ op_add (pv 3) (pv 15)) pa_nil rfl) rfl))) (pg_tup rfl (pgs_cons (pg_name (i := 16) nd rfl (Or.inl rfl)) (pgs_cons (pg_name (i := 17) nd rfl (Or.inl rfl)) pgs_nil))) rfl rfl rfl) (@pss_one _ _ _ (@ps_ret _ _ _ _ (@pe_lst _ _ _ _ (@pa_cons _ _ _ _ _ (@pe_tup _ _ _ _ _ (@pa_cons _ _ _ _ _ (pv 2) (@pa_cons _ _ _ _ _ (pv 3) (@pa_cons _ _ _ _ _ (pv 11) (@pa_cons _ _ _ _ _ (pv 12) (@pa_cons _ _ _ _ _ (pv 9) pa_nil rfl) rfl) rfl) rfl) rfl)) (@pa_cons _ _ _ _ _ (@pe_tup _ _ _ _ _ (@pa_cons _ _ _ _ _ (pv 16) (@pa_cons _ _ _ _ _ (pv 17) (@pa_cons _ _ _ _ _ (pv 13) (@pa_cons _ _ _ _ _ (pv 14) (@pa_cons _ _ _ _ _ (pv 10) pa_nil rfl) rfl) rfl) rfl) rfl)) pa_nil rfl) rfl))))))))),?_⟩
  refine ⟨_,rfl,sp,_,rfl,SqT.of hsp,rfl,_,_,rfl,_,_,rfl,_,_,rfl,_,_,rfl,_,_,rfl,rfl,?_⟩
  have sq : SqL K H a [.str (if dn = true then "down" else "across"),.int p1,l,r] ∨ SqT K H a [.str (if dn = true then "down" else "across"),.int p1,l,r] := ha.imp (fun z => SqL.of z) fun z => SqT.of z
  refine ⟨_,rfl,a,_,rfl,sq,rfl,_,_,rfl,_,_,rfl,_,_,rfl,_,_,rfl,rfl,?_⟩
  clear sq
  cases dn with
  | true =>
    refine ⟨_,rfl,_,rfl,_,rfl,(by show 2 ≤ sizeLine; decide),fun tp htp => ?_⟩
    have sa : Same H (upd H tp (.tup [.int w1,.int h1])) := Same.new htp
    have ka : (upd H tp (.tup [.int w1,.int h1])) tp = some (.tup [.int w1,.int h1]) := upd_same
    generalize upd H tp (.tup [.int w1,.int h1]) = Ha at sa ka ⊢
    refine ⟨_,rfl,_,rfl,b,w1,h1,p1,tp,true,rfl,ka,fun u t1 t2 Hb ku k1 k2 sb => ?_⟩
    refine ⟨u,_,rfl,SqT.of ku,rfl,_,_,rfl,t1,_,rfl,SqT.of k1,rfl,_,_,rfl,_,_,rfl,rfl,_,_,rfl,t2,_,rfl,SqT.of k2,rfl,_,_,rfl,_,_,rfl,rfl,rfl,?_⟩
    refine seqCut (fun σ' H' => σ' = [some (.int b), some (.ref sp), some (.int x1), some (.int y1), some (.int w1), some (.int h1), some (.ref a), some (.str "down"), some (.int p1), some l, some r, some (.int p1), some (.int h1), some (.int (w1 - p1 - b)), some (.int h1), none, none, none] ∧ Hb = H') (fun R hR => hR _ _ ⟨rfl, rfl⟩) ?_
    rintro _ _ ⟨rfl,rfl⟩
    refine ⟨_,rfl,_,rfl,_,_,rfl,rfl,?_⟩
    refine ⟨_,rfl,rfl,_,rfl,iteT ⟨_,rfl,_,rfl,_,_,rfl,rfl,_,rfl,(by show 2 ≤ sizeLine; decide),fun tf hf => ?_⟩⟩
    have sd : Same Hb (upd Hb tf (.tup [.int (x1 + (p1 + b)),.int y1])) := Same.new hf
    have kd : (upd Hb tf (.tup [.int (x1 + (p1 + b)),.int y1])) tf = some (.tup [.int (x1 + (p1 + b)),.int y1]) := upd_same
    generalize upd Hb tf (.tup [.int (x1 + (p1 + b)),.int y1]) = Hd at sd kd ⊢
    refine ⟨tf,_,rfl,SqT.of kd,rfl,_,_,rfl,_,_,rfl,rfl,?_⟩
    refine ⟨_,rfl,_,rfl,_,rfl,_,rfl,_,rfl,(by show 5 ≤ sizeLine; decide),fun g1 hg1 => ?_⟩
    have se : Same Hd (upd Hd g1 (.tup [.int x1,.int y1,.int p1,.int h1,l])) := Same.new hg1
    have ke : (upd Hd g1 (.tup [.int x1,.int y1,.int p1,.int h1,l])) g1 = some (.tup [.int x1,.int y1,.int p1,.int h1,l]) := upd_same
    generalize upd Hd g1 (.tup [.int x1,.int y1,.int p1,.int h1,l]) = He at se ke ⊢
    refine ⟨_,rfl,_,rfl,_,rfl,_,rfl,_,rfl,(by show 5 ≤ sizeLine; decide),fun g2 hg2 => ?_⟩
    have sf : Same He (upd He g2 (.tup [.int (x1 + (p1 + b)),.int y1,.int (w1 - p1 - b),.int h1,r])) := Same.new hg2
    have kf : (upd He g2 (.tup [.int (x1 + (p1 + b)),.int y1,.int (w1 - p1 - b),.int h1,r])) g2 = some (.tup [.int (x1 + (p1 + b)),.int y1,.int (w1 - p1 - b),.int h1,r]) := upd_same
    generalize upd He g2 (.tup [.int (x1 + (p1 + b)),.int y1,.int (w1 - p1 - b),.int h1,r]) = Hf at sf kf ⊢
    refine ⟨(by show 2 ≤ sizeLine; decide),fun lu hlu => ?_⟩
    have sg : Same Hf (upd Hf lu (.lst [.ref g1,.ref g2])) := Same.new hlu
    have kg : (upd Hf lu (.lst [.ref g1,.ref g2])) lu = some (.lst [.ref g1,.ref g2]) := upd_same
    generalize upd Hf lu (.lst [.ref g1,.ref g2]) = Hg at sg kg ⊢
    have sA := ((((sa.trans sb).trans sd).trans se).trans sf)
    exact q lu g1 g2 Hg (sA.free hlu) kg (sg _ _ (sf _ _ ke)) (sg _ _ kf) (sA.trans sg)
  | false =>
    refine ⟨_,rfl,_,rfl,_,rfl,(by show 2 ≤ sizeLine; decide),fun tp htp => ?_⟩
    have sa : Same H (upd H tp (.tup [.int w1,.int h1])) := Same.new htp
    have ka : (upd H tp (.tup [.int w1,.int h1])) tp = some (.tup [.int w1,.int h1]) := upd_same
    generalize upd H tp (.tup [.int w1,.int h1]) = Ha at sa ka ⊢
    refine ⟨_,rfl,_,rfl,b,w1,h1,p1,tp,false,rfl,ka,fun u t1 t2 Hb ku k1 k2 sb => ?_⟩
    refine ⟨u,_,rfl,SqT.of ku,rfl,_,_,rfl,t1,_,rfl,SqT.of k1,rfl,_,_,rfl,_,_,rfl,rfl,_,_,rfl,t2,_,rfl,SqT.of k2,rfl,_,_,rfl,_,_,rfl,rfl,rfl,?_⟩
    refine seqCut (fun σ' H' => σ' = [some (.int b), some (.ref sp), some (.int x1), some (.int y1), some (.int w1), some (.int h1), some (.ref a), some (.str "across"), some (.int p1), some l, some r, some (.int w1), some (.int p1), some (.int w1), some (.int (h1 - p1 - b)), none, none, none] ∧ Hb = H') (fun R hR => hR _ _ ⟨rfl, rfl⟩) ?_
    rintro _ _ ⟨rfl,rfl⟩
    refine ⟨_,rfl,_,rfl,_,_,rfl,rfl,?_⟩
    refine ⟨_,rfl,rfl,_,rfl,iteF ⟨_,rfl,_,rfl,_,rfl,_,_,rfl,rfl,(by show 2 ≤ sizeLine; decide),fun tf hf => ?_⟩⟩
    have sd : Same Hb (upd Hb tf (.tup [.int x1,.int (y1 + (p1 + b))])) := Same.new hf
    have kd : (upd Hb tf (.tup [.int x1,.int (y1 + (p1 + b))])) tf = some (.tup [.int x1,.int (y1 + (p1 + b))]) := upd_same
    generalize upd Hb tf (.tup [.int x1,.int (y1 + (p1 + b))]) = Hd at sd kd ⊢
    refine ⟨tf,_,rfl,SqT.of kd,rfl,_,_,rfl,_,_,rfl,rfl,?_⟩
    refine ⟨_,rfl,_,rfl,_,rfl,_,rfl,_,rfl,(by show 5 ≤ sizeLine; decide),fun g1 hg1 => ?_⟩
    have se : Same Hd (upd Hd g1 (.tup [.int x1,.int y1,.int w1,.int p1,l])) := Same.new hg1
    have ke : (upd Hd g1 (.tup [.int x1,.int y1,.int w1,.int p1,l])) g1 = some (.tup [.int x1,.int y1,.int w1,.int p1,l]) := upd_same
    generalize upd Hd g1 (.tup [.int x1,.int y1,.int w1,.int p1,l]) = He at se ke ⊢
    refine ⟨_,rfl,_,rfl,_,rfl,_,rfl,_,rfl,(by show 5 ≤ sizeLine; decide),fun g2 hg2 => ?_⟩
    have sf : Same He (upd He g2 (.tup [.int x1,.int (y1 + (p1 + b)),.int w1,.int (h1 - p1 - b),r])) := Same.new hg2
    have kf : (upd He g2 (.tup [.int x1,.int (y1 + (p1 + b)),.int w1,.int (h1 - p1 - b),r])) g2 = some (.tup [.int x1,.int (y1 + (p1 + b)),.int w1,.int (h1 - p1 - b),r]) := upd_same
    generalize upd He g2 (.tup [.int x1,.int (y1 + (p1 + b)),.int w1,.int (h1 - p1 - b),r]) = Hf at sf kf ⊢
    refine ⟨(by show 2 ≤ sizeLine; decide),fun lu hlu => ?_⟩
    have sg : Same Hf (upd Hf lu (.lst [.ref g1,.ref g2])) := Same.new hlu
    have kg : (upd Hf lu (.lst [.ref g1,.ref g2])) lu = some (.lst [.ref g1,.ref g2]) := upd_same
    generalize upd Hf lu (.lst [.ref g1,.ref g2]) = Hg at sg kg ⊢
    have sA := ((((sa.trans sb).trans sd).trans se).trans sf)
    exact q lu g1 g2 Hg (sA.free hlu) kg (sg _ _ (sf _ _ ke)) (sg _ _ kf) (sA.trans sg)
end
def isT (b : Int) (ks : List Kd) (w h : Int) (d : PyData) : Bool :=
  if isC b w h d = true then
    match e : rowOf d with
    | some [_,.int p,l,r] => if bw d "down" 4 = true then isT b ks p h l && isT b ks (w - p - b) h r else isT b ks w p l && isT b ks w (h - p - b) r
    | _ => false
  else isL ks w h d
termination_by sizeOf d
decreasing_by all_goals (apply rowOf_lt e; simp)
theorem isT_leaf {b : Int} {ks : List Kd} {w h : Int} {d : PyData} (hc : isC b w h d = false) : isT b ks w h d = isL ks w h d := by
  rw [isT,if_neg (by rw [hc]; decide)]
theorem isT_cut {b : Int} {ks : List Kd} {w h : Int} {d : PyData} (hc : isC b w h d = true) : ∃ (dn : Bool) (p : Int) (l r : PyData),rowOf d = some [.str (if dn = true then "down" else "across"),.int p,l,r] ∧ 1 ≤ p ∧ (dn = true → p + b < w) ∧ (dn = false → p + b < h) ∧
    isT b ks w h d = (if dn = true then isT b ks p h l && isT b ks (w - p - b) h r else isT b ks w p l && isT b ks w (h - p - b) r) := by
  have key : ∀ side,cutOk b side d = true → ∃ x p l r,rowOf d = some [x,.int p,l,r] ∧ 1 ≤ p ∧ p + b < side := fun side h => by
    unfold cutOk at h
    split at h
    · rename_i x p l r e
      unfold cutP at h
      split at h
      · rename_i p'
        rw [Bool.and_eq_true] at h
        exact ⟨x,p',l,r,e,of_decide_eq_true h.1,of_decide_eq_true h.2⟩
      · cases h
    · cases h
  have hc' := hc
  unfold isC at hc
  by_cases hb : bw d "down" 4 = true
  · rw [if_pos hb] at hc
    obtain ⟨x,p,l,r,e,p1,p2⟩ := key _ hc
    obtain ⟨r',e',_⟩ := bw_row hb
    rw [e] at e'
    cases e'
    refine ⟨true,p,l,r,e,p1,fun _ => p2,fun z => (by cases z),?_⟩
    rw [isT,if_pos hc']
    split
    · rename_i y p' l' r' e2
      rw [e] at e2
      cases e2
      rw [if_pos hb]; rfl
    · rename_i z
      exact absurd e (z _ _ _ _)
  · rw [if_neg hb] at hc
    by_cases hb2 : bw d "across" 4 = true
    · rw [if_pos hb2] at hc
      obtain ⟨x,p,l,r,e,p1,p2⟩ := key _ hc
      obtain ⟨r',e',_⟩ := bw_row hb2
      rw [e] at e'
      cases e'
      refine ⟨false,p,l,r,e,p1,fun z => (by cases z),fun _ => p2,?_⟩
      rw [isT,if_pos hc']
      split
      · rename_i y p' l' r' e2
        rw [e] at e2
        cases e2
        rw [if_neg hb]; rfl
      · rename_i z
        exact absurd e (z _ _ _ _)
    · rw [if_neg hb2] at hc
      cases hc
structure Spot where
  x : Int
  y : Int
  w : Int
  h : Int
  d : PyData
def SpAt (p : Addr) (H0 H : Hp) (v : V) (t : Spot) : Prop := ∃ a u,v = .ref a ∧ H a = some (.tup [.int t.x,.int t.y,.int t.w,.int t.h,u]) ∧ Dt p H0 u t.d
theorem SpAt.keep {p : Addr} {H0 H H' : Hp} (k : ∀ a xs,H a = some (.tup xs) → H' a = some (.tup xs)) {v : V} {t : Spot} (h : SpAt p H0 H v t) : SpAt p H0 H' v t := by
  obtain ⟨a,u,e,h1,h2⟩ := h
  exact ⟨a,u,e,k _ _ h1,h2⟩
def spsz (ts : List Spot) : Nat := (ts.map fun t => wt t.d).sum
theorem spsz_app (a b : List Spot) : spsz (a ++ b) = spsz a + spsz b := by unfold spsz; rw [List.map_append,List.sum_append]
theorem spsz_len : ∀ ts : List Spot,ts.length ≤ spsz ts
  | [] => Nat.le_refl _
  | t :: r => by
    have := spsz_len r
    have := wtpos t.d
    show r.length + 1 ≤ wt t.d + spsz r
    omega
theorem rowOf_two {d x y l r : PyData} (h : rowOf d = some [x,y,l,r]) : wt l + wt r < wt d := by
  cases d <;> simp only [rowOf,Option.some.injEq,reduceCtorEq] at h
  · subst h; simp only [wt,wts]; omega
  · subst h; simp only [wt,wts]; omega
theorem snocP {α β : Type} {R : α → β → Prop} {x : α} : ∀ {xs : List α} {zs : List β},Paired R (xs ++ [x]) zs → ∃ ys y,zs = ys ++ [y] ∧ Paired R xs ys ∧ R x y
  | [],zs,h => by
    cases h with
    | cons a t => cases t; exact ⟨[],_,rfl,.nil,a⟩
  | z :: xs,zs,h => by
    cases h with
    | cons a t =>
      obtain ⟨ys,y,rfl,p,r⟩ := snocP t
      exact ⟨_ :: ys,y,rfl,.cons a p,r⟩
theorem appP {α β : Type} {R : α → β → Prop} : ∀ {xs : List α} {ys : List β} {xs' : List α} {ys' : List β},Paired R xs ys → Paired R xs' ys' → Paired R (xs ++ xs') (ys ++ ys')
  | _,_,_,_,.nil,h => h
  | _,_,_,_,.cons a t,h => .cons a (appP t h)
section
variable {P : Program} {w : World} {K : PySem.W.Frag} {mg : Str → Option Value} {base : Heap}
def spCP : Sp := fun vs H Q _ => ∃ (w h : Int),vs = [.int w,.int h] ∧ 1 ≤ w ∧ 1 ≤ h ∧ Q .non H
def spIsTree (C : Addr) : Sp := fun vs H Q _ => ∃ (pp s : Addr) (b w h : Int) (ks : List Kd) (v : V) (d : PyData),vs = [.ref s,.int w,.int h,v] ∧ ShopAt C H s b ks ∧ 1 ≤ w ∧ 1 ≤ h ∧ Dt pp H v d ∧ wt d ≤ 30000 ∧ ∀ H',Same H H' → Q (.bl (isT b ks w h d)) H'
theorem sccplate : FnScope ["wide","high"] ["wide","high"] (defScope sCheckPlate) := ⟨rfl,rfl,rfl,by decide +kernel,rfl,by decide +kernel,by decide +kernel⟩
theorem ok_cplate {f : Addr} {fd : FuncData} (F : Fun K "check_plate" "check_plate" sCheckPlate f fd) (DW : Dn P w K mg base "is_whole" ["thing","least"] 1 (spWhole K)) : FnOk P w K mg base CX0 2 f fd ["wide","high"] (spCP) := by
  refine F.ok sccplate (fun vs H Q E h => ?_) (fun cdv A outer s H vs Q E hr h => ?_)
  · obtain ⟨w1,h1,rfl,_⟩ := h
    rfl
  obtain ⟨w1,h1,rfl,w0,h0,q⟩ := h
  have nd := sccplate.nd
  refine ⟨_,(@pss_one _ _ _ (@ps_if _ _ _ _ _ _ _ _ (PW.pt (pw_or (@pt_not _ _ _ _ (@pt_val _ _ _ (@pe_cD _ _ _ _ _ _ _ _ _ _ DW hr rfl (@pa_cons _ _ _ _ _ (pv 0) (@pa_cons _ _ _ _ _ pe_int pa_nil rfl) rfl) (by decide) rfl rfl) (by intro _; rfl))) (pw_or1 (@pt_not _ _ _ _ (@pt_val _ _ _ (@pe_cD _ _ _ _ _ _ _ _ _ _ DW hr rfl (@pa_cons _ _ _ _ _ (pv 1) (@pa_cons _ _ _ _ _ pe_int pa_nil rfl) rfl) (by decide) rfl rfl) (by intro _; rfl)))))) (@pss_one _ _ _ ps_never) pss_nil)),?_⟩
  refine ⟨_,rfl,.int w1,"int",1,rfl,Ty.int,_,rfl,?_⟩
  rw [show whole (.int w1) 1 = true from decide_eq_true w0]
  refine iteF ⟨_,rfl,.int h1,"int",1,rfl,Ty.int,_,rfl,?_⟩
  rw [show whole (.int h1) 1 = true from decide_eq_true h0]
  exact iteF q
theorem scistree : FnScope ["shop","wide","high","thing","blade","waiting","spot"] ["shop","wide","high","thing"] (defScope sIsTree) := ⟨rfl,rfl,rfl,by decide +kernel,rfl,by decide +kernel,by decide +kernel⟩
theorem ok_istree {f C : Addr} {fd : FuncData} (F : Fun K "is_tree" "is_tree" sIsTree f fd) (T : ShopTxt K C) (MB : Mn P w K mg base C "blade" ["self"] 1 (spBlade C)) (DCP : Dn P w K mg base "check_plate" ["wide","high"] 2 (spCP)) (DC : Dn P w K mg base "is_cut" ["blade","spot"] 3 (spCut)) (DF : Dn P w K mg base "is_leaf" ["shop","spot"] 5 (spLeaf C)) (DS : Dn P w K mg base "spots_behind" ["blade","spot"] 2 (spBehind)) : FnOk P w K mg base CX0 6 f fd ["shop","wide","high","thing"] (spIsTree C) := by
  refine F.ok scistree (fun vs H Q E h => ?_) (fun cdv A outer s H vs Q E hr h => ?_)
  · obtain ⟨pp,s,b,w1,h1,ks,v,d,rfl,_⟩ := h
    rfl
  obtain ⟨pp,s,b,w1,h1,ks,v,d,rfl,S,w0,h0,hd,dz,q⟩ := h
  have nd := scistree.nd
  have hr1 := hr.mono (show 1 ≤ 5 by decide)
  have hr2 := hr.mono (show 2 ≤ 5 by decide)
  have hr3 := hr.mono (show 3 ≤ 5 by decide)
  refine ⟨_,(@pss_cons _ _ _ _ _ (@ps_expr _ _ _ _ (@pe_cD _ _ _ _ _ _ _ _ _ _ DCP hr2 rfl (@pa_cons _ _ _ _ _ (pv 1) (@pa_cons _ _ _ _ _ (pv 2) pa_nil rfl) rfl) (by decide) rfl rfl) rfl) (@pss_cons _ _ _ _ _ (@ps_set _ _ 4 _ _ _ _ nd rfl (Or.inl rfl) (pe_mD0 (pv 0) T.cl MB hr1) rfl (Or.inl rfl)) (@pss_cons _ _ _ _ _ (@ps_set _ _ 5 _ _ _ _ nd rfl (Or.inl rfl) (@pe_lst _ _ _ _ (@pa_cons _ _ _ _ _ (@pe_tup _ _ _ _ _ (@pa_cons _ _ _ _ _ pe_int (@pa_cons _ _ _ _ _ pe_int (@pa_cons _ _ _ _ _ (pv 1) (@pa_cons _ _ _ _ _ (pv 2) (@pa_cons _ _ _ _ _ (pv 3) pa_nil rfl) rfl) rfl) rfl) rfl)) pa_nil rfl)) rfl (Or.inl rfl)) (@pss_cons _ _ _ _ _ (ps_while PassesOwn.never (pt_truth (pv 5) (fun _ => rfl)) (@pss_cons _ _ _ _ _ (@ps_set _ _ 6 _ _ _ _ nd rfl (Or.inl rfl) (pe_bm0 PySem.F.plainAttrs_list PySem.F.slot_list_pop PySem.F.type_list_pop mt_pop (pv 5)) rfl (Or.inl rfl)) (@pss_one _ _ _ (@ps_if _ _ _ _ _ _ _ _ (@pt_val _ _ _ (@pe_cD _ _ _ _ _ _ _ _ _ _ DC hr3 rfl (@pa_cons _ _ _ _ _ (pv 4) (@pa_cons _ _ _ _ _ (pv 6) pa_nil rfl) rfl) (by decide) rfl rfl) (by intro _; rfl)) (@pss_one _ _ _ (@ps_expr _ _ _ _ (@pe_bm _ _ _ _ _ _ _ _ _ _ _ _ PySem.F.plainAttrs_list PySem.F.slot_list_extend PySem.F.type_list_extend mt_extend (pv 5) (@pa_cons _ _ _ _ _ (@pe_cD _ _ _ _ _ _ _ _ _ _ DS hr2 rfl (@pa_cons _ _ _ _ _ (pv 4) (@pa_cons _ _ _ _ _ (pv 6) pa_nil rfl) rfl) (by decide) rfl rfl) pa_nil rfl) rfl rfl rfl rfl rfl) rfl)) (@pss_one _ _ _ (@ps_if _ _ _ _ _ _ _ _ (@pt_not _ _ _ _ (@pt_val _ _ _ (@pe_cD _ _ _ _ _ _ _ _ _ _ DF hr rfl (@pa_cons _ _ _ _ _ (pv 0) (@pa_cons _ _ _ _ _ (pv 6) pa_nil rfl) rfl) (by decide) rfl rfl) (by intro _; rfl))) (@pss_one _ _ _ (@ps_ret _ _ _ _ pe_bl)) pss_nil)))))) (@pss_one _ _ _ (@ps_ret _ _ _ _ pe_bl)))))),?_⟩
  have sz : (40000 : Nat) ≤ sizeLine := by decide
  refine ⟨_,rfl,_,rfl,w1,h1,rfl,w0,h0,?_⟩
  obtain ⟨dx,r,rs,S1,S2,S3⟩ := id S
  refine ⟨_,rfl,s,dx,_,rfl,S1,(flds_no _ _ (by decide +kernel) (by decide +kernel)),s,b,ks,rfl,S,?_⟩
  refine ⟨_,rfl,_,rfl,_,rfl,(by show 5 ≤ sizeLine; decide),fun t ht => ?_⟩
  have sa : Same H (upd H t (.tup [.int 0,.int 0,.int w1,.int h1,v])) := Same.new ht
  have ka : (upd H t (.tup [.int 0,.int 0,.int w1,.int h1,v])) t = some (.tup [.int 0,.int 0,.int w1,.int h1,v]) := upd_same
  generalize upd H t (.tup [.int 0,.int 0,.int w1,.int h1,v]) = Ha at sa ka ⊢
  refine ⟨(by show 1 ≤ sizeLine; decide),fun wl hwl => ?_⟩
  have sb : Same Ha (upd Ha wl (.lst [.ref t])) := Same.new hwl
  have kb : (upd Ha wl (.lst [.ref t])) wl = some (.lst [.ref t]) := upd_same
  generalize upd Ha wl (.lst [.ref t]) = Hb at sb kb ⊢
  have fw : H wl = none := sa.free hwl
  have sab := sa.trans sb
  refine ⟨fun m σ H' => ∃ (vs : List V) (ts : List Spot) (v6 : Option V),σ = [some (.ref s),some (.int w1),some (.int h1),some v,some (.int b),some (.ref wl),v6] ∧ m = spsz ts ∧ H' wl = some (.lst vs) ∧ Paired (SpAt pp H H') vs ts ∧ spsz ts ≤ 30000 ∧ isT b ks w1 h1 d = ts.all (fun t => isT b ks t.w t.h t.d) ∧ Same H H',⟨_,[.ref t],[⟨0,0,w1,h1,d⟩],none,rfl,rfl,kb,.cons ⟨t,v,rfl,sb _ _ ka,hd⟩ .nil,by show wt d + 0 ≤ 30000; omega,by rw [List.all_cons,List.all_nil,Bool.and_true],sab⟩,?_⟩
  rintro m σ H1 ⟨vs,ts,v6,rfl,rfl,hw,pr,sz1,al,s1⟩
  refine ⟨_,rfl,_,.inl ⟨vs,SqL.of hw,rfl⟩,?_⟩
  rcases List.eq_nil_or_concat vs with rfl | ⟨vs',v0,rfl⟩
  · have ets : ts = [] := by
      have := Paired.length pr
      cases ts with
      | nil => rfl
      | cons _ _ => simp at this
    subst ets
    have q1 := q H1 s1
    rw [al] at q1
    exact iteF q1
  rw [List.concat_eq_append] at pr hw ⊢
  obtain ⟨ts',t0,rfl,prp,⟨sp,u,rfl,hsp,hdu⟩⟩ := snocP pr
  rw [show (!(vs' ++ [V.ref sp]).isEmpty) = true by cases vs' <;> rfl]
  have ssz : spsz (ts' ++ [t0]) = spsz ts' + wt t0.d := by rw [spsz_app]; show _ + (wt t0.d + 0) = _; omega
  rw [ssz] at sz1 ⊢
  refine iteT ⟨fun σ' H' => ∃ (vs : List V) (ts : List Spot) (v6 : Option V),σ' = [some (.ref s),some (.int w1),some (.int h1),some v,some (.int b),some (.ref wl),v6] ∧ spsz ts < spsz ts' + wt t0.d ∧ H' wl = some (.lst vs) ∧ Paired (SpAt pp H H') vs ts ∧ spsz ts ≤ 30000 ∧ isT b ks w1 h1 d = ts.all (fun t => isT b ks t.w t.h t.d) ∧ Same H H',fun σ' H' ⟨vs,ts,v6,e,l,r⟩ => ⟨_,l,vs,ts,v6,e,rfl,r⟩,?_⟩
  rw [List.all_append,List.all_cons,List.all_nil,Bool.and_true] at al
  have ml : (vs' ++ [V.ref sp]).length = vs'.length + 1 := by rw [List.length_append]; rfl
  have keep : ∀ {Hx : Hp} {o : HO},Same H Hx → Same H (upd Hx wl o) := fun {Hx o} sx c oo e => by
    rw [upd_ne (fun z => by rw [z,fw] at e; cases e)]
    exact sx _ _ e
  refine seqCut (fun σ' H' => σ' = [some (.ref s),some (.int w1),some (.int h1),some v,some (.int b),some (.ref wl),some (.ref sp)] ∧ H' wl = some (.lst vs') ∧ Paired (SpAt pp H H') vs' ts' ∧ H' sp = some (.tup [.int t0.x,.int t0.y,.int t0.w,.int t0.h,u]) ∧ Same H H') (fun R hR => ?_) ?_
  · refine ⟨_,rfl,.inl ⟨rfl,_,SqL.of hw⟩,wl,_,.ref sp,rfl,rfl,hw,(by rw [ml]; simp),?_⟩
    rw [List.dropLast_concat]
    have kt : ∀ {c : Addr} {xs : List V},H1 c = some (.tup xs) → (upd H1 wl (.lst vs')) c = some (.tup xs) := fun {c xs} e => by
      rw [upd_ne (fun z => by rw [z,hw] at e; cases e)]; exact e
    exact hR _ _ ⟨rfl,upd_same,Paired.mapP prp fun v t h => h.keep fun a xs e => kt e,kt hsp,keep s1⟩
  rintro _ H2 ⟨rfl,hw2,pr2,hsp2,s2⟩
  refine ⟨_,rfl,_,rfl,pp,b,t0.x,t0.y,t0.w,t0.h,sp,u,t0.d,rfl,hsp2,hdu.same s2,fun H3 s3 => ⟨_,rfl,?_⟩⟩
  have s03 := s2.trans s3
  refine ite2 (fun hc => ?_) (fun hc => ?_)
  · obtain ⟨dn,p,l,r,er,p1,pw,ph,eT⟩ := isT_cut (ks := ks) hc
    obtain ⟨a,xs,rfl,hx,dxs⟩ := hdu.ref_row er
    cases dxs with
    | @cons x0 _ xs0 _ hd0 dxs =>
    cases dxs with
    | @cons x1 _ xs1 _ hd1 dxs =>
    cases dxs with
    | @cons lv _ xs2 _ hdl dxs =>
    cases dxs with
    | @cons rv _ xs3 _ hdr dxs =>
    cases dxs
    cases hd0
    cases hd1
    refine ⟨_,rfl,.inl ⟨rfl,_,SqL.of (s3 _ _ hw2)⟩,_,rfl,_,rfl,?_⟩
    refine ⟨b,t0.x,t0.y,t0.w,t0.h,p,sp,a,dn,lv,rv,rfl,s3 _ _ hsp2,hx.imp (s03 _ _) (s03 _ _),fun lu t1 t2 H4 hlu ku k1 k2 s4 => ?_⟩
    have hw4 := s4 _ _ (s3 _ _ hw2)
    have pl := Paired.length pr2
    have sl := spsz_len ts'
    have two := rowOf_two er
    refine ⟨wl,lu,_,_,rfl,rfl,hw4,ku,by show _ + 2 ≤ _; omega,?_⟩
    have kt : ∀ {c : Addr} {xs : List V},H4 c = some (.tup xs) → (upd H4 wl (.lst (vs' ++ [.ref t1,.ref t2]))) c = some (.tup xs) := fun {c xs} e => by
      rw [upd_ne (fun z => by rw [z,hw4] at e; cases e)]; exact e
    have pr4 : Paired (SpAt pp H (upd H4 wl (.lst (vs' ++ [.ref t1,.ref t2])))) vs' ts' := Paired.mapP pr2 fun v t h => h.keep fun a xs e => kt (s4 _ _ (s3 _ _ e))
    cases dn with
    | true =>
      have k1 : H4 t1 = some (.tup [.int t0.x,.int t0.y,.int p,.int t0.h,lv]) := k1
      have k2 : H4 t2 = some (.tup [.int (t0.x + (p + b)),.int t0.y,.int (t0.w - p - b),.int t0.h,rv]) := k2
      refine ⟨vs' ++ [.ref t1,.ref t2],ts' ++ [⟨t0.x,t0.y,p,t0.h,l⟩,⟨t0.x + (p + b),t0.y,t0.w - p - b,t0.h,r⟩],_,rfl,?_,upd_same,appP pr4 (.cons ⟨t1,lv,rfl,kt k1,hdl⟩ (.cons ⟨t2,rv,rfl,kt k2,hdr⟩ .nil)),?_,?_,keep (s03.trans s4)⟩
      · rw [spsz_app]; show _ + (wt l + (wt r + 0)) < _; omega
      · rw [spsz_app]; show _ + (wt l + (wt r + 0)) ≤ _; omega
      · rw [al,eT,List.all_append]
        simp only [if_true,List.all_cons,List.all_nil,Bool.and_true]
    | false =>
      have k1 : H4 t1 = some (.tup [.int t0.x,.int t0.y,.int t0.w,.int p,lv]) := k1
      have k2 : H4 t2 = some (.tup [.int t0.x,.int (t0.y + (p + b)),.int t0.w,.int (t0.h - p - b),rv]) := k2
      refine ⟨vs' ++ [.ref t1,.ref t2],ts' ++ [⟨t0.x,t0.y,t0.w,p,l⟩,⟨t0.x,t0.y + (p + b),t0.w,t0.h - p - b,r⟩],_,rfl,?_,upd_same,appP pr4 (.cons ⟨t1,lv,rfl,kt k1,hdl⟩ (.cons ⟨t2,rv,rfl,kt k2,hdr⟩ .nil)),?_,?_,keep (s03.trans s4)⟩
      · rw [spsz_app]; show _ + (wt l + (wt r + 0)) < _; omega
      · rw [spsz_app]; show _ + (wt l + (wt r + 0)) ≤ _; omega
      · rw [al,eT,List.all_append]
        simp only [Bool.false_eq_true,if_false,List.all_cons,List.all_nil,Bool.and_true]
  · have hc : isC b t0.w t0.h t0.d = false := by simpa using hc
    have lf := isT_leaf (ks := ks) hc
    refine ⟨_,rfl,_,rfl,pp,b,t0.x,t0.y,t0.w,t0.h,s,sp,ks,u,t0.d,rfl,shopS s03 S,s3 _ _ hsp2,hdu.same s03,fun H4 s4 => ⟨_,rfl,?_⟩⟩
    have s04 := s03.trans s4
    have sp0 := wtpos t0.d
    cases hl : isL ks t0.w t0.h t0.d with
    | true =>
      rw [lf,hl,Bool.and_true] at al
      exact iteF ⟨vs',ts',_,rfl,by omega,s4 _ _ (s3 _ _ hw2),Paired.mapP pr2 fun v t h => h.keep fun a xs e => s4 _ _ (s3 _ _ e),by omega,al,s04⟩
    | false =>
      rw [lf,hl,Bool.and_false] at al
      have q1 := q H4 s04
      rw [al] at q1
      exact iteT q1
end
def fits (k : Kd) (c : Bool) (w h : Int) : Bool := decide (sd1 k c ≤ w) && decide (sd2 k c ≤ h)
def lainB (k : Kd) : List Bool := if turnable k = true then [false,true] else [false]
inductive Tr where
  | rest
  | piece (i : Nat) (c : Bool) (x y : Int)
  | cut (dn : Bool) (p : Int) (l r : Tr)
def toD : Tr → PyData
  | .rest => .tuple [.str "rest"]
  | .piece i c x y => .tuple [.str "piece",.int i,.bool c,.int x,.int y]
  | .cut dn p l r => .tuple [.str (if dn = true then "down" else "across"),.int p,toD l,toD r]
def lvN : Tr → Nat
  | .cut _ _ l r => lvN l + lvN r
  | _ => 1
theorem toD_dep : ∀ t : Tr,1 ≤ (toD t).depth
  | .rest => by decide +kernel
  | .piece .. => by show 1 ≤ PyData.depthAll _ + 1; omega
  | .cut .. => by show 1 ≤ PyData.depthAll _ + 1; omega
def TrV (H : Hp) : Tr → V → Prop
  | .rest,v => ∃ a,v = .ref a ∧ H a = some (.tup [.str "rest"])
  | .piece i c x y,v => ∃ a,v = .ref a ∧ H a = some (.tup [.str "piece",.int i,.bl c,.int x,.int y])
  | .cut dn p l r,v => ∃ a x y,v = .ref a ∧ H a = some (.tup [.str (if dn = true then "down" else "across"),.int p,x,y]) ∧ TrV H l x ∧ TrV H r y
theorem TrV.keep {H H' : Hp} (k : ∀ a xs,H a = some (.tup xs) → H' a = some (.tup xs)) : ∀ (t : Tr) {v : V},TrV H t v → TrV H' t v
  | .rest,_,⟨a,e,h⟩ => ⟨a,e,k _ _ h⟩
  | .piece ..,_,⟨a,e,h⟩ => ⟨a,e,k _ _ h⟩
  | .cut _ _ l r,_,⟨a,x,y,e,h,h1,h2⟩ => ⟨a,x,y,e,k _ _ h,TrV.keep k l h1,TrV.keep k r h2⟩
theorem TrV.dt {p : Addr} {H : Hp} : ∀ (t : Tr) {v : V},TrV H t v → Dt p H v (toD t)
  | .rest,_,⟨a,e,h⟩ => by subst e; exact .tup h (.cons (.str _) .nil)
  | .piece ..,_,⟨a,e,h⟩ => by subst e; exact .tup h (.cons (.str _) (.cons (.int _) (.cons (.bl _) (.cons (.int _) (.cons (.int _) .nil)))))
  | .cut _ _ l r,_,⟨a,x,y,e,h,h1,h2⟩ => by subst e; exact .tup h (.cons (.str _) (.cons (.int _) (.cons (TrV.dt l h1) (.cons (TrV.dt r h2) .nil))))
def okT (b : Int) (ks : List Kd) : Int → Int → Tr → Prop
  | _,_,.rest => True
  | w,h,.piece i c x y => ∃ k,ks[i]? = some k ∧ c ∈ lainB k ∧ 0 ≤ x ∧ 0 ≤ y ∧ x + sd1 k c ≤ w ∧ y + sd2 k c ≤ h
  | w,h,.cut dn p l r => 1 ≤ p ∧ (if dn = true then p + b < w ∧ okT b ks p h l ∧ okT b ks (w - p - b) h r else p + b < h ∧ okT b ks w p l ∧ okT b ks w (h - p - b) r)
theorem lain_ly {ks : List Kd} {i : Nat} {c : Bool} {k : Kd} (hk : ks[i]? = some k) (hc : c ∈ lainB k) : isLy ks (.int i) (.bl c) = true := by
  unfold isLy
  simp only [Int.toNat_natCast,hk]
  rw [decide_eq_true (show (0 : Int) ≤ i by omega),Bool.true_and]
  cases c with
  | false => rfl
  | true =>
    unfold lainB at hc
    cases t : turnable k with
    | true => rfl
    | false => rw [t] at hc; simp at hc
def But2 (p q : Addr) (H H' : Hp) : Prop := ∀ c o,c ≠ p → c ≠ q → H c = some o → H' c = some o
theorem But2.trans {p q : Addr} {H H' H'' : Hp} (a : But2 p q H H') (b : But2 p q H' H'') : But2 p q H H'' := fun c o n1 n2 e => b c o n1 n2 (a c o n1 n2 e)
theorem But2.but {p q : Addr} {H H' : Hp} (a : But p H H') : But2 p q H H' := fun c o n1 _ e => a c o n1 e
theorem bw_eq {d : PyData} {y : Str} {r : List PyData} (e : rowOf d = some (.str y :: r)) (z : Str) (n : Nat) : bw d z n = (decide (r.length + 1 = n) && decide (y = z)) := by
  unfold bw
  rw [e]
def pcD (ks : List Kd) (w h : Int) : List PyData → Bool
  | [k,t,x,y] => lieD ks w h k t x y
  | _ => false
theorem isT_other {b : Int} {ks : List Kd} {w h : Int} {d : PyData} {y : Str} {r : List PyData} (e : rowOf d = some (.str y :: r)) (h1 : (decide (y = "down")) = false) (h2 : (decide (y = "across")) = false) : isT b ks w h d = (if decide (y = "rest") = true then decide (r.length + 1 = 1) else if decide (y = "piece") = true then pcD ks w h r else false) := by
  have hc : isC b w h d = false := by
    unfold isC
    rw [bw_eq e,bw_eq e,h1,h2]
    simp only [Bool.and_false]
    rfl
  rw [isT_leaf hc]
  unfold isL
  rw [bw_eq e,bw_eq e,e]
  by_cases hr : y = "rest"
  · subst hr
    rw [show decide ((Str.ofString "rest") = (Str.ofString "piece")) = false by decide +kernel,Bool.and_false,if_neg Bool.false_ne_true,decide_eq_true (rfl : (Str.ofString "rest") = Str.ofString "rest"),if_pos rfl,Bool.and_true]
  · rw [decide_eq_false hr,if_neg Bool.false_ne_true]
    by_cases hp : y = "piece"
    · subst hp
      rw [decide_eq_true (rfl : (Str.ofString "piece") = Str.ofString "piece"),Bool.and_true,if_pos (rfl : true = true),Bool.and_false]
      match r with
      | [] => rfl
      | [_] => rfl
      | [_,_] => rfl
      | [_,_,_] => rfl
      | [_,_,_,_] => rfl
      | _ :: _ :: _ :: _ :: _ :: r => simp [pcD]
    · rw [decide_eq_false hp,Bool.and_false,Bool.and_false,if_neg Bool.false_ne_true,if_neg Bool.false_ne_true]
theorem isT_way {b : Int} {ks : List Kd} {w h : Int} {d : PyData} {dn : Bool} {r : List PyData} (e : rowOf d = some (.str (if dn = true then "down" else "across") :: r)) : isT b ks w h d = (match r with
    | [.int p,l,r'] => decide (1 ≤ p) && (if dn = true then decide (p + b < w) && (isT b ks p h l && isT b ks (w - p - b) h r') else decide (p + b < h) && (isT b ks w p l && isT b ks w (h - p - b) r'))
    | _ => false) := by
  have leafF : isC b w h d = false → isT b ks w h d = false := fun hc => by
    rw [isT_leaf hc]
    unfold isL
    rw [bw_eq e,bw_eq e]
    cases dn
    · rw [show decide ((if false = true then (Str.ofString "down") else Str.ofString "across") = Str.ofString "piece") = false by decide +kernel,show decide ((if false = true then (Str.ofString "down") else Str.ofString "across") = Str.ofString "rest") = false by decide +kernel,Bool.and_false,Bool.and_false,if_neg Bool.false_ne_true]
    · rw [show decide ((if true = true then (Str.ofString "down") else Str.ofString "across") = Str.ofString "piece") = false by decide +kernel,show decide ((if true = true then (Str.ofString "down") else Str.ofString "across") = Str.ofString "rest") = false by decide +kernel,Bool.and_false,Bool.and_false,if_neg Bool.false_ne_true]
  cases hc : isC b w h d with
  | false =>
    rw [leafF hc]
    split
    · rename_i p l r' e
      unfold isC at hc
      rw [bw_eq e,bw_eq e] at hc
      cases dn
      · rw [show decide ((if false = true then (Str.ofString "down") else Str.ofString "across") = Str.ofString "down") = false by decide +kernel,show decide ((if false = true then (Str.ofString "down") else Str.ofString "across") = Str.ofString "across") = true by decide +kernel] at hc
        unfold cutOk at hc
        rw [e] at hc
        have hc : (decide (1 ≤ p) && decide (p + b < h)) = false := hc
        rw [if_neg Bool.false_ne_true,← Bool.and_assoc,hc,Bool.false_and]
      · rw [show decide ((if true = true then (Str.ofString "down") else Str.ofString "across") = Str.ofString "down") = true by decide +kernel] at hc
        unfold cutOk at hc
        rw [e] at hc
        have hc : (decide (1 ≤ p) && decide (p + b < w)) = false := hc
        rw [if_pos rfl,← Bool.and_assoc,hc,Bool.false_and]
    · rfl
  | true =>
    obtain ⟨dn',p,l,r',e',p1,pw,ph,eT⟩ := isT_cut (ks := ks) hc
    rw [e] at e'
    have hdn : dn = dn' := by
      have := PyData.str.inj (List.cons.inj (Option.some.inj e')).1
      cases dn <;> cases dn' <;> first | rfl | exact absurd this (by decide +kernel)
    subst hdn
    cases e'
    rw [eT]
    cases dn
    · simp only [Bool.false_eq_true,if_false]
      rw [decide_eq_true p1,decide_eq_true (ph rfl)]; rfl
    · simp only [if_true]
      rw [decide_eq_true p1,decide_eq_true (pw rfl)]; rfl
def TrD : Tr → PyData → Prop
  | .rest,d => rowOf d = some [.str "rest"]
  | .piece i c x y,d => rowOf d = some [.str "piece",.int i,.bool c,.int x,.int y]
  | .cut dn p l r,d => ∃ dl dr,rowOf d = some [.str (if dn = true then "down" else "across"),.int p,dl,dr] ∧ TrD l dl ∧ TrD r dr
theorem TrD.to : ∀ t : Tr,TrD t (toD t)
  | .rest => rfl
  | .piece .. => rfl
  | .cut _ _ l r => ⟨toD l,toD r,rfl,TrD.to l,TrD.to r⟩
theorem TrD.good {b : Int} {ks : List Kd} : ∀ (t : Tr) (d : PyData) (w h : Int),TrD t d → okT b ks w h t → isT b ks w h d = true
  | .rest,d,w,h,e,_ => by
    have e : rowOf d = some (.str "rest" :: []) := e
    rw [isT_other e (by decide +kernel) (by decide +kernel),if_pos (by decide +kernel)]; rfl
  | .piece i c x y,d,w,h,e,⟨k,hk,hc,x0,y0,hx,hy⟩ => by
    have e : rowOf d = some (.str "piece" :: [.int i,.bool c,.int x,.int y]) := e
    rw [isT_other e (by decide +kernel) (by decide +kernel),if_neg (by decide +kernel),if_pos (by decide +kernel)]
    show lieV ks w h (.int i) (.bl c) (.int x) (.int y) = true
    unfold lieV
    rw [lain_ly hk hc]
    simp only [Int.toNat_natCast,hk]
    rw [show whole (.int x) 0 = true from decide_eq_true x0,show whole (.int y) 0 = true from decide_eq_true y0,decide_eq_true hx,decide_eq_true hy]
    rfl
  | .cut true p l r,d,w,h,⟨dl,dr,e,tl,tr⟩,⟨p1,hp,hl,hr⟩ => by
    have eT : isT b ks w h d = (decide (1 ≤ p) && (decide (p + b < w) && (isT b ks p h dl && isT b ks (w - p - b) h dr))) := isT_way (dn := true) (r := [.int p,dl,dr]) e
    rw [eT,decide_eq_true p1,decide_eq_true hp,TrD.good l dl p h tl hl,TrD.good r dr _ h tr hr]; rfl
  | .cut false p l r,d,w,h,⟨dl,dr,e,tl,tr⟩,⟨p1,hp,hl,hr⟩ => by
    have eT : isT b ks w h d = (decide (1 ≤ p) && (decide (p + b < h) && (isT b ks w p dl && isT b ks w (h - p - b) dr))) := isT_way (dn := false) (r := [.int p,dl,dr]) e
    rw [eT,decide_eq_true p1,decide_eq_true hp,TrD.good l dl w p tl hl,TrD.good r dr w _ tr hr]; rfl
structure Lf where
  x : Int
  y : Int
  w : Int
  h : Int
  t : Tr
def lvs (b : Int) : Tr → Int → Int → Int → Int → List Lf
  | .cut true p l r,x,y,w,h => lvs b r (x + (p + b)) y (w - p - b) h ++ lvs b l x y p h
  | .cut false p l r,x,y,w,h => lvs b r x (y + (p + b)) w (h - p - b) ++ lvs b l x y w p
  | .rest,x,y,w,h => [⟨x,y,w,h,.rest⟩]
  | .piece i c u v,x,y,w,h => [⟨x,y,w,h,.piece i c u v⟩]
def szT : Tr → Nat
  | .cut _ _ l r => szT l + szT r + 1
  | _ => 1
def LfAt (p : Addr) (H0 H : Hp) (v : V) (t : Lf) : Prop := ∃ a u d,v = .ref a ∧ H a = some (.tup [.int t.x,.int t.y,.int t.w,.int t.h,u]) ∧ Dt p H0 u d ∧ TrD t.t d
def lsz (ts : List Lf) : Nat := (ts.map fun t => szT t.t).sum
theorem szpos (t : Tr) : 1 ≤ szT t := by cases t <;> simp only [szT] <;> omega
def allL (b : Int) (ts : List Lf) : List Lf := ts.reverse.flatMap fun t => lvs b t.t t.x t.y t.w t.h
mutual
theorem Dt.fresh {p q : Addr} {H : Hp} (hq : H q = none) : ∀ {v : V} {d : PyData},Dt p H v d → Dt q H v d
  | _,_,.non => .non
  | _,_,.bl b => .bl b
  | _,_,.int i => .int i
  | _,_,.str z => .str z
  | _,_,.lst n h r => .lst (ne_of_none h hq) h (r.fresh hq)
  | _,_,.tup h r => .tup h (r.fresh hq)
  | _,_,.emp h => .emp h
theorem Dts.fresh {p q : Addr} {H : Hp} (hq : H q = none) : ∀ {vs : List V} {ds : List PyData},Dts p H vs ds → Dts q H vs ds
  | _,_,.nil => .nil
  | _,_,.cons a r => .cons (a.fresh hq) (r.fresh hq)
end
theorem depth_mem {x : PyData} : ∀ {ds : List PyData},x ∈ ds → x.depth ≤ PyData.depthAll ds
  | d :: r,h => by
    rw [PyData.depthAll]
    rcases List.mem_cons.mp h with h | h
    · rw [h]; omega
    · have := depth_mem h; omega
theorem made_same {C x dx : Addr} {H : Hp} (hx : H x = none) (hd : H dx = none) : Same H (upd (upd H dx (.own x)) x (.ins C dx [])) := fun c o e => by
  rw [upd_ne (ne_of_none e hx),upd_ne (ne_of_none e hd)]; exact e
def dpT : Tr → Nat
  | .cut _ _ l r => max (dpT l) (dpT r) + 1
  | _ => 0
theorem potL {H : Hp} {p : Addr} (h : PotB H p) : ∃ xs,H p = some (.lst xs) := by
  obtain ⟨_,_,_,_,_,e⟩ := h
  exact ⟨_,e⟩
theorem tupsB {p : Addr} {rs : List V} {ks : List Kd} {H H' : Hp} (b : But p H H') (pt : PotB H p) (h : Tups H rs ks) : Tups H' rs ks := by
  obtain ⟨_,hp⟩ := potL pt
  exact Tups.keep (fun x xs e => b _ _ (fun z => by rw [z,hp] at e; cases e) e) h
section
variable {P : Program} {w : World} {K : PySem.W.Frag} {mg : Str → Option Value} {base : Heap}
def spGreatM : Sp := fun vs H Q _ => ∃ (p : Addr) (m : Int),vs = [.ref p,.int m] ∧ PotB H p ∧ 0 < m ∧ m ≤ 10 ^ 60 ∧ ∀ (r : Int) (H' : Hp),0 ≤ r → r < m → PotB H' p → But p H H' → Q (.int r) H'
def spSideB : Sp := fun vs H Q _ => ∃ (p : Addr),vs = [.ref p] ∧ PotB H p ∧ ∀ (r : Int) (H' : Hp),1 ≤ r → r < 10 ^ 60 → PotB H' p → But p H H' → Q (.int r) H'
theorem scpot : FnScope ["_law_cell"] ["_law_cell"] (defScope sPot) := ⟨rfl,rfl,rfl,by decide +kernel,rfl,by decide +kernel,by decide +kernel⟩
theorem ok_pot {f : Addr} {fd : FuncData} (F : Fun K "_law_pot" "_law_pot" sPot f fd) (B : Blt mg) : FnOk P w K mg base CX0 1 f fd ["_law_cell"] (spPotB) := by
  refine F.ok scpot (fun vs H Q E h => ?_) (fun cdv A outer s H vs Q E hr h => ?_)
  · obtain ⟨c,rfl,_⟩ := h
    rfl
  obtain ⟨c,rfl,q⟩ := h
  have nd := scpot.nd
  refine ⟨_,(@pss_one _ _ _ (@ps_ret _ _ _ _ (@pe_lst _ _ _ _ (@pa_cons _ _ _ _ _ (@pe_callB _ _ _ _ _ _ _ _ _ (call_max2 rfl) rfl B.max PyProof.Rows.boot_max (@pa_cons _ _ _ _ _ pe_int (@pa_cons _ _ _ _ _ (@pe_op _ _ _ _ _ _ _ _ op_sub (pv 0) (@pe_op _ _ _ _ _ _ _ _ op_pow pe_int pe_int)) pa_nil rfl) rfl) (by decide) (by decide) rfl rfl) (@pa_cons _ _ _ _ _ (@pe_op _ _ _ _ _ _ _ _ op_add (@pe_op _ _ _ _ _ _ _ _ op_mod (@pe_callB _ _ _ _ _ _ _ _ _ call_abs rfl B.abs PyProof.Rows.boot_abs (@pa_cons _ _ _ _ _ (pv 0) pa_nil rfl) (by decide) (by decide) rfl rfl) pe_int) pe_int) pa_nil rfl) rfl)))),?_⟩
  refine ⟨_,rfl,_,_,rfl,rfl,⟨by decide,by decide,by decide⟩,_,_,rfl,rfl,_,_,rfl,_,rfl,_,rfl,_,_,rfl,rfl,(by show (0 : Int) < 2147483629; decide),_,_,rfl,rfl,(by show 2 ≤ sizeLine; decide),fun p hp => ?_⟩
  refine q p _ hp ⟨_,_,?_,?_,?_,upd_same⟩ (Same.new hp)
  · split <;> omega
  · have := Int.emod_nonneg (if c < 0 then -c else c) (show (2147483629 : Int) ≠ 0 by decide)
    omega
  · have := Int.emod_lt_of_pos (if c < 0 then -c else c) (show (0 : Int) < 2147483629 by decide)
    omega
theorem scdraw : FnScope ["_law_pot_here","_law_many","_law_number"] ["_law_pot_here","_law_many"] (defScope sDraw) := ⟨rfl,rfl,rfl,by decide +kernel,rfl,by decide +kernel,by decide +kernel⟩
theorem ok_draw {f : Addr} {fd : FuncData} (F : Fun K "_law_draw" "_law_draw" sDraw f fd) (B : Blt mg) : FnOk P w K mg base CX0 1 f fd ["_law_pot_here","_law_many"] (spDrawB) := by
  refine F.ok scdraw (fun vs H Q E h => ?_) (fun cdv A outer s H vs Q E hr h => ?_)
  · obtain ⟨p,m,rfl,_⟩ := h
    rfl
  obtain ⟨p,m,rfl,⟨a,b,a0,b0,b1,hp⟩,m0,m1,q⟩ := h
  have nd := scdraw.nd
  refine ⟨_,(@pss_cons _ _ _ _ _ (@ps_if _ _ _ _ _ _ _ _ (@pt_cmpR _ _ _ _ _ _ _ _ op_gt (@pe_ix _ _ _ _ _ _ _ ix_list (pv 0) pe_int (fun _ _ => rfl)) pe_int (nomark _)) (@pss_cons _ _ _ _ _ (@ps_set _ _ 2 _ _ _ _ nd rfl (Or.inl rfl) (@pe_op _ _ _ _ _ _ _ _ op_mod (@pe_ix _ _ _ _ _ _ _ ix_list (pv 0) pe_int (fun _ _ => rfl)) (pv 1)) rfl (Or.inl rfl)) (@pss_cons _ _ _ _ _ (@ps_asg _ _ _ _ _ _ (@pe_op _ _ _ _ _ _ _ _ op_fdivB (@pe_ix _ _ _ _ _ _ _ ix_list (pv 0) pe_int (fun _ _ => rfl)) (pv 1)) (pg_sub (pv 0) pe_int set_list) rfl rfl rfl) (@pss_one _ _ _ (@ps_ret _ _ _ _ (pv 2))))) pss_nil) (@pss_cons _ _ _ _ _ (@ps_asg _ _ _ _ _ _ (@pe_op _ _ _ _ _ _ _ _ op_mod (@pe_op _ _ _ _ _ _ _ _ op_mul (@pe_ix _ _ _ _ _ _ _ ix_list (pv 0) pe_int (fun _ _ => rfl)) pe_int) pe_int) (pg_sub (pv 0) pe_int set_list) rfl rfl rfl) (@pss_one _ _ _ (@ps_ret _ _ _ _ (@pe_op _ _ _ _ _ _ _ _ op_mod (@pe_op _ _ _ _ _ _ _ _ op_fdivB (@pe_op _ _ _ _ _ _ _ _ op_mod (@pe_op _ _ _ _ _ _ _ _ op_mul (@pe_ix _ _ _ _ _ _ _ ix_list (pv 0) pe_int (fun _ _ => rfl)) (@pe_ix _ _ _ _ _ _ _ ix_list (pv 0) pe_int (fun _ _ => rfl))) pe_int) pe_int) (pv 1)))))),?_⟩
  have at0 : atI [V.int a,V.int b] 0 = some (.int a) := rfl
  have at1 : atI [V.int a,V.int b] 1 = some (.int b) := rfl
  refine ⟨_,rfl,p,_,_,_,rfl,rfl,SqL.of hp,at0,_,_,rfl,rfl,_,rfl,?_⟩
  refine ite2 (fun c => ?_) (fun c => ?_)
  · have c' : 0 < a := of_decide_eq_true c
    refine ⟨_,rfl,p,_,_,_,rfl,rfl,SqL.of hp,at0,_,rfl,_,_,rfl,rfl,m0,?_⟩
    refine ⟨_,rfl,p,_,_,_,rfl,rfl,SqL.of hp,at0,_,rfl,_,_,rfl,rfl,⟨m0,m1⟩,_,rfl,p,_,_,_,rfl,rfl,hp,rfl,?_⟩
    refine ⟨_,rfl,q _ _ (Int.emod_nonneg _ (by omega)) (Int.emod_lt_of_pos _ m0) ⟨a / m,b,Int.ediv_nonneg a0 (by omega),b0,b1,upd_same⟩ But.upd⟩
  · refine ⟨_,rfl,p,_,_,_,rfl,rfl,SqL.of hp,at1,_,_,rfl,rfl,.inr ⟨by decide,by decide⟩,_,_,rfl,rfl,(by show (0 : Int) < 2147483647; decide),_,rfl,p,_,_,_,rfl,rfl,hp,rfl,?_⟩
    have n0 : 0 ≤ (b * 48271) % 2147483647 := Int.emod_nonneg _ (by decide)
    have n1 : (b * 48271) % 2147483647 < 2147483647 := Int.emod_lt_of_pos _ (by decide)
    refine ⟨_,rfl,p,_,_,_,rfl,rfl,SqL.of upd_same,rfl,_,rfl,p,_,_,_,rfl,rfl,SqL.of upd_same,rfl,_,_,rfl,rfl,.inl ⟨by omega,by omega⟩,_,_,rfl,rfl,(by show (0 : Int) < 2147483629; decide),_,_,rfl,rfl,⟨by decide,by decide⟩,_,rfl,_,_,rfl,rfl,m0,?_⟩
    exact q _ _ (Int.emod_nonneg _ (by omega)) (Int.emod_lt_of_pos _ m0) ⟨a,_,a0,n0,by omega,upd_same⟩ But.upd
theorem scgreatm : FnScope ["_law_pot_here","_law_many","_law_found","_law_k"] ["_law_pot_here","_law_many"] (defScope sGreat) := ⟨rfl,rfl,rfl,by decide +kernel,rfl,by decide +kernel,by decide +kernel⟩
theorem ok_greatm {f : Addr} {fd : FuncData} (F : Fun K "_law_great" "_law_great" sGreat f fd) (B : Blt mg) (DD : Dn P w K mg base "_law_draw" ["_law_pot_here","_law_many"] 1 (spDrawB)) : FnOk P w K mg base CX0 2 f fd ["_law_pot_here","_law_many"] (spGreatM) := by
  refine F.ok scgreatm (fun vs H Q E h => ?_) (fun cdv A outer s H vs Q E hr h => ?_)
  · obtain ⟨p,m,rfl,_⟩ := h
    rfl
  obtain ⟨p,m,rfl,pt,m0,m1,q⟩ := h
  have nd := scgreatm.nd
  refine ⟨_,(@pss_cons _ _ _ _ _ (@ps_if _ _ _ _ _ _ _ _ (@pt_cmpR _ _ _ _ _ _ _ _ op_gt (@pe_ix _ _ _ _ _ _ _ ix_list (pv 0) pe_int (fun _ _ => rfl)) pe_int (nomark _)) (@pss_one _ _ _ (@ps_ret _ _ _ _ (@pe_cD _ _ _ _ _ _ _ _ _ _ DD hr rfl (@pa_cons _ _ _ _ _ (pv 0) (@pa_cons _ _ _ _ _ (pv 1) pa_nil rfl) rfl) (by decide) rfl rfl))) pss_nil) (@pss_cons _ _ _ _ _ (@ps_set _ _ 2 _ _ _ _ nd rfl (Or.inl rfl) pe_int rfl (Or.inl rfl)) (@pss_cons _ _ _ _ _ (@ps_for _ _ _ _ _ _ _ _ PassesOwn.never rfl (pi_range1 rfl B.range (@pa_cons _ _ _ _ _ pe_int pa_nil rfl)) (pg_name (i := 3) nd rfl (Or.inl rfl)) (@pss_one _ _ _ (@ps_set _ _ 2 _ _ _ _ nd rfl (Or.inl rfl) (@pe_op _ _ _ _ _ _ _ _ op_add (@pe_op _ _ _ _ _ _ _ _ op_mul (pv 2) pe_int) (@pe_cD _ _ _ _ _ _ _ _ _ _ DD hr rfl (@pa_cons _ _ _ _ _ (pv 0) (@pa_cons _ _ _ _ _ pe_int pa_nil rfl) rfl) (by decide) rfl rfl)) rfl (Or.inl rfl))) (by intro _; rfl)) (@pss_one _ _ _ (@ps_ret _ _ _ _ (@pe_op _ _ _ _ _ _ _ _ op_mod (pv 2) (pv 1))))))),?_⟩
  obtain ⟨a,b,a0,b0,b1,hp⟩ := id pt
  have at0 : atI [V.int a,V.int b] 0 = some (.int a) := rfl
  refine seqCut (fun σ' H' => σ' = [some (.ref p),some (.int m),none,none] ∧ H = H') (fun R hR => ?_) ?_
  · refine ⟨_,rfl,p,_,_,_,rfl,rfl,SqL.of hp,at0,_,_,rfl,rfl,_,rfl,?_⟩
    refine ite2 (fun c => ?_) (fun c => ?_)
    · exact ⟨_,rfl,_,rfl,p,m,rfl,pt,m0,m1,fun r H1 r0 r1 pt1 b1' => q r H1 r0 r1 pt1 b1'⟩
    · exact hR _ _ ⟨rfl,rfl⟩
  rintro _ _ ⟨rfl,rfl⟩
  refine seqCut (fun σ' H' => σ' = [some (.ref p),some (.int m),some (.int 0),none] ∧ H = H') (fun R hR => hR _ _ ⟨rfl,rfl⟩) ?_
  rintro _ _ ⟨rfl,rfl⟩
  refine seqCut (fun σ' H' => ∃ (f : Int) (v3 : Option V),σ' = [some (.ref p),some (.int m),some (.int f),v3] ∧ PotB H' p ∧ But p H H') (fun R hR => ?_) ?_
  · refine ⟨_,rfl,by decide,by decide,for_range (lo := 0) (n := 7) (fun i σ' H' => ∃ (f : Int) (v3 : Option V),σ' = [some (.ref p),some (.int m),some (.int f),v3] ∧ PotB H' p ∧ But p H H') ⟨0,none,rfl,pt,fun _ _ _ e => e⟩ ?_ (fun σ H1 ⟨f,v3,e,pt1,b1⟩ => hR _ _ ⟨f,v3,e,pt1,b1⟩)⟩
    rintro i σ H1 hi ⟨f,v3,rfl,pt1,b1⟩
    exact ⟨_,rfl,_,_,rfl,rfl,.inr ⟨by decide,by decide⟩,_,rfl,p,_,rfl,pt1,by decide,by decide,fun r H2 r0 r1 pt2 b2 => ⟨_,_,rfl,rfl,_,_,rfl,pt2,b1.trans b2⟩⟩
  rintro _ H1 ⟨f,v3,rfl,pt1,b1⟩
  exact ⟨_,rfl,_,rfl,_,_,rfl,rfl,m0,q _ _ (Int.emod_nonneg _ (by omega)) (Int.emod_lt_of_pos _ m0) pt1 b1⟩
theorem scsideb : FnScope ["_law_pot_here"] ["_law_pot_here"] (defScope sSide) := ⟨rfl,rfl,rfl,by decide +kernel,rfl,by decide +kernel,by decide +kernel⟩
theorem ok_sideb {f : Addr} {fd : FuncData} (F : Fun K "_law_side" "_law_side" sSide f fd) (B : Blt mg) (DD : Dn P w K mg base "_law_draw" ["_law_pot_here","_law_many"] 1 (spDrawB)) (DG : Dn P w K mg base "_law_great" ["_law_pot_here","_law_many"] 2 (spGreatM)) : FnOk P w K mg base CX0 3 f fd ["_law_pot_here"] (spSideB) := by
  refine F.ok scsideb (fun vs H Q E h => ?_) (fun cdv A outer s H vs Q E hr h => ?_)
  · obtain ⟨p,rfl,_⟩ := h
    rfl
  obtain ⟨p,rfl,pt,q⟩ := h
  have nd := scsideb.nd
  refine ⟨_,(@pss_cons _ _ _ _ _ (@ps_if _ _ _ _ _ _ _ _ (@pt_cmpR _ _ _ _ _ _ _ _ op_eq (@pe_cD _ _ _ _ _ _ _ _ _ _ DD (hr.mono (by decide)) rfl (@pa_cons _ _ _ _ _ (pv 0) (@pa_cons _ _ _ _ _ pe_int pa_nil rfl) rfl) (by decide) rfl rfl) pe_int (nomark _)) (@pss_one _ _ _ (@ps_ret _ _ _ _ (@pe_op _ _ _ _ _ _ _ _ op_add pe_int (@pe_cD _ _ _ _ _ _ _ _ _ _ DG hr rfl (@pa_cons _ _ _ _ _ (pv 0) (@pa_cons _ _ _ _ _ (@pe_op _ _ _ _ _ _ _ _ op_sub (@pe_op _ _ _ _ _ _ _ _ op_pow pe_int pe_int) pe_int) pa_nil rfl) rfl) (by decide) rfl rfl)))) pss_nil) (@pss_one _ _ _ (@ps_ret _ _ _ _ (@pe_op _ _ _ _ _ _ _ _ op_add pe_int (@pe_cD _ _ _ _ _ _ _ _ _ _ DD (hr.mono (by decide)) rfl (@pa_cons _ _ _ _ _ (pv 0) (@pa_cons _ _ _ _ _ pe_int pa_nil rfl) rfl) (by decide) rfl rfl))))),?_⟩
  have e60 : (100 : Int) < 10 ^ 60 := by decide
  refine ⟨_,rfl,p,8,rfl,pt,by decide,by decide,fun z H1 z0 z1 pt1 b1 => ⟨rfl,_,rfl,?_⟩⟩
  refine ite2 (fun cc => ?_) (fun cc => ?_)
  · refine ⟨_,rfl,_,_,rfl,rfl,⟨by decide,by decide,by decide⟩,_,_,rfl,rfl,p,_,rfl,pt1,by decide,by decide,fun r H2 r0 r1 pt2 b2 => ⟨_,_,rfl,rfl,q _ _ (by omega) ?_ pt2 (b1.trans b2)⟩⟩
    have r1 : r < 10 ^ 60 - 1 := r1
    omega
  · exact ⟨_,rfl,p,12,rfl,pt1,by decide,by decide,fun r H2 r0 r1 pt2 b2 => ⟨_,_,rfl,rfl,q _ _ (by omega) (by omega) pt2 (b1.trans b2)⟩⟩
end
def QB (ks : List Kd) (w h : Int) (H : Hp) (v : V) : Prop := ∃ (a : Addr) (i : Nat) (c : Bool) (k : Kd),v = .ref a ∧ H a = some (.tup [.int i,.bl c,.int (w - sd1 k c),.int (h - sd2 k c)]) ∧ ks[i]? = some k ∧ c ∈ lainB k ∧ sd1 k c ≤ w ∧ sd2 k c ≤ h
theorem QB.keep {ks : List Kd} {w h : Int} {H H' : Hp} (k : ∀ a xs,H a = some (.tup xs) → H' a = some (.tup xs)) {v : V} (q : QB ks w h H v) : QB ks w h H' v := by
  obtain ⟨a,i,c,k',e,ha,r⟩ := q
  exact ⟨a,i,c,k',e,k _ _ ha,r⟩
theorem datB {K : PySem.W.Frag} {ks : List Kd} {w h : Int} {H : Hp} : ∀ {ys : List V},(∀ y ∈ ys,QB ks w h H y) → ∃ ds,DatVs K H ys ds ∧ ds.length = ys.length ∧ PyData.canLayAll0 ds = true ∧ PyData.depthAll ds ≤ 1
  | [],_ => ⟨[],.nil,rfl,rfl,Nat.zero_le _⟩
  | y :: r,hy => by
    obtain ⟨a,i,c,k,rfl,ha,_⟩ := hy y List.mem_cons_self
    obtain ⟨ds,d1,d2,d3,d4⟩ := datB (K := K) fun z hz => hy z (List.mem_cons_of_mem _ hz)
    refine ⟨_ :: ds,.cons (.tup (SqT.of ha) (.cons (.int _) (.cons (.bl _) (.cons (.int _) (.cons (.int _) .nil))))) d1,by rw [List.length_cons,List.length_cons,d2],?_,?_⟩
    · simp [PyData.canLayAll0,PyData.canLay0,d3]
    · simp only [PyData.depthAll,PyData.depth]; omega
theorem emptyD {ds : List PyData} (d3 : PyData.canLayAll0 ds = true) (d4 : PyData.depthAll ds ≤ 1) : SeqAt.shaped (.list ds) = true ∧ (ds = [] → PyData.eqv (.list ds) (.list []) = true) ∧ (ds ≠ [] → PyData.eqv (.list ds) (.list []) = false) := by
  refine ⟨?_,fun e => by subst e; exact PySem.SeqAt.eqv_refl _ rfl,fun e => ?_⟩
  · unfold SeqAt.shaped
    rw [PyData.canLay0,d3,PyData.depth,decide_eq_true (show PyData.depthAll ds + 1 ≤ 64 by omega)]; rfl
  · cases ds with
    | nil => exact absurd rfl e
    | cons d r => rfl
section
variable {P : Program} {w : World} {K : PySem.W.Frag} {mg : Str → Option Value} {base : Heap}
def spLeafB : Sp := fun vs H Q _ => ∃ (p kl : Addr) (rs : List V) (ks : List Kd) (w h : Int),vs = [.ref p,.ref kl,.int w,.int h] ∧ kl ≠ p ∧ H kl = some (.lst rs) ∧ Tups H rs ks ∧ rs.length ≤ 8 ∧ (∀ k ∈ ks,Good k) ∧ 1 ≤ w ∧ w < 10 ^ 60 ∧ 1 ≤ h ∧ h < 10 ^ 60 ∧ PotB H p ∧
  ∀ (v : V) (t : Tr) (H' : Hp),TrV H' t v → (∀ b,okT b ks w h t) → (t = .rest ∨ ∃ i c x y,t = .piece i c x y) → PotB H' p → But p H H' → Q v H'
theorem scleafb : FnScope ["_law_pot_here","_law_kinds","_law_wide","_law_high","_law_some","_law_number","_law_own_wide","_law_own_high","_law_worth","_law_wanted","_law_turns","_law_turned","_law_right","_law_up"] ["_law_pot_here","_law_kinds","_law_wide","_law_high"] (defScope sLeaf) := ⟨rfl,rfl,rfl,by decide +kernel,rfl,by decide +kernel,by decide +kernel⟩
theorem ok_leafb {f : Addr} {fd : FuncData} (F : Fun K "_law_leaf" "_law_leaf" sLeaf f fd) (B : Blt mg) (DD : Dn P w K mg base "_law_draw" ["_law_pot_here","_law_many"] 1 (spDrawB)) : FnOk P w K mg base CX0 2 f fd ["_law_pot_here","_law_kinds","_law_wide","_law_high"] (spLeafB) := by
  refine F.ok scleafb (fun vs H Q E h => ?_) (fun cdv A outer s H vs Q E hr h => ?_)
  · obtain ⟨p,kl,rs,ks,w1,h1,rfl,_⟩ := h
    rfl
  obtain ⟨p,kl,rs,ks,w1,h1,rfl,nkp,hk0,tp,r8,gk,w0,w60,h0,h60,pt,q⟩ := h
  have nd := scleafb.nd
  have hu := hr.units
  refine ⟨_,(@pss_cons _ _ _ _ _ (@ps_set _ _ 4 _ _ _ _ nd rfl (Or.inl rfl) (@pe_lst _ _ _ _ pa_nil) rfl (Or.inl rfl)) (@pss_cons _ _ _ _ _ (@ps_for _ _ _ _ _ _ _ _ PassesOwn.never rfl (pi_enum rfl B.enumerate (@pa_cons _ _ _ _ _ (pv 1) pa_nil rfl)) (pg_tup rfl (pgs_cons (pg_name (i := 5) nd rfl (Or.inl rfl)) (pgs_cons (pg_tup rfl (pgs_cons (pg_name (i := 6) nd rfl (Or.inl rfl)) (pgs_cons (pg_name (i := 7) nd rfl (Or.inl rfl)) (pgs_cons (pg_name (i := 8) nd rfl (Or.inl rfl)) (pgs_cons (pg_name (i := 9) nd rfl (Or.inl rfl)) (pgs_cons (pg_name (i := 10) nd rfl (Or.inl rfl)) pgs_nil)))))) pgs_nil))) (@pss_cons _ _ _ _ _ (@ps_if _ _ _ _ _ _ _ _ (PW.pt (pw_and (@pt_cmpR _ _ _ _ _ _ _ _ op_le (pv 6) (pv 2) (nomark _)) (pw_and1 (@pt_cmpR _ _ _ _ _ _ _ _ op_le (pv 7) (pv 3) (nomark _))))) (@pss_one _ _ _ (@ps_expr _ _ _ _ (@pe_bm _ _ _ _ _ _ _ _ _ _ _ _ PySem.F.plainAttrs_list PySem.F.slot_list_append PySem.F.type_list_append mt_append (pv 4) (@pa_cons _ _ _ _ _ (@pe_tup _ _ _ _ _ (@pa_cons _ _ _ _ _ (pv 5) (@pa_cons _ _ _ _ _ pe_bl (@pa_cons _ _ _ _ _ (@pe_op _ _ _ _ _ _ _ _ op_sub (pv 2) (pv 6)) (@pa_cons _ _ _ _ _ (@pe_op _ _ _ _ _ _ _ _ op_sub (pv 3) (pv 7)) pa_nil rfl) rfl) rfl) rfl)) pa_nil rfl) rfl rfl rfl rfl rfl) rfl)) pss_nil) (@pss_one _ _ _ (@ps_if _ _ _ _ _ _ _ _ (PW.pt (pw_and (@pt_val _ _ _ (pv 10) (by intro _; rfl)) (pw_and (@pt_cmpR _ _ _ _ _ _ _ _ op_ne (pv 6) (pv 7) (nomark _)) (pw_and (@pt_cmpR _ _ _ _ _ _ _ _ op_le (pv 7) (pv 2) (nomark _)) (pw_and1 (@pt_cmpR _ _ _ _ _ _ _ _ op_le (pv 6) (pv 3) (nomark _))))))) (@pss_one _ _ _ (@ps_expr _ _ _ _ (@pe_bm _ _ _ _ _ _ _ _ _ _ _ _ PySem.F.plainAttrs_list PySem.F.slot_list_append PySem.F.type_list_append mt_append (pv 4) (@pa_cons _ _ _ _ _ (@pe_tup _ _ _ _ _ (@pa_cons _ _ _ _ _ (pv 5) (@pa_cons _ _ _ _ _ pe_bl (@pa_cons _ _ _ _ _ (@pe_op _ _ _ _ _ _ _ _ op_sub (pv 2) (pv 7)) (@pa_cons _ _ _ _ _ (@pe_op _ _ _ _ _ _ _ _ op_sub (pv 3) (pv 6)) pa_nil rfl) rfl) rfl) rfl)) pa_nil rfl) rfl rfl rfl rfl rfl) rfl)) pss_nil))) (by intro _; rfl)) (@pss_cons _ _ _ _ _ (@ps_if _ _ _ _ _ _ _ _ (PW.pt (pw_or (@pt_cmpR _ _ _ _ _ _ _ _ (op_eqD hu) (pv 4) (@pe_lst _ _ _ _ pa_nil) (nomark _)) (pw_or1 (@pt_cmpR _ _ _ _ _ _ _ _ op_eq (@pe_cD _ _ _ _ _ _ _ _ _ _ DD hr rfl (@pa_cons _ _ _ _ _ (pv 0) (@pa_cons _ _ _ _ _ pe_int pa_nil rfl) rfl) (by decide) rfl rfl) pe_int (nomark _))))) (@pss_one _ _ _ (@ps_ret _ _ _ _ (@pe_tup _ _ _ _ _ (@pa_cons _ _ _ _ _ pe_str pa_nil rfl)))) pss_nil) (@pss_cons _ _ _ _ _ (@ps_asg _ _ _ _ _ _ (@pe_ix _ _ _ _ _ _ _ ix_list (pv 4) (@pe_cD _ _ _ _ _ _ _ _ _ _ DD hr rfl (@pa_cons _ _ _ _ _ (pv 0) (@pa_cons _ _ _ _ _ (@pe_callB _ _ _ _ _ _ _ _ _ call_len_seq rfl B.len PySem.boot_len (@pa_cons _ _ _ _ _ (pv 4) pa_nil rfl) (by decide) (by decide) rfl rfl) pa_nil rfl) rfl) (by decide) rfl rfl) (fun _ _ => rfl)) (pg_tup rfl (pgs_cons (pg_name (i := 5) nd rfl (Or.inl rfl)) (pgs_cons (pg_name (i := 11) nd rfl (Or.inl rfl)) (pgs_cons (pg_name (i := 12) nd rfl (Or.inl rfl)) (pgs_cons (pg_name (i := 13) nd rfl (Or.inl rfl)) pgs_nil))))) rfl rfl rfl) (@pss_one _ _ _ (@ps_ret _ _ _ _ (@pe_tup _ _ _ _ _ (@pa_cons _ _ _ _ _ pe_str (@pa_cons _ _ _ _ _ (pv 5) (@pa_cons _ _ _ _ _ (pv 11) (@pa_cons _ _ _ _ _ (@pe_cD _ _ _ _ _ _ _ _ _ _ DD hr rfl (@pa_cons _ _ _ _ _ (pv 0) (@pa_cons _ _ _ _ _ (@pe_op _ _ _ _ _ _ _ _ op_add (pv 12) pe_int) pa_nil rfl) rfl) (by decide) rfl rfl) (@pa_cons _ _ _ _ _ (@pe_cD _ _ _ _ _ _ _ _ _ _ DD hr rfl (@pa_cons _ _ _ _ _ (pv 0) (@pa_cons _ _ _ _ _ (@pe_op _ _ _ _ _ _ _ _ op_add (pv 13) pe_int) pa_nil rfl) rfl) (by decide) rfl rfl) pa_nil rfl) rfl) rfl) rfl) rfl)))))))),?_⟩
  have sz : (40000 : Nat) ≤ sizeLine := by decide
  have e60 : (100 : Int) < 10 ^ 60 := by decide
  refine ⟨by decide,fun l hl => ?_⟩
  have s0 : Same H (upd H l (.lst [])) := Same.new hl
  have k0 : (upd H l (.lst [])) l = some (.lst []) := upd_same
  generalize upd H l (.lst []) = H0 at s0 k0 ⊢
  have nlk : kl ≠ l := ne_of_none hk0 hl
  have nlp : l ≠ p := Ne.symm (pt.ne hl)
  refine seqCut (fun σ' H' => σ' = [some (.ref p),some (.ref kl),some (.int w1),some (.int h1),some (.ref l),none,none,none,none,none,none,none,none,none] ∧ H0 = H') (fun R hR => hR _ _ ⟨rfl,rfl⟩) ?_
  rintro _ _ ⟨rfl,rfl⟩
  refine seqCut (fun σ' H' => (∃ v5 v6 v7 v8 v9 v10 v11 v12 v13 : Option V,σ' = [some (.ref p),some (.ref kl),some (.int w1),some (.int h1),some (.ref l),v5,v6,v7,v8,v9,v10,v11,v12,v13]) ∧ (∃ ys : List V,H' l = some (.lst ys) ∧ (∀ y ∈ ys,QB ks w1 h1 H' y) ∧ ys.length ≤ 16) ∧ (∀ a o,a ≠ l → H a = some o → H' a = some o)) (fun R hR => ?_) ?_
  · refine ⟨_,rfl,kl,rs,rfl,.inl ⟨s0 _ _ hk0,for_enum (f := .lst) (fun _ _ e => by cases e; rfl) (l := kl) (xs := rs) (fun i σ' H' => (∃ v5 v6 v7 v8 v9 v10 v11 v12 v13 : Option V,σ' = [some (.ref p),some (.ref kl),some (.int w1),some (.int h1),some (.ref l),v5,v6,v7,v8,v9,v10,v11,v12,v13]) ∧ (∃ ys : List V,H' l = some (.lst ys) ∧ (∀ y ∈ ys,QB ks w1 h1 H' y) ∧ ys.length ≤ 2 * i) ∧ (∀ a o,a ≠ l → H a = some o → H' a = some o)) ⟨⟨_,_,_,_,_,_,_,_,_,rfl⟩,⟨[],k0,fun y hy => by simp at hy,by simp⟩,fun a o n e => s0 _ _ e⟩ (fun i σ H' h => h.2.2 _ _ nlk hk0) ?_ ?_⟩⟩
    · rintro j x pe σ H1 hi hpe ⟨⟨v5,v6,v7,v8,v9,v10,v11,v12,v13,rfl⟩,⟨ys,l1,qy,yl⟩,st1⟩
      have hj : j < rs.length := (List.getElem?_eq_some_iff.mp hi).1
      obtain ⟨k,hk,ak,rfl,hak⟩ := Paired.getR tp hi
      have gk1 := gk k (List.mem_of_getElem? hk)
      have g1 := gk1.w
      have g2 := gk1.h
      have s2 := Same.new hpe (o := .tup [.int j,.ref ak])
      have kp : (upd H1 pe (.tup [.int j,.ref ak])) pe = some (.tup [.int j,.ref ak]) := upd_same
      generalize upd H1 pe (.tup [.int j,.ref ak]) = H2 at s2 kp ⊢
      have nak : ak ≠ l := ne_of_none hak hl
      have hak2 : H2 ak = some (.tup [.int k.w,.int k.h,.int k.wo,.int k.wa,.bl k.tu]) := s2 _ _ (st1 _ _ nak hak)
      have l2 := s2 _ _ l1
      have qy2 : ∀ y ∈ ys,QB ks w1 h1 H2 y := fun y hy => (qy y hy).keep fun a xs e => s2 _ _ e
      have st2 : ∀ a o,a ≠ l → H a = some o → H2 a = some o := fun a o n e => s2 _ _ (st1 _ _ n e)
      refine ⟨pe,_,rfl,SqT.of kp,rfl,_,_,rfl,_,_,rfl,ak,_,rfl,SqT.of hak2,rfl,_,_,rfl,_,_,rfl,_,_,rfl,_,_,rfl,_,_,rfl,rfl,rfl,?_⟩
      have addQ : ∀ (Hx : Hp) (us : List V) (tq : Addr) (c : Bool),Hx l = some (.lst us) → (∀ y ∈ us,QB ks w1 h1 Hx y) → Hx tq = some (.tup [.int j,.bl c,.int (w1 - sd1 k c),.int (h1 - sd2 k c)]) → c ∈ lainB k → sd1 k c ≤ w1 → sd2 k c ≤ h1 → ∀ y ∈ us ++ [.ref tq],QB ks w1 h1 (upd Hx l (.lst (us ++ [.ref tq]))) y := fun Hx us tq c hx qu ht hc hw hh y hy => by
        have kt : ∀ a xs,Hx a = some (.tup xs) → (upd Hx l (.lst (us ++ [.ref tq]))) a = some (.tup xs) := fun a xs e => by rw [upd_ne (fun z => by rw [z,hx] at e; cases e)]; exact e
        rcases List.mem_append.mp hy with hy | hy
        · exact (qu y hy).keep kt
        · rw [List.mem_singleton.mp hy]
          exact ⟨tq,j,c,k,rfl,kt _ _ ht,hk,hc,hw,hh⟩
      refine seqCut (fun σ' H' => σ' = [some (.ref p),some (.ref kl),some (.int w1),some (.int h1),some (.ref l),some (.int j),some (.int k.w),some (.int k.h),some (.int k.wo),some (.int k.wa),some (.bl k.tu),v11,v12,v13] ∧ (∃ us : List V,H' l = some (.lst us) ∧ (∀ y ∈ us,QB ks w1 h1 H' y) ∧ us.length ≤ 2 * j + 1) ∧ (∀ a o,a ≠ l → H a = some o → H' a = some o)) (fun R hR => ?_) ?_
      · refine ⟨_,rfl,_,rfl,_,_,rfl,rfl,_,rfl,?_⟩
        have no : R ([some (.ref p),some (.ref kl),some (.int w1),some (.int h1),some (.ref l),some (.int j),some (.int k.w),some (.int k.h),some (.int k.wo),some (.int k.wa),some (.bl k.tu),v11,v12,v13] : St) H2 := hR _ _ ⟨rfl,⟨ys,l2,qy2,by omega⟩,st2⟩
        by_cases c1 : k.w ≤ w1
        · rw [decide_eq_true c1]
          refine iteT ⟨_,rfl,_,rfl,_,_,rfl,rfl,_,rfl,?_⟩
          by_cases c2 : k.h ≤ h1
          · rw [decide_eq_true c2]
            refine iteT ⟨_,rfl,.inl ⟨rfl,_,SqL.of l2⟩,_,rfl,_,rfl,_,rfl,_,_,rfl,rfl,_,rfl,_,rfl,_,_,rfl,rfl,(by show 4 ≤ sizeLine; decide),fun tq htq => ?_⟩
            generalize hHq1 : upd H2 tq _ = H3
            have sq1 : Same H2 H3 := by subst hHq1; exact Same.new htq
            have kq1 : H3 tq = some (.tup [.int j,.bl false,.int (w1 - sd1 k false),.int (h1 - sd2 k false)]) := by subst hHq1; exact upd_same
            have l3 := sq1 _ _ l2
            refine ⟨l,_,_,rfl,rfl,l3,by omega,hR _ _ ⟨rfl,⟨_,upd_same,addQ H3 ys tq false l3 (fun y hy => (qy2 y hy).keep fun a xs e => sq1 _ _ e) kq1 (by unfold lainB; split <;> simp) c1 c2,by rw [List.length_append]; show _ + 1 ≤ _; omega⟩,fun a o n e => by rw [upd_ne n]; exact sq1 _ _ (st2 _ _ n e)⟩⟩
          · rw [decide_eq_false c2]
            exact iteF no
        · rw [decide_eq_false c1]
          exact iteF (iteF no)
      rintro _ H3 ⟨rfl,⟨us,l3,qu3,ul⟩,st3⟩
      have no : (∃ z5 z6 z7 z8 z9 z10 z11 z12 z13 : Option V,([some (.ref p),some (.ref kl),some (.int w1),some (.int h1),some (.ref l),some (.int j),some (.int k.w),some (.int k.h),some (.int k.wo),some (.int k.wa),some (.bl k.tu),v11,v12,v13] : St) = [some (.ref p),some (.ref kl),some (.int w1),some (.int h1),some (.ref l),z5,z6,z7,z8,z9,z10,z11,z12,z13]) ∧ (∃ ys : List V,H3 l = some (.lst ys) ∧ (∀ y ∈ ys,QB ks w1 h1 H3 y) ∧ ys.length ≤ 2 * (j + 1)) ∧ (∀ a o,a ≠ l → H a = some o → H3 a = some o) := ⟨⟨some (.int j),some (.int k.w),some (.int k.h),some (.int k.wo),some (.int k.wa),some (.bl k.tu),v11,v12,v13,rfl⟩,⟨us,l3,qu3,by omega⟩,st3⟩
      refine ⟨_,rfl,_,rfl,?_⟩
      cases htu : k.tu with
      | false => rw [htu] at no; exact iteF (iteF no)
      | true =>
        rw [htu] at no
        refine iteT ⟨_,rfl,_,rfl,rfl,_,rfl,?_⟩
        by_cases cw : k.w = k.h
        · rw [show (!decide (V.int k.w = V.int k.h)) = false by rw [decide_eq_true (show V.int k.w = V.int k.h by rw [cw])]; rfl]
          exact iteF (iteF no)
        · rw [show (!decide (V.int k.w = V.int k.h)) = true by rw [decide_eq_false (fun z => cw (V.int.inj z))]; rfl]
          have ht : turnable k = true := by unfold turnable; rw [htu,decide_eq_false cw]; rfl
          refine iteT ⟨_,rfl,_,rfl,_,_,rfl,rfl,_,rfl,?_⟩
          by_cases c1 : k.h ≤ w1
          · rw [decide_eq_true c1]
            refine iteT ⟨_,rfl,_,rfl,_,_,rfl,rfl,_,rfl,?_⟩
            by_cases c2 : k.w ≤ h1
            · rw [decide_eq_true c2]
              refine iteT ⟨_,rfl,.inl ⟨rfl,_,SqL.of l3⟩,_,rfl,_,rfl,_,rfl,_,_,rfl,rfl,_,rfl,_,rfl,_,_,rfl,rfl,(by show 4 ≤ sizeLine; decide),fun tq htq => ?_⟩
              generalize hHq2 : upd H3 tq _ = H4
              have sq2 : Same H3 H4 := by subst hHq2; exact Same.new htq
              have kq2 : H4 tq = some (.tup [.int j,.bl true,.int (w1 - sd1 k true),.int (h1 - sd2 k true)]) := by subst hHq2; exact upd_same
              have l4 := sq2 _ _ l3
              refine ⟨l,_,_,rfl,rfl,l4,by omega,⟨_,_,_,_,_,_,_,_,_,rfl⟩,⟨_,upd_same,addQ H4 us tq true l4 (fun y hy => (qu3 y hy).keep fun a xs e => sq2 _ _ e) kq2 (by unfold lainB; rw [ht]; simp) c1 c2,by rw [List.length_append]; show _ + 1 ≤ _; omega⟩,fun a o n e => by rw [upd_ne n]; exact sq2 _ _ (st3 _ _ n e)⟩
            · rw [decide_eq_false c2]
              exact iteF no
          · rw [decide_eq_false c1]
            exact iteF (iteF no)
    · rintro σ H1 ⟨⟨v5,v6,v7,v8,v9,v10,v11,v12,v13,rfl⟩,⟨ys,l1,qy,yl⟩,st1⟩
      exact hR _ _ ⟨⟨_,_,_,_,_,_,_,_,_,rfl⟩,⟨ys,l1,qy,by omega⟩,st1⟩
  rintro _ H1 ⟨⟨v5,v6,v7,v8,v9,v10,v11,v12,v13,rfl⟩,⟨ys,l1,qy,yl⟩,st1⟩
  have bt1 : But p H H1 := fun a o n e => st1 _ _ (ne_of_none e hl) e
  have pt1 : PotB H1 p := by
    obtain ⟨x,y,q1,q2,q3,e⟩ := pt
    exact ⟨x,y,q1,q2,q3,st1 _ _ (Ne.symm nlp) e⟩
  refine seqCut (fun σ' H' => σ' = [some (.ref p),some (.ref kl),some (.int w1),some (.int h1),some (.ref l),v5,v6,v7,v8,v9,v10,v11,v12,v13] ∧ ys ≠ [] ∧ H' l = some (.lst ys) ∧ (∀ y ∈ ys,QB ks w1 h1 H' y) ∧ PotB H' p ∧ But p H H') (fun R hR => ?_) ?_
  · obtain ⟨ds,d1,d2,d3,d4⟩ := datB (K := K) qy
    obtain ⟨sh1,em,nem⟩ := emptyD d3 d4
    have rest : ∀ {Hx : Hp},PotB Hx p → But p H Hx → 1 ≤ sizeLine ∧ ∀ t,Hx t = none → Q (.ref t) (upd Hx t (.tup [.str "rest"])) := fun {Hx} ptx bx => ⟨(by decide),fun t ht => by
      obtain ⟨Hy, ey, ky, ny, sy, by', pty⟩ := put1 (o := .tup [.str "rest"]) bx ptx ht
      rw [show upd Hx t _ = Hy from ey]
      exact q _ .rest Hy ⟨t,rfl,ky⟩ (fun _ => trivial) (.inl rfl) pty by'⟩
    refine ⟨_,rfl,by decide,fun el hel => ?_⟩
    obtain ⟨H2,e2,k2,n2,s2,b2,pt2⟩ := put1 (o := .lst []) bt1 pt1 hel
    rw [show upd H1 el _ = H2 from e2]
    obtain ⟨ds',d1',d2',d3',d4'⟩ := datB (K := K) (fun y hy => (qy y hy).keep fun a xs e => s2 _ _ e)
    obtain ⟨sh1',em',nem'⟩ := emptyD d3' d4'
    refine ⟨.list ds',.list [],.lst (SqL.of (s2 _ _ l1)) d1',.lst (SqL.of k2) .nil,sh1',by decide +kernel,_,rfl,?_⟩
    by_cases hy : ys = []
    · have : ds' = [] := List.length_eq_zero_iff.mp (by rw [d2',hy]; rfl)
      rw [em' this]
      exact iteT (iteT (rest pt2 b2))
    · have : ds' ≠ [] := fun z => hy (List.length_eq_zero_iff.mp (by rw [← d2',z]; rfl))
      rw [nem' this]
      refine iteF ⟨_,rfl,p,4,rfl,pt2,by decide,by decide,fun z H3 z0 z1 pt3 b3 => ⟨rfl,_,rfl,?_⟩⟩
      refine ite2 (fun cc => rest pt3 (b2.trans b3)) (fun cc => ?_)
      obtain ⟨_,hp2⟩ := potL pt2
      exact hR _ _ ⟨rfl,hy,b3 _ _ nlp (s2 _ _ l1),fun y hy => (qy y hy).keep fun a xs e => b3 _ _ (fun z => by rw [z] at e; have := s2 _ _ e; rw [hp2] at this; cases this) (s2 _ _ e),pt3,b2.trans b3⟩
  rintro _ H2 ⟨rfl,ne,l2,qy2,pt2,b2⟩
  have y1 : 1 ≤ ys.length := by cases ys with
    | nil => exact absurd rfl ne
    | cons _ _ => rw [List.length_cons]; omega
  refine ⟨_,rfl,_,rfl,_,rfl,l,_,rfl,.inl (SqL.of l2),p,_,rfl,pt2,by omega,by omega,fun r H3 r0 r1 pt3 b3 => ?_⟩
  have l3 := b3 _ _ nlp l2
  obtain ⟨x,hx,hm⟩ := at_mem (xs := ys) r0 r1
  obtain ⟨a,i,c,k,rfl,ha,hk',hcl,f1,f2⟩ := qy2 x hm
  have ha3 : H3 a = some (.tup [.int i,.bl c,.int (w1 - sd1 k c),.int (h1 - sd2 k c)]) := by
    obtain ⟨_,hp⟩ := potL pt2
    exact b3 _ _ (fun z => by rw [z,hp] at ha; cases ha) ha
  have g := gk k (List.mem_of_getElem? hk')
  have sp : 1 ≤ sd1 k c ∧ 1 ≤ sd2 k c := by have := g.w; have := g.h; cases c <;> exact ⟨by assumption,by assumption⟩
  refine ⟨l,_,_,_,rfl,rfl,SqL.of l3,hx,a,_,rfl,SqT.of ha3,rfl,_,_,rfl,_,_,rfl,_,_,rfl,_,_,rfl,rfl,?_⟩
  refine ⟨_,rfl,_,rfl,_,rfl,_,rfl,_,_,rfl,rfl,p,_,rfl,pt3,(by show 0 < w1 - sd1 k c + 1; omega),(by show w1 - sd1 k c + 1 ≤ _; omega),fun x1 H4 x0 x1' pt4 b4 => ?_⟩
  refine ⟨_,rfl,_,rfl,_,_,rfl,rfl,p,_,rfl,pt4,(by show 0 < h1 - sd2 k c + 1; omega),(by show h1 - sd2 k c + 1 ≤ _; omega),fun y1' H5 y0 y1'' pt5 b5 => ?_⟩
  refine ⟨(by show 5 ≤ sizeLine; decide),fun t ht => ?_⟩
  obtain ⟨H6, e6, k6, n6, s6, b6, pt6⟩ := put1 (o := .tup [.str "piece", .int i, .bl c, .int x1, .int y1']) (((b2.trans b3).trans b4).trans b5) pt5 ht
  rw [show upd H5 t _ = H6 from e6]
  exact q _ (.piece i c x1 y1') H6 ⟨t,rfl,k6⟩ (fun b => ⟨k,hk',hcl,x0,y0,by omega,by omega⟩) (.inr ⟨_,_,_,_,rfl⟩) pt6 b6
end
theorem wd_dn (dn : Bool) : decide (V.str (if dn = true then "down" else "across") = V.str "down") = dn := by cases dn <;> decide +kernel
theorem wd_ac (dn : Bool) : decide (V.str (if dn = true then "down" else "across") = V.str "across") = !dn := by cases dn <;> decide +kernel
def WayV (v : V) : Prop := v = .non ∨ ∃ dn : Bool,v = .str (if dn = true then "down" else "across")
theorem szT_dp : ∀ t : Tr,szT t + 1 ≤ 2 ^ (dpT t + 1)
  | .rest => Nat.le_refl _
  | .piece .. => Nat.le_refl _
  | .cut _ _ l r => by
    have h1 := szT_dp l
    have h2 := szT_dp r
    have h3 : 2 ^ (dpT l + 1) ≤ 2 ^ (max (dpT l) (dpT r) + 1) := Nat.pow_le_pow_right (by decide) (by omega)
    have h4 : 2 ^ (dpT r + 1) ≤ 2 ^ (max (dpT l) (dpT r) + 1) := Nat.pow_le_pow_right (by decide) (by omega)
    show szT l + szT r + 1 + 1 ≤ 2 ^ (max (dpT l) (dpT r) + 1 + 1)
    rw [Nat.pow_succ 2 (max (dpT l) (dpT r) + 1)]
    omega
section
variable {P : Program} {w : World} {K : PySem.W.Frag} {mg : Str → Option Value} {base : Heap}
def spWay : Sp := fun vs H Q _ => ∃ (p : Addr) (so : Int) (la : V), vs = [.ref p, .int so, la] ∧ WayV la ∧ PotB H p ∧ ∀ (dn : Bool) (H' : Hp), PotB H' p → But p H H' → Q (.str (if dn = true then "down" else "across")) H'
def spTreeB (n : Nat) : Sp := fun vs H Q _ => ∃ (p bl kl pa : Addr) (b : Int) (rs : List V) (ks : List Kd) (w h : Int) (xs : List Int) (deep : Nat) (so : Int) (la : V),vs = [.ref p,.ref bl,.int b,.ref kl,.ref pa,.int deep,.int so,la] ∧ H pa = some (.tup [.int w,.int h]) ∧ H kl = some (.lst rs) ∧ kl ≠ p ∧ kl ≠ bl ∧ bl ≠ p ∧ Tups H rs ks ∧ rs.length ≤ 8 ∧ (∀ k ∈ ks,Good k) ∧ 0 ≤ b ∧ 1 ≤ w ∧ w < 10 ^ 60 ∧ 1 ≤ h ∧ h < 10 ^ 60 ∧ H bl = some (.lst (xs.map V.int)) ∧ deep < n ∧ WayV la ∧ PotB H p ∧
  ∀ (v : V) (t : Tr) (xs' : List Int) (H' : Hp),TrV H' t v → okT b ks w h t → dpT t ≤ deep → H' bl = some (.lst (xs'.map V.int)) → PotB H' p → But2 p bl H H' → Q v H'
theorem scway : FnScope ["_law_pot_here","_law_sort","_law_last"] ["_law_pot_here","_law_sort","_law_last"] (defScope sWay) := ⟨rfl,rfl,rfl,by decide +kernel,rfl,by decide +kernel,by decide +kernel⟩
theorem ok_way {f : Addr} {fd : FuncData} (F : Fun K "_law_way" "_law_way" sWay f fd) (DD : Dn P w K mg base "_law_draw" ["_law_pot_here","_law_many"] 1 (spDrawB)) (B : Blt mg) : FnOk P w K mg base CX0 2 f fd ["_law_pot_here","_law_sort","_law_last"] (spWay) := by
  refine F.ok scway (fun vs H Q E h => ?_) (fun cdv A outer s H vs Q E hr h => ?_)
  · obtain ⟨p,so,la,rfl,_⟩ := h
    rfl
  obtain ⟨p,so,la,rfl,hla,pt,q⟩ := h
  have nd := scway.nd
  refine ⟨_,(@pss_cons _ _ _ _ _ (@ps_if _ _ _ _ _ _ _ _ (PW.pt (pw_and (@pt_cmpR _ _ _ _ _ _ _ _ op_eq (pv 1) pe_int (nomark _)) (pw_and1 (@pt_cmpR _ _ _ _ _ _ _ _ op_notN (pv 2) pe_non (nomark _))))) (@pss_one _ _ _ (@ps_ret _ _ _ _ (@pe_ix _ _ _ _ _ _ _ ix_list (@pe_lst _ _ _ _ (@pa_cons _ _ _ _ _ pe_str (@pa_cons _ _ _ _ _ pe_str pa_nil rfl) rfl)) (@pe_callTy _ _ _ _ _ _ _ _ _ call_int1 rfl B.int PyProof.Rows.boot_int (@pa_cons _ _ _ _ _ (@pe_cmpR _ _ _ _ _ _ _ _ op_eq (pv 2) pe_str (nomark _)) pa_nil rfl) (by decide) (by decide) rfl rfl) (fun _ _ => rfl)))) pss_nil) (@pss_cons _ _ _ _ _ (@ps_if _ _ _ _ _ _ _ _ (PW.pt (pw_and (@pt_cmpR _ _ _ _ _ _ _ _ op_eq (pv 1) pe_int (nomark _)) (pw_and1 (@pt_cmpR _ _ _ _ _ _ _ _ op_notN (pv 2) pe_non (nomark _))))) (@pss_one _ _ _ (@ps_ret _ _ _ _ (pv 2))) pss_nil) (@pss_one _ _ _ (@ps_ret _ _ _ _ (@pe_ix _ _ _ _ _ _ _ ix_list (@pe_lst _ _ _ _ (@pa_cons _ _ _ _ _ pe_str (@pa_cons _ _ _ _ _ pe_str pa_nil rfl) rfl)) (@pe_cD _ _ _ _ _ _ _ _ _ _ DD hr rfl (@pa_cons _ _ _ _ _ (pv 0) (@pa_cons _ _ _ _ _ pe_int pa_nil rfl) rfl) (by decide) rfl rfl) (fun _ _ => rfl)))))),?_⟩
  refine seqCut (fun σ' H' => σ' = [some (.ref p),some (.int so),some la] ∧ H = H') (fun R hR => ?_) ?_
  · refine ⟨_,rfl,rfl,_,rfl,?_⟩
    refine ite2 (fun c1 => ⟨_,rfl,rfl,_,rfl,?_⟩) (fun c1 => iteF (hR _ _ ⟨rfl,rfl⟩))
    rcases hla with rfl | ⟨dn,rfl⟩
    · exact iteF (hR _ _ ⟨rfl,rfl⟩)
    · refine iteT ⟨by decide,fun l hl => ?_⟩
      obtain ⟨H1,e1,k1,n1,s1,b1,pt1⟩ := put1 (o := .lst [.str "down",.str "across"]) But.refl pt hl
      rw [show upd H l _ = H1 from e1]
      refine ⟨_,rfl,rfl,.inr ⟨_,rfl,l,_,_,_,rfl,rfl,SqL.of k1,?_,q (!dn) H1 pt1 b1⟩⟩
      rw [wd_dn]
      cases dn <;> rfl
  rintro _ _ ⟨rfl,rfl⟩
  refine seqCut (fun σ' H' => σ' = [some (.ref p),some (.int so),some la] ∧ H = H') (fun R hR => ?_) ?_
  · refine ⟨_,rfl,rfl,_,rfl,?_⟩
    refine ite2 (fun c1 => ⟨_,rfl,rfl,_,rfl,?_⟩) (fun c1 => iteF (hR _ _ ⟨rfl,rfl⟩))
    rcases hla with rfl | ⟨dn,rfl⟩
    · exact iteF (hR _ _ ⟨rfl,rfl⟩)
    · exact iteT ⟨_,rfl,q dn H pt But.refl⟩
  rintro _ _ ⟨rfl,rfl⟩
  refine ⟨by decide,fun l hl => ?_⟩
  obtain ⟨H1,e1,k1,n1,s1,b1,pt1⟩ := put1 (o := .lst [.str "down",.str "across"]) But.refl pt hl
  rw [show upd H l _ = H1 from e1]
  refine ⟨_,rfl,p,2,rfl,pt1,by decide,by decide,fun r H2 r0 r1 pt2 b2 => ⟨l,_,_,_,rfl,rfl,SqL.of (b2 _ _ n1 k1),?_,q (decide (r = 0)) H2 pt2 (b1.trans b2)⟩⟩
  rcases (show r = 0 ∨ r = 1 by omega) with rfl | rfl <;> rfl
theorem sctreeb : FnScope ["_law_pot_here","_law_budget","_law_blade","_law_kinds","_law_part","_law_depth","_law_sort","_law_last","_law_wide","_law_high","_law_way_here","_law_side_here","_law_p","_law_some","_law_one","_law_other"] ["_law_pot_here","_law_budget","_law_blade","_law_kinds","_law_part","_law_depth","_law_sort","_law_last"] (defScope sTree) := ⟨rfl,rfl,rfl,by decide +kernel,rfl,by decide +kernel,by decide +kernel⟩
theorem ok_treeb {f : Addr} {fd : FuncData} (F : Fun K "_law_tree" "_law_tree" sTree f fd) (B : Blt mg) (n : Nat) (DD : Dn P w K mg base "_law_draw" ["_law_pot_here","_law_many"] 1 (spDrawB)) (DL : Dn P w K mg base "_law_leaf" ["_law_pot_here","_law_kinds","_law_wide","_law_high"] 2 (spLeafB)) (DW : Dn P w K mg base "_law_way" ["_law_pot_here","_law_sort","_law_last"] 2 (spWay)) (DT : Dn P w K mg base "_law_tree" ["_law_pot_here","_law_budget","_law_blade","_law_kinds","_law_part","_law_depth","_law_sort","_law_last"] (3 + n) (spTreeB n)) : FnOk P w K mg base CX0 (3 + (n + 1)) f fd ["_law_pot_here","_law_budget","_law_blade","_law_kinds","_law_part","_law_depth","_law_sort","_law_last"] (spTreeB (n + 1)) := by
  refine F.ok sctreeb (fun vs H Q E h => ?_) (fun cdv A outer s H vs Q E hr h => ?_)
  · obtain ⟨p,bl,kl,pa,b,rs,ks,w1,h1,xs,deep,so,la,rfl,_⟩ := h
    rfl
  obtain ⟨p,bl,kl,pa,b,rs,ks,w1,h1,xs,deep,so,la,rfl,hpa,hk0,nkp,nkb,nbp,tp,r8,gk,b0,w0,w60,h0,h60,hbl,dn0,hla,pt,q⟩ := h
  have nd := sctreeb.nd
  have hu := hr.units
  refine ⟨_,(@pss_cons _ _ _ _ _ (@ps_asg _ _ _ _ _ _ (pv 4) (pg_tup rfl (pgs_cons (pg_name (i := 8) nd rfl (Or.inl rfl)) (pgs_cons (pg_name (i := 9) nd rfl (Or.inl rfl)) pgs_nil))) rfl rfl rfl) (@pss_cons _ _ _ _ _ (@ps_set _ _ 10 _ _ _ _ nd rfl (Or.inl rfl) (@pe_cD _ _ _ _ _ _ _ _ _ _ DW (hr.mono (show 2 ≤ 3 + n by omega)) rfl (@pa_cons _ _ _ _ _ (pv 0) (@pa_cons _ _ _ _ _ (pv 6) (@pa_cons _ _ _ _ _ (pv 7) pa_nil rfl) rfl) rfl) (by decide) rfl rfl) rfl (Or.inl rfl)) (@pss_cons _ _ _ _ _ (@ps_set _ _ 11 _ _ _ _ nd rfl (Or.inl rfl) (@pe_ix _ _ _ _ _ _ _ ix_list (@pe_lst _ _ _ _ (@pa_cons _ _ _ _ _ (pv 8) (@pa_cons _ _ _ _ _ (pv 9) pa_nil rfl) rfl)) (@pe_callTy _ _ _ _ _ _ _ _ _ call_int1 rfl B.int PyProof.Rows.boot_int (@pa_cons _ _ _ _ _ (@pe_cmpR _ _ _ _ _ _ _ _ op_eq (pv 10) pe_str (nomark _)) pa_nil rfl) (by decide) (by decide) rfl rfl) (fun _ _ => rfl)) rfl (Or.inl rfl)) (@pss_cons _ _ _ _ _ (@ps_if _ _ _ _ _ _ _ _ (PW.pt (pw_or (@pt_cmpR _ _ _ _ _ _ _ _ op_eq (pv 5) pe_int (nomark _)) (pw_or (@pt_cmpR _ _ _ _ _ _ _ _ (op_eqD hu) (pv 1) (@pe_lst _ _ _ _ pa_nil) (nomark _)) (pw_or (@pt_cmpR _ _ _ _ _ _ _ _ op_lt (@pe_op _ _ _ _ _ _ _ _ op_sub (pv 11) (pv 2)) pe_int (nomark _)) (pw_or1 (@pt_cmpR _ _ _ _ _ _ _ _ op_eq (@pe_cD _ _ _ _ _ _ _ _ _ _ DD (hr.mono (show 1 ≤ 3 + n by omega)) rfl (@pa_cons _ _ _ _ _ (pv 0) (@pa_cons _ _ _ _ _ pe_int pa_nil rfl) rfl) (by decide) rfl rfl) pe_int (nomark _))))))) (@pss_one _ _ _ (@ps_ret _ _ _ _ (@pe_cD _ _ _ _ _ _ _ _ _ _ DL (hr.mono (show 2 ≤ 3 + n by omega)) rfl (@pa_cons _ _ _ _ _ (pv 0) (@pa_cons _ _ _ _ _ (pv 3) (@pa_cons _ _ _ _ _ (pv 8) (@pa_cons _ _ _ _ _ (pv 9) pa_nil rfl) rfl) rfl) rfl) (by decide) rfl rfl))) pss_nil) (@pss_cons _ _ _ _ _ (@ps_expr _ _ _ _ (pe_bm0 PySem.F.plainAttrs_list PySem.F.slot_list_pop PySem.F.type_list_pop mt_pop (pv 1)) rfl) (@pss_cons _ _ _ _ _ (@ps_set _ _ 12 _ _ _ _ nd rfl (Or.inl rfl) (@pe_op _ _ _ _ _ _ _ _ op_add pe_int (@pe_cD _ _ _ _ _ _ _ _ _ _ DD (hr.mono (show 1 ≤ 3 + n by omega)) rfl (@pa_cons _ _ _ _ _ (pv 0) (@pa_cons _ _ _ _ _ (@pe_op _ _ _ _ _ _ _ _ op_sub (@pe_op _ _ _ _ _ _ _ _ op_sub (pv 11) (pv 2)) pe_int) pa_nil rfl) rfl) (by decide) rfl rfl)) rfl (Or.inl rfl)) (@pss_cons _ _ _ _ _ (@ps_set _ _ 13 _ _ _ _ nd rfl (Or.inl rfl) (@pe_lst _ _ _ _ (@pa_cons _ _ _ _ _ (@pe_tup _ _ _ _ _ (@pa_cons _ _ _ _ _ (pv 12) (@pa_cons _ _ _ _ _ (pv 9) pa_nil rfl) rfl)) (@pa_cons _ _ _ _ _ (@pe_tup _ _ _ _ _ (@pa_cons _ _ _ _ _ (@pe_op _ _ _ _ _ _ _ _ op_sub (@pe_op _ _ _ _ _ _ _ _ op_sub (pv 8) (pv 12)) (pv 2)) (@pa_cons _ _ _ _ _ (pv 9) pa_nil rfl) rfl)) pa_nil rfl) rfl)) rfl (Or.inl rfl)) (@pss_cons _ _ _ _ _ (@ps_if _ _ _ _ _ _ _ _ (@pt_cmpR _ _ _ _ _ _ _ _ op_eq (pv 10) pe_str (nomark _)) (@pss_one _ _ _ (@ps_set _ _ 13 _ _ _ _ nd rfl (Or.inl rfl) (@pe_lst _ _ _ _ (@pa_cons _ _ _ _ _ (@pe_tup _ _ _ _ _ (@pa_cons _ _ _ _ _ (pv 8) (@pa_cons _ _ _ _ _ (pv 12) pa_nil rfl) rfl)) (@pa_cons _ _ _ _ _ (@pe_tup _ _ _ _ _ (@pa_cons _ _ _ _ _ (pv 8) (@pa_cons _ _ _ _ _ (@pe_op _ _ _ _ _ _ _ _ op_sub (@pe_op _ _ _ _ _ _ _ _ op_sub (pv 9) (pv 12)) (pv 2)) pa_nil rfl) rfl)) pa_nil rfl) rfl)) rfl (Or.inl rfl))) pss_nil) (@pss_cons _ _ _ _ _ (@ps_set _ _ 14 _ _ _ _ nd rfl (Or.inl rfl) (@pe_cD _ _ _ _ _ _ _ _ _ _ DT hr rfl (@pa_cons _ _ _ _ _ (pv 0) (@pa_cons _ _ _ _ _ (pv 1) (@pa_cons _ _ _ _ _ (pv 2) (@pa_cons _ _ _ _ _ (pv 3) (@pa_cons _ _ _ _ _ (@pe_ix _ _ _ _ _ _ _ ix_list (pv 13) pe_int (fun _ _ => rfl)) (@pa_cons _ _ _ _ _ (@pe_op _ _ _ _ _ _ _ _ op_sub (pv 5) pe_int) (@pa_cons _ _ _ _ _ (pv 6) (@pa_cons _ _ _ _ _ (pv 10) pa_nil rfl) rfl) rfl) rfl) rfl) rfl) rfl) rfl) (by decide) rfl rfl) rfl (Or.inl rfl)) (@pss_cons _ _ _ _ _ (@ps_set _ _ 15 _ _ _ _ nd rfl (Or.inl rfl) (@pe_cD _ _ _ _ _ _ _ _ _ _ DT hr rfl (@pa_cons _ _ _ _ _ (pv 0) (@pa_cons _ _ _ _ _ (pv 1) (@pa_cons _ _ _ _ _ (pv 2) (@pa_cons _ _ _ _ _ (pv 3) (@pa_cons _ _ _ _ _ (@pe_ix _ _ _ _ _ _ _ ix_list (pv 13) pe_int (fun _ _ => rfl)) (@pa_cons _ _ _ _ _ (@pe_op _ _ _ _ _ _ _ _ op_sub (pv 5) pe_int) (@pa_cons _ _ _ _ _ (pv 6) (@pa_cons _ _ _ _ _ (pv 10) pa_nil rfl) rfl) rfl) rfl) rfl) rfl) rfl) rfl) (by decide) rfl rfl) rfl (Or.inl rfl)) (@pss_one _ _ _ (@ps_ret _ _ _ _ (@pe_tup _ _ _ _ _ (@pa_cons _ _ _ _ _ (pv 10) (@pa_cons _ _ _ _ _ (pv 12) (@pa_cons _ _ _ _ _ (pv 14) (@pa_cons _ _ _ _ _ (pv 15) pa_nil rfl) rfl) rfl) rfl)))))))))))))),?_⟩
  have e60 : (100 : Int) < 10 ^ 60 := by decide
  have hr1 := hr.mono (show 1 ≤ 3 + n by omega)
  have hr2 := hr.mono (show 2 ≤ 3 + n by omega)
  have keepT : ∀ {Ha Hb : Hp} {x : List V},But2 p bl Ha Hb → PotB Ha p → Ha bl = some (.lst x) → ∀ a xs,Ha a = some (.tup xs) → Hb a = some (.tup xs) := fun {Ha Hb x} bb pp hh a xs e => by
    obtain ⟨_,hp⟩ := potL pp
    exact bb _ _ (fun z => by rw [z,hp] at e; cases e) (fun z => by rw [z,hh] at e; cases e) e
  refine seqCut (fun σ' H' => σ' = [some (.ref p),some (.ref bl),some (.int b),some (.ref kl),some (.ref pa),some (.int deep),some (.int so),some la,some (.int w1),some (.int h1),none,none,none,none,none,none] ∧ H = H') (fun R hR => ?_) ?_
  · exact ⟨_,rfl,pa,_,rfl,SqT.of hpa,rfl,_,_,rfl,_,_,rfl,rfl,hR _ _ ⟨rfl,rfl⟩⟩
  rintro _ _ ⟨rfl,rfl⟩
  refine seqCut (fun σ' H' => ∃ dn : Bool, σ' = [some (.ref p), some (.ref bl), some (.int b), some (.ref kl), some (.ref pa), some (.int deep), some (.int so), some la, some (.int w1), some (.int h1), some (.str (if dn = true then "down" else "across")), none, none, none, none, none] ∧ PotB H' p ∧ But p H H') (fun R hR => ?_) ?_
  · exact ⟨_,rfl,_,rfl,_,rfl,p,so,la,rfl,hla,pt,fun dn H1 pt1 b1 => hR _ _ ⟨dn,rfl,pt1,b1⟩⟩
  rintro _ H1 ⟨dn,rfl,pt1,b1⟩
  refine seqCut (fun σ' H' => σ' = [some (.ref p), some (.ref bl), some (.int b), some (.ref kl), some (.ref pa), some (.int deep), some (.int so), some la, some (.int w1), some (.int h1), some (.str (if dn = true then "down" else "across")), some (.int (if dn = true then w1 else h1)), none, none, none, none] ∧ PotB H' p ∧ But p H H') (fun R hR => ?_) ?_
  · refine ⟨_,rfl,_,rfl,(by show 2 ≤ sizeLine; decide),fun l hl => ?_⟩
    obtain ⟨H2,e2,k2,n2,s2,b2,pt2⟩ := put1 (o := .lst [.int w1,.int h1]) b1 pt1 hl
    rw [show upd H1 l _ = H2 from e2]
    refine ⟨_,rfl,rfl,.inr ⟨_,rfl,l,_,_,.int (if dn = true then w1 else h1),rfl,rfl,SqL.of k2,?_,hR _ _ ⟨rfl,pt2,b2⟩⟩⟩
    rw [wd_ac]
    cases dn <;> rfl
  rintro _ H2 ⟨rfl,pt2,b2⟩
  have kl2 := b2 _ _ nkp hk0
  have bl2 := b2 _ _ nbp hbl
  have tp2 : Tups H2 rs ks := tupsB b2 pt tp
  obtain ⟨sd,hsd⟩ : ∃ sd,(if dn = true then w1 else h1) = sd := ⟨_,rfl⟩
  have sd60 : sd < 10 ^ 60 := by rw [← hsd]; cases dn <;> assumption
  rw [hsd]
  have leaf : ∀ Hx, But p H2 Hx → PotB Hx p → tRet (tCall spLeafB [] E0 (tCons (tVar 0) (tCons (tVar 3) (tCons (tVar 8) (tCons (tVar 9) tNil))))) { nx := fun x H' => Q V.non H', rt := Q } [some (.ref p), some (.ref bl), some (.int b), some (.ref kl), some (.ref pa), some (.int deep), some (.int so), some la, some (.int w1), some (.int h1), some (.str (if dn = true then "down" else "across")), some (.int sd), none, none, none, none] Hx := fun Hx bx ptx => by
    refine ⟨_,rfl,_,rfl,_,rfl,_,rfl,p,kl,rs,ks,w1,h1,rfl,nkp,bx _ _ nkp kl2,tupsB bx pt2 tp2,r8,gk,w0,w60,h0,h60,ptx,fun v t H' tv ok lf pt' b' => ?_⟩
    refine q v t xs H' tv (ok b) ?_ (b' _ _ nbp (bx _ _ nbp bl2)) pt' (But2.but ((b2.trans bx).trans b'))
    rcases lf with rfl | ⟨_,_,_,_,rfl⟩ <;> exact Nat.zero_le _
  refine seqCut (fun σ' H' => σ' = [some (.ref p), some (.ref bl), some (.int b), some (.ref kl), some (.ref pa), some (.int deep), some (.int so), some la, some (.int w1), some (.int h1), some (.str (if dn = true then "down" else "across")), some (.int sd), none, none, none, none] ∧ 1 ≤ deep ∧ xs ≠ [] ∧ 2 ≤ sd - b ∧ PotB H' p ∧ But p H2 H') (fun R hR => ?_) ?_
  · refine ⟨_,rfl,rfl,_,rfl,?_⟩
    by_cases c1 : deep = 0
    · rw [show decide (V.int (deep : Int) = V.int 0) = true from decide_eq_true (by rw [c1]; rfl)]
      exact iteT (iteT (leaf _ But.refl pt2))
    rw [show decide (V.int (deep : Int) = V.int 0) = false from decide_eq_false (fun z => c1 (by have := V.int.inj z; omega))]
    refine iteF ⟨_,rfl,by decide,fun el hel => ?_⟩
    obtain ⟨H3,e3,k3,n3,s3,b3,pt3⟩ := put1 (o := .lst []) (But.refl (H := H2)) pt2 hel
    rw [show upd H2 el _ = H3 from e3]
    refine ⟨dI xs,.list [],.lst (SqL.of (s3 _ _ bl2)) (datI xs),.lst (SqL.of k3) .nil,shapedI xs,by decide +kernel,_,rfl,?_⟩
    by_cases c2 : xs = []
    · subst c2
      rw [show PyData.eqv (dI []) (.list []) = true from PySem.SeqAt.eqv_refl _ rfl]
      exact iteT (iteT (leaf _ b3 pt3))
    rw [show PyData.eqv (dI xs) (.list []) = false by cases xs with
      | nil => exact absurd rfl c2
      | cons _ _ => rfl]
    refine iteF ⟨_,rfl,_,rfl,_,_,rfl,rfl,_,_,rfl,rfl,_,rfl,?_⟩
    by_cases c3 : sd - b < 2
    · rw [decide_eq_true c3]
      exact iteT (iteT (leaf _ b3 pt3))
    rw [decide_eq_false c3]
    refine iteF ⟨_,rfl,p,5,rfl,pt3,by decide,by decide,fun z H4 z0 z1 pt4 b4 => ⟨rfl,_,rfl,?_⟩⟩
    refine ite2 (fun cc => ?_) (fun cc => ?_)
    · exact leaf _ (b3.trans b4) pt4
    · exact hR _ _ ⟨rfl,by omega,c2,by omega,pt4,b3.trans b4⟩
  rintro _ H3 ⟨rfl,deep1,xne,sdb,pt3,b3⟩
  have bl3 := b3 _ _ nbp bl2
  obtain ⟨d',hd'⟩ : ∃ d',deep = d' + 1 := ⟨deep - 1,by omega⟩
  have ed : ((deep : Int) - 1) = (d' : Int) := by omega
  refine seqCut (fun σ' H' => σ' = [some (.ref p), some (.ref bl), some (.int b), some (.ref kl), some (.ref pa), some (.int deep), some (.int so), some la, some (.int w1), some (.int h1), some (.str (if dn = true then "down" else "across")), some (.int sd), none, none, none, none] ∧ (∃ xs' : List Int, H' bl = some (.lst (xs'.map V.int))) ∧ PotB H' p ∧ But2 p bl H H') (fun R hR => ?_) ?_
  · have x1 : 1 ≤ xs.length := by cases xs with
      | nil => exact absurd rfl xne
      | cons _ _ => rw [List.length_cons]; omega
    refine ⟨_,rfl,.inl ⟨rfl,_,SqL.of bl3⟩,bl,_,.int (xs[xs.length - 1]'(by omega)),rfl,rfl,bl3,?_,hR _ _ ⟨rfl,⟨xs.dropLast,?_⟩,?_,fun c o n1 n2 e => ?_⟩⟩
    · rw [List.length_map,List.getElem?_map,List.getElem?_eq_getElem (by omega)]; rfl
    · rw [List.map_dropLast]; exact upd_same
    · obtain ⟨x,y,q1,q2,q3,e⟩ := pt3
      exact ⟨x,y,q1,q2,q3,by rw [upd_ne (Ne.symm nbp)]; exact e⟩
    · rw [upd_ne n2]
      exact b3 _ _ n1 (b2 _ _ n1 e)
  rintro _ H4 ⟨rfl,⟨xs4,bl4⟩,pt4,b14⟩
  refine seqCut (fun σ' H' => ∃ pl : Int, σ' = [some (.ref p), some (.ref bl), some (.int b), some (.ref kl), some (.ref pa), some (.int deep), some (.int so), some la, some (.int w1), some (.int h1), some (.str (if dn = true then "down" else "across")), some (.int sd), some (.int (1 + pl)), none, none, none] ∧ 0 ≤ pl ∧ pl < sd - b - 1 ∧ PotB H' p ∧ But p H4 H') (fun R hR => ?_) ?_
  · exact ⟨_,rfl,_,rfl,_,rfl,_,_,rfl,rfl,_,_,rfl,rfl,p,_,rfl,pt4,by omega,by omega,fun pl H5 pl0 pl1 pt5 b5 => ⟨_,_,rfl,rfl,hR _ _ ⟨pl,rfl,pl0,pl1,pt5,b5⟩⟩⟩
  rintro _ H5 ⟨pl,rfl,pl0,pl1,pt5,b45⟩
  have b15 := b14.trans (But2.but b45)
  have bl5 := b45 _ _ nbp bl4
  have kl5 := b15 _ _ nkp nkb hk0
  have tp5 : Tups H5 rs ks := Tups.keep (keepT b15 pt hbl) tp
  obtain ⟨W1,hW1⟩ : ∃ W1 : Int,W1 = (if dn = true then 1 + pl else w1) := ⟨_,rfl⟩
  obtain ⟨Z1,hZ1⟩ : ∃ Z1 : Int,Z1 = (if dn = true then h1 else 1 + pl) := ⟨_,rfl⟩
  obtain ⟨W2,hW2⟩ : ∃ W2 : Int,W2 = (if dn = true then w1 - (1 + pl) - b else w1) := ⟨_,rfl⟩
  obtain ⟨Z2,hZ2⟩ : ∃ Z2 : Int,Z2 = (if dn = true then h1 else h1 - (1 + pl) - b) := ⟨_,rfl⟩
  refine seqCut (fun σ' H' => ∃ l t1 t2 : Addr, σ' = [some (.ref p), some (.ref bl), some (.int b), some (.ref kl), some (.ref pa), some (.int deep), some (.int so), some la, some (.int w1), some (.int h1), some (.str (if dn = true then "down" else "across")), some (.int sd), some (.int (1 + pl)), some (.ref l), none, none] ∧ H' l = some (.lst [.ref t1, .ref t2]) ∧ H' t1 = some (.tup [.int (1 + pl), .int h1]) ∧ H' t2 = some (.tup [.int (w1 - (1 + pl) - b), .int h1]) ∧ l ≠ p ∧ l ≠ bl ∧ Same H5 H') (fun R hR => ?_) ?_
  · refine ⟨_,rfl,_,rfl,(by show 2 ≤ sizeLine; decide),fun t1 ht1 => ?_⟩
    obtain ⟨X6,e6,k6,s6⟩ : ∃ H',upd H5 t1 (.tup [.int (1 + pl),.int h1]) = H' ∧ H' t1 = some (.tup [.int (1 + pl),.int h1]) ∧ Same H5 H' := ⟨_,rfl,upd_same,Same.new ht1⟩
    rw [show upd H5 t1 _ = X6 from e6]
    refine ⟨_,rfl,_,rfl,_,_,rfl,rfl,_,rfl,_,_,rfl,rfl,_,rfl,(by show 2 ≤ sizeLine; decide),fun t2 ht2 => ?_⟩
    obtain ⟨X7,e7,k7,s7⟩ : ∃ H',upd X6 t2 (.tup [.int (w1 - (1 + pl) - b),.int h1]) = H' ∧ H' t2 = some (.tup [.int (w1 - (1 + pl) - b),.int h1]) ∧ Same X6 H' := ⟨_,rfl,upd_same,Same.new ht2⟩
    rw [show upd X6 t2 _ = X7 from e7]
    refine ⟨(by show 2 ≤ sizeLine; decide),fun l hl => ?_⟩
    have nlp : l ≠ p := Ne.symm (((pt5.same s6).same s7).ne hl)
    have nlb : l ≠ bl := fun z => by have := s7 _ _ (s6 _ _ bl5); rw [← z,hl] at this; cases this
    obtain ⟨X8,e8,k8,s8⟩ : ∃ H',upd X7 l (.lst [.ref t1,.ref t2]) = H' ∧ H' l = some (.lst [.ref t1,.ref t2]) ∧ Same X7 H' := ⟨_,rfl,upd_same,Same.new hl⟩
    rw [show upd X7 l _ = X8 from e8]
    exact hR _ _ ⟨l,t1,t2,rfl,k8,s8 _ _ (s7 _ _ k6),s8 _ _ k7,nlp,nlb,(s6.trans s7).trans s8⟩
  rintro _ H6 ⟨la0,ta,tb,rfl,la6,ta6,tb6,nl1,nl2,s56⟩
  refine seqCut (fun σ' H' => ∃ l t1 t2 : Addr, σ' = [some (.ref p), some (.ref bl), some (.int b), some (.ref kl), some (.ref pa), some (.int deep), some (.int so), some la, some (.int w1), some (.int h1), some (.str (if dn = true then "down" else "across")), some (.int sd), some (.int (1 + pl)), some (.ref l), none, none] ∧ H' l = some (.lst [.ref t1, .ref t2]) ∧ H' t1 = some (.tup [.int W1, .int Z1]) ∧ H' t2 = some (.tup [.int W2, .int Z2]) ∧ l ≠ p ∧ l ≠ bl ∧ Same H5 H') (fun R hR => ?_) ?_
  · refine ⟨_,rfl,rfl,_,rfl,?_⟩
    rw [wd_ac]
    cases dn with
    | true => exact iteF (hR _ _ ⟨la0,ta,tb,rfl,la6,by rw [hW1,hZ1]; exact ta6,by rw [hW2,hZ2]; exact tb6,nl1,nl2,s56⟩)
    | false =>
      refine iteT ?_
      refine ⟨_,rfl,_,rfl,(by show 2 ≤ sizeLine; decide),fun t1 ht1 => ?_⟩
      obtain ⟨X6,e6,k6,s6⟩ : ∃ H',upd H6 t1 (.tup [.int w1,.int (1 + pl)]) = H' ∧ H' t1 = some (.tup [.int w1,.int (1 + pl)]) ∧ Same H6 H' := ⟨_,rfl,upd_same,Same.new ht1⟩
      rw [show upd H6 t1 _ = X6 from e6]
      refine ⟨_,rfl,_,rfl,_,rfl,_,_,rfl,rfl,_,rfl,_,_,rfl,rfl,(by show 2 ≤ sizeLine; decide),fun t2 ht2 => ?_⟩
      obtain ⟨X7,e7,k7,s7⟩ : ∃ H',upd X6 t2 (.tup [.int w1,.int (h1 - (1 + pl) - b)]) = H' ∧ H' t2 = some (.tup [.int w1,.int (h1 - (1 + pl) - b)]) ∧ Same X6 H' := ⟨_,rfl,upd_same,Same.new ht2⟩
      rw [show upd X6 t2 _ = X7 from e7]
      refine ⟨(by show 2 ≤ sizeLine; decide),fun l hl => ?_⟩
      have nlp : l ≠ p := Ne.symm (((pt5.same s56).same s6 |>.same s7).ne hl)
      have nlb : l ≠ bl := fun z => by have := s7 _ _ (s6 _ _ (s56 _ _ bl5)); rw [← z,hl] at this; cases this
      obtain ⟨X8,e8,k8,s8⟩ : ∃ H',upd X7 l (.lst [.ref t1,.ref t2]) = H' ∧ H' l = some (.lst [.ref t1,.ref t2]) ∧ Same X7 H' := ⟨_,rfl,upd_same,Same.new hl⟩
      rw [show upd X7 l _ = X8 from e8]
      exact hR _ _ ⟨l,t1,t2,rfl,k8,by rw [hW1,hZ1]; exact s8 _ _ (s7 _ _ k6),by rw [hW2,hZ2]; exact s8 _ _ k7,nlp,nlb,((s56.trans s6).trans s7).trans s8⟩
  rintro _ H7 ⟨l,t1,t2,rfl,l7,k71,k72,nlp,nlb,s57⟩
  have pt7 := pt5.same s57
  have bl7 := s57 _ _ bl5
  have wd1 : 1 ≤ W1 ∧ W1 < 10 ^ 60 ∧ 1 ≤ Z1 ∧ Z1 < 10 ^ 60 ∧ 1 ≤ W2 ∧ W2 < 10 ^ 60 ∧ 1 ≤ Z2 ∧ Z2 < 10 ^ 60 := by
    cases dn <;> simp only [if_true,Bool.false_eq_true,if_false] at hsd hW1 hZ1 hW2 hZ2 <;> refine ⟨?_,?_,?_,?_,?_,?_,?_,?_⟩ <;> omega
  obtain ⟨g1,g2,g3,g4,g5,g6,g7,g8⟩ := wd1
  refine ⟨_,rfl,_,rfl,_,rfl,_,rfl,_,rfl,l,_,0,_,rfl,rfl,SqL.of l7,rfl,_,rfl,_,_,rfl,rfl,_,rfl,_,rfl,p,bl,kl,t1,b,rs,ks,W1,Z1,xs4,d',so,_,(by rw [← ed]; rfl),k71,s57 _ _ kl5,nkp,nkb,nbp,Tups.keep (fun a xs e => s57 _ _ e) tp5,r8,gk,b0,g1,g2,g3,g4,bl7,(by omega),.inr ⟨dn,rfl⟩,pt7,fun v1 u1 xs8 H8 tv1 ok1 dp1 bl8 pt8 b78 => ?_⟩
  have kt8 := keepT b78 pt7 bl7
  have l8 := b78 _ _ nlp nlb l7
  have tp8 : Tups H8 rs ks := Tups.keep kt8 (Tups.keep (fun a xs e => s57 _ _ e) tp5)
  refine ⟨_,rfl,_,rfl,_,rfl,_,rfl,_,rfl,l,_,1,_,rfl,rfl,SqL.of l8,rfl,_,rfl,_,_,rfl,rfl,_,rfl,_,rfl,p,bl,kl,t2,b,rs,ks,W2,Z2,xs8,d',so,_,(by rw [← ed]; rfl),kt8 _ _ k72,b78 _ _ nkp nkb (s57 _ _ kl5),nkp,nkb,nbp,tp8,r8,gk,b0,g5,g6,g7,g8,bl8,(by omega),.inr ⟨dn,rfl⟩,pt8,fun v2 u2 xs9 H9 tv2 ok2 dp2 bl9 pt9 b89 => ?_⟩
  refine ⟨_,rfl,_,rfl,_,rfl,_,rfl,(by show 4 ≤ sizeLine; decide),fun t ht => ?_⟩
  obtain ⟨HA, e10, k10, s10⟩ : ∃ H', upd H9 t (.tup [.str (if dn = true then "down" else "across"), .int (1 + pl), v1, v2]) = H' ∧ H' t = some (.tup [.str (if dn = true then "down" else "across"), .int (1 + pl), v1, v2]) ∧ Same H9 H' := ⟨_, rfl, upd_same, Same.new ht⟩
  rw [show upd H9 t _ = HA from e10]
  refine q _ (.cut dn (1 + pl) u1 u2) xs9 HA ⟨t,v1,v2,rfl,k10,TrV.keep (fun a xs e => s10 _ _ (keepT b89 pt8 bl8 _ _ e)) u1 tv1,TrV.keep (fun a xs e => s10 _ _ e) u2 tv2⟩ ⟨by omega,?_⟩ (by show max (dpT u1) (dpT u2) + 1 ≤ deep; omega) (s10 _ _ bl9) (pt9.same s10) (b15.trans (But2.trans (fun c o _ _ e => s57 _ _ e) (b78.trans (b89.trans (fun c o _ _ e => s10 _ _ e)))))
  subst hW1 hZ1 hW2 hZ2
  cases dn with
  | true => exact ⟨by simp only [if_true] at hsd; omega,ok1,ok2⟩
  | false => exact ⟨by simp only [Bool.false_eq_true,if_false] at hsd; omega,ok1,ok2⟩
theorem ok_treeb0 {f : Addr} {fd : FuncData} (F : Fun K "_law_tree" "_law_tree" sTree f fd) : FnOk P w K mg base CX0 3 f fd ["_law_pot_here","_law_budget","_law_blade","_law_kinds","_law_part","_law_depth","_law_sort","_law_last"] (spTreeB 0) := by
  refine F.ok sctreeb (fun vs H Q E h => ?_) (fun cdv A outer s H vs Q E hr h => ?_)
  · obtain ⟨p,bl,kl,pa,b,rs,ks,w1,h1,xs,deep,so,la,rfl,_⟩ := h
    rfl
  · obtain ⟨p,bl,kl,pa,b,rs,ks,w1,h1,xs,deep,so,la,_,_,_,_,_,_,_,_,_,_,_,_,_,_,_,z,_⟩ := h
    exact absurd z (Nat.not_lt_zero _)
theorem ok_treebN {f : Addr} {fd : FuncData} (F : Fun K "_law_tree" "_law_tree" sTree f fd) (B : Blt mg) (DD : Dn P w K mg base "_law_draw" ["_law_pot_here","_law_many"] 1 (spDrawB)) (DL : Dn P w K mg base "_law_leaf" ["_law_pot_here","_law_kinds","_law_wide","_law_high"] 2 (spLeafB)) (DW : Dn P w K mg base "_law_way" ["_law_pot_here","_law_sort","_law_last"] 2 (spWay)) (mk : ∀ n,FnOk P w K mg base CX0 (3 + n) f fd ["_law_pot_here","_law_budget","_law_blade","_law_kinds","_law_part","_law_depth","_law_sort","_law_last"] (spTreeB n) → Dn P w K mg base "_law_tree" ["_law_pot_here","_law_budget","_law_blade","_law_kinds","_law_part","_law_depth","_law_sort","_law_last"] (3 + n) (spTreeB n)) : ∀ n,FnOk P w K mg base CX0 (3 + n) f fd ["_law_pot_here","_law_budget","_law_blade","_law_kinds","_law_part","_law_depth","_law_sort","_law_last"] (spTreeB n)
  | 0 => ok_treeb0 F
  | n + 1 => ok_treeb F B n DD DL DW (mk n (ok_treebN F B DD DL DW mk n))
end
def rowT (dn : Bool) : Nat → Tr
  | 0 => .rest
  | i + 1 => .cut dn 1 .rest (rowT dn i)
theorem rowT_ok {b : Int} {ks : List Kd} {dn : Bool} (b0 : 0 ≤ b) : ∀ (i : Nat) (w h : Int),1 + (i : Int) * (1 + b) ≤ (if dn = true then w else h) → okT b ks w h (rowT dn i)
  | 0,_,_,_ => trivial
  | i + 1,w,h,hs => by
    have e : ((i + 1 : Nat) : Int) * (1 + b) = (i : Int) * (1 + b) + (1 + b) := by rw [Int.natCast_add,Int.add_mul]; simp
    have e0 : 0 ≤ (i : Int) * (1 + b) := Int.mul_nonneg (by omega) (by omega)
    rw [e] at hs
    cases dn with
    | true =>
      have hs : 1 + ((i : Int) * (1 + b) + (1 + b)) ≤ w := hs
      exact ⟨Int.le_refl _,by omega,trivial,rowT_ok (dn := true) b0 i _ _ (by show _ ≤ w - 1 - b; omega)⟩
    | false =>
      have hs : 1 + ((i : Int) * (1 + b) + (1 + b)) ≤ h := hs
      exact ⟨Int.le_refl _,by omega,trivial,rowT_ok (dn := false) b0 i _ _ (by show _ ≤ h - 1 - b; omega)⟩
theorem rowT_dp (dn : Bool) : ∀ i : Nat,dpT (rowT dn i) = i
  | 0 => rfl
  | i + 1 => by show max 0 (dpT (rowT dn i)) + 1 = i + 1; rw [rowT_dp dn i]; omega
theorem rowT_sz (dn : Bool) : ∀ i : Nat,szT (rowT dn i) = 2 * i + 1
  | 0 => rfl
  | i + 1 => by show 1 + szT (rowT dn i) + 1 = _; rw [rowT_sz dn i]; omega
theorem trHead {H : Hp} {v : V} : ∀ {t : Tr}, TrV H t v → ∃ (a : Addr) (y : Str) (r : List V), v = .ref a ∧ H a = some (.tup (.str y :: r)) ∧ ((inV (V.str y) [V.str "down", V.str "across"] = false ∧ inV (V.str y) [V.str "rest", V.str "piece"] = true ∧ dpT t = 0 ∧ (t = .rest ∨ ∃ i c x y, t = .piece i c x y)) ∨ ∃ (dn : Bool) (p : Int) (l r' : Tr) (x z : V), y = (if dn = true then ("down" : Str) else "across") ∧ t = .cut dn p l r' ∧ r = [.int p, x, z] ∧ TrV H l x ∧ TrV H r' z ∧ inV (V.str y) [V.str "down", V.str "across"] = true ∧ inV (V.str y) [V.str "rest", V.str "piece"] = false)
  | .rest,⟨a,e,h⟩ => ⟨a,_,_,e,h,.inl ⟨by decide +kernel,by decide +kernel,rfl,.inl rfl⟩⟩
  | .piece ..,⟨a,e,h⟩ => ⟨a,_,_,e,h,.inl ⟨by decide +kernel,by decide +kernel,rfl,.inr ⟨_,_,_,_,rfl⟩⟩⟩
  | .cut dn p l r,⟨a,x,z,e,h,h1,h2⟩ => ⟨a,_,_,e,h,.inr ⟨dn,p,l,r,x,z,rfl,rfl,rfl,h1,h2,by cases dn <;> decide +kernel,by cases dn <;> decide +kernel⟩⟩
section
variable {P : Program} {w : World} {K : PySem.W.Frag} {mg : Str → Option Value} {base : Heap}
def spLRow : Sp := fun vs H Q _ => ∃ (p pa : Addr) (b w h : Int) (dn : Bool), vs = [.ref p, .int b, .ref pa, .str (if dn = true then "down" else "across")] ∧ H pa = some (.tup [.int w, .int h]) ∧ 0 ≤ b ∧ b ≤ 2 ∧ PotB H p ∧ ∀ (v : V) (t : Tr) (H' : Hp), TrV H' t v → (∀ ks, okT b ks w h t) → dpT t ≤ 3 → szT t ≤ 7 → PotB H' p → But p H H' → Q v H'
def spBeside : Sp := fun vs H Q _ => ∃ (p kl pa : Addr) (b : Int) (rs : List V) (ks : List Kd) (w h so : Int) (dn : Bool), vs = [.ref p, .int b, .ref kl, .ref pa, .int so, .str (if dn = true then "down" else "across")] ∧ H pa = some (.tup [.int w, .int h]) ∧ H kl = some (.lst rs) ∧ kl ≠ p ∧ Tups H rs ks ∧ rs.length ≤ 8 ∧ (∀ k ∈ ks, Good k) ∧ 0 ≤ b ∧ b ≤ 2 ∧ 1 ≤ w ∧ w < 10 ^ 60 ∧ 1 ≤ h ∧ h < 10 ^ 60 ∧ PotB H p ∧ ∀ (v : V) (t : Tr) (H' : Hp), TrV H' t v → okT b ks w h t → dpT t ≤ 3 → szT t ≤ 7 → PotB H' p → But p H H' → Q v H'
def spAround : Sp := fun vs H Q _ => ∃ (p kl pa : Addr) (b : Int) (rs : List V) (ks : List Kd) (w h so : Int) (v : V) (t : Tr),vs = [.ref p,.int b,.ref kl,.ref pa,v,.int so] ∧ H pa = some (.tup [.int w,.int h]) ∧ H kl = some (.lst rs) ∧ kl ≠ p ∧ Tups H rs ks ∧ rs.length ≤ 8 ∧ (∀ k ∈ ks,Good k) ∧ 0 ≤ b ∧ b ≤ 2 ∧ 1 ≤ w ∧ w < 10 ^ 59 ∧ 1 ≤ h ∧ h < 10 ^ 59 ∧ TrV H t v ∧ okT b ks w h t ∧ PotB H p ∧ ∀ (a qa : Addr) (v' : V) (t' : Tr) (w' h' : Int) (H' : Hp),H' a = some (.tup [.ref qa,v']) → H' qa = some (.tup [.int w',.int h']) → 1 ≤ w' → w' ≤ w + 7 → 1 ≤ h' → h' ≤ h + 7 → TrV H' t' v' → okT b ks w' h' t' → dpT t' ≤ max (dpT t) 3 + 1 → szT t' ≤ szT t + 8 → PotB H' p → But p H H' → Q (.ref a) H'
def PlT (b : Int) (ks : List Kd) (H : Hp) (a : Addr) (w h : Int) (t : Tr) : Prop := ∃ (qa : Addr) (v : V),H a = some (.tup [.ref qa,v]) ∧ H qa = some (.tup [.int w,.int h]) ∧ 1 ≤ w ∧ w < 10 ^ 60 ∧ 1 ≤ h ∧ h < 10 ^ 60 ∧ TrV H t v ∧ okT b ks w h t ∧ dpT t ≤ 59 ∧ szT t ≤ 2047
def spDeep : Sp := fun vs H Q _ => ∃ (p kl : Addr) (b : Int) (rs : List V) (ks : List Kd) (so : Int),vs = [.ref p,.int b,.ref kl,.int so] ∧ H kl = some (.lst rs) ∧ kl ≠ p ∧ Tups H rs ks ∧ rs.length ≤ 8 ∧ (∀ k ∈ ks,Good k) ∧ 0 ≤ b ∧ b ≤ 2 ∧ PotB H p ∧ ∀ (a : Addr) (w h : Int) (t : Tr) (H' : Hp),PlT b ks H' a w h t → PotB H' p → But p H H' → Q (.ref a) H'
def spDrawn : Sp := fun vs H Q _ => ∃ (p kl : Addr) (b : Int) (rs : List V) (ks : List Kd),vs = [.ref p,.int b,.ref kl] ∧ H kl = some (.lst rs) ∧ kl ≠ p ∧ Tups H rs ks ∧ rs.length ≤ 8 ∧ (∀ k ∈ ks,Good k) ∧ 0 ≤ b ∧ b ≤ 2 ∧ PotB H p ∧ ∀ (a : Addr) (w h : Int) (t : Tr) (H' : Hp),PlT b ks H' a w h t → PotB H' p → But p H H' → Q (.ref a) H'
theorem sclrow : FnScope ["_law_pot_here","_law_blade","_law_part","_law_way_here","_law_many","_law_side_here","_law_tree_here","_law_k"] ["_law_pot_here","_law_blade","_law_part","_law_way_here"] (defScope sLRow) := ⟨rfl,rfl,rfl,by decide +kernel,rfl,by decide +kernel,by decide +kernel⟩
theorem ok_lrow {f : Addr} {fd : FuncData} (F : Fun K "_law_row" "_law_row" sLRow f fd) (B : Blt mg) (DD : Dn P w K mg base "_law_draw" ["_law_pot_here","_law_many"] 1 (spDrawB)) : FnOk P w K mg base CX0 2 f fd ["_law_pot_here","_law_blade","_law_part","_law_way_here"] (spLRow) := by
  refine F.ok sclrow (fun vs H Q E h => ?_) (fun cdv A outer s H vs Q E hr h => ?_)
  · obtain ⟨p,pa,b,w1,h1,dn,rfl,_⟩ := h
    rfl
  obtain ⟨p,pa,b,w1,h1,dn,rfl,hpa,b0,b2',pt,q⟩ := h
  have nd := sclrow.nd
  refine ⟨_,(@pss_cons _ _ _ _ _ (@ps_set _ _ 4 _ _ _ _ nd rfl (Or.inl rfl) (@pe_cD _ _ _ _ _ _ _ _ _ _ DD hr rfl (@pa_cons _ _ _ _ _ (pv 0) (@pa_cons _ _ _ _ _ pe_int pa_nil rfl) rfl) (by decide) rfl rfl) rfl (Or.inl rfl)) (@pss_cons _ _ _ _ _ (@ps_set _ _ 5 _ _ _ _ nd rfl (Or.inl rfl) (@pe_ix _ _ _ _ _ _ _ ix_list (@pe_lst _ _ _ _ (@pa_cons _ _ _ _ _ (@pe_ix _ _ _ _ _ _ _ ix_tup (pv 2) pe_int (fun _ _ => rfl)) (@pa_cons _ _ _ _ _ (@pe_ix _ _ _ _ _ _ _ ix_tup (pv 2) pe_int (fun _ _ => rfl)) pa_nil rfl) rfl)) (@pe_callTy _ _ _ _ _ _ _ _ _ call_int1 rfl B.int PyProof.Rows.boot_int (@pa_cons _ _ _ _ _ (@pe_cmpR _ _ _ _ _ _ _ _ op_eq (pv 3) pe_str (nomark _)) pa_nil rfl) (by decide) (by decide) rfl rfl) (fun _ _ => rfl)) rfl (Or.inl rfl)) (@pss_cons _ _ _ _ _ (@ps_if _ _ _ _ _ _ _ _ (PW.pt (pw_or (@pt_cmpR _ _ _ _ _ _ _ _ op_lt (pv 4) pe_int (nomark _)) (pw_or1 (@pt_cmpR _ _ _ _ _ _ _ _ op_lt (pv 5) (@pe_op _ _ _ _ _ _ _ _ op_add pe_int (@pe_op _ _ _ _ _ _ _ _ op_mul (@pe_op _ _ _ _ _ _ _ _ op_sub (pv 4) pe_int) (@pe_op _ _ _ _ _ _ _ _ op_add pe_int (pv 1)))) (nomark _))))) (@pss_one _ _ _ (@ps_ret _ _ _ _ (@pe_tup _ _ _ _ _ (@pa_cons _ _ _ _ _ pe_str pa_nil rfl)))) pss_nil) (@pss_cons _ _ _ _ _ (@ps_set _ _ 6 _ _ _ _ nd rfl (Or.inl rfl) (@pe_tup _ _ _ _ _ (@pa_cons _ _ _ _ _ pe_str pa_nil rfl)) rfl (Or.inl rfl)) (@pss_cons _ _ _ _ _ (@ps_for _ _ _ _ _ _ _ _ PassesOwn.never rfl (pi_range1 rfl B.range (@pa_cons _ _ _ _ _ (@pe_op _ _ _ _ _ _ _ _ op_sub (pv 4) pe_int) pa_nil rfl)) (pg_name (i := 7) nd rfl (Or.inl rfl)) (@pss_one _ _ _ (@ps_set _ _ 6 _ _ _ _ nd rfl (Or.inl rfl) (@pe_tup _ _ _ _ _ (@pa_cons _ _ _ _ _ (pv 3) (@pa_cons _ _ _ _ _ pe_int (@pa_cons _ _ _ _ _ (@pe_tup _ _ _ _ _ (@pa_cons _ _ _ _ _ pe_str pa_nil rfl)) (@pa_cons _ _ _ _ _ (pv 6) pa_nil rfl) rfl) rfl) rfl)) rfl (Or.inl rfl))) (by intro _; rfl)) (@pss_one _ _ _ (@ps_ret _ _ _ _ (pv 6)))))))),?_⟩
  have e60 : (100 : Int) < 10 ^ 60 := by decide
  refine seqCut (fun σ' H' => ∃ m : Int, σ' = [some (.ref p), some (.int b), some (.ref pa), some (.str (if dn = true then "down" else "across")), some (.int m), none, none, none] ∧ 0 ≤ m ∧ m < 5 ∧ PotB H' p ∧ But p H H') (fun R hR => ?_) ?_
  · exact ⟨_,rfl,p,5,rfl,pt,by decide,by decide,fun m H1 m0 m1 pt1 b1 => hR _ _ ⟨m,rfl,m0,m1,pt1,b1⟩⟩
  rintro _ H1 ⟨m,rfl,m0,m1,pt1,b1⟩
  have kT : ∀ {Hx : Hp},But p H Hx → ∀ a xs,H a = some (.tup xs) → Hx a = some (.tup xs) := fun {Hx} bx a xs e => by
    obtain ⟨_,hp⟩ := potL pt
    exact bx _ _ (fun z => by rw [z,hp] at e; cases e) e
  refine seqCut (fun σ' H' => σ' = [some (.ref p), some (.int b), some (.ref pa), some (.str (if dn = true then "down" else "across")), some (.int m), some (.int (if dn = true then w1 else h1)), none, none] ∧ PotB H' p ∧ But p H H') (fun R hR => ?_) ?_
  · have hpa1 := kT b1 _ _ hpa
    refine ⟨_,rfl,pa,_,0,_,rfl,rfl,SqT.of hpa1,rfl,_,rfl,pa,_,1,_,rfl,rfl,SqT.of hpa1,rfl,(by show 2 ≤ sizeLine; decide),fun l hl => ?_⟩
    obtain ⟨H2,e2,k2,n2,s2,b2,pt2⟩ := put1 (o := .lst [.int w1,.int h1]) b1 pt1 hl
    rw [show upd H1 l _ = H2 from e2]
    refine ⟨_,rfl,rfl,.inr ⟨_,rfl,l,_,_,.int (if dn = true then w1 else h1),rfl,rfl,SqL.of k2,?_,hR _ _ ⟨rfl,pt2,b2⟩⟩⟩
    rw [wd_ac]
    cases dn <;> rfl
  rintro _ H2 ⟨rfl,pt2,b2⟩
  obtain ⟨sd,hsd⟩ : ∃ sd,(if dn = true then w1 else h1) = sd := ⟨_,rfl⟩
  rw [hsd]
  have leaf : ∀ Hx,But p H Hx → PotB Hx p → 1 ≤ sizeLine ∧ ∀ t,Hx t = none → Q (.ref t) (upd Hx t (.tup [.str "rest"])) := fun Hx bx ptx => ⟨by decide,fun t ht => by
    obtain ⟨H3,e3,k3,n3,s3,b3,pt3⟩ := put1 (o := .tup [.str "rest"]) bx ptx ht
    rw [show upd Hx t _ = H3 from e3]
    exact q _ .rest H3 ⟨t,rfl,k3⟩ (fun _ => trivial) (by show 0 ≤ 3; decide) (by show 1 ≤ 7; decide) pt3 b3⟩
  refine seqCut (fun σ' H' => σ' = [some (.ref p), some (.int b), some (.ref pa), some (.str (if dn = true then "down" else "across")), some (.int m), some (.int sd), none, none] ∧ 2 ≤ m ∧ 1 + (m - 1) * (1 + b) ≤ sd ∧ H2 = H') (fun R hR => ?_) ?_
  · refine ⟨_,rfl,_,_,rfl,rfl,_,rfl,?_⟩
    by_cases c1 : m < 2
    · rw [decide_eq_true c1]
      exact iteT (iteT (leaf _ b2 pt2))
    rw [decide_eq_false c1]
    refine iteF ⟨_,rfl,_,rfl,_,_,rfl,rfl,_,rfl,_,_,rfl,rfl,_,_,rfl,rfl,.inl ⟨by omega,by omega⟩,_,_,rfl,rfl,_,_,rfl,rfl,_,rfl,?_⟩
    by_cases c2 : sd < 1 + (m - 1) * (1 + b)
    · rw [decide_eq_true c2]
      exact iteT (leaf _ b2 pt2)
    rw [decide_eq_false c2]
    exact iteF (hR _ _ ⟨rfl,by omega,by omega,rfl⟩)
  rintro _ _ ⟨rfl,m2,hms,rfl⟩
  refine seqCut (fun σ' H' => ∃ (v v7 : V), σ' = [some (.ref p), some (.int b), some (.ref pa), some (.str (if dn = true then "down" else "across")), some (.int m), some (.int sd), some v, none] ∧ TrV H' (rowT dn 0) v ∧ PotB H' p ∧ But p H H') (fun R hR => ?_) ?_
  · refine ⟨by decide,fun t ht => ?_⟩
    obtain ⟨H3,e3,k3,n3,s3,b3,pt3⟩ := put1 (o := .tup [.str "rest"]) b2 pt2 ht
    rw [show upd H2 t _ = H3 from e3]
    exact hR _ _ ⟨_,.non,rfl,⟨t,rfl,k3⟩,pt3,b3⟩
  rintro _ H3 ⟨v,_,rfl,tv,pt3,b3⟩
  have em : ((m - 1).toNat : Int) = m - 1 := by omega
  refine seqCut (fun σ' H' => ∃ (v : V) (v7 : Option V), σ' = [some (.ref p), some (.int b), some (.ref pa), some (.str (if dn = true then "down" else "across")), some (.int m), some (.int sd), some v, v7] ∧ TrV H' (rowT dn (m - 1).toNat) v ∧ PotB H' p ∧ But p H H') (fun R hR => ?_) ?_
  · refine ⟨_, rfl, _, _, rfl, rfl, _, rfl, by omega, by omega, for_range (lo := 0) (n := (m - 1).toNat) (fun i σ' H' => ∃ (v : V) (v7 : Option V), σ' = [some (.ref p), some (.int b), some (.ref pa), some (.str (if dn = true then "down" else "across")), some (.int m), some (.int sd), some v, v7] ∧ TrV H' (rowT dn i) v ∧ PotB H' p ∧ But p H H') ⟨v, none, rfl, tv, pt3, b3⟩ ?_ (fun σ H1 ⟨v, v7, e, tv, pt1, b1⟩ => hR _ _ ⟨v, v7, e, tv, pt1, b1⟩)⟩
    rintro i σ H4 hi ⟨v,v7,rfl,tv,pt4,b4⟩
    refine ⟨_,rfl,by decide,fun t ht => ?_⟩
    obtain ⟨H5,e5,k5,n5,s5,b5,pt5⟩ := put1 (o := .tup [.str "rest"]) b4 pt4 ht
    rw [show upd H4 t _ = H5 from e5]
    refine ⟨_,rfl,(by show 4 ≤ sizeLine; decide),fun u hu => ?_⟩
    obtain ⟨H6,e6,k6,n6,s6,b6,pt6⟩ := put1 (o := .tup [.str (if dn = true then "down" else "across"),.int 1,.ref t,v]) b5 pt5 hu
    rw [show upd H5 u _ = H6 from e6]
    exact ⟨_,_,rfl,⟨u,_,_,rfl,k6,⟨t,rfl,s6 _ _ k5⟩,TrV.keep (fun a xs e => s6 _ _ (s5 _ _ e)) _ tv⟩,pt6,b6⟩
  rintro _ H4 ⟨v,v7,rfl,tv,pt4,b4⟩
  exact ⟨_,rfl,q v _ H4 tv (fun ks => rowT_ok b0 _ _ _ (by rw [em,hsd]; exact hms)) (by rw [rowT_dp]; omega) (by rw [rowT_sz]; omega) pt4 b4⟩
theorem scbeside : FnScope ["_law_pot_here","_law_blade","_law_kinds","_law_part","_law_sort","_law_way_here"] ["_law_pot_here","_law_blade","_law_kinds","_law_part","_law_sort","_law_way_here"] (defScope sBeside) := ⟨rfl,rfl,rfl,by decide +kernel,rfl,by decide +kernel,by decide +kernel⟩
theorem ok_beside {f : Addr} {fd : FuncData} (F : Fun K "_law_beside" "_law_beside" sBeside f fd) (B : Blt mg) (DD : Dn P w K mg base "_law_draw" ["_law_pot_here","_law_many"] 1 (spDrawB)) (DL : Dn P w K mg base "_law_leaf" ["_law_pot_here","_law_kinds","_law_wide","_law_high"] 2 (spLeafB)) (DW : Dn P w K mg base "_law_way" ["_law_pot_here","_law_sort","_law_last"] 2 (spWay)) (DR : Dn P w K mg base "_law_row" ["_law_pot_here","_law_blade","_law_part","_law_way_here"] 2 (spLRow)) : FnOk P w K mg base CX0 3 f fd ["_law_pot_here","_law_blade","_law_kinds","_law_part","_law_sort","_law_way_here"] (spBeside) := by
  refine F.ok scbeside (fun vs H Q E h => ?_) (fun cdv A outer s H vs Q E hr h => ?_)
  · obtain ⟨p,kl,pa,b,rs,ks,w1,h1,so,dn,rfl,_⟩ := h
    rfl
  obtain ⟨p,kl,pa,b,rs,ks,w1,h1,so,dn,rfl,hpa,hk0,nkp,tp,r8,gk,b0,b2',w0,w60,h0,h60,pt,q⟩ := h
  have nd := scbeside.nd
  refine ⟨_,(@pss_cons _ _ _ _ _ (@ps_if _ _ _ _ _ _ _ _ (@pt_cmpR _ _ _ _ _ _ _ _ op_eq (@pe_cD _ _ _ _ _ _ _ _ _ _ DD (hr.mono (by decide)) rfl (@pa_cons _ _ _ _ _ (pv 0) (@pa_cons _ _ _ _ _ pe_int pa_nil rfl) rfl) (by decide) rfl rfl) pe_int (nomark _)) (@pss_one _ _ _ (@ps_ret _ _ _ _ (@pe_cD _ _ _ _ _ _ _ _ _ _ DL hr rfl (@pa_cons _ _ _ _ _ (pv 0) (@pa_cons _ _ _ _ _ (pv 2) (@pa_cons _ _ _ _ _ (@pe_ix _ _ _ _ _ _ _ ix_tup (pv 3) pe_int (fun _ _ => rfl)) (@pa_cons _ _ _ _ _ (@pe_ix _ _ _ _ _ _ _ ix_tup (pv 3) pe_int (fun _ _ => rfl)) pa_nil rfl) rfl) rfl) rfl) (by decide) rfl rfl))) pss_nil) (@pss_one _ _ _ (@ps_ret _ _ _ _ (@pe_cD _ _ _ _ _ _ _ _ _ _ DR hr rfl (@pa_cons _ _ _ _ _ (pv 0) (@pa_cons _ _ _ _ _ (pv 1) (@pa_cons _ _ _ _ _ (pv 3) (@pa_cons _ _ _ _ _ (@pe_cD _ _ _ _ _ _ _ _ _ _ DW hr rfl (@pa_cons _ _ _ _ _ (pv 0) (@pa_cons _ _ _ _ _ (pv 4) (@pa_cons _ _ _ _ _ (pv 5) pa_nil rfl) rfl) rfl) (by decide) rfl rfl) pa_nil rfl) rfl) rfl) rfl) (by decide) rfl rfl)))),?_⟩
  have kT : ∀ {Hx : Hp},But p H Hx → ∀ a xs,H a = some (.tup xs) → Hx a = some (.tup xs) := fun {Hx} bx a xs e => by
    obtain ⟨_,hp⟩ := potL pt
    exact bx _ _ (fun z => by rw [z,hp] at e; cases e) e
  refine ⟨_,rfl,p,2,rfl,pt,by decide,by decide,fun z H1 z0 z1 pt1 b1 => ⟨rfl,_,rfl,?_⟩⟩
  have hpa1 := kT b1 _ _ hpa
  refine ite2 (fun cc => ?_) (fun cc => ?_)
  · refine ⟨_,rfl,_,rfl,_,rfl,pa,_,0,_,rfl,rfl,SqT.of hpa1,rfl,_,rfl,pa,_,1,_,rfl,rfl,SqT.of hpa1,rfl,p,kl,rs,ks,w1,h1,rfl,nkp,b1 _ _ nkp hk0,tupsB b1 pt tp,r8,gk,w0,w60,h0,h60,pt1,fun v t H' tv ok lf pt' b' => ?_⟩
    rcases lf with rfl | ⟨_,_,_,_,rfl⟩
    · exact q v _ H' tv (ok b) (by show 0 ≤ 3; decide) (by show 1 ≤ 7; decide) pt' (b1.trans b')
    · exact q v _ H' tv (ok b) (by show 0 ≤ 3; decide) (by show 1 ≤ 7; decide) pt' (b1.trans b')
  · refine ⟨_,rfl,_,rfl,_,rfl,_,rfl,_,rfl,_,rfl,p,so,_,rfl,.inr ⟨dn,rfl⟩,pt1,fun dn' H2 pt2 b2 => ?_⟩
    have b12 := b1.trans b2
    exact ⟨p,pa,b,w1,h1,dn',rfl,kT b12 _ _ hpa,b0,b2',pt2,fun v t H' tv ok d1 d2 pt' b' => q v t H' tv (ok ks) d1 d2 pt' (b12.trans b')⟩
theorem scaround : FnScope ["_law_pot_here","_law_blade","_law_kinds","_law_part","_law_tree_here","_law_sort","_law_last","_law_way_here","_law_more","_law_wide","_law_high","_law_beside_here","_law_whole","_law_own","_law_other"] ["_law_pot_here","_law_blade","_law_kinds","_law_part","_law_tree_here","_law_sort"] (defScope sAround) := ⟨rfl,rfl,rfl,by decide +kernel,rfl,by decide +kernel,by decide +kernel⟩
theorem ok_around {f : Addr} {fd : FuncData} (F : Fun K "_law_around" "_law_around" sAround f fd) (B : Blt mg) (DD : Dn P w K mg base "_law_draw" ["_law_pot_here","_law_many"] 1 (spDrawB)) (DW : Dn P w K mg base "_law_way" ["_law_pot_here","_law_sort","_law_last"] 2 (spWay)) (DB : Dn P w K mg base "_law_beside" ["_law_pot_here","_law_blade","_law_kinds","_law_part","_law_sort","_law_way_here"] 3 (spBeside)) : FnOk P w K mg base CX0 4 f fd ["_law_pot_here","_law_blade","_law_kinds","_law_part","_law_tree_here","_law_sort"] (spAround) := by
  refine F.ok scaround (fun vs H Q E h => ?_) (fun cdv A outer s H vs Q E hr h => ?_)
  · obtain ⟨p,kl,pa,b,rs,ks,w1,h1,so,v,t,rfl,_⟩ := h
    rfl
  obtain ⟨p,kl,pa,b,rs,ks,w1,h1,so,v,t,rfl,hpa,hk0,nkp,tp,r8,gk,b0,b2',w0,w60,h0,h60,tv,oth,pt,q⟩ := h
  have nd := scaround.nd
  refine ⟨_,(@pss_cons _ _ _ _ _ (@ps_set _ _ 6 _ _ _ _ nd rfl (Or.inl rfl) pe_non rfl (Or.inl rfl)) (@pss_cons _ _ _ _ _ (@ps_if _ _ _ _ _ _ _ _ (@pt_cmpR _ _ _ _ _ _ _ _ op_in_seq (@pe_ix _ _ _ _ _ _ _ ix_tup (pv 4) pe_int (fun _ _ => rfl)) (@pe_tup _ _ _ _ _ (@pa_cons _ _ _ _ _ pe_str (@pa_cons _ _ _ _ _ pe_str pa_nil rfl) rfl)) rfl) (@pss_one _ _ _ (@ps_set _ _ 6 _ _ _ _ nd rfl (Or.inl rfl) (@pe_ix _ _ _ _ _ _ _ ix_tup (pv 4) pe_int (fun _ _ => rfl)) rfl (Or.inl rfl))) pss_nil) (@pss_cons _ _ _ _ _ (@ps_set _ _ 7 _ _ _ _ nd rfl (Or.inl rfl) (@pe_cD _ _ _ _ _ _ _ _ _ _ DW (hr.mono (by decide)) rfl (@pa_cons _ _ _ _ _ (pv 0) (@pa_cons _ _ _ _ _ (pv 5) (@pa_cons _ _ _ _ _ (pv 6) pa_nil rfl) rfl) rfl) (by decide) rfl rfl) rfl (Or.inl rfl)) (@pss_cons _ _ _ _ _ (@ps_set _ _ 8 _ _ _ _ nd rfl (Or.inl rfl) (@pe_op _ _ _ _ _ _ _ _ op_add pe_int (@pe_cD _ _ _ _ _ _ _ _ _ _ DD (hr.mono (by decide)) rfl (@pa_cons _ _ _ _ _ (pv 0) (@pa_cons _ _ _ _ _ pe_int pa_nil rfl) rfl) (by decide) rfl rfl)) rfl (Or.inl rfl)) (@pss_cons _ _ _ _ _ (@ps_asg _ _ _ _ _ _ (pv 3) (pg_tup rfl (pgs_cons (pg_name (i := 9) nd rfl (Or.inl rfl)) (pgs_cons (pg_name (i := 10) nd rfl (Or.inl rfl)) pgs_nil))) rfl rfl rfl) (@pss_cons _ _ _ _ _ (ps_par rfl nd rfl rfl (i := 11) (j := 12) (by decide) rfl rfl (@pa_cons _ _ _ _ _ (@pe_tup _ _ _ _ _ (@pa_cons _ _ _ _ _ (pv 8) (@pa_cons _ _ _ _ _ (pv 10) pa_nil rfl) rfl)) (@pa_cons _ _ _ _ _ (@pe_tup _ _ _ _ _ (@pa_cons _ _ _ _ _ (@pe_op _ _ _ _ _ _ _ _ op_add (@pe_op _ _ _ _ _ _ _ _ op_add (pv 9) (pv 1)) (pv 8)) (@pa_cons _ _ _ _ _ (pv 10) pa_nil rfl) rfl)) pa_nil rfl) rfl) rfl) (@pss_cons _ _ _ _ _ (@ps_set _ _ 13 _ _ _ _ nd rfl (Or.inl rfl) (pv 9) rfl (Or.inl rfl)) (@pss_cons _ _ _ _ _ (@ps_if _ _ _ _ _ _ _ _ (@pt_cmpR _ _ _ _ _ _ _ _ op_eq (pv 7) pe_str (nomark _)) (@pss_cons _ _ _ _ _ (ps_par rfl nd rfl rfl (i := 11) (j := 12) (by decide) rfl rfl (@pa_cons _ _ _ _ _ (@pe_tup _ _ _ _ _ (@pa_cons _ _ _ _ _ (pv 9) (@pa_cons _ _ _ _ _ (pv 8) pa_nil rfl) rfl)) (@pa_cons _ _ _ _ _ (@pe_tup _ _ _ _ _ (@pa_cons _ _ _ _ _ (pv 9) (@pa_cons _ _ _ _ _ (@pe_op _ _ _ _ _ _ _ _ op_add (@pe_op _ _ _ _ _ _ _ _ op_add (pv 10) (pv 1)) (pv 8)) pa_nil rfl) rfl)) pa_nil rfl) rfl) rfl) (@pss_one _ _ _ (@ps_set _ _ 13 _ _ _ _ nd rfl (Or.inl rfl) (pv 10) rfl (Or.inl rfl)))) pss_nil) (@pss_cons _ _ _ _ _ (@ps_set _ _ 14 _ _ _ _ nd rfl (Or.inl rfl) (@pe_cD _ _ _ _ _ _ _ _ _ _ DB hr rfl (@pa_cons _ _ _ _ _ (pv 0) (@pa_cons _ _ _ _ _ (pv 1) (@pa_cons _ _ _ _ _ (pv 2) (@pa_cons _ _ _ _ _ (pv 11) (@pa_cons _ _ _ _ _ (pv 5) (@pa_cons _ _ _ _ _ (pv 7) pa_nil rfl) rfl) rfl) rfl) rfl) rfl) (by decide) rfl rfl) rfl (Or.inl rfl)) (@pss_cons _ _ _ _ _ (@ps_if _ _ _ _ _ _ _ _ (@pt_cmpR _ _ _ _ _ _ _ _ op_eq (@pe_cD _ _ _ _ _ _ _ _ _ _ DD (hr.mono (by decide)) rfl (@pa_cons _ _ _ _ _ (pv 0) (@pa_cons _ _ _ _ _ pe_int pa_nil rfl) rfl) (by decide) rfl rfl) pe_int (nomark _)) (@pss_one _ _ _ (@ps_ret _ _ _ _ (@pe_tup _ _ _ _ _ (@pa_cons _ _ _ _ _ (pv 12) (@pa_cons _ _ _ _ _ (@pe_tup _ _ _ _ _ (@pa_cons _ _ _ _ _ (pv 7) (@pa_cons _ _ _ _ _ (pv 13) (@pa_cons _ _ _ _ _ (pv 4) (@pa_cons _ _ _ _ _ (pv 14) pa_nil rfl) rfl) rfl) rfl)) pa_nil rfl) rfl)))) pss_nil) (@pss_one _ _ _ (@ps_ret _ _ _ _ (@pe_tup _ _ _ _ _ (@pa_cons _ _ _ _ _ (pv 12) (@pa_cons _ _ _ _ _ (@pe_tup _ _ _ _ _ (@pa_cons _ _ _ _ _ (pv 7) (@pa_cons _ _ _ _ _ (pv 8) (@pa_cons _ _ _ _ _ (pv 14) (@pa_cons _ _ _ _ _ (pv 4) pa_nil rfl) rfl) rfl) rfl)) pa_nil rfl) rfl)))))))))))))),?_⟩
  have e60 : (100 : Int) < 10 ^ 60 := by decide
  have e59 : (10 : Int) ^ 59 + 100 < 10 ^ 60 := by decide
  have kT : ∀ {Hx Hy : Hp},PotB Hx p → But p Hx Hy → ∀ a xs,Hx a = some (.tup xs) → Hy a = some (.tup xs) := fun {Hx Hy} px bx a xs e => by
    obtain ⟨_,hp⟩ := potL px
    exact bx _ _ (fun z => by rw [z,hp] at e; cases e) e
  obtain ⟨a,y,r,rfl,ha,hd⟩ := trHead tv
  refine seqCut (fun σ' H' => σ' = [some (.ref p),some (.int b),some (.ref kl),some (.ref pa),some (.ref a),some (.int so),some .non,none,none,none,none,none,none,none,none] ∧ H = H') (fun R hR => hR _ _ ⟨rfl,rfl⟩) ?_
  rintro _ _ ⟨rfl,rfl⟩
  refine seqCut (fun σ' H' => ∃ la : V,σ' = [some (.ref p),some (.int b),some (.ref kl),some (.ref pa),some (.ref a),some (.int so),some la,none,none,none,none,none,none,none,none] ∧ WayV la ∧ PotB H' p ∧ But p H H') (fun R hR => ?_) ?_
  · refine ⟨_,rfl,a,_,0,_,rfl,rfl,SqT.of ha,atI_int (Int.le_refl _) rfl,(by show 2 ≤ sizeLine; decide),fun l hl => ?_⟩
    obtain ⟨H2,e2,k2,n2,s2,b2,pt2⟩ := put1 (o := .tup [.str "down",.str "across"]) But.refl pt hl
    rw [show upd H l _ = H2 from e2]
    refine ⟨l,_,rfl,.inr (SqT.of k2),rfl,rfl,_,rfl,?_⟩
    rcases hd with ⟨f1,_⟩ | ⟨dn,pc,tl,tr,x,z,ey,_,_,_,_,f1,_⟩
    · rw [show (if false = true then !inV (V.str y) [V.str "down",V.str "across"] else inV (V.str y) [V.str "down",V.str "across"]) = false from f1]
      exact iteF (hR _ _ ⟨_,rfl,.inl rfl,pt2,b2⟩)
    · rw [show (if false = true then !inV (V.str y) [V.str "down",V.str "across"] else inV (V.str y) [V.str "down",V.str "across"]) = true from f1]
      exact iteT ⟨_,rfl,a,_,0,_,rfl,rfl,SqT.of (s2 _ _ ha),atI_int (Int.le_refl _) rfl,hR _ _ ⟨_,rfl,.inr ⟨dn,by rw [ey]⟩,pt2,b2⟩⟩
  rintro _ H1 ⟨la,rfl,hla,pt1,b1⟩
  refine seqCut (fun σ' H' => ∃ dn : Bool, σ' = [some (.ref p), some (.int b), some (.ref kl), some (.ref pa), some (.ref a), some (.int so), some la, some (.str (if dn = true then "down" else "across")), none, none, none, none, none, none, none] ∧ PotB H' p ∧ But p H H') (fun R hR => ?_) ?_
  · exact ⟨_,rfl,_,rfl,_,rfl,p,so,la,rfl,hla,pt1,fun dn H2 pt2 b2 => hR _ _ ⟨dn,rfl,pt2,b1.trans b2⟩⟩
  rintro _ H2 ⟨dn,rfl,pt2,b2⟩
  refine seqCut (fun σ' H' => ∃ m : Int, σ' = [some (.ref p), some (.int b), some (.ref kl), some (.ref pa), some (.ref a), some (.int so), some la, some (.str (if dn = true then "down" else "across")), some (.int (1 + m)), none, none, none, none, none, none] ∧ 0 ≤ m ∧ m < 5 ∧ PotB H' p ∧ But p H H') (fun R hR => ?_) ?_
  · exact ⟨_,rfl,p,5,rfl,pt2,by decide,by decide,fun m H3 m0 m1 pt3 b3 => ⟨_,_,rfl,rfl,hR _ _ ⟨m,rfl,m0,m1,pt3,b2.trans b3⟩⟩⟩
  rintro _ H3 ⟨m,rfl,m0,m1,pt3,b3⟩
  refine seqCut (fun σ' H' => σ' = [some (.ref p), some (.int b), some (.ref kl), some (.ref pa), some (.ref a), some (.int so), some la, some (.str (if dn = true then "down" else "across")), some (.int (1 + m)), some (.int w1), some (.int h1), none, none, none, none] ∧ H3 = H') (fun R hR => ?_) ?_
  · exact ⟨_,rfl,pa,_,rfl,SqT.of (kT pt b3 _ _ hpa),rfl,_,_,rfl,_,_,rfl,rfl,hR _ _ ⟨rfl,rfl⟩⟩
  rintro _ _ ⟨rfl,rfl⟩
  refine seqCut (fun σ' H' => ∃ t1 t2 : Addr, σ' = [some (.ref p), some (.int b), some (.ref kl), some (.ref pa), some (.ref a), some (.int so), some la, some (.str (if dn = true then "down" else "across")), some (.int (1 + m)), some (.int w1), some (.int h1), some (.ref t1), some (.ref t2), none, none] ∧ H' t1 = some (.tup [.int (1 + m), .int h1]) ∧ H' t2 = some (.tup [.int (w1 + b + (1 + m)), .int h1]) ∧ PotB H' p ∧ But p H H') (fun R hR => ?_) ?_
  · refine ⟨_,rfl,_,rfl,(by show 2 ≤ sizeLine; decide),fun t1 ht1 => ?_⟩
    obtain ⟨H4,e4,k4,n4,s4,b4,pt4⟩ := put1 (o := .tup [.int (1 + m),.int h1]) b3 pt3 ht1
    rw [show upd H3 t1 _ = H4 from e4]
    refine ⟨_,rfl,_,rfl,_,_,rfl,rfl,_,rfl,_,_,rfl,rfl,_,rfl,(by show 2 ≤ sizeLine; decide),fun t2 ht2 => ?_⟩
    obtain ⟨H5,e5,k5,n5,s5,b5,pt5⟩ := put1 (o := .tup [.int (w1 + b + (1 + m)),.int h1]) b4 pt4 ht2
    rw [show upd H4 t2 _ = H5 from e5]
    exact ⟨_,_,rfl,hR _ _ ⟨t1,t2,rfl,s5 _ _ k4,k5,pt5,b5⟩⟩
  rintro _ H4 ⟨t1,t2,rfl,k41,k42,pt4,b4⟩
  refine seqCut (fun σ' H' => σ' = [some (.ref p), some (.int b), some (.ref kl), some (.ref pa), some (.ref a), some (.int so), some la, some (.str (if dn = true then "down" else "across")), some (.int (1 + m)), some (.int w1), some (.int h1), some (.ref t1), some (.ref t2), some (.int w1), none] ∧ H4 = H') (fun R hR => ⟨_, rfl, hR _ _ ⟨rfl, rfl⟩⟩) ?_
  rintro _ _ ⟨rfl,rfl⟩
  obtain ⟨W1,hW1⟩ : ∃ W1 : Int,W1 = (if dn = true then 1 + m else w1) := ⟨_,rfl⟩
  obtain ⟨Z1,hZ1⟩ : ∃ Z1 : Int,Z1 = (if dn = true then h1 else 1 + m) := ⟨_,rfl⟩
  obtain ⟨W2,hW2⟩ : ∃ W2 : Int,W2 = (if dn = true then w1 + b + (1 + m) else w1) := ⟨_,rfl⟩
  obtain ⟨Z2,hZ2⟩ : ∃ Z2 : Int,Z2 = (if dn = true then h1 else h1 + b + (1 + m)) := ⟨_,rfl⟩
  obtain ⟨ow,how⟩ : ∃ ow : Int,ow = (if dn = true then w1 else h1) := ⟨_,rfl⟩
  refine seqCut (fun σ' H' => ∃ t1 t2 : Addr, σ' = [some (.ref p), some (.int b), some (.ref kl), some (.ref pa), some (.ref a), some (.int so), some la, some (.str (if dn = true then "down" else "across")), some (.int (1 + m)), some (.int w1), some (.int h1), some (.ref t1), some (.ref t2), some (.int ow), none] ∧ H' t1 = some (.tup [.int W1, .int Z1]) ∧ H' t2 = some (.tup [.int W2, .int Z2]) ∧ PotB H' p ∧ But p H H') (fun R hR => ?_) ?_
  · refine ⟨_,rfl,rfl,_,rfl,?_⟩
    rw [wd_ac]
    cases dn with
    | true => exact iteF (hR _ _ ⟨t1,t2,by rw [how]; rfl,by rw [hW1,hZ1]; exact k41,by rw [hW2,hZ2]; exact k42,pt4,b4⟩)
    | false =>
      refine iteT ?_
      refine ⟨_,rfl,_,rfl,(by show 2 ≤ sizeLine; decide),fun u1 hu1 => ?_⟩
      obtain ⟨H5,e5,k5,n5,s5,b5,pt5⟩ := put1 (o := .tup [.int w1,.int (1 + m)]) b4 pt4 hu1
      rw [show upd H4 u1 _ = H5 from e5]
      refine ⟨_,rfl,_,rfl,_,rfl,_,_,rfl,rfl,_,rfl,_,_,rfl,rfl,(by show 2 ≤ sizeLine; decide),fun u2 hu2 => ?_⟩
      obtain ⟨H6,e6,k6,n6,s6,b6,pt6⟩ := put1 (o := .tup [.int w1,.int (h1 + b + (1 + m))]) b5 pt5 hu2
      rw [show upd H5 u2 _ = H6 from e6]
      exact ⟨_,_,rfl,_,rfl,hR _ _ ⟨u1,u2,by rw [how]; rfl,by rw [hW1,hZ1]; exact s6 _ _ k5,by rw [hW2,hZ2]; exact k6,pt6,b6⟩⟩
  rintro _ H5 ⟨u1,u2,rfl,k51,k52,pt5,b5⟩
  have wd1 : 1 ≤ W1 ∧ W1 < 10 ^ 60 ∧ 1 ≤ Z1 ∧ Z1 < 10 ^ 60 ∧ 1 ≤ W2 ∧ W2 ≤ w1 + 7 ∧ 1 ≤ Z2 ∧ Z2 ≤ h1 + 7 := by
    cases dn <;> simp only [if_true,Bool.false_eq_true,if_false] at hW1 hZ1 hW2 hZ2 <;> refine ⟨?_,?_,?_,?_,?_,?_,?_,?_⟩ <;> omega
  obtain ⟨g1,g2,g3,g4,g5,g6,g7,g8⟩ := wd1
  refine ⟨_,rfl,_,rfl,_,rfl,_,rfl,_,rfl,_,rfl,p,kl,u1,b,rs,ks,W1,Z1,so,dn,rfl,k51,b5 _ _ nkp hk0,nkp,tupsB b5 pt tp,r8,gk,b0,b2',g1,g2,g3,g4,pt5,fun v2 tt H6 tv2 ok2 dp2 sz2 pt6 b56 => ?_⟩
  have b6 := b5.trans b56
  have tv6 := TrV.keep (kT pt b6) t tv
  have k62 := kT pt5 b56 _ _ k52
  refine ⟨_,rfl,p,2,rfl,pt6,by decide,by decide,fun z H7 z0 z1 pt7 b67 => ⟨rfl,_,rfl,?_⟩⟩
  have b7 := b6.trans b67
  have tv7 := TrV.keep (kT pt6 b67) t tv6
  have tv72 := TrV.keep (kT pt6 b67) tt tv2
  have k72 := kT pt6 b67 _ _ k62
  refine ite2 (fun cc => ?_) (fun cc => ?_)
  · refine ⟨_,rfl,_,rfl,_,rfl,_,rfl,_,rfl,(by show 4 ≤ sizeLine; decide),fun a1 ha1 => ?_⟩
    obtain ⟨H8,e8,k8,n8,s8,b8,pt8⟩ := put1 (o := .tup [.str (if dn = true then "down" else "across"),.int ow,.ref a,v2]) b7 pt7 ha1
    rw [show upd H7 a1 _ = H8 from e8]
    refine ⟨(by show 2 ≤ sizeLine; decide),fun a2 ha2 => ?_⟩
    obtain ⟨H9,e9,k9,n9,s9,b9,pt9⟩ := put1 (o := .tup [.ref u2,.ref a1]) b8 pt8 ha2
    rw [show upd H8 a2 _ = H9 from e9]
    refine q a2 u2 (.ref a1) (.cut dn ow t tt) W2 Z2 H9 k9 (s9 _ _ (s8 _ _ k72)) g5 g6 g7 g8 ⟨a1,_,_,rfl,s9 _ _ k8,TrV.keep (fun a xs e => s9 _ _ (s8 _ _ e)) t tv7,TrV.keep (fun a xs e => s9 _ _ (s8 _ _ e)) tt tv72⟩ ?_ (by show max (dpT t) (dpT tt) + 1 ≤ _; omega) (by show szT t + szT tt + 1 ≤ _; omega) pt9 b9
    subst hW1 hZ1 hW2 hZ2 how
    cases dn with
    | true => exact ⟨w0,by show w1 + b < w1 + b + (1 + m); omega,oth,by show okT b ks (w1 + b + (1 + m) - w1 - b) h1 tt; rw [show w1 + b + (1 + m) - w1 - b = 1 + m by omega]; exact ok2⟩
    | false => exact ⟨h0,by show h1 + b < h1 + b + (1 + m); omega,oth,by show okT b ks w1 (h1 + b + (1 + m) - h1 - b) tt; rw [show h1 + b + (1 + m) - h1 - b = 1 + m by omega]; exact ok2⟩
  · refine ⟨_,rfl,_,rfl,_,rfl,_,rfl,_,rfl,(by show 4 ≤ sizeLine; decide),fun a1 ha1 => ?_⟩
    obtain ⟨H8,e8,k8,n8,s8,b8,pt8⟩ := put1 (o := .tup [.str (if dn = true then "down" else "across"),.int (1 + m),v2,.ref a]) b7 pt7 ha1
    rw [show upd H7 a1 _ = H8 from e8]
    refine ⟨(by show 2 ≤ sizeLine; decide),fun a2 ha2 => ?_⟩
    obtain ⟨H9,e9,k9,n9,s9,b9,pt9⟩ := put1 (o := .tup [.ref u2,.ref a1]) b8 pt8 ha2
    rw [show upd H8 a2 _ = H9 from e9]
    refine q a2 u2 (.ref a1) (.cut dn (1 + m) tt t) W2 Z2 H9 k9 (s9 _ _ (s8 _ _ k72)) g5 g6 g7 g8 ⟨a1,_,_,rfl,s9 _ _ k8,TrV.keep (fun a xs e => s9 _ _ (s8 _ _ e)) tt tv72,TrV.keep (fun a xs e => s9 _ _ (s8 _ _ e)) t tv7⟩ ?_ (by show max (dpT tt) (dpT t) + 1 ≤ _; omega) (by show szT tt + szT t + 1 ≤ _; omega) pt9 b9
    subst hW1 hZ1 hW2 hZ2 how
    cases dn with
    | true => exact ⟨by omega,by show 1 + m + b < w1 + b + (1 + m); omega,ok2,by show okT b ks (w1 + b + (1 + m) - (1 + m) - b) h1 t; rw [show w1 + b + (1 + m) - (1 + m) - b = w1 by omega]; exact oth⟩
    | false => exact ⟨by omega,by show 1 + m + b < h1 + b + (1 + m); omega,ok2,by show okT b ks w1 (h1 + b + (1 + m) - (1 + m) - b) t; rw [show h1 + b + (1 + m) - (1 + m) - b = h1 by omega]; exact oth⟩
end
section
variable {P : Program} {w : World} {K : PySem.W.Frag} {mg : Str → Option Value} {base : Heap}
theorem scdeep : FnScope ["_law_pot_here","_law_blade","_law_kinds","_law_sort","_law_part","_law_tree_here","_law_k"] ["_law_pot_here","_law_blade","_law_kinds","_law_sort"] (defScope sDeep) := ⟨rfl,rfl,rfl,by decide +kernel,rfl,by decide +kernel,by decide +kernel⟩
theorem ok_deep {f : Addr} {fd : FuncData} (F : Fun K "_law_deep" "_law_deep" sDeep f fd) (B : Blt mg) (DD : Dn P w K mg base "_law_draw" ["_law_pot_here","_law_many"] 1 (spDrawB)) (DL : Dn P w K mg base "_law_leaf" ["_law_pot_here","_law_kinds","_law_wide","_law_high"] 2 (spLeafB)) (DA : Dn P w K mg base "_law_around" ["_law_pot_here","_law_blade","_law_kinds","_law_part","_law_tree_here","_law_sort"] 4 (spAround)) : FnOk P w K mg base CX0 5 f fd ["_law_pot_here","_law_blade","_law_kinds","_law_sort"] (spDeep) := by
  refine F.ok scdeep (fun vs H Q E h => ?_) (fun cdv A outer s H vs Q E hr h => ?_)
  · obtain ⟨p,kl,b,rs,ks,so,rfl,_⟩ := h
    rfl
  obtain ⟨p,kl,b,rs,ks,so,rfl,hk0,nkp,tp,r8,gk,b0,b2',pt,q⟩ := h
  have nd := scdeep.nd
  refine ⟨_,(@pss_cons _ _ _ _ _ (@ps_set _ _ 4 _ _ _ _ nd rfl (Or.inl rfl) (@pe_tup _ _ _ _ _ (@pa_cons _ _ _ _ _ (@pe_op _ _ _ _ _ _ _ _ op_add pe_int (@pe_cD _ _ _ _ _ _ _ _ _ _ DD (hr.mono (by decide)) rfl (@pa_cons _ _ _ _ _ (pv 0) (@pa_cons _ _ _ _ _ pe_int pa_nil rfl) rfl) (by decide) rfl rfl)) (@pa_cons _ _ _ _ _ (@pe_op _ _ _ _ _ _ _ _ op_add pe_int (@pe_cD _ _ _ _ _ _ _ _ _ _ DD (hr.mono (by decide)) rfl (@pa_cons _ _ _ _ _ (pv 0) (@pa_cons _ _ _ _ _ pe_int pa_nil rfl) rfl) (by decide) rfl rfl)) pa_nil rfl) rfl)) rfl (Or.inl rfl)) (@pss_cons _ _ _ _ _ (@ps_set _ _ 5 _ _ _ _ nd rfl (Or.inl rfl) (@pe_cD _ _ _ _ _ _ _ _ _ _ DL (hr.mono (by decide)) rfl (@pa_cons _ _ _ _ _ (pv 0) (@pa_cons _ _ _ _ _ (pv 2) (@pa_cons _ _ _ _ _ (@pe_ix _ _ _ _ _ _ _ ix_tup (pv 4) pe_int (fun _ _ => rfl)) (@pa_cons _ _ _ _ _ (@pe_ix _ _ _ _ _ _ _ ix_tup (pv 4) pe_int (fun _ _ => rfl)) pa_nil rfl) rfl) rfl) rfl) (by decide) rfl rfl) rfl (Or.inl rfl)) (@pss_cons _ _ _ _ _ (@ps_for _ _ _ _ _ _ _ _ PassesOwn.never rfl (pi_range1 rfl B.range (@pa_cons _ _ _ _ _ (@pe_ix _ _ _ _ _ _ _ ix_list (@pe_lst _ _ _ _ (@pa_cons _ _ _ _ _ pe_int (@pa_cons _ _ _ _ _ (@pe_op _ _ _ _ _ _ _ _ op_add pe_int (@pe_cD _ _ _ _ _ _ _ _ _ _ DD (hr.mono (by decide)) rfl (@pa_cons _ _ _ _ _ (pv 0) (@pa_cons _ _ _ _ _ pe_int pa_nil rfl) rfl) (by decide) rfl rfl)) pa_nil rfl) rfl)) (@pe_cD _ _ _ _ _ _ _ _ _ _ DD (hr.mono (by decide)) rfl (@pa_cons _ _ _ _ _ (pv 0) (@pa_cons _ _ _ _ _ pe_int pa_nil rfl) rfl) (by decide) rfl rfl) (fun _ _ => rfl)) pa_nil rfl)) (pg_name (i := 6) nd rfl (Or.inl rfl)) (@pss_one _ _ _ (@ps_asg _ _ _ _ _ _ (@pe_cD _ _ _ _ _ _ _ _ _ _ DA hr rfl (@pa_cons _ _ _ _ _ (pv 0) (@pa_cons _ _ _ _ _ (pv 1) (@pa_cons _ _ _ _ _ (pv 2) (@pa_cons _ _ _ _ _ (pv 4) (@pa_cons _ _ _ _ _ (pv 5) (@pa_cons _ _ _ _ _ (pv 3) pa_nil rfl) rfl) rfl) rfl) rfl) rfl) (by decide) rfl rfl) (pg_tup rfl (pgs_cons (pg_name (i := 4) nd rfl (Or.inl rfl)) (pgs_cons (pg_name (i := 5) nd rfl (Or.inl rfl)) pgs_nil))) rfl rfl rfl)) (by intro _; rfl)) (@pss_one _ _ _ (@ps_ret _ _ _ _ (@pe_tup _ _ _ _ _ (@pa_cons _ _ _ _ _ (pv 4) (@pa_cons _ _ _ _ _ (pv 5) pa_nil rfl) rfl))))))),?_⟩
  have e60 : (1000 : Int) < 10 ^ 59 := by decide
  have e61 : (1000 : Int) < 10 ^ 60 := by decide
  have kT : ∀ {Hx Hy : Hp},PotB Hx p → But p Hx Hy → ∀ a xs,Hx a = some (.tup xs) → Hy a = some (.tup xs) := fun {Hx Hy} px bx a xs e => by
    obtain ⟨_,hp⟩ := potL px
    exact bx _ _ (fun z => by rw [z,hp] at e; cases e) e
  refine seqCut (fun σ' H' => ∃ (pa : Addr) (w1 h1 : Int),σ' = [some (.ref p),some (.int b),some (.ref kl),some (.int so),some (.ref pa),none,none] ∧ H' pa = some (.tup [.int w1,.int h1]) ∧ 1 ≤ w1 ∧ w1 ≤ 6 ∧ 1 ≤ h1 ∧ h1 ≤ 6 ∧ PotB H' p ∧ But p H H') (fun R hR => ?_) ?_
  · refine ⟨_,rfl,p,6,rfl,pt,by decide,by decide,fun r1 H1 r10 r11 pt1 b1 => ⟨_,_,rfl,rfl,_,rfl,p,6,rfl,pt1,by decide,by decide,fun r2 H2 r20 r21 pt2 b2 => ⟨_,_,rfl,rfl,(by show 2 ≤ sizeLine; decide),fun pa hpa => ?_⟩⟩⟩
    obtain ⟨H3,e3,k3,n3,s3,b3,pt3⟩ := put1 (o := .tup [.int (1 + r1),.int (1 + r2)]) (b1.trans b2) pt2 hpa
    rw [show upd H2 pa _ = H3 from e3]
    exact hR _ _ ⟨pa,1 + r1,1 + r2,rfl,k3,by omega,by omega,by omega,by omega,pt3,b3⟩
  rintro _ H1 ⟨pa,w1,h1,rfl,hpa,w0,w6,h0,h6,pt1,b1⟩
  refine seqCut (fun σ' H' => ∃ (pa : Addr) (v : V) (t : Tr) (w1 h1 : Int) (v6 : Option V),σ' = [some (.ref p),some (.int b),some (.ref kl),some (.int so),some (.ref pa),some v,v6] ∧ H' pa = some (.tup [.int w1,.int h1]) ∧ 1 ≤ w1 ∧ w1 ≤ 6 + 7 * (0 : Int) ∧ 1 ≤ h1 ∧ h1 ≤ 6 + 7 * (0 : Int) ∧ TrV H' t v ∧ okT b ks w1 h1 t ∧ dpT t ≤ 3 + 0 ∧ szT t ≤ 1 + 8 * 0 ∧ PotB H' p ∧ But p H H') (fun R hR => ?_) ?_
  · refine ⟨_,rfl,_,rfl,_,rfl,pa,_,0,_,rfl,rfl,SqT.of hpa,rfl,_,rfl,pa,_,1,_,rfl,rfl,SqT.of hpa,rfl,p,kl,rs,ks,w1,h1,rfl,nkp,b1 _ _ nkp hk0,tupsB b1 pt tp,r8,gk,w0,by omega,h0,by omega,pt1,fun v t H2 tv ok lf pt2 b2 => ?_⟩
    have d : dpT t = 0 ∧ szT t = 1 := by rcases lf with rfl | ⟨_,_,_,_,rfl⟩ <;> exact ⟨rfl,rfl⟩
    exact hR _ _ ⟨pa,v,t,w1,h1,none,rfl,kT pt1 b2 _ _ hpa,w0,by omega,h0,by omega,tv,ok b,by omega,by omega,pt2,b1.trans b2⟩
  clear hpa w0 w6 h0 h6 pt1 b1
  clear pa w1 h1 H1
  rintro _ H1 ⟨pa,v,t,w1,h1,v6,rfl,hpa,w0,w6,h0,h6,tv,oth,dp,sz,pt1,b1⟩
  refine seqCut (fun σ' H' => ∃ (pa : Addr) (v : V) (t : Tr) (w1 h1 : Int) (v6 : Option V),σ' = [some (.ref p),some (.int b),some (.ref kl),some (.int so),some (.ref pa),some v,v6] ∧ H' pa = some (.tup [.int w1,.int h1]) ∧ 1 ≤ w1 ∧ w1 ≤ 6 + 7 * (56 : Int) ∧ 1 ≤ h1 ∧ h1 ≤ 6 + 7 * (56 : Int) ∧ TrV H' t v ∧ okT b ks w1 h1 t ∧ dpT t ≤ 3 + 56 ∧ szT t ≤ 1 + 8 * 56 ∧ PotB H' p ∧ But p H H') (fun R hR => ?_) ?_
  · refine ⟨_,rfl,p,56,rfl,pt1,by decide,by decide,fun r H2 r0 r1 pt2 b2 => ⟨_,_,rfl,rfl,(by show 2 ≤ sizeLine; decide),fun l hl => ?_⟩⟩
    obtain ⟨H3,e3,k3,n3,s3,b3,pt3⟩ := put1 (o := .lst [.int 56,.int (1 + r)]) (b1.trans b2) pt2 hl
    rw [show upd H2 l _ = H3 from e3]
    refine ⟨_,rfl,p,2,rfl,pt3,by decide,by decide,fun z H4 z0 z1 pt4 b4 => ?_⟩
    obtain ⟨j,hj,j1,j2⟩ : ∃ j : Int,atI [V.int 56,V.int (1 + r)] z = some (.int j) ∧ 1 ≤ j ∧ j ≤ 56 := by
      rcases (show z = 0 ∨ z = 1 by omega) with rfl | rfl
      · exact ⟨56,rfl,by decide,by decide⟩
      · exact ⟨1 + r,rfl,by omega,by omega⟩
    refine ⟨l,_,_,_,rfl,rfl,SqL.of (b4 _ _ n3 k3),hj,j,rfl,by omega,by omega,for_range (lo := 0) (n := j.toNat) (fun i σ' H' => ∃ (pa : Addr) (v : V) (t : Tr) (w1 h1 : Int) (v6 : Option V),σ' = [some (.ref p),some (.int b),some (.ref kl),some (.int so),some (.ref pa),some v,v6] ∧ H' pa = some (.tup [.int w1,.int h1]) ∧ 1 ≤ w1 ∧ w1 ≤ 6 + 7 * (i : Int) ∧ 1 ≤ h1 ∧ h1 ≤ 6 + 7 * (i : Int) ∧ TrV H' t v ∧ okT b ks w1 h1 t ∧ dpT t ≤ 3 + i ∧ szT t ≤ 1 + 8 * i ∧ PotB H' p ∧ But p H H') ⟨pa,v,t,w1,h1,v6,rfl,kT pt3 b4 _ _ (s3 _ _ (kT pt1 b2 _ _ hpa)),w0,by omega,h0,by omega,TrV.keep (fun a xs e => kT pt3 b4 _ _ (s3 _ _ (kT pt1 b2 _ _ e))) t tv,oth,by omega,by omega,pt4,b3.trans b4⟩ ?_ ?_⟩
    · clear hpa w0 w6 h0 h6 tv oth dp sz
      clear hj hl k3 n3 s3 e3 b3 pt3
      rintro i σ H5 hi ⟨pa,v,t,w1,h1,v6,rfl,hpa,w0,w6,h0,h6,tv,oth,dp,sz,pt5,b5⟩
      have hi' : (i : Int) < 56 := by omega
      refine ⟨_,rfl,_,rfl,_,rfl,_,rfl,_,rfl,_,rfl,p,kl,pa,b,rs,ks,w1,h1,so,v,t,rfl,hpa,b5 _ _ nkp hk0,nkp,tupsB b5 pt tp,r8,gk,b0,b2',w0,by omega,h0,by omega,tv,oth,pt5,fun a qa v' t' w' h' H6 ha hq w0' w6' h0' h6' tv' ok' dp' sz' pt6 b6 => ?_⟩
      exact ⟨a,_,rfl,SqT.of ha,rfl,_,_,rfl,_,_,rfl,rfl,qa,v',t',w',h',_,rfl,hq,w0',by omega,h0',by omega,tv',ok',by omega,by omega,pt6,b5.trans b6⟩
    · rintro σ H5 ⟨pa,v,t,w1,h1,v6,e,hpa,w0,w6,h0,h6,tv,oth,dp,sz,pt5,b5⟩
      exact hR _ _ ⟨pa,v,t,w1,h1,v6,e,hpa,w0,by omega,h0,by omega,tv,oth,by omega,by omega,pt5,b5⟩
  clear hpa w0 w6 h0 h6 tv oth dp sz pt1 b1
  clear pa v t w1 h1 v6 H1
  rintro _ H1 ⟨pa,v,t,w1,h1,v6,rfl,hpa,w0,w6,h0,h6,tv,oth,dp,sz,pt1,b1⟩
  refine ⟨_,rfl,_,rfl,(by show 2 ≤ sizeLine; decide),fun a ha => ?_⟩
  obtain ⟨H2,e2,k2,n2,s2,b2,pt2⟩ := put1 (o := .tup [.ref pa,v]) b1 pt1 ha
  rw [show upd H1 a _ = H2 from e2]
  exact q a w1 h1 t H2 ⟨pa,v,k2,s2 _ _ hpa,w0,by omega,h0,by omega,TrV.keep (fun a xs e => s2 _ _ e) t tv,oth,by omega,by omega⟩ pt2 b2
theorem scdrawn : FnScope ["_law_pot_here","_law_blade","_law_kinds","_law_sort","_law_part"] ["_law_pot_here","_law_blade","_law_kinds"] (defScope sDrawn) := ⟨rfl,rfl,rfl,by decide +kernel,rfl,by decide +kernel,by decide +kernel⟩
theorem ok_drawn {f : Addr} {fd : FuncData} (F : Fun K "_law_drawn" "_law_drawn" sDrawn f fd) (B : Blt mg) (DD : Dn P w K mg base "_law_draw" ["_law_pot_here","_law_many"] 1 (spDrawB)) (DS : Dn P w K mg base "_law_side" ["_law_pot_here"] 3 (spSideB)) (DP : Dn P w K mg base "_law_deep" ["_law_pot_here","_law_blade","_law_kinds","_law_sort"] 5 (spDeep)) (DT : Dn P w K mg base "_law_tree" ["_law_pot_here","_law_budget","_law_blade","_law_kinds","_law_part","_law_depth","_law_sort","_law_last"] 14 (spTreeB 11)) : FnOk P w K mg base CX0 15 f fd ["_law_pot_here","_law_blade","_law_kinds"] (spDrawn) := by
  refine F.ok scdrawn (fun vs H Q E h => ?_) (fun cdv A outer s H vs Q E hr h => ?_)
  · obtain ⟨p,kl,b,rs,ks,rfl,_⟩ := h
    rfl
  obtain ⟨p,kl,b,rs,ks,rfl,hk0,nkp,tp,r8,gk,b0,b2',pt,q⟩ := h
  have nd := scdrawn.nd
  refine ⟨_,(@pss_cons _ _ _ _ _ (@ps_set _ _ 3 _ _ _ _ nd rfl (Or.inl rfl) (@pe_cD _ _ _ _ _ _ _ _ _ _ DD (hr.mono (by decide)) rfl (@pa_cons _ _ _ _ _ (pv 0) (@pa_cons _ _ _ _ _ pe_int pa_nil rfl) rfl) (by decide) rfl rfl) rfl (Or.inl rfl)) (@pss_cons _ _ _ _ _ (@ps_if _ _ _ _ _ _ _ _ (@pt_cmpR _ _ _ _ _ _ _ _ op_eq (@pe_cD _ _ _ _ _ _ _ _ _ _ DD (hr.mono (by decide)) rfl (@pa_cons _ _ _ _ _ (pv 0) (@pa_cons _ _ _ _ _ pe_int pa_nil rfl) rfl) (by decide) rfl rfl) pe_int (nomark _)) (@pss_one _ _ _ (@ps_ret _ _ _ _ (@pe_cD _ _ _ _ _ _ _ _ _ _ DP (hr.mono (by decide)) rfl (@pa_cons _ _ _ _ _ (pv 0) (@pa_cons _ _ _ _ _ (pv 1) (@pa_cons _ _ _ _ _ (pv 2) (@pa_cons _ _ _ _ _ (pv 3) pa_nil rfl) rfl) rfl) rfl) (by decide) rfl rfl))) pss_nil) (@pss_cons _ _ _ _ _ (@ps_set _ _ 4 _ _ _ _ nd rfl (Or.inl rfl) (@pe_tup _ _ _ _ _ (@pa_cons _ _ _ _ _ (@pe_cD _ _ _ _ _ _ _ _ _ _ DS (hr.mono (by decide)) rfl (@pa_cons _ _ _ _ _ (pv 0) pa_nil rfl) (by decide) rfl rfl) (@pa_cons _ _ _ _ _ (@pe_cD _ _ _ _ _ _ _ _ _ _ DS (hr.mono (by decide)) rfl (@pa_cons _ _ _ _ _ (pv 0) pa_nil rfl) (by decide) rfl rfl) pa_nil rfl) rfl)) rfl (Or.inl rfl)) (@pss_one _ _ _ (@ps_ret _ _ _ _ (@pe_tup _ _ _ _ _ (@pa_cons _ _ _ _ _ (pv 4) (@pa_cons _ _ _ _ _ (@pe_cD _ _ _ _ _ _ _ _ _ _ DT hr rfl (@pa_cons _ _ _ _ _ (pv 0) (@pa_cons _ _ _ _ _ (@pe_listRng _ _ _ _ _ _ _ rfl rfl B.list rfl B.range (@pa_cons _ _ _ _ _ pe_int pa_nil rfl) rfl rfl) (@pa_cons _ _ _ _ _ (pv 1) (@pa_cons _ _ _ _ _ (pv 2) (@pa_cons _ _ _ _ _ (pv 4) (@pa_cons _ _ _ _ _ pe_int (@pa_cons _ _ _ _ _ (pv 3) (@pa_cons _ _ _ _ _ pe_non pa_nil rfl) rfl) rfl) rfl) rfl) rfl) rfl) rfl) (by decide) rfl rfl) pa_nil rfl) rfl))))))),?_⟩
  have kT : ∀ {Hx Hy : Hp},PotB Hx p → But p Hx Hy → ∀ a xs,Hx a = some (.tup xs) → Hy a = some (.tup xs) := fun {Hx Hy} px bx a xs e => by
    obtain ⟨_,hp⟩ := potL px
    exact bx _ _ (fun z => by rw [z,hp] at e; cases e) e
  refine seqCut (fun σ' H' => ∃ so : Int,σ' = [some (.ref p),some (.int b),some (.ref kl),some (.int so),none] ∧ PotB H' p ∧ But p H H') (fun R hR => ?_) ?_
  · exact ⟨_,rfl,p,3,rfl,pt,by decide,by decide,fun r H1 r0 r1 pt1 b1 => hR _ _ ⟨r,rfl,pt1,b1⟩⟩
  rintro _ H1 ⟨so,rfl,pt1,b1⟩
  refine seqCut (fun σ' H' => σ' = [some (.ref p),some (.int b),some (.ref kl),some (.int so),none] ∧ PotB H' p ∧ But p H H') (fun R hR => ?_) ?_
  · refine ⟨_,rfl,p,4,rfl,pt1,by decide,by decide,fun z H2 z0 z1 pt2 b2 => ⟨rfl,_,rfl,?_⟩⟩
    have b12 := b1.trans b2
    refine ite2 (fun cc => ?_) (fun cc => hR _ _ ⟨rfl,pt2,b12⟩)
    exact ⟨_,rfl,_,rfl,_,rfl,_,rfl,p,kl,b,rs,ks,so,rfl,b12 _ _ nkp hk0,nkp,tupsB b12 pt tp,r8,gk,b0,b2',pt2,fun a w1 h1 t H3 pl pt3 b3 => q a w1 h1 t H3 pl pt3 (b12.trans b3)⟩
  rintro _ H2 ⟨rfl,pt2,b2⟩
  refine seqCut (fun σ' H' => ∃ (pa : Addr) (w1 h1 : Int),σ' = [some (.ref p),some (.int b),some (.ref kl),some (.int so),some (.ref pa)] ∧ H' pa = some (.tup [.int w1,.int h1]) ∧ 1 ≤ w1 ∧ w1 < 10 ^ 60 ∧ 1 ≤ h1 ∧ h1 < 10 ^ 60 ∧ PotB H' p ∧ But p H H') (fun R hR => ?_) ?_
  · refine ⟨_,rfl,p,rfl,pt2,fun r1 H3 r10 r11 pt3 b3 => ⟨_,rfl,p,rfl,pt3,fun r2 H4 r20 r21 pt4 b4 => ⟨(by show 2 ≤ sizeLine; decide),fun pa hpa => ?_⟩⟩⟩
    obtain ⟨H5,e5,k5,n5,s5,b5,pt5⟩ := put1 (o := .tup [.int r1,.int r2]) (b2.trans (b3.trans b4)) pt4 hpa
    rw [show upd H4 pa _ = H5 from e5]
    exact hR _ _ ⟨pa,r1,r2,rfl,k5,r10,r11,r20,r21,pt5,b5⟩
  rintro _ H3 ⟨pa,w1,h1,rfl,hpa,w0,w6,h0,h6,pt3,b3⟩
  refine ⟨_,rfl,_,rfl,30,rfl,by decide,by decide,fun l hl => ?_⟩
  have nlk : kl ≠ l := ne_of_none (b3 _ _ nkp hk0) hl
  obtain ⟨H4,e4,k4,n4,s4,b4,pt4⟩ := put1 (o := .lst (((List.range (30 : Int).toNat).map (Int.ofNat ·)).map V.int)) b3 pt3 hl
  rw [show upd H3 l _ = H4 from e4]
  refine ⟨_,rfl,_,rfl,_,rfl,_,rfl,p,l,kl,pa,b,rs,ks,w1,h1,_,10,so,.non,rfl,s4 _ _ hpa,b4 _ _ nkp hk0,nkp,nlk,n4,tupsB b4 pt tp,r8,gk,b0,w0,w6,h0,h6,k4,by decide,.inl rfl,pt4,fun v t xs' H5 tv ok dp hl5 pt5 b5 => ⟨(by show 2 ≤ sizeLine; decide),fun a ha => ?_⟩⟩
  have k5 : ∀ a xs,H4 a = some (.tup xs) → H5 a = some (.tup xs) := fun a xs e => by
    obtain ⟨_,hp⟩ := potL pt4
    exact b5 _ _ (fun z => by rw [z,hp] at e; cases e) (fun z => by rw [z,k4] at e; cases e) e
  have b35 : But p H3 H5 := fun c o n e => b5 _ _ n (ne_of_none e hl) (s4 _ _ e)
  obtain ⟨H6,e6,k6,n6,s6,b6,pt6⟩ := put1 (o := .tup [.ref pa,v]) (b3.trans b35) pt5 ha
  rw [show upd H5 a _ = H6 from e6]
  have hz : szT t ≤ 2047 := by
    have h1 := szT_dp t
    have h2 : 2 ^ (dpT t + 1) ≤ 2 ^ 11 := Nat.pow_le_pow_right (by decide) (by omega)
    have h3 : (2 : Nat) ^ 11 = 2048 := rfl
    omega
  exact q a w1 h1 t H6 ⟨pa,v,k6,s6 _ _ (k5 _ _ (s4 _ _ hpa)),w0,w6,h0,h6,TrV.keep (fun a xs e => s6 _ _ e) t tv,ok,by omega,hz⟩ pt6 b6
end
abbrev wv (d : Bool) : V := .str (if d = true then "down" else "across")
def waysT : Tr → List Bool → List (List Bool)
  | .cut dn _ l r,ws => waysT l (ws ++ [dn]) ++ waysT r (ws ++ [dn])
  | .rest,ws => [ws]
  | .piece _ _ _ _,ws => [ws]
def chg (ws : List Bool) : Nat := ((List.range (ws.length - 1)).filter fun k => !decide (ws[k + 1]? = ws[k]?)).length
def tStep (la : Option Bool) (dn : Bool) : Nat := match la with
  | none => 0
  | some d => if d = dn then 0 else 1
theorem chg_snoc (ws : List Bool) (dn : Bool) : chg (ws ++ [dn]) = chg ws + tStep ws.getLast? dn := by
  rcases List.eq_nil_or_concat ws with rfl | ⟨us,d,rfl⟩
  · rfl
  · rw [List.concat_eq_append]
    unfold chg
    rw [List.getLast?_concat,List.length_append,List.length_append]
    show ((List.range (us.length + 1 + 1 - 1)).filter _).length = ((List.range (us.length + 1 - 1)).filter _).length + (if d = dn then 0 else 1)
    rw [show us.length + 1 + 1 - 1 = us.length + 1 by omega,show us.length + 1 - 1 = us.length by omega,List.range_succ,List.filter_append,List.length_append]
    congr 1
    · congr 1
      refine List.filter_congr fun k hk => ?_
      have hk := List.mem_range.mp hk
      rw [List.getElem?_append_left (l₁ := us ++ [d]) (by rw [List.length_append]; show k + 1 < us.length + 1; omega),List.getElem?_append_left (l₁ := us ++ [d]) (by rw [List.length_append]; show k < us.length + 1; omega)]
    · rw [List.filter_cons,List.filter_nil]
      rw [show (us ++ [d] ++ [dn])[us.length + 1]? = some dn by rw [List.getElem?_append_right (by rw [List.length_append]; exact Nat.le_refl _)]; simp,show (us ++ [d] ++ [dn])[us.length]? = some d by rw [List.getElem?_append_left (by rw [List.length_append]; show us.length < us.length + 1; omega)]; simp]
      by_cases e : d = dn
      · subst e; simp
      · rw [if_neg e,show decide (some dn = some d) = false from decide_eq_false (fun z => e (Option.some.inj z).symm)]; rfl
def tn : Tr → Option Bool → Nat → Nat
  | .cut dn _ l r,la,n => max (tn l (some dn) (n + tStep la dn)) (tn r (some dn) (n + tStep la dn))
  | .rest,_,n => n
  | .piece _ _ _ _,_,n => n
theorem tn_ge : ∀ (t : Tr) (la : Option Bool) (n : Nat),n ≤ tn t la n
  | .rest,_,_ => Nat.le_refl _
  | .piece ..,_,_ => Nat.le_refl _
  | .cut dn _ l r,la,n => by
    have := tn_ge l (some dn) (n + tStep la dn)
    show n ≤ max _ _
    omega
theorem ways_tn : ∀ (t : Tr) (ws : List Bool) (m : Nat),(waysT t ws).foldl (fun m r => max m (chg r)) m = max m (tn t ws.getLast? (chg ws))
  | .rest,_,_ => rfl
  | .piece ..,_,_ => rfl
  | .cut dn _ l r,ws,m => by
    rw [waysT,List.foldl_append,ways_tn l,ways_tn r,List.getLast?_concat,chg_snoc]
    show _ = max m (max _ _)
    omega
theorem ways_len : ∀ (t : Tr) (ws : List Bool),(waysT t ws).length ≤ szT t
  | .rest,_ => Nat.le_refl _
  | .piece ..,_ => Nat.le_refl _
  | .cut dn _ l r,ws => by
    have := ways_len l (ws ++ [dn])
    have := ways_len r (ws ++ [dn])
    rw [waysT,List.length_append]
    show _ ≤ szT l + szT r + 1
    omega
theorem ways_row : ∀ (t : Tr) (ws : List Bool),∀ u ∈ waysT t ws,u.length ≤ ws.length + dpT t
  | .rest,_,u,hu => by rw [List.mem_singleton.mp hu]; exact Nat.le_refl _
  | .piece ..,_,u,hu => by rw [List.mem_singleton.mp hu]; exact Nat.le_refl _
  | .cut dn _ l r,ws,u,hu => by
    show _ ≤ ws.length + (max (dpT l) (dpT r) + 1)
    rcases List.mem_append.mp hu with hu | hu
    · have := ways_row l _ u hu
      rw [List.length_append] at this
      have : u.length ≤ ws.length + 1 + dpT l := this
      omega
    · have := ways_row r _ u hu
      rw [List.length_append] at this
      have : u.length ≤ ws.length + 1 + dpT r := this
      omega
def RwV (H : Hp) (v : V) (ws : List Bool) : Prop := ∃ a,v = .ref a ∧ H a = some (.lst (ws.map wv))
theorem RwV.keep {H H' : Hp} (s : Same H H') {v : V} {ws : List Bool} (h : RwV H v ws) : RwV H' v ws := by
  obtain ⟨a,e,h⟩ := h
  exact ⟨a,e,s _ _ h⟩
def RowsAt (H : Hp) (l : Addr) (rows : List (List Bool)) : Prop := ∃ vs,H l = some (.lst vs) ∧ Paired (RwV H) vs rows
section
variable {P : Program} {w : World} {K : PySem.W.Frag} {mg : Str → Option Value} {base : Heap}
def spWays (n : Nat) : Sp := fun vs H Q _ => ∃ (v : V) (t : Tr) (al : Addr) (ws : List Bool),vs = [v,.ref al] ∧ TrV H t v ∧ H al = some (.lst (ws.map wv)) ∧ dpT t < n ∧ szT t ≤ 2047 ∧ ws.length + dpT t ≤ 100 ∧ ∀ (l : Addr) (H' : Hp),RowsAt H' l (waysT t ws) → Same H H' → Q (.ref l) H'
def spDue : Sp := fun vs H Q _ => ∃ (v : V) (t : Tr),vs = [v] ∧ TrV H t v ∧ dpT t ≤ 59 ∧ szT t ≤ 2047 ∧ ∀ H',Same H H' → Q (.int (tn t none 0)) H'
theorem scways : FnScope ["_law_tree_here","_law_ahead"] ["_law_tree_here","_law_ahead"] (defScope sWays) := ⟨rfl,rfl,rfl,by decide +kernel,rfl,by decide +kernel,by decide +kernel⟩
theorem ok_ways {f : Addr} {fd : FuncData} (F : Fun K "_law_ways" "_law_ways" sWays f fd) (n : Nat) (DY : Dn P w K mg base "_law_ways" ["_law_tree_here","_law_ahead"] (1 + n) (spWays n)) : FnOk P w K mg base CX0 (1 + (n + 1)) f fd ["_law_tree_here","_law_ahead"] (spWays (n + 1)) := by
  refine F.ok scways (fun vs H Q E h => ?_) (fun cdv A outer s H vs Q E hr h => ?_)
  · obtain ⟨v,t,al,ws,rfl,_⟩ := h
    rfl
  obtain ⟨v,t,al,ws,rfl,tv,hal,dpn,szn,lnn,q⟩ := h
  have nd := scways.nd
  refine ⟨_,(@pss_cons _ _ _ _ _ (@ps_if _ _ _ _ _ _ _ _ (@pt_cmpR _ _ _ _ _ _ _ _ op_in_seq (@pe_ix _ _ _ _ _ _ _ ix_tup (pv 0) pe_int (fun _ _ => rfl)) (@pe_tup _ _ _ _ _ (@pa_cons _ _ _ _ _ pe_str (@pa_cons _ _ _ _ _ pe_str pa_nil rfl) rfl)) rfl) (@pss_one _ _ _ (@ps_ret _ _ _ _ (@pe_lst _ _ _ _ (@pa_cons _ _ _ _ _ (pv 1) pa_nil rfl)))) pss_nil) (@pss_one _ _ _ (@ps_ret _ _ _ _ (@pe_op _ _ _ _ _ _ _ _ op_cat (@pe_cD _ _ _ _ _ _ _ _ _ _ DY hr rfl (@pa_cons _ _ _ _ _ (@pe_ix _ _ _ _ _ _ _ ix_tup (pv 0) pe_int (fun _ _ => rfl)) (@pa_cons _ _ _ _ _ (@pe_op _ _ _ _ _ _ _ _ op_cat (pv 1) (@pe_lst _ _ _ _ (@pa_cons _ _ _ _ _ (@pe_ix _ _ _ _ _ _ _ ix_tup (pv 0) pe_int (fun _ _ => rfl)) pa_nil rfl))) pa_nil rfl) rfl) (by decide) rfl rfl) (@pe_cD _ _ _ _ _ _ _ _ _ _ DY hr rfl (@pa_cons _ _ _ _ _ (@pe_ix _ _ _ _ _ _ _ ix_tup (pv 0) pe_int (fun _ _ => rfl)) (@pa_cons _ _ _ _ _ (@pe_op _ _ _ _ _ _ _ _ op_cat (pv 1) (@pe_lst _ _ _ _ (@pa_cons _ _ _ _ _ (@pe_ix _ _ _ _ _ _ _ ix_tup (pv 0) pe_int (fun _ _ => rfl)) pa_nil rfl))) pa_nil rfl) rfl) (by decide) rfl rfl))))),?_⟩
  have z4 : 4096 ≤ sizeLine := by decide
  obtain ⟨a,y,r,rfl,ha,hd⟩ := trHead tv
  have atx : ∀ {xs : List V},True := fun {_} => trivial
  refine seqCut (fun σ' H' => σ' = [some (.ref a), some (.ref al)] ∧ (∃ (dn : Bool) (p : Int) (l r' : Tr) (x z : V), y = (if dn = true then ("down" : Str) else "across") ∧ t = .cut dn p l r' ∧ r = [.int p, x, z] ∧ TrV H' l x ∧ TrV H' r' z) ∧ Same H H') (fun R hR => ?_) ?_
  · refine ⟨_,rfl,a,_,0,_,rfl,rfl,SqT.of ha,atI_int (Int.le_refl _) rfl,(by show 2 ≤ sizeLine; decide),fun l hl => ?_⟩
    obtain ⟨H1, e1, k1, s1⟩ : ∃ H', upd H l (.tup [.str "rest", .str "piece"]) = H' ∧ H' l = some (.tup [.str "rest", .str "piece"]) ∧ Same H H' := ⟨_, rfl, upd_same, Same.new hl⟩
    rw [show upd H l _ = H1 from e1]
    refine ⟨l,_,rfl,.inr (SqT.of k1),rfl,rfl,_,rfl,?_⟩
    rcases hd with ⟨_,f1,_,lf⟩ | ⟨dn,pc,tl,tr,x,z,ey,et,er,h1,h2,_,f1⟩
    · rw [show (if false = true then !inV (V.str y) [V.str "rest",V.str "piece"] else inV (V.str y) [V.str "rest",V.str "piece"]) = true from f1]
      refine iteT ⟨_,rfl,(by show 1 ≤ sizeLine; decide),fun m hm => ?_⟩
      obtain ⟨H2,e2,k2,s2⟩ : ∃ H',upd H1 m (.lst [.ref al]) = H' ∧ H' m = some (.lst [.ref al]) ∧ Same H1 H' := ⟨_,rfl,upd_same,Same.new hm⟩
      rw [show upd H1 m _ = H2 from e2]
      refine q m H2 ⟨_,k2,?_⟩ (s1.trans s2)
      rw [show waysT t ws = [ws] by rcases lf with rfl | ⟨_,_,_,_,rfl⟩ <;> rfl]
      exact .cons ⟨al,rfl,s2 _ _ (s1 _ _ hal)⟩ .nil
    · rw [show (if false = true then !inV (V.str y) [V.str "rest",V.str "piece"] else inV (V.str y) [V.str "rest",V.str "piece"]) = false from f1]
      exact iteF (hR _ _ ⟨rfl,⟨dn,pc,tl,tr,x,z,ey,et,er,TrV.keep (fun a xs e => s1 _ _ e) tl h1,TrV.keep (fun a xs e => s1 _ _ e) tr h2⟩,s1⟩)
  rintro _ H1 ⟨rfl,⟨dn,pc,tl,tr,x,z,ey,rfl,rfl,tv1,tv2⟩,s1⟩
  subst ey
  have dp' : max (dpT tl) (dpT tr) + 1 < n + 1 := dpn
  have sz' : szT tl + szT tr + 1 ≤ 2047 := szn
  have ln' : ws.length + (max (dpT tl) (dpT tr) + 1) ≤ 100 := lnn
  have ha1 := s1 _ _ ha
  have wl : (ws.map wv).length = ws.length := List.length_map _
  have we : ws.map wv ++ [V.str (if dn = true then "down" else "across")] = (ws ++ [dn]).map wv := by rw [List.map_append]; rfl
  refine ⟨_,rfl,a,_,2,_,rfl,rfl,SqT.of ha1,rfl,_,rfl,_,rfl,a,_,0,_,rfl,rfl,SqT.of ha1,rfl,(by show 1 ≤ sizeLine; decide),fun l2 hl2 => ?_⟩
  obtain ⟨H2, e2, k2, s2⟩ : ∃ H', upd H1 l2 (.lst [V.str (if dn = true then "down" else "across")]) = H' ∧ H' l2 = some (.lst [V.str (if dn = true then "down" else "across")]) ∧ Same H1 H' := ⟨_, rfl, upd_same, Same.new hl2⟩
  rw [show upd H1 l2 _ = H2 from e2]
  refine ⟨al,l2,_,_,rfl,rfl,s2 _ _ (s1 _ _ hal),k2,(by rw [wl]; show _ + 1 ≤ _; omega),fun l3 hl3 => ?_⟩
  obtain ⟨H3, e3, k3, s3⟩ : ∃ H', upd H2 l3 (.lst (ws.map wv ++ [V.str (if dn = true then "down" else "across")])) = H' ∧ H' l3 = some (.lst (ws.map wv ++ [V.str (if dn = true then "down" else "across")])) ∧ Same H2 H' := ⟨_, rfl, upd_same, Same.new hl3⟩
  rw [show upd H2 l3 _ = H3 from e3]
  rw [we] at k3
  have s13 := s2.trans s3
  refine ⟨x,tl,l3,ws ++ [dn],rfl,TrV.keep (fun a xs e => s13 _ _ e) tl tv1,k3,by omega,by omega,(by rw [List.length_append]; show _ + 1 + _ ≤ _; omega),fun lA H4 rA s4 => ?_⟩
  have s14 := s13.trans s4
  have ha4 := s14 _ _ ha1
  refine ⟨_,rfl,a,_,3,_,rfl,rfl,SqT.of ha4,rfl,_,rfl,_,rfl,a,_,0,_,rfl,rfl,SqT.of ha4,rfl,(by show 1 ≤ sizeLine; decide),fun l5 hl5 => ?_⟩
  obtain ⟨H5, e5, k5, s5⟩ : ∃ H', upd H4 l5 (.lst [V.str (if dn = true then "down" else "across")]) = H' ∧ H' l5 = some (.lst [V.str (if dn = true then "down" else "across")]) ∧ Same H4 H' := ⟨_, rfl, upd_same, Same.new hl5⟩
  rw [show upd H4 l5 _ = H5 from e5]
  refine ⟨al,l5,_,_,rfl,rfl,s5 _ _ (s14 _ _ (s1 _ _ hal)),k5,(by rw [wl]; show _ + 1 ≤ _; omega),fun l6 hl6 => ?_⟩
  obtain ⟨H6, e6, k6, s6⟩ : ∃ H', upd H5 l6 (.lst (ws.map wv ++ [V.str (if dn = true then "down" else "across")])) = H' ∧ H' l6 = some (.lst (ws.map wv ++ [V.str (if dn = true then "down" else "across")])) ∧ Same H5 H' := ⟨_, rfl, upd_same, Same.new hl6⟩
  rw [show upd H5 l6 _ = H6 from e6]
  rw [we] at k6
  have s46 := s5.trans s6
  refine ⟨z,tr,l6,ws ++ [dn],rfl,TrV.keep (fun a xs e => s46 _ _ (s14 _ _ e)) tr tv2,k6,by omega,by omega,(by rw [List.length_append]; show _ + 1 + _ ≤ _; omega),fun lB H7 rB s7 => ?_⟩
  have s47 := s46.trans s7
  obtain ⟨va,kA,pA⟩ := rA
  obtain ⟨vb,kB,pB⟩ := rB
  have la := Paired.length pA
  have lb := Paired.length pB
  have l1 := ways_len tl (ws ++ [dn])
  have l2 := ways_len tr (ws ++ [dn])
  refine ⟨lA,lB,_,_,rfl,rfl,s47 _ _ kA,kB,by omega,fun l hl => ?_⟩
  obtain ⟨H8,e8,k8,s8⟩ : ∃ H',upd H7 l (.lst (va ++ vb)) = H' ∧ H' l = some (.lst (va ++ vb)) ∧ Same H7 H' := ⟨_,rfl,upd_same,Same.new hl⟩
  rw [show upd H7 l _ = H8 from e8]
  exact q l H8 ⟨_,k8,appP (Paired.mapP pA fun v t h => h.keep (s47.trans s8)) (Paired.mapP pB fun v t h => h.keep s8)⟩ (s1.trans (s14.trans (s47.trans s8)))
theorem ok_ways0 {f : Addr} {fd : FuncData} (F : Fun K "_law_ways" "_law_ways" sWays f fd) : FnOk P w K mg base CX0 1 f fd ["_law_tree_here","_law_ahead"] (spWays 0) := by
  refine F.ok scways (fun vs H Q E h => ?_) (fun cdv A outer s H vs Q E hr h => ?_)
  · obtain ⟨v,t,al,ws,rfl,_⟩ := h
    rfl
  · obtain ⟨v,t,al,ws,_,_,_,z,_⟩ := h
    exact absurd z (Nat.not_lt_zero _)
theorem ok_waysN {f : Addr} {fd : FuncData} (F : Fun K "_law_ways" "_law_ways" sWays f fd) (mk : ∀ n,FnOk P w K mg base CX0 (1 + n) f fd ["_law_tree_here","_law_ahead"] (spWays n) → Dn P w K mg base "_law_ways" ["_law_tree_here","_law_ahead"] (1 + n) (spWays n)) : ∀ n,FnOk P w K mg base CX0 (1 + n) f fd ["_law_tree_here","_law_ahead"] (spWays n)
  | 0 => ok_ways0 F
  | n + 1 => ok_ways F n (mk n (ok_waysN F mk n))
theorem scdue : FnScope ["_law_tree_here","_law_found","_law_row_here"] ["_law_tree_here"] (defScope sDue) := ⟨rfl,rfl,rfl,by decide +kernel,rfl,by decide +kernel,by decide +kernel⟩
theorem ok_due {f : Addr} {fd : FuncData} (F : Fun K "_law_due" "_law_due" sDue f fd) (B : Blt mg) (DY : Dn P w K mg base "_law_ways" ["_law_tree_here","_law_ahead"] 61 (spWays 60)) : FnOk P w K mg base CX0 62 f fd ["_law_tree_here"] (spDue) := by
  refine F.ok scdue (fun vs H Q E h => ?_) (fun cdv A outer s H vs Q E hr h => ?_)
  · obtain ⟨v,t,rfl,_⟩ := h
    rfl
  obtain ⟨v,t,rfl,tv,dpn,szn,q⟩ := h
  have nd := scdue.nd
  refine ⟨_,(@pss_cons _ _ _ _ _ (@ps_set _ _ 1 _ _ _ _ nd rfl (Or.inl rfl) pe_int rfl (Or.inl rfl)) (@pss_cons _ _ _ _ _ (@ps_for _ _ _ _ _ _ _ _ PassesOwn.never rfl (pi_list (@pe_cD _ _ _ _ _ _ _ _ _ _ DY hr rfl (@pa_cons _ _ _ _ _ (pv 0) (@pa_cons _ _ _ _ _ (@pe_lst _ _ _ _ pa_nil) pa_nil rfl) rfl) (by decide) rfl rfl)) (pg_name (i := 2) nd rfl (Or.inr rfl)) (@pss_one _ _ _ (@ps_set _ _ 1 _ _ _ _ nd rfl (Or.inl rfl) (@pe_callB _ _ _ _ _ _ _ _ _ (call_max2 rfl) rfl B.max PyProof.Rows.boot_max (@pa_cons _ _ _ _ _ (pv 1) (@pa_cons _ _ _ _ _ (@pe_callB _ _ _ _ _ _ _ _ _ call_len_seq rfl B.len PySem.boot_len (@pa_cons _ _ _ _ _ (pe_comp (own := ["_law_k"]) (cs := ["_law_row_here"]) (cap := [2]) rfl (pi_range2 rfl B.range (@pa_cons _ _ _ _ _ pe_int (@pa_cons _ _ _ _ _ (@pe_callB _ _ _ _ _ _ _ _ _ call_len_seq rfl B.len PySem.boot_len (@pa_cons _ _ _ _ _ (pv 2) pa_nil rfl) (by decide) (by decide) rfl rfl) pa_nil rfl) rfl)) (compOk_of (sc := defScope sDue) (N := ["_law_tree_here","_law_found","_law_row_here"]) rfl rfl (by decide +kernel)) (fun _ _ _ _ _ => pg_name (i := 0) (by show List.Nodup (["_law_k","_law_row_here"] : List Str) ; decide +kernel) rfl (Or.inl rfl) (Or.inr rfl)) (fun _ _ _ _ _ => (pifs_one (@pt_cmpR _ _ _ _ _ _ _ _ op_ne (pe_ix (r := rIxL K) ix_list (pv 1) (pv 0) (fun _ _ => rfl)) (pe_ix (r := rIxL K) ix_list (pv 1) (@pe_op _ _ _ _ _ _ _ _ op_sub (pv 0) pe_int) (fun _ _ => rfl)) (nomark _)))) (fun _ _ _ _ _ => (pv 0))) pa_nil rfl) (by decide) (by decide) rfl rfl) pa_nil rfl) rfl) (by decide) (by decide) rfl rfl) rfl (Or.inl rfl))) (by intro _; rfl)) (@pss_one _ _ _ (@ps_ret _ _ _ _ (pv 1))))),?_⟩
  have z4 : 4096 ≤ sizeLine := by decide
  refine seqCut (fun σ' H' => σ' = [some v,some (.int 0),none] ∧ H = H') (fun R hR => hR _ _ ⟨rfl,rfl⟩) ?_
  rintro _ _ ⟨rfl,rfl⟩
  refine seqCut (fun σ' H' => ∃ v2,σ' = [some v,some (.int ((tn t none 0 : Nat) : Int)),v2] ∧ Same H H') (fun R hR => ?_) ?_
  · refine ⟨_,rfl,by decide,fun el hel => ?_⟩
    obtain ⟨H1,e1,k1,s1⟩ : ∃ H',upd H el (.lst []) = H' ∧ H' el = some (.lst []) ∧ Same H H' := ⟨_,rfl,upd_same,Same.new hel⟩
    rw [show upd H el _ = H1 from e1]
    refine ⟨v,t,el,[],rfl,TrV.keep (fun a xs e => s1 _ _ e) t tv,k1,by omega,szn,(by show 0 + _ ≤ _; omega),fun l H2 rl s2 => ?_⟩
    obtain ⟨vs,kl,pl⟩ := rl
    have vl := Paired.length pl
    refine ⟨l,rfl,⟨_,SqL.of kl⟩,for_list (xs := vs) (fun i σ' H' => (∃ v2,σ' = [some v,some (.int (((((waysT t []).take i).foldl (fun m r => max m (chg r)) 0 : Nat)) : Int)),v2]) ∧ Same H2 H') ⟨⟨none,rfl⟩,Same.refl _⟩ (fun i σ H' _ ⟨_,s⟩ => SqL.of (s _ _ kl)) ?_ ?_⟩
    · rintro i x σ H3 hi ⟨⟨v2,rfl⟩,s3⟩
      obtain ⟨ws,hw,al,rfl,hal⟩ := Paired.getR pl hi
      have wlen : ws.length ≤ 60 := by
        have := ways_row t [] ws (List.mem_of_getElem? hw)
        have : ws.length ≤ 0 + dpT t := this
        omega
      have hal3 := s3 _ _ hal
      have wl : (ws.map wv).length = ws.length := List.length_map _
      have atw : ∀ k : Nat,k < ws.length → ∃ d,ws[k]? = some d ∧ (ws.map wv)[k]? = some (wv d) := fun k hk => ⟨ws[k],List.getElem?_eq_getElem hk,by rw [List.getElem?_map,List.getElem?_eq_getElem hk]; rfl⟩
      refine ⟨_,rfl,_,rfl,al,_,rfl,.inl (SqL.of hal3),1,_,rfl,⟨by decide,by decide,by rw [wl]; omega,by rw [wl]; omega⟩,comp_rng (lo := 1) (n := ((ws.map wv).length - 1 : Int).toNat) (fun i ys Hx => H3 = Hx ∧ ys.length = ((List.range i).filter fun k => !decide (ws[k + 1]? = ws[k]?)).length) ⟨rfl,rfl⟩ ?_ ?_⟩
      · rintro j ys Hx hj ⟨rfl,yl⟩
        have hj' : j + 1 < ws.length := by rw [wl] at hj; omega
        obtain ⟨d1,e1,f1⟩ := atw (j + 1) hj'
        obtain ⟨d0,e0,f0⟩ := atw j (by omega)
        have yl60 : ys.length ≤ 60 := by
          rw [yl]
          exact Nat.le_trans (List.length_filter_le _ _) (by rw [List.length_range]; omega)
        refine ⟨by omega,leS.set rfl,?_⟩
        refine ⟨_,rfl,_,rfl,al,_,_,_,rfl,rfl,SqL.of hal3,atI_int (by omega) (by rw [show ((1 : Int) + j).toNat = j + 1 by omega]; exact f1),_,rfl,_,rfl,_,_,rfl,rfl,al,_,_,_,rfl,rfl,SqL.of hal3,atI_int (by show (0 : Int) ≤ 1 + j - 1; omega) (by rw [show ((1 : Int) + j - 1).toNat = j by omega]; exact f0),rfl,_,rfl,?_⟩
        have key : (!decide (wv d1 = wv d0)) = !decide (ws[j + 1]? = ws[j]?) := by
          rw [e1,e0]
          cases d1 <;> cases d0 <;> decide +kernel
        rw [key]
        cases hc : !decide (ws[j + 1]? = ws[j]?) with
        | true => exact iteT ⟨_,rfl,Nx.of hj ⟨rfl,by rw [List.length_append,yl,List.range_succ,List.filter_append,List.length_append,List.filter_cons,hc]; rfl⟩⟩
        | false => exact iteF (Nx.of hj ⟨rfl,by rw [yl,List.range_succ,List.filter_append,List.length_append,List.filter_cons,hc]; rfl⟩)
      · rintro ys Hx ⟨rfl,yl⟩
        have yl60 : ys.length ≤ 60 := by
          rw [yl]
          exact Nat.le_trans (List.length_filter_le _ _) (by rw [List.length_range,wl]; omega)
        refine ⟨by omega,fun m hm => ?_⟩
        obtain ⟨H4,e4,k4,s4⟩ : ∃ H',upd H3 m (.lst ys) = H' ∧ H' m = some (.lst ys) ∧ Same H3 H' := ⟨_,rfl,upd_same,Same.new hm⟩
        rw [show upd H3 m _ = H4 from e4]
        refine ⟨m,_,rfl,.inl (SqL.of k4),_,_,rfl,⟨some (.ref al),?_⟩,s3.trans s4⟩
        have yc : ys.length = chg ws := by rw [yl,show ((ws.map wv).length - 1 : Int).toNat = ws.length - 1 by rw [wl]; omega]; rfl
        rw [List.take_add_one,hw,List.foldl_append]
        show _ = [some v,some (V.int ((max _ (chg ws) : Nat) : Int)),_]
        have em : ∀ m c : Nat,((max m c : Nat) : Int) = (if (c : Int) > (m : Int) then (c : Int) else m) := fun m c => by split <;> omega
        rw [yc,em]
        rfl
    · rintro σ H3 ⟨⟨v2,rfl⟩,s3⟩
      refine hR _ _ ⟨v2,?_,(s1.trans s2).trans s3⟩
      rw [vl,List.take_length,ways_tn,Nat.zero_max]
      rfl
  rintro _ H1 ⟨v2,rfl,s1⟩
  exact ⟨_,rfl,q H1 s1⟩
end
mutual
def lsD : PyData → PyData
  | .tuple ds => .list (lsDs ds)
  | .none => .none
  | .bool b => .bool b
  | .int i => .int i
  | .str z => .str z
  | .list ds => .list ds
  | .dict k => .dict k
def lsDs : List PyData → List PyData
  | [] => []
  | d :: r => lsD d :: lsDs r
end
mutual
theorem lsD_depth : ∀ d : PyData,(lsD d).depth = d.depth
  | .tuple ds => by rw [lsD,PyData.depth,PyData.depth,lsDs_depth ds]
  | .none => rfl
  | .bool _ => rfl
  | .int _ => rfl
  | .str _ => rfl
  | .list _ => rfl
  | .dict _ => rfl
theorem lsDs_depth : ∀ ds : List PyData,PyData.depthAll (lsDs ds) = PyData.depthAll ds
  | [] => rfl
  | d :: r => by rw [lsDs,PyData.depthAll,PyData.depthAll,lsD_depth d,lsDs_depth r]
end
mutual
theorem lsD_wt : ∀ d : PyData,wt (lsD d) = wt d
  | .tuple ds => by rw [lsD,wt,wt,lsDs_wt ds]
  | .none => rfl
  | .bool _ => rfl
  | .int _ => rfl
  | .str _ => rfl
  | .list _ => rfl
  | .dict _ => rfl
theorem lsDs_wt : ∀ ds : List PyData,wts (lsDs ds) = wts ds
  | [] => rfl
  | d :: r => by rw [lsDs,wts,wts,lsD_wt d,lsDs_wt r]
end
mutual
theorem lsD_lay : ∀ d : PyData,(lsD d).canLay0 = d.canLay0
  | .tuple ds => by rw [lsD,PyData.canLay0,PyData.canLay0,lsDs_lay ds]
  | .none => rfl
  | .bool _ => rfl
  | .int _ => rfl
  | .str _ => rfl
  | .list _ => rfl
  | .dict _ => rfl
theorem lsDs_lay : ∀ ds : List PyData,PyData.canLayAll0 (lsDs ds) = PyData.canLayAll0 ds
  | [] => rfl
  | d :: r => by rw [lsDs,PyData.canLayAll0,PyData.canLayAll0,lsD_lay d,lsDs_lay r]
end
theorem lsDs_app : ∀ a b : List PyData,lsDs (a ++ b) = lsDs a ++ lsDs b
  | [],_ => rfl
  | d :: r,b => by rw [List.cons_append,lsDs,lsDs,lsDs_app r b]; rfl
theorem lsDs_len : ∀ a : List PyData,(lsDs a).length = a.length
  | [] => rfl
  | d :: r => by rw [lsDs,List.length_cons,List.length_cons,lsDs_len r]
theorem wts_len : ∀ ds : List PyData,ds.length ≤ wts ds
  | [] => Nat.le_refl _
  | d :: r => by have := wts_len r; have := wtpos d; rw [List.length_cons,wts]; omega
theorem wts_mem {x : PyData} : ∀ {ds : List PyData},x ∈ ds → wt x ≤ wts ds
  | d :: r,h => by
    rw [wts]
    rcases List.mem_cons.mp h with h | h
    · rw [h]; omega
    · have := wts_mem h; omega
mutual
theorem Dt.dat {K : PySem.W.Frag} {p : Addr} {H : Hp} : ∀ {v : V} {d : PyData},Dt p H v d → d.canLay0 = true → DatV K H v d
  | _,_,.non,_ => .non
  | _,_,.bl b,_ => .bl b
  | _,_,.int i,_ => .int i
  | _,_,.str z,_ => .str z
  | _,_,.lst n h r,c => .lst (SqL.of h) (r.dat c)
  | _,_,.tup h r,c => .tup (SqT.of h) (r.dat c)
  | _,_,.emp h,c => nomatch c
theorem Dts.dat {K : PySem.W.Frag} {p : Addr} {H : Hp} : ∀ {vs : List V} {ds : List PyData},Dts p H vs ds → PyData.canLayAll0 ds = true → DatVs K H vs ds
  | _,_,.nil,_ => .nil
  | _,_,.cons a r,c => .cons (a.dat (Bool.and_eq_true_iff.mp c).1) (r.dat (Bool.and_eq_true_iff.mp c).2)
end
theorem Dts.get {p : Addr} {H : Hp} : ∀ {vs : List V} {ds : List PyData} {i : Nat} {x : V},Dts p H vs ds → vs[i]? = some x → ∃ d,ds[i]? = some d ∧ Dt p H x d
  | _,_,0,_,.cons a _,e => ⟨_,rfl,by cases e; exact a⟩
  | _,_,i + 1,_,.cons _ r,e => by
    obtain ⟨d,h1,h2⟩ := r.get (i := i) (by simpa using e)
    exact ⟨d,by simpa using h1,h2⟩
theorem Dts.app {p : Addr} {H : Hp} : ∀ {vs us : List V} {ds es : List PyData},Dts p H vs ds → Dts p H us es → Dts p H (vs ++ us) (ds ++ es)
  | _,_,_,_,.nil,h => h
  | _,_,_,_,.cons a r,h => .cons a (r.app h)
theorem toD_lay : ∀ t : Tr,(toD t).canLay0 = true
  | .rest => by decide +kernel
  | .piece i c x y => by
    show (PyData.canLay0 (.str "piece") && true) = true
    decide +kernel
  | .cut dn p l r => by
    show (PyData.canLay0 (.str (if dn = true then "down" else "across")) && (true && ((toD l).canLay0 && ((toD r).canLay0 && true)))) = true
    rw [toD_lay l,toD_lay r]
    cases dn <;> decide +kernel
theorem TrD.ls : ∀ t : Tr,TrD t (lsD (toD t))
  | .rest => rfl
  | .piece .. => rfl
  | .cut _ _ l r => ⟨lsD (toD l),lsD (toD r),rfl,TrD.ls l,TrD.ls r⟩
theorem toD_depth : ∀ t : Tr,(toD t).depth = dpT t + 1
  | .rest => rfl
  | .piece .. => by simp [toD,PyData.depth,PyData.depthAll,dpT]
  | .cut dn p l r => by
    show PyData.depthAll [.str (if dn = true then "down" else "across"),.int p,toD l,toD r] + 1 = (max (dpT l) (dpT r) + 1) + 1
    simp only [PyData.depthAll,PyData.depth,toD_depth l,toD_depth r]
    omega
theorem toD_wt : ∀ t : Tr,wt (toD t) ≤ 11 * szT t
  | .rest => by decide +kernel
  | .piece .. => by
    have : wt (.str "piece") = 6 := by decide +kernel
    show wt (.str "piece") + (1 + (1 + (1 + (1 + 0)))) + 1 ≤ 11 * 1
    omega
  | .cut dn p l r => by
    have h1 := toD_wt l
    have h2 := toD_wt r
    have h3 : wt (.str (if dn = true then "down" else "across")) ≤ 7 := by cases dn <;> decide +kernel
    show wt (.str (if dn = true then "down" else "across")) + (1 + (wt (toD l) + (wt (toD r) + 0))) + 1 ≤ 11 * (szT l + szT r + 1)
    omega
section
variable {P : Program} {w : World} {K : PySem.W.Frag} {mg : Str → Option Value} {base : Heap}
def spListedB (n : Nat) : Sp := fun vs H Q _ => ∃ (pp : Addr) (v : V) (ds : List PyData),vs = [v] ∧ Dt pp H v (.tuple ds) ∧ PyData.depthAll ds < n ∧ wts ds ≤ 40000 ∧ (∃ xs,H pp = some (.lst xs)) ∧ ∀ v' H',Dt pp H' v' (.list (lsDs ds)) → Same H H' → Q v' H'
theorem sclistedb : FnScope ["_law_tree_here"] ["_law_tree_here"] (defScope sListed) := ⟨rfl,rfl,rfl,by decide +kernel,rfl,by decide +kernel,by decide +kernel⟩
theorem ok_listedb {f : Addr} {fd : FuncData} (F : Fun K "_law_listed" "_law_listed" sListed f fd) (B : Blt mg) (n : Nat) (DLs : Dn P w K mg base "_law_listed" ["_law_tree_here"] (1 + n) (spListedB n)) : FnOk P w K mg base CX0 (1 + (n + 1)) f fd ["_law_tree_here"] (spListedB (n + 1)) := by
  refine F.ok sclistedb (fun vs H Q E h => ?_) (fun cdv A outer s H vs Q E hr h => ?_)
  · obtain ⟨pp,v,ds,rfl,_⟩ := h
    rfl
  obtain ⟨pp,v,ds,rfl,hd,hn,wd,hpp,q⟩ := h
  have nd := sclistedb.nd
  refine ⟨_,(@pss_one _ _ _ (@ps_ret _ _ _ _ (pe_comp (own := ["_law_one"]) (cs := []) (cap := []) rfl (pi_tup (pv 0)) (compOk_of (sc := defScope sListed) (N := ["_law_tree_here"]) rfl rfl (by decide +kernel)) (fun _ _ _ _ _ => pg_name (i := 0) (by show List.Nodup (["_law_one"] : List Str) ; decide +kernel) rfl (Or.inl rfl) (Or.inr rfl)) (fun _ _ _ _ _ => pifs_nil) (fun _ _ _ _ _ => (pe_ifExp (@pt_val _ _ _ (pe_callB (r := rIsi K) call_isinst rfl B.isi PyProof.Rows.boot_isinstance (@pa_cons _ _ _ _ _ (pv 0) (@pa_cons _ _ _ _ _ (pe_bltn (v := .ty "tuple") rfl B.tuple PyProof.Rows.boot_tuple rfl) pa_nil rfl) rfl)) (by intro _; rfl)) (@pe_cD _ _ _ _ _ _ _ _ _ _ DLs hr rfl (@pa_cons _ _ _ _ _ (pv 0) pa_nil rfl) (by decide) rfl rfl) (pv 0)))))),?_⟩
  cases hd with
  | @tup a xs ds h r =>
    have hl := r.length
    have wl := wts_len ds
    have sz : 40000 < sizeLine := by decide
    refine ⟨_,rfl,a,rfl,⟨_,SqT.of h⟩,(comp_seq (K := K) (.inr h) (fun i ys Hx => Same H Hx ∧ Dts pp Hx ys (lsDs (ds.take i))) (fun i ys Hx _ ⟨sx,_⟩ o e => sx _ _ e) ⟨Same.refl _,.nil⟩ ?_ ?_).2 h⟩
    · rintro i x ys H1 hi ⟨s1,py⟩
      have hin : i < xs.length := (List.getElem?_eq_some_iff.mp hi).1
      obtain ⟨d,hd,hx⟩ := r.get hi
      have yl := py.length
      rw [lsDs_len,List.length_take] at yl
      have dm := List.mem_of_getElem? hd
      have d1 := depth_mem dm
      have w1 := wts_mem dm
      refine ⟨by omega,leS.set rfl,tYes_ite ?_⟩
      have fin : ∀ (v' : V) (H2 : Hp),Same H1 H2 → Dt pp H2 v' (lsD d) → Nx xs.length (fun i ys Hx => Same H Hx ∧ Dts pp Hx ys (lsDs (ds.take i))) i (ys ++ [v']) H2 := fun v' H2 s2 hv => Nx.of hin ⟨s1.trans s2,by
        rw [List.take_add_one,hd,lsDs_app]
        exact (py.same s2).app (.cons hv .nil)⟩
      clear hd
      cases hx with
      | @tup a2 xs2 ds2 h2 r2 =>
        have d1 : PyData.depthAll ds2 + 1 ≤ PyData.depthAll ds := d1
        have w1 : wts ds2 + 1 ≤ wts ds := w1
        obtain ⟨us,hu⟩ := hpp
        refine ⟨_,rfl,_,_,_,_,_,rfl,(Ty.tup (s1 _ _ h2) (K := K)).2,rfl,kit_tuple "tuple" (by simp [tyNames]),_,rfl,iteT ?_⟩
        exact ⟨_,rfl,pp,_,ds2,rfl,.tup (s1 _ _ h2) (r2.same s1),by omega,by omega,⟨us,s1 _ _ hu⟩,fun v' H2 hv s2 => fin v' H2 s2 hv⟩
      | non => exact ⟨_,rfl,_,_,_,_,_,rfl,(Ty.non (K := K)).2,rfl,kit_tuple "NoneType" (by simp [tyNames]),_,rfl,iteF ⟨_,rfl,fin _ H1 (Same.refl _) (.non)⟩⟩
      | bl b => exact ⟨_,rfl,_,_,_,_,_,rfl,(Ty.bl (K := K)).2,rfl,kit_tuple "bool" (by simp [tyNames]),_,rfl,iteF ⟨_,rfl,fin _ H1 (Same.refl _) (.bl b)⟩⟩
      | int i => exact ⟨_,rfl,_,_,_,_,_,rfl,(Ty.int (K := K)).2,rfl,kit_tuple "int" (by simp [tyNames]),_,rfl,iteF ⟨_,rfl,fin _ H1 (Same.refl _) (.int i)⟩⟩
      | str z => exact ⟨_,rfl,_,_,_,_,_,rfl,(Ty.str (K := K)).2,rfl,kit_tuple "str" (by simp [tyNames]),_,rfl,iteF ⟨_,rfl,fin _ H1 (Same.refl _) (.str z)⟩⟩
      | lst n h r => exact ⟨_,rfl,_,_,_,_,_,rfl,(Ty.lst (s1 _ _ h) (K := K)).2,rfl,kit_tuple "list" (by simp [tyNames]),_,rfl,iteF ⟨_,rfl,fin _ H1 (Same.refl _) ((Dt.lst n h r).same s1)⟩⟩
      | emp h => exact ⟨_,rfl,_,_,_,_,_,rfl,(Ty.dK (s1 _ _ h) (K := K)).2,rfl,kit_tuple "dict" (by simp [tyNames]),_,rfl,iteF ⟨_,rfl,fin _ H1 (Same.refl _) ((Dt.emp h).same s1)⟩⟩
    · rintro ys H1 ⟨s1,py⟩
      have yl := py.length
      rw [lsDs_len,List.length_take] at yl
      obtain ⟨us,hu⟩ := hpp
      refine ⟨by omega,fun t ht => ?_⟩
      rw [hl,List.take_length] at py
      refine q _ _ (.lst (Ne.symm (ne_of_none (s1 _ _ hu) ht)) upd_same (py.same (Same.new ht))) (s1.trans (Same.new ht))
theorem ok_listedb0 {f : Addr} {fd : FuncData} (F : Fun K "_law_listed" "_law_listed" sListed f fd) : FnOk P w K mg base CX0 1 f fd ["_law_tree_here"] (spListedB 0) := by
  refine F.ok sclistedb (fun vs H Q E h => ?_) (fun cdv A outer s H vs Q E hr h => ?_)
  · obtain ⟨pp,v,ds,rfl,_⟩ := h
    rfl
  · obtain ⟨pp,v,d,_,_,z,_⟩ := h
    exact absurd z (Nat.not_lt_zero _)
theorem ok_listedbN {f : Addr} {fd : FuncData} (F : Fun K "_law_listed" "_law_listed" sListed f fd) (B : Blt mg) (mk : ∀ n,FnOk P w K mg base CX0 (1 + n) f fd ["_law_tree_here"] (spListedB n) → Dn P w K mg base "_law_listed" ["_law_tree_here"] (1 + n) (spListedB n)) : ∀ n,FnOk P w K mg base CX0 (1 + n) f fd ["_law_tree_here"] (spListedB n)
  | 0 => ok_listedb0 F
  | n + 1 => ok_listedb F B n (mk n (ok_listedbN F B mk n))
end
inductive Bd (ks : List Kd) : PyData → Prop
  | leaf {d : PyData} {y : Str} {r : List PyData} : rowOf d = some (.str y :: r) → decide (y = "down") = false → decide (y = "across") = false → (∀ w h,(if decide (y = "rest") = true then decide (r.length + 1 = 1) else if decide (y = "piece") = true then pcD ks w h r else false) = false) → Bd ks d
  | zero {d l r : PyData} {dn : Bool} : rowOf d = some [.str (if dn = true then "down" else "across"),.int 0,l,r] → Bd ks d
  | short {d l : PyData} {dn : Bool} {p : Int} : rowOf d = some [.str (if dn = true then "down" else "across"),.int p,l] → Bd ks d
  | left {d l r : PyData} {dn : Bool} {p : Int} : rowOf d = some [.str (if dn = true then "down" else "across"),.int p,l,r] → Bd ks l → Bd ks d
  | right {d l r : PyData} {dn : Bool} {p : Int} : rowOf d = some [.str (if dn = true then "down" else "across"),.int p,l,r] → Bd ks r → Bd ks d
theorem Bd.no {b : Int} {ks : List Kd} {d : PyData} (h : Bd ks d) : ∀ w h,isT b ks w h d = false := by
  induction h with
  | leaf e h1 h2 h3 => intro w h; rw [isT_other e h1 h2]; exact h3 w h
  | zero e => intro w h; rw [isT_way e]; rfl
  | short e => intro w h; rw [isT_way e]
  | @left d l r dn p e _ ih =>
    intro w h
    rw [isT_way e]
    cases dn
    · show (decide (1 ≤ p) && (decide (p + b < h) && (isT b ks w p l && isT b ks w (h - p - b) r))) = false
      rw [ih w p,Bool.false_and,Bool.and_false,Bool.and_false]
    · show (decide (1 ≤ p) && (decide (p + b < w) && (isT b ks p h l && isT b ks (w - p - b) h r))) = false
      rw [ih p h,Bool.false_and,Bool.and_false,Bool.and_false]
  | @right d l r dn p e _ ih =>
    intro w h
    rw [isT_way e]
    cases dn
    · show (decide (1 ≤ p) && (decide (p + b < h) && (isT b ks w p l && isT b ks w (h - p - b) r))) = false
      rw [ih w (h - p - b),Bool.and_false,Bool.and_false,Bool.and_false]
    · show (decide (1 ≤ p) && (decide (p + b < w) && (isT b ks p h l && isT b ks (w - p - b) h r))) = false
      rw [ih (w - p - b) h,Bool.and_false,Bool.and_false,Bool.and_false]
theorem pcD_none (ks : List Kd) (w h : Int) : pcD ks w h [.int (ks.length : Nat),.bool false,.int 0,.int 0] = false := by
  show lieV ks w h (.int (ks.length : Nat)) (.bl false) (.int 0) (.int 0) = false
  unfold lieV isLy
  simp
def BadAt (ks : List Kd) (p : Addr) (t : Tr) (H' : Hp) (v : V) : Prop := ∃ ds,Dt p H' v (.tuple ds) ∧ Bd ks (.tuple ds) ∧ Bd ks (.list (lsDs ds)) ∧ PyData.depthAll ds ≤ dpT t ∧ wts ds ≤ 11 * szT t + 10
section
variable {P : Program} {w : World} {K : PySem.W.Frag} {mg : Str → Option Value} {base : Heap}
def spBad : Sp := fun vs H Q _ => ∃ (p kl : Addr) (rs : List V) (ks : List Kd) (v : V) (t : Tr),vs = [.ref p,.ref kl,v] ∧ H kl = some (.lst rs) ∧ kl ≠ p ∧ rs.length = ks.length ∧ TrV H t v ∧ PotB H p ∧ ∀ (v' : V) (H' : Hp),BadAt ks p t H' v' → PotB H' p → But p H H' → Q v' H'
def spSpoiltB (n : Nat) : Sp := fun vs H Q _ => ∃ (p kl : Addr) (rs : List V) (ks : List Kd) (v : V) (t : Tr),vs = [.ref p,.ref kl,v] ∧ H kl = some (.lst rs) ∧ kl ≠ p ∧ rs.length = ks.length ∧ TrV H t v ∧ dpT t < n ∧ PotB H p ∧ ∀ (v' : V) (H' : Hp),BadAt ks p t H' v' → PotB H' p → But p H H' → Q v' H'
theorem scbad : FnScope ["_law_pot_here","_law_kinds","_law_tree_here","_law_way_here","_law_some"] ["_law_pot_here","_law_kinds","_law_tree_here"] (defScope sBad) := ⟨rfl,rfl,rfl,by decide +kernel,rfl,by decide +kernel,by decide +kernel⟩
theorem ok_bad {f : Addr} {fd : FuncData} (F : Fun K "_law_bad" "_law_bad" sBad f fd) (B : Blt mg) (DD : Dn P w K mg base "_law_draw" ["_law_pot_here","_law_many"] 1 (spDrawB)) : FnOk P w K mg base CX0 2 f fd ["_law_pot_here","_law_kinds","_law_tree_here"] (spBad) := by
  refine F.ok scbad (fun vs H Q E h => ?_) (fun cdv A outer s H vs Q E hr h => ?_)
  · obtain ⟨p,kl,rs,ks,v,t,rfl,_⟩ := h
    rfl
  obtain ⟨p,kl,rs,ks,v,t,rfl,hk0,nkp,rlen,tv,pt,q⟩ := h
  have nd := scbad.nd
  refine ⟨_,(@pss_cons _ _ _ _ _ (@ps_set _ _ 3 _ _ _ _ nd rfl (Or.inl rfl) (@pe_cD _ _ _ _ _ _ _ _ _ _ DD hr rfl (@pa_cons _ _ _ _ _ (pv 0) (@pa_cons _ _ _ _ _ pe_int pa_nil rfl) rfl) (by decide) rfl rfl) rfl (Or.inl rfl)) (@pss_cons _ _ _ _ _ (@ps_if _ _ _ _ _ _ _ _ (PW.pt (pw_and (@pt_cmpR _ _ _ _ _ _ _ _ op_in_seq (@pe_ix _ _ _ _ _ _ _ ix_tup (pv 2) pe_int (fun _ _ => rfl)) (@pe_tup _ _ _ _ _ (@pa_cons _ _ _ _ _ pe_str (@pa_cons _ _ _ _ _ pe_str pa_nil rfl) rfl)) rfl) (pw_and1 (@pt_cmpR _ _ _ _ _ _ _ _ op_gt (pv 3) pe_int (nomark _))))) (@pss_one _ _ _ (@ps_ret _ _ _ _ (@pe_ix _ _ _ _ _ _ _ ix_list (@pe_lst _ _ _ _ (@pa_cons _ _ _ _ _ (@pe_tup _ _ _ _ _ (@pa_cons _ _ _ _ _ (@pe_ix _ _ _ _ _ _ _ ix_tup (pv 2) pe_int (fun _ _ => rfl)) (@pa_cons _ _ _ _ _ pe_int (@pa_cons _ _ _ _ _ (@pe_ix _ _ _ _ _ _ _ ix_tup (pv 2) pe_int (fun _ _ => rfl)) (@pa_cons _ _ _ _ _ (@pe_ix _ _ _ _ _ _ _ ix_tup (pv 2) pe_int (fun _ _ => rfl)) pa_nil rfl) rfl) rfl) rfl)) (@pa_cons _ _ _ _ _ (@pe_slice _ _ _ _ _ _ _ _ _ _ sl_tup (pv 2) po_none (po_some pe_int)) pa_nil rfl) rfl)) (@pe_op _ _ _ _ _ _ _ _ op_sub (pv 3) pe_int) (fun _ _ => rfl)))) pss_nil) (@pss_cons _ _ _ _ _ (@ps_set _ _ 4 _ _ _ _ nd rfl (Or.inl rfl) (@pe_lst _ _ _ _ (@pa_cons _ _ _ _ _ (@pe_tup _ _ _ _ _ (@pa_cons _ _ _ _ _ pe_str (@pa_cons _ _ _ _ _ (@pe_callB _ _ _ _ _ _ _ _ _ call_len_seq rfl B.len PySem.boot_len (@pa_cons _ _ _ _ _ (pv 1) pa_nil rfl) (by decide) (by decide) rfl rfl) (@pa_cons _ _ _ _ _ pe_bl (@pa_cons _ _ _ _ _ pe_int (@pa_cons _ _ _ _ _ pe_int pa_nil rfl) rfl) rfl) rfl) rfl)) (@pa_cons _ _ _ _ _ (@pe_tup _ _ _ _ _ (@pa_cons _ _ _ _ _ pe_str (@pa_cons _ _ _ _ _ pe_int pa_nil rfl) rfl)) (@pa_cons _ _ _ _ _ (@pe_tup _ _ _ _ _ (@pa_cons _ _ _ _ _ pe_str (@pa_cons _ _ _ _ _ pe_int pa_nil rfl) rfl)) (@pa_cons _ _ _ _ _ (@pe_tup _ _ _ _ _ (@pa_cons _ _ _ _ _ pe_str (@pa_cons _ _ _ _ _ pe_int (@pa_cons _ _ _ _ _ pe_int (@pa_cons _ _ _ _ _ pe_int (@pa_cons _ _ _ _ _ pe_int pa_nil rfl) rfl) rfl) rfl) rfl)) pa_nil rfl) rfl) rfl) rfl)) rfl (Or.inl rfl)) (@pss_one _ _ _ (@ps_ret _ _ _ _ (@pe_ix _ _ _ _ _ _ _ ix_list (pv 4) (@pe_op _ _ _ _ _ _ _ _ op_mod (pv 3) pe_int) (fun _ _ => rfl))))))),?_⟩
  have kT : ∀ {Hx Hy : Hp},PotB Hx p → But p Hx Hy → ∀ a xs,Hx a = some (.tup xs) → Hy a = some (.tup xs) := fun {Hx Hy} px bx a xs e => by
    obtain ⟨_,hp⟩ := potL px
    exact bx _ _ (fun z => by rw [z,hp] at e; cases e) e
  have sz := szpos t
  obtain ⟨a,y,r,rfl,ha,hd⟩ := trHead tv
  refine seqCut (fun σ' H' => ∃ z : Int,σ' = [some (.ref p),some (.ref kl),some (.ref a),some (.int z),none] ∧ 0 ≤ z ∧ z < 6 ∧ PotB H' p ∧ But p H H') (fun R hR => ?_) ?_
  · exact ⟨_,rfl,p,6,rfl,pt,by decide,by decide,fun z H1 z0 z1 pt1 b1 => hR _ _ ⟨z,rfl,z0,z1,pt1,b1⟩⟩
  rintro _ H1 ⟨z,rfl,z0,z6,pt1,b1⟩
  refine seqCut (fun σ' H' => σ' = [some (.ref p),some (.ref kl),some (.ref a),some (.int z),none] ∧ PotB H' p ∧ But p H H') (fun R hR => ?_) ?_
  · have ha1 := kT pt b1 _ _ ha
    refine ⟨_,rfl,a,_,0,_,rfl,rfl,SqT.of ha1,atI_int (Int.le_refl _) rfl,(by show 2 ≤ sizeLine; decide),fun l hl => ?_⟩
    obtain ⟨H2,e2,k2,n2,s2,b2,pt2⟩ := put1 (o := .tup [.str "down",.str "across"]) b1 pt1 hl
    rw [show upd H1 l _ = H2 from e2]
    refine ⟨l,_,rfl,.inr (SqT.of k2),rfl,rfl,_,rfl,?_⟩
    rcases hd with ⟨f1,_⟩ | ⟨dn,pc,tl,tr,x,z',ey,rfl,rfl,h1,h2,f1,_⟩
    · rw [show (if false = true then !inV (V.str y) [V.str "down",V.str "across"] else inV (V.str y) [V.str "down",V.str "across"]) = false from f1]
      exact iteF (iteF (hR _ _ ⟨rfl,pt2,b2⟩))
    · rw [show (if false = true then !inV (V.str y) [V.str "down",V.str "across"] else inV (V.str y) [V.str "down",V.str "across"]) = true from f1]
      refine iteT ⟨_,rfl,_,_,rfl,rfl,_,rfl,?_⟩
      refine ite2 (fun cc => ?_) (fun cc => hR _ _ ⟨rfl,pt2,b2⟩)
      have z4 : 3 < z := of_decide_eq_true cc
      subst ey
      have ha2 := kT pt b2 _ _ ha
      refine ⟨_,rfl,a,_,0,_,rfl,rfl,SqT.of ha2,rfl,_,rfl,a,_,2,_,rfl,rfl,SqT.of ha2,rfl,_,rfl,a,_,3,_,rfl,rfl,SqT.of ha2,rfl,(by show 4 ≤ sizeLine; decide),fun t1 ht1 => ?_⟩
      obtain ⟨H3, e3, k3, n3, s3, b3, pt3⟩ := put1 (o := .tup [.str (if dn = true then "down" else "across"), .int 0, x, z']) b2 pt2 ht1
      rw [show upd H2 t1 _ = H3 from e3]
      have ha3 := s3 _ _ ha2
      refine ⟨_,rfl,_,rfl,a,_,rfl,SqT.of ha3,(fun z => ?_),fun t2 ht2 => ?_⟩
      · have := z.2
        revert this
        show ¬ (3 = 4)
        decide
      rw [show cutV [V.str (if dn = true then "down" else "across"), .int pc, x, z'] none (some 3) = [V.str (if dn = true then "down" else "across"), .int pc, x] from rfl]
      obtain ⟨H4,e4,k4,n4,s4,b4,pt4⟩ := put1 (o := .tup [.str (if dn = true then "down" else "across"),.int pc,x]) b3 pt3 ht2
      rw [show upd H3 t2 _ = H4 from e4]
      refine ⟨(by show 2 ≤ sizeLine; decide),fun t3 ht3 => ?_⟩
      obtain ⟨H5,e5,k5,n5,s5,b5,pt5⟩ := put1 (o := .lst [.ref t1,.ref t2]) b4 pt4 ht3
      rw [show upd H4 t3 _ = H5 from e5]
      have h15 := TrV.keep (kT pt b5) tl h1
      have h25 := TrV.keep (kT pt b5) tr h2
      have dl := toD_depth tl
      have dr := toD_depth tr
      have wl := toD_wt tl
      have wr := toD_wt tr
      have hdp : dpT (.cut dn pc tl tr) = max (dpT tl) (dpT tr) + 1 := rfl
      have hsz : szT (.cut dn pc tl tr) = szT tl + szT tr + 1 := rfl
      have hw : wt (.str (if dn = true then "down" else "across")) ≤ 7 := by cases dn <;> decide +kernel
      have hdw : PyData.depth (.str (if dn = true then "down" else "across")) = 0 := by cases dn <;> rfl
      rcases (show z = 4 ∨ z = 5 by omega) with rfl | rfl
      · refine ⟨_,rfl,_,_,rfl,rfl,t3,_,_,_,rfl,rfl,SqL.of k5,rfl,q _ H5 ⟨[.str (if dn = true then "down" else "across"),.int 0,toD tl,toD tr],.tup (s5 _ _ (s4 _ _ k3)) (.cons (.str _) (.cons (.int _) (.cons (TrV.dt tl h15) (.cons (TrV.dt tr h25) .nil)))),.zero rfl,.zero (l := lsD (toD tl)) (r := lsD (toD tr)) rfl,?_,?_⟩ pt5 b5⟩
        · simp only [PyData.depthAll,hdw,dl,dr,hdp,PyData.depth]; omega
        · show wt (.str (if dn = true then "down" else "across")) + (1 + (wt (toD tl) + (wt (toD tr) + 0))) ≤ _
          omega
      · refine ⟨_,rfl,_,_,rfl,rfl,t3,_,_,_,rfl,rfl,SqL.of k5,rfl,q _ H5 ⟨[.str (if dn = true then "down" else "across"),.int pc,toD tl],.tup (s5 _ _ k4) (.cons (.str _) (.cons (.int _) (.cons (TrV.dt tl h15) .nil))),.short rfl,.short (l := lsD (toD tl)) rfl,?_,?_⟩ pt5 b5⟩
        · simp only [PyData.depthAll,hdw,dl,hdp,PyData.depth]; omega
        · show wt (.str (if dn = true then "down" else "across")) + (1 + (wt (toD tl) + 0)) ≤ _
          omega
  clear hd
  rintro _ H2 ⟨rfl,pt2,b2⟩
  have hk2 := b2 _ _ nkp hk0
  have lenv : V.int (rs.length : Nat) = V.int (ks.length : Nat) := by rw [rlen]
  refine ⟨_,rfl,kl,_,rfl,.inl (SqL.of hk2),(by show 5 ≤ sizeLine; decide),fun t1 ht1 => ?_⟩
  obtain ⟨H3,e3,k3,n3,s3,b3,pt3⟩ := put1 (o := .tup [.str "piece",.int (rs.length : Nat),.bl false,.int 0,.int 0]) b2 pt2 ht1
  rw [show upd H2 t1 _ = H3 from e3]
  refine ⟨(by show 2 ≤ sizeLine; decide),fun t2 ht2 => ?_⟩
  obtain ⟨H4,e4,k4,n4,s4,b4,pt4⟩ := put1 (o := .tup [.str "rest",.int 0]) b3 pt3 ht2
  rw [show upd H3 t2 _ = H4 from e4]
  refine ⟨(by show 2 ≤ sizeLine; decide),fun t3 ht3 => ?_⟩
  obtain ⟨H5,e5,k5,n5,s5,b5,pt5⟩ := put1 (o := .tup [.str "up",.int 1]) b4 pt4 ht3
  rw [show upd H4 t3 _ = H5 from e5]
  refine ⟨(by show 5 ≤ sizeLine; decide),fun t4 ht4 => ?_⟩
  obtain ⟨H6,e6,k6,n6,s6,b6,pt6⟩ := put1 (o := .tup [.str "piece",.int 0,.int 0,.int 0,.int 0]) b5 pt5 ht4
  rw [show upd H5 t4 _ = H6 from e6]
  refine ⟨(by show 4 ≤ sizeLine; decide),fun l hl => ?_⟩
  obtain ⟨H7,e7,k7,n7,s7,b7,pt7⟩ := put1 (o := .lst [.ref t1,.ref t2,.ref t3,.ref t4]) b6 pt6 hl
  rw [show upd H6 l _ = H7 from e7]
  rw [rlen] at k3
  have fin : ∀ (v : V) (ds : List PyData),Dt p H7 v (.tuple ds) → Bd ks (.tuple ds) → lsDs ds = ds → PyData.depthAll ds = 0 → wts ds ≤ 11 → Q v H7 := fun v ds h1 h2 h3 h4 h5 => q v H7 ⟨ds,h1,h2,by
    rw [h3]
    cases h2 with
    | leaf e h1 h2 h3 => exact .leaf (y := _) (r := _) e h1 h2 h3
    | zero e => exact .zero e
    | short e => exact .short e
    | left e h => exact .left e h
    | right e h => exact .right e h,by omega,by omega⟩ pt7 b7
  refine ⟨_,rfl,_,rfl,_,_,rfl,rfl,(by show (0 : Int) < 4; decide),?_⟩
  have zm : z % 4 = 0 ∨ z % 4 = 1 ∨ z % 4 = 2 ∨ z % 4 = 3 := by omega
  show rIxL K (.ref l) (.int (z % 4)) H7 Q
  rcases zm with e | e | e | e <;> rw [e]
  · exact ⟨l,_,_,_,rfl,rfl,SqL.of k7,rfl,fin _ _ (.tup (s7 _ _ (s6 _ _ (s5 _ _ (s4 _ _ k3)))) (.cons (.str _) (.cons (.int _) (.cons (.bl _) (.cons (.int _) (.cons (.int _) .nil)))))) (.leaf rfl (by decide +kernel) (by decide +kernel) (fun w h => by rw [if_neg (by decide +kernel),if_pos (by decide +kernel)]; exact pcD_none ks w h)) rfl rfl (by show wt (.str "piece") + (1 + (1 + (1 + (1 + 0)))) ≤ 11; decide +kernel)⟩
  · exact ⟨l,_,_,_,rfl,rfl,SqL.of k7,rfl,fin _ _ (.tup (s7 _ _ (s6 _ _ (s5 _ _ k4))) (.cons (.str _) (.cons (.int _) .nil))) (.leaf rfl (by decide +kernel) (by decide +kernel) (fun w h => by rw [if_pos (by decide +kernel)]; rfl)) rfl rfl (by decide +kernel)⟩
  · exact ⟨l,_,_,_,rfl,rfl,SqL.of k7,rfl,fin _ _ (.tup (s7 _ _ (s6 _ _ k5)) (.cons (.str _) (.cons (.int _) .nil))) (.leaf rfl (by decide +kernel) (by decide +kernel) (fun w h => by rw [if_neg (by decide +kernel),if_neg (by decide +kernel)])) rfl rfl (by decide +kernel)⟩
  · exact ⟨l,_,_,_,rfl,rfl,SqL.of k7,rfl,fin _ _ (.tup (s7 _ _ k6) (.cons (.str _) (.cons (.int _) (.cons (.int _) (.cons (.int _) (.cons (.int _) .nil)))))) (.leaf rfl (by decide +kernel) (by decide +kernel) (fun w h => by rw [if_neg (by decide +kernel),if_pos (by decide +kernel)]; rfl)) rfl rfl (by decide +kernel)⟩
theorem scspoiltb : FnScope ["_law_pot_here","_law_kinds","_law_tree_here","_law_k"] ["_law_pot_here","_law_kinds","_law_tree_here"] (defScope sSpoilt) := ⟨rfl,rfl,rfl,by decide +kernel,rfl,by decide +kernel,by decide +kernel⟩
theorem ok_spoiltb {f : Addr} {fd : FuncData} (F : Fun K "_law_spoilt" "_law_spoilt" sSpoilt f fd) (B : Blt mg) (n : Nat) (DD : Dn P w K mg base "_law_draw" ["_law_pot_here","_law_many"] 1 (spDrawB)) (DBd : Dn P w K mg base "_law_bad" ["_law_pot_here","_law_kinds","_law_tree_here"] 2 (spBad)) (DSp : Dn P w K mg base "_law_spoilt" ["_law_pot_here","_law_kinds","_law_tree_here"] (3 + n) (spSpoiltB n)) : FnOk P w K mg base CX0 (3 + (n + 1)) f fd ["_law_pot_here","_law_kinds","_law_tree_here"] (spSpoiltB (n + 1)) := by
  refine F.ok scspoiltb (fun vs H Q E h => ?_) (fun cdv A outer s H vs Q E hr h => ?_)
  · obtain ⟨p,kl,rs,ks,v,t,rfl,_⟩ := h
    rfl
  obtain ⟨p,kl,rs,ks,v,t,rfl,hk0,nkp,rlen,tv,dn0,pt,q⟩ := h
  have nd := scspoiltb.nd
  refine ⟨_,(@pss_cons _ _ _ _ _ (@ps_if _ _ _ _ _ _ _ _ (PW.pt (pw_or (@pt_cmpR _ _ _ _ _ _ _ _ op_notIn_seq (@pe_ix _ _ _ _ _ _ _ ix_tup (pv 2) pe_int (fun _ _ => rfl)) (@pe_tup _ _ _ _ _ (@pa_cons _ _ _ _ _ pe_str (@pa_cons _ _ _ _ _ pe_str pa_nil rfl) rfl)) rfl) (pw_or1 (@pt_cmpR _ _ _ _ _ _ _ _ op_eq (@pe_cD _ _ _ _ _ _ _ _ _ _ DD (hr.mono (show 1 ≤ 3 + n by omega)) rfl (@pa_cons _ _ _ _ _ (pv 0) (@pa_cons _ _ _ _ _ pe_int pa_nil rfl) rfl) (by decide) rfl rfl) pe_int (nomark _))))) (@pss_one _ _ _ (@ps_ret _ _ _ _ (@pe_cD _ _ _ _ _ _ _ _ _ _ DBd (hr.mono (show 2 ≤ 3 + n by omega)) rfl (@pa_cons _ _ _ _ _ (pv 0) (@pa_cons _ _ _ _ _ (pv 1) (@pa_cons _ _ _ _ _ (pv 2) pa_nil rfl) rfl) rfl) (by decide) rfl rfl))) pss_nil) (@pss_cons _ _ _ _ _ (@ps_set _ _ 3 _ _ _ _ nd rfl (Or.inl rfl) (@pe_op _ _ _ _ _ _ _ _ op_add pe_int (@pe_cD _ _ _ _ _ _ _ _ _ _ DD (hr.mono (show 1 ≤ 3 + n by omega)) rfl (@pa_cons _ _ _ _ _ (pv 0) (@pa_cons _ _ _ _ _ pe_int pa_nil rfl) rfl) (by decide) rfl rfl)) rfl (Or.inl rfl)) (@pss_one _ _ _ (@ps_ret _ _ _ _ (@pe_op _ _ _ _ _ _ _ _ op_catA (@pe_op _ _ _ _ _ _ _ _ op_catA (@pe_slice _ _ _ _ _ _ _ _ _ _ sl_tup (pv 2) po_none (po_some (pv 3))) (@pe_tup _ _ _ _ _ (@pa_cons _ _ _ _ _ (@pe_cD _ _ _ _ _ _ _ _ _ _ DSp hr rfl (@pa_cons _ _ _ _ _ (pv 0) (@pa_cons _ _ _ _ _ (pv 1) (@pa_cons _ _ _ _ _ (@pe_ix _ _ _ _ _ _ _ ix_tup (pv 2) (pv 3) (fun _ _ => rfl)) pa_nil rfl) rfl) rfl) (by decide) rfl rfl) pa_nil rfl))) (@pe_slice _ _ _ _ _ _ _ _ _ _ sl_tup (pv 2) (po_some (@pe_op _ _ _ _ _ _ _ _ op_add (pv 3) pe_int)) po_none)))))),?_⟩
  have kT : ∀ {Hx Hy : Hp},PotB Hx p → But p Hx Hy → ∀ a xs,Hx a = some (.tup xs) → Hy a = some (.tup xs) := fun {Hx Hy} px bx a xs e => by
    obtain ⟨_,hp⟩ := potL px
    exact bx _ _ (fun z => by rw [z,hp] at e; cases e) e
  obtain ⟨a,y,r,rfl,ha,hd⟩ := trHead tv
  refine seqCut (fun σ' H' => σ' = [some (.ref p), some (.ref kl), some (.ref a), none] ∧ (∃ (dn : Bool) (p : Int) (l r' : Tr) (x z : V), y = (if dn = true then ("down" : Str) else "across") ∧ t = .cut dn p l r' ∧ r = [.int p, x, z] ∧ TrV H l x ∧ TrV H r' z) ∧ PotB H' p ∧ But p H H') (fun R hR => ?_) ?_
  · have bad : ∀ Hx,But p H Hx → PotB Hx p → tRet (tCall spBad [] E0 (tCons (tVar 0) (tCons (tVar 1) (tCons (tVar 2) tNil)))) { nx := fun x H' => Q V.non H',rt := Q } [some (.ref p),some (.ref kl),some (.ref a),none] Hx := fun Hx bx ptx =>
      ⟨_,rfl,_,rfl,_,rfl,p,kl,rs,ks,_,t,rfl,bx _ _ nkp hk0,nkp,rlen,TrV.keep (kT pt bx) t tv,ptx,fun v' H' bd pt' b' => q v' H' bd pt' (bx.trans b')⟩
    refine ⟨_,rfl,a,_,0,_,rfl,rfl,SqT.of ha,atI_int (Int.le_refl _) rfl,(by show 2 ≤ sizeLine; decide),fun l hl => ?_⟩
    obtain ⟨H1,e1,k1,n1,s1,b1,pt1⟩ := put1 (o := .tup [.str "down",.str "across"]) (But.refl (p := p) (H := H)) pt hl
    rw [show upd H l _ = H1 from e1]
    refine ⟨l,_,rfl,.inr (SqT.of k1),rfl,rfl,_,rfl,?_⟩
    rcases hd with ⟨f1,_⟩ | ⟨dn,pc,tl,tr,x,z',ey,et,er,h1,h2,f1,_⟩
    · rw [show (if true = true then !inV (V.str y) [V.str "down",V.str "across"] else inV (V.str y) [V.str "down",V.str "across"]) = true by rw [if_pos rfl,f1]; rfl]
      exact iteT (iteT (bad _ b1 pt1))
    · rw [show (if true = true then !inV (V.str y) [V.str "down",V.str "across"] else inV (V.str y) [V.str "down",V.str "across"]) = false by rw [if_pos rfl,f1]; rfl]
      refine iteF ⟨_,rfl,p,8,rfl,pt1,by decide,by decide,fun u H2 u0 u1 pt2 b2 => ⟨rfl,_,rfl,?_⟩⟩
      exact ite2 (fun cc => bad _ (b1.trans b2) pt2) (fun cc => hR _ _ ⟨rfl,⟨dn,pc,tl,tr,x,z',ey,et,er,h1,h2⟩,pt2,b1.trans b2⟩)
  clear hd
  rintro _ H1 ⟨rfl,⟨dn,pc,tl,tr,x,z',ey,rfl,rfl,h1,h2⟩,pt1,b1⟩
  subst ey
  have hdp : dpT (.cut dn pc tl tr) = max (dpT tl) (dpT tr) + 1 := rfl
  have hsz : szT (.cut dn pc tl tr) = szT tl + szT tr + 1 := rfl
  have hw : wt (.str (if dn = true then "down" else "across")) ≤ 7 := by cases dn <;> decide +kernel
  have hdw : PyData.depth (.str (if dn = true then "down" else "across")) = 0 := by cases dn <;> rfl
  refine seqCut (fun σ' H' => ∃ u : Int,σ' = [some (.ref p),some (.ref kl),some (.ref a),some (.int (2 + u))] ∧ 0 ≤ u ∧ u < 2 ∧ PotB H' p ∧ But p H H') (fun R hR => ?_) ?_
  · exact ⟨_,rfl,p,2,rfl,pt1,by decide,by decide,fun u H2 u0 u1 pt2 b2 => ⟨_,_,rfl,rfl,hR _ _ ⟨u,rfl,u0,u1,pt2,b1.trans b2⟩⟩⟩
  rintro _ H2 ⟨u,rfl,u0,u1,pt2,b2⟩
  have ha2 := kT pt b2 _ _ ha
  rcases (show u = 0 ∨ u = 1 by omega) with rfl | rfl
  · refine ⟨_,rfl,_,rfl,_,rfl,a,_,rfl,SqT.of ha2,(fun z => ?_),fun t1 ht1 => ?_⟩
    · have := z.2
      revert this
      show ¬ (2 = 4)
      decide
    rw [show cutV [V.str (if dn = true then "down" else "across"), .int pc, x, z'] none (some (2 + 0)) = [V.str (if dn = true then "down" else "across"), .int pc] from rfl]
    obtain ⟨H3,e3,k3,n3,s3,b3,pt3⟩ := put1 (o := .tup [.str (if dn = true then "down" else "across"),.int pc]) b2 pt2 ht1
    rw [show upd H2 t1 _ = H3 from e3]
    refine ⟨_,rfl,_,rfl,_,rfl,_,rfl,a,_,_,_,rfl,rfl,SqT.of (s3 _ _ ha2),rfl,p,kl,rs,ks,x,tl,rfl,b3 _ _ nkp hk0,nkp,rlen,TrV.keep (kT pt b3) tl h1,by omega,pt3,fun v' H4 bd pt4 b34 => ?_⟩
    have b4 := b3.trans b34
    obtain ⟨ds,dt,bd1,bd2,bd3,bd4⟩ := bd
    have k14 := kT pt3 b34 _ _ k3
    refine ⟨(by show 1 ≤ sizeLine; decide),fun t3 ht3 => ?_⟩
    obtain ⟨H5,e5,k5,n5,s5,b5,pt5⟩ := put1 (o := .tup [v']) b4 pt4 ht3
    rw [show upd H4 t3 _ = H5 from e5]
    refine ⟨t1,t3,_,_,rfl,rfl,s5 _ _ k14,k5,(by show 3 ≤ sizeLine; decide),fun m J6 hm km => ?_⟩
    have s6 : Same H5 J6 := by
      rcases hm with ⟨rfl,_⟩ | ⟨hm,rfl⟩
      · exact Same.refl _
      · exact Same.new hm
    clear hm
    have s46 := s5.trans s6
    have pt6 := pt4.same s46
    have b6 : But p H J6 := b4.trans (Same.but s46)
    have ha6 := kT pt b6 _ _ ha
    refine ⟨_,rfl,_,rfl,_,_,rfl,rfl,_,rfl,a,_,rfl,SqT.of ha6,(fun z => ?_),fun t7 ht7 => ?_⟩
    · have := z.1
      revert this
      show ¬ (3 = 0)
      decide
    rw [show cutV [V.str (if dn = true then "down" else "across"), .int pc, x, z'] (some (2 + 0 + 1)) none = [z'] from rfl]
    obtain ⟨H7,e7,k7,n7,s7,b7,pt7⟩ := put1 (o := .tup [z']) b6 pt6 ht7
    rw [show upd J6 t7 _ = H7 from e7]
    refine ⟨m,t7,_,_,rfl,rfl,s7 _ _ km,k7,(by show 4 ≤ sizeLine; decide),fun m2 J8 hm2 km2 => ?_⟩
    have s8 : Same H7 J8 := by
      rcases hm2 with ⟨rfl,_⟩ | ⟨hm2,rfl⟩
      · exact Same.refl _
      · exact Same.new hm2
    clear hm2
    have s48 := s46.trans (s7.trans s8)
    have b8 : But p H J8 := b4.trans (Same.but s48)
    have dt8 := dt.same s48
    have o8 := TrV.keep (kT pt b8) tr h2
    have wo := toD_wt tr
    have do' := toD_depth tr
    refine q _ J8 ⟨[.str (if dn = true then "down" else "across"),.int pc,.tuple ds,toD tr],.tup km2 (.cons (.str _) (.cons (.int _) (.cons dt8 (.cons (TrV.dt tr o8) .nil)))),.left rfl bd1,.left (l := .list (lsDs ds)) (r := lsD (toD tr)) rfl bd2,?_,?_⟩ (pt4.same s48) b8
    · simp only [PyData.depthAll,hdw,do',hdp,PyData.depth]
      omega
    · show wt (.str (if dn = true then "down" else "across")) + (1 + ((wts ds + 1) + (wt (toD tr) + 0))) ≤ _
      omega
  · refine ⟨_,rfl,_,rfl,_,rfl,a,_,rfl,SqT.of ha2,(fun z => ?_),fun t1 ht1 => ?_⟩
    · have := z.2
      revert this
      show ¬ (3 = 4)
      decide
    rw [show cutV [V.str (if dn = true then "down" else "across"), .int pc, x, z'] none (some (2 + 1)) = [V.str (if dn = true then "down" else "across"), .int pc, x] from rfl]
    obtain ⟨H3,e3,k3,n3,s3,b3,pt3⟩ := put1 (o := .tup [.str (if dn = true then "down" else "across"),.int pc,x]) b2 pt2 ht1
    rw [show upd H2 t1 _ = H3 from e3]
    refine ⟨_,rfl,_,rfl,_,rfl,_,rfl,a,_,_,_,rfl,rfl,SqT.of (s3 _ _ ha2),rfl,p,kl,rs,ks,z',tr,rfl,b3 _ _ nkp hk0,nkp,rlen,TrV.keep (kT pt b3) tr h2,by omega,pt3,fun v' H4 bd pt4 b34 => ?_⟩
    have b4 := b3.trans b34
    obtain ⟨ds,dt,bd1,bd2,bd3,bd4⟩ := bd
    have k14 := kT pt3 b34 _ _ k3
    refine ⟨(by show 1 ≤ sizeLine; decide),fun t3 ht3 => ?_⟩
    obtain ⟨H5,e5,k5,n5,s5,b5,pt5⟩ := put1 (o := .tup [v']) b4 pt4 ht3
    rw [show upd H4 t3 _ = H5 from e5]
    refine ⟨t1,t3,_,_,rfl,rfl,s5 _ _ k14,k5,(by show 4 ≤ sizeLine; decide),fun m J6 hm km => ?_⟩
    have s6 : Same H5 J6 := by
      rcases hm with ⟨rfl,_⟩ | ⟨hm,rfl⟩
      · exact Same.refl _
      · exact Same.new hm
    clear hm
    have s46 := s5.trans s6
    have pt6 := pt4.same s46
    have b6 : But p H J6 := b4.trans (Same.but s46)
    have ha6 := kT pt b6 _ _ ha
    refine ⟨_,rfl,_,rfl,_,_,rfl,rfl,_,rfl,a,_,rfl,SqT.of ha6,(fun z => ?_),fun t7 ht7 => ?_⟩
    · have := z.1
      revert this
      show ¬ (4 = 0)
      decide
    rw [show cutV [V.str (if dn = true then "down" else "across"), .int pc, x, z'] (some (2 + 1 + 1)) none = [] from rfl]
    obtain ⟨H7,e7,k7,n7,s7,b7,pt7⟩ := put1 (o := .tup []) b6 pt6 ht7
    rw [show upd J6 t7 _ = H7 from e7]
    refine ⟨m,t7,_,_,rfl,rfl,s7 _ _ km,k7,(by show 4 ≤ sizeLine; decide),fun m2 J8 hm2 km2 => ?_⟩
    have s8 : Same H7 J8 := by
      rcases hm2 with ⟨rfl,_⟩ | ⟨hm2,rfl⟩
      · exact Same.refl _
      · exact Same.new hm2
    clear hm2
    have s48 := s46.trans (s7.trans s8)
    have b8 : But p H J8 := b4.trans (Same.but s48)
    have dt8 := dt.same s48
    have o8 := TrV.keep (kT pt b8) tl h1
    have wo := toD_wt tl
    have do' := toD_depth tl
    refine q _ J8 ⟨[.str (if dn = true then "down" else "across"),.int pc,toD tl,.tuple ds],.tup km2 (.cons (.str _) (.cons (.int _) (.cons (TrV.dt tl o8) (.cons dt8 .nil)))),.right rfl bd1,.right (l := lsD (toD tl)) (r := .list (lsDs ds)) rfl bd2,?_,?_⟩ (pt4.same s48) b8
    · simp only [PyData.depthAll,hdw,do',hdp,PyData.depth]
      omega
    · show wt (.str (if dn = true then "down" else "across")) + (1 + (wt (toD tl) + ((wts ds + 1) + 0))) ≤ _
      omega
theorem ok_spoiltb0 {f : Addr} {fd : FuncData} (F : Fun K "_law_spoilt" "_law_spoilt" sSpoilt f fd) : FnOk P w K mg base CX0 3 f fd ["_law_pot_here","_law_kinds","_law_tree_here"] (spSpoiltB 0) := by
  refine F.ok scspoiltb (fun vs H Q E h => ?_) (fun cdv A outer s H vs Q E hr h => ?_)
  · obtain ⟨p,kl,rs,ks,v,t,rfl,_⟩ := h
    rfl
  · obtain ⟨p,kl,rs,ks,v,t,_,_,_,_,_,z,_⟩ := h
    exact absurd z (Nat.not_lt_zero _)
theorem ok_spoiltbN {f : Addr} {fd : FuncData} (F : Fun K "_law_spoilt" "_law_spoilt" sSpoilt f fd) (B : Blt mg) (DD : Dn P w K mg base "_law_draw" ["_law_pot_here","_law_many"] 1 (spDrawB)) (DBd : Dn P w K mg base "_law_bad" ["_law_pot_here","_law_kinds","_law_tree_here"] 2 (spBad)) (mk : ∀ n,FnOk P w K mg base CX0 (3 + n) f fd ["_law_pot_here","_law_kinds","_law_tree_here"] (spSpoiltB n) → Dn P w K mg base "_law_spoilt" ["_law_pot_here","_law_kinds","_law_tree_here"] (3 + n) (spSpoiltB n)) : ∀ n,FnOk P w K mg base CX0 (3 + n) f fd ["_law_pot_here","_law_kinds","_law_tree_here"] (spSpoiltB n)
  | 0 => ok_spoiltb0 F
  | n + 1 => ok_spoiltb F B n DD DBd (mk n (ok_spoiltbN F B DD DBd mk n))
end
structure Sk where
  t : Tr
  la : Option Bool
  n : Nat
def laV : Option Bool → V
  | none => .non
  | some d => wv d
def SkAt (p : Addr) (H0 H : Hp) (v : V) (k : Sk) : Prop := ∃ a u d,v = .ref a ∧ H a = some (.tup [u,laV k.la,.int (k.n : Nat)]) ∧ Dt p H0 u d ∧ TrD k.t d
theorem SkAt.keep {p : Addr} {H0 H H' : Hp} (k : ∀ a xs,H a = some (.tup xs) → H' a = some (.tup xs)) {v : V} {t : Sk} (h : SkAt p H0 H v t) : SkAt p H0 H' v t := by
  obtain ⟨a,u,d,e,h1,h2,h3⟩ := h
  exact ⟨a,u,d,e,k _ _ h1,h2,h3⟩
def ksz (ts : List Sk) : Nat := (ts.map fun k => szT k.t).sum
theorem ksz_app (a b : List Sk) : ksz (a ++ b) = ksz a + ksz b := by unfold ksz; rw [List.map_append,List.sum_append]
theorem ksz_len : ∀ ts : List Sk,ts.length ≤ ksz ts
  | [] => Nat.le_refl _
  | t :: r => by
    have := ksz_len r
    have := szpos t.t
    show r.length + 1 ≤ szT t.t + ksz r
    omega
def supS : List Sk → Nat
  | [] => 0
  | k :: r => max (tn k.t k.la k.n) (supS r)
theorem supS_app : ∀ a b : List Sk,supS (a ++ b) = max (supS a) (supS b)
  | [],b => by show supS b = max 0 (supS b); omega
  | k :: r,b => by
    show max _ (supS (r ++ b)) = max (max _ (supS r)) (supS b)
    rw [supS_app r b]
    omega
section
variable {P : Program} {w : World} {K : PySem.W.Frag} {mg : Str → Option Value} {base : Heap}
def spCheckT (C : Addr) : Sp := fun vs H Q _ => ∃ (pp s : Addr) (b w h : Int) (ks : List Kd) (v : V) (d : PyData),vs = [.ref s,.int w,.int h,v] ∧ ShopAt C H s b ks ∧ 1 ≤ w ∧ 1 ≤ h ∧ Dt pp H v d ∧ wt d ≤ 30000 ∧ isT b ks w h d = true ∧ ∀ H',Same H H' → Q .non H'
def spCheckTX (C NT : Addr) : Sp := fun vs H Q E => ∃ (pp s : Addr) (b w h : Int) (ks : List Kd) (v : V) (d : PyData),vs = [.ref s,.int w,.int h,v] ∧ ShopAt C H s b ks ∧ 1 ≤ w ∧ 1 ≤ h ∧ Dt pp H v d ∧ wt d ≤ 30000 ∧ isT b ks w h d = false ∧ ∀ H',Same H H' → E (.ref NT) none H'
def spTurns (C : Addr) : Sp := fun vs H Q _ => ∃ (pp s : Addr) (b w h : Int) (ks : List Kd) (v : V) (d : PyData) (t : Tr),vs = [.ref s,.int w,.int h,v] ∧ ShopAt C H s b ks ∧ 1 ≤ w ∧ 1 ≤ h ∧ Dt pp H v d ∧ wt d ≤ 30000 ∧ TrD t d ∧ okT b ks w h t ∧ szT t ≤ 10000 ∧ ∀ H',Same H H' → Q (.int (tn t none 0 : Nat)) H'
def spTurnsX (C NT : Addr) : Sp := fun vs H Q E => ∃ (pp s : Addr) (b w h : Int) (ks : List Kd) (v : V) (d : PyData),vs = [.ref s,.int w,.int h,v] ∧ ShopAt C H s b ks ∧ 1 ≤ w ∧ 1 ≤ h ∧ Dt pp H v d ∧ wt d ≤ 30000 ∧ isT b ks w h d = false ∧ ∀ H',Same H H' → E (.ref NT) none H'
def spRefused (C : Addr) : Sp := fun vs H Q _ => ∃ (pp s : Addr) (b w h : Int) (ks : List Kd) (v : V) (d : PyData),vs = [.ref s,.int w,.int h,v] ∧ ShopAt C H s b ks ∧ 1 ≤ w ∧ 1 ≤ h ∧ Dt pp H v d ∧ wt d ≤ 30000 ∧ isT b ks w h d = false ∧ ∀ H',Same H H' → Q (.bl true) H'
theorem sccheckt : FnScope ["shop","wide","high","thing"] ["shop","wide","high","thing"] (defScope sCheckTree) := ⟨rfl,rfl,rfl,by decide +kernel,rfl,by decide +kernel,by decide +kernel⟩
theorem ok_checkt {f C : Addr} {fd : FuncData} (F : Fun K "check_tree" "check_tree" sCheckTree f fd) (DI : Dn P w K mg base "is_tree" ["shop","wide","high","thing"] 6 (spIsTree C)) : FnOk P w K mg base CX0 7 f fd ["shop","wide","high","thing"] (spCheckT C) := by
  refine F.ok sccheckt (fun vs H Q E h => ?_) (fun cdv A outer s H vs Q E hr h => ?_)
  · obtain ⟨pp,s,b,w1,h1,ks,v,d,rfl,_⟩ := h
    rfl
  obtain ⟨pp,s,b,w1,h1,ks,v,d,rfl,SH,w0,h0,hd,dz,ht,q⟩ := h
  have nd := sccheckt.nd
  refine ⟨_,(@pss_one _ _ _ (@ps_if _ _ _ _ _ _ _ _ (@pt_not _ _ _ _ (@pt_val _ _ _ (@pe_cD _ _ _ _ _ _ _ _ _ _ DI hr rfl (@pa_cons _ _ _ _ _ (pv 0) (@pa_cons _ _ _ _ _ (pv 1) (@pa_cons _ _ _ _ _ (pv 2) (@pa_cons _ _ _ _ _ (pv 3) pa_nil rfl) rfl) rfl) rfl) (by decide) rfl rfl) (by intro _; rfl))) (@pss_one _ _ _ ps_never) pss_nil)),?_⟩
  refine ⟨_,rfl,_,rfl,_,rfl,_,rfl,pp,s,b,w1,h1,ks,v,d,rfl,SH,w0,h0,hd,dz,fun H1 s1 => ⟨_,rfl,?_⟩⟩
  rw [ht]
  exact iteF (q _ s1)
theorem scchecktX : FnScope ["shop","wide","high","thing"] ["shop","wide","high","thing"] (defScope sCheckTree) := ⟨rfl,rfl,rfl,by decide +kernel,rfl,by decide +kernel,by decide +kernel⟩
theorem ok_checktX {f C NT : Addr} {fd : FuncData} (F : Fun K "check_tree" "check_tree" sCheckTree f fd) (mT : mg "NoTree" = some (.ref NT)) (eT : ExcC K NT) (DI : Dn P w K mg base "is_tree" ["shop","wide","high","thing"] 6 (spIsTree C)) : FnOk P w K mg base (CXx P w) 7 f fd ["shop","wide","high","thing"] (spCheckTX C NT) := by
  refine F.okX scchecktX (fun vs H Q E h => ?_) (fun cdv A outer s H vs Q E hr h => ?_)
  · obtain ⟨pp,s,b,w1,h1,ks,v,d,rfl,_⟩ := h
    rfl
  obtain ⟨pp,s,b,w1,h1,ks,v,d,rfl,SH,w0,h0,hd,dz,ht,q⟩ := h
  have nd := scchecktX.nd
  refine ⟨_,(@pss_one _ _ _ (@ps_if _ _ _ _ _ _ _ _ (@pt_not _ _ _ _ (@pt_val _ _ _ (@pe_cD _ _ _ _ _ _ _ _ _ _ DI hr rfl (@pa_cons _ _ _ _ _ (pv 0) (@pa_cons _ _ _ _ _ (pv 1) (@pa_cons _ _ _ _ _ (pv 2) (@pa_cons _ _ _ _ _ (pv 3) pa_nil rfl) rfl) rfl) rfl) (by decide) rfl rfl) (by intro _; rfl))) (@pss_one _ _ _ (ps_raise (R := fun c H => E c none H) rfl rfl mT eT (@pa_cons _ _ _ _ _ pe_str pa_nil rfl) raise_ends)) pss_nil)),?_⟩
  refine ⟨_,rfl,_,rfl,_,rfl,_,rfl,pp,s,b,w1,h1,ks,v,d,rfl,SH,w0,h0,hd,dz,fun H1 s1 => ⟨_,rfl,?_⟩⟩
  rw [ht]
  exact iteT ⟨(by show 1 ≤ sizeLine; decide),q _ s1⟩
theorem scturns : FnScope ["shop","wide","high","tree","most","waiting","part_tree","way_ahead","turns","way"] ["shop","wide","high","tree"] (defScope sTurnsOf) := ⟨rfl,rfl,rfl,by decide +kernel,rfl,by decide +kernel,by decide +kernel⟩
theorem ok_turns {f C wa : Addr} {fd : FuncData} (F : Fun K "turns_of" "turns_of" sTurnsOf f fd) (B : Blt mg) (Z : TrC K mg wa) (DC : Dn P w K mg base "check_tree" ["shop","wide","high","thing"] 7 (spCheckT C)) : FnOk P w K mg base CX0 8 f fd ["shop","wide","high","tree"] (spTurns C) := by
  refine F.ok scturns (fun vs H Q E h => ?_) (fun cdv A outer s H vs Q E hr h => ?_)
  · obtain ⟨pp,s,b,w1,h1,ks,v,d,t,rfl,_⟩ := h
    rfl
  obtain ⟨pp,s,b,w1,h1,ks,v,d,t,rfl,SH,w0,h0,hd,dz,td,hok,tz,q⟩ := h
  have nd := scturns.nd
  refine ⟨_,(@pss_cons _ _ _ _ _ (@ps_expr _ _ _ _ (@pe_cD _ _ _ _ _ _ _ _ _ _ DC hr rfl (@pa_cons _ _ _ _ _ (pv 0) (@pa_cons _ _ _ _ _ (pv 1) (@pa_cons _ _ _ _ _ (pv 2) (@pa_cons _ _ _ _ _ (pv 3) pa_nil rfl) rfl) rfl) rfl) (by decide) rfl rfl) rfl) (@pss_cons _ _ _ _ _ (@ps_set _ _ 4 _ _ _ _ nd rfl (Or.inl rfl) pe_int rfl (Or.inl rfl)) (@pss_cons _ _ _ _ _ (@ps_set _ _ 5 _ _ _ _ nd rfl (Or.inl rfl) (@pe_lst _ _ _ _ (@pa_cons _ _ _ _ _ (@pe_tup _ _ _ _ _ (@pa_cons _ _ _ _ _ (pv 3) (@pa_cons _ _ _ _ _ pe_non (@pa_cons _ _ _ _ _ pe_int pa_nil rfl) rfl) rfl)) pa_nil rfl)) rfl (Or.inl rfl)) (@pss_cons _ _ _ _ _ (ps_while PassesOwn.never (pt_truth (pv 5) (fun _ => rfl)) (@pss_cons _ _ _ _ _ (@ps_asg _ _ _ _ _ _ (pe_bm0 PySem.F.plainAttrs_list PySem.F.slot_list_pop PySem.F.type_list_pop mt_pop (pv 5)) (pg_tup rfl (pgs_cons (pg_name (i := 6) nd rfl (Or.inl rfl)) (pgs_cons (pg_name (i := 7) nd rfl (Or.inl rfl)) (pgs_cons (pg_name (i := 8) nd rfl (Or.inl rfl)) pgs_nil)))) rfl rfl rfl) (@pss_cons _ _ _ _ _ (@ps_set _ _ 4 _ _ _ _ nd rfl (Or.inl rfl) (@pe_callB _ _ _ _ _ _ _ _ _ (call_max2 rfl) rfl B.max PyProof.Rows.boot_max (@pa_cons _ _ _ _ _ (pv 4) (@pa_cons _ _ _ _ _ (pv 8) pa_nil rfl) rfl) (by decide) (by decide) rfl rfl) rfl (Or.inl rfl)) (@pss_cons _ _ _ _ _ (@ps_set _ _ 9 _ _ _ _ nd rfl (Or.inl rfl) (@pe_ix _ _ _ _ _ _ _ ix_seq (pv 6) pe_int (fun _ _ => rfl)) rfl (Or.inl rfl)) (@pss_one _ _ _ (@ps_if _ _ _ _ _ _ _ _ (@pt_cmpR _ _ _ _ _ _ _ _ op_in_seq (pv 9) (pe_glob (v := .ref wa) rfl Z.wy rfl) rfl) (@pss_cons _ _ _ _ _ (@ps_if _ _ _ _ _ _ _ _ (PW.pt (pw_and (@pt_cmpR _ _ _ _ _ _ _ _ op_notN (pv 7) pe_non (nomark _)) (pw_and1 (@pt_cmpR _ _ _ _ _ _ _ _ op_ne (pv 7) (pv 9) (nomark _))))) (@pss_one _ _ _ (ps_aug (i := 8) nd rfl (Or.inl rfl) pe_int ip_add)) pss_nil) (@pss_one _ _ _ (@ps_expr _ _ _ _ (@pe_bm _ _ _ _ _ _ _ _ _ _ _ _ PySem.F.plainAttrs_list PySem.F.slot_list_extend PySem.F.type_list_extend mt_extend (pv 5) (@pa_cons _ _ _ _ _ (@pe_lst _ _ _ _ (@pa_cons _ _ _ _ _ (@pe_tup _ _ _ _ _ (@pa_cons _ _ _ _ _ (@pe_ix _ _ _ _ _ _ _ ix_seq (pv 6) pe_int (fun _ _ => rfl)) (@pa_cons _ _ _ _ _ (pv 9) (@pa_cons _ _ _ _ _ (pv 8) pa_nil rfl) rfl) rfl)) (@pa_cons _ _ _ _ _ (@pe_tup _ _ _ _ _ (@pa_cons _ _ _ _ _ (@pe_ix _ _ _ _ _ _ _ ix_seq (pv 6) pe_int (fun _ _ => rfl)) (@pa_cons _ _ _ _ _ (pv 9) (@pa_cons _ _ _ _ _ (pv 8) pa_nil rfl) rfl) rfl)) pa_nil rfl) rfl)) pa_nil rfl) rfl rfl rfl rfl rfl) rfl))) pss_nil)))))) (@pss_one _ _ _ (@ps_ret _ _ _ _ (pv 4))))))),?_⟩
  refine seqCut (fun σ' H' => σ' = [some (.ref s),some (.int w1),some (.int h1),some v,none,none,none,none,none,none] ∧ Same H H') (fun R hR => ?_) ?_
  · exact ⟨_,rfl,_,rfl,_,rfl,_,rfl,pp,s,b,w1,h1,ks,v,d,rfl,SH,w0,h0,hd,dz,TrD.good t d w1 h1 td hok,fun H1 s1 => hR _ _ ⟨rfl,s1⟩⟩
  rintro _ H0 ⟨rfl,s0⟩
  refine seqCut (fun σ' H' => σ' = [some (.ref s),some (.int w1),some (.int h1),some v,some (.int 0),none,none,none,none,none] ∧ H0 = H') (fun R hR => hR _ _ ⟨rfl,rfl⟩) ?_
  rintro _ _ ⟨rfl,rfl⟩
  refine seqCut (fun σ' H' => ∃ t' wl : Addr,σ' = [some (.ref s),some (.int w1),some (.int h1),some v,some (.int 0),some (.ref wl),none,none,none,none] ∧ H' t' = some (.tup [v,.non,.int 0]) ∧ H' wl = some (.lst [.ref t']) ∧ H wl = none ∧ Same H H') (fun R hR => ?_) ?_
  · refine ⟨_,rfl,(by show 3 ≤ sizeLine; decide),fun t' ht' => ?_⟩
    obtain ⟨Ha,e1,k1,s1⟩ : ∃ H',upd H0 t' (.tup [v,.non,.int 0]) = H' ∧ H' t' = some (.tup [v,.non,.int 0]) ∧ Same H0 H' := ⟨_,rfl,upd_same,Same.new ht'⟩
    rw [show upd H0 t' _ = Ha from e1]
    refine ⟨(by show 1 ≤ sizeLine; decide),fun wl hwl => ?_⟩
    have fw : H wl = none := (s0.trans s1).free hwl
    obtain ⟨Hb,e2,k2,s2⟩ : ∃ H',upd Ha wl (.lst [.ref t']) = H' ∧ H' wl = some (.lst [.ref t']) ∧ Same Ha H' := ⟨_,rfl,upd_same,Same.new hwl⟩
    rw [show upd Ha wl _ = Hb from e2]
    exact hR _ _ ⟨t',wl,rfl,s2 _ _ k1,k2,fw,(s0.trans s1).trans s2⟩
  rintro _ Hb ⟨t',wl,rfl,kt',kb,fw,sab⟩
  refine seqCut (fun σ' H' => ∃ v6 v7 v8 v9 : Option V,σ' = [some (.ref s),some (.int w1),some (.int h1),some v,some (.int (tn t none 0 : Nat)),some (.ref wl),v6,v7,v8,v9] ∧ Same H H') (fun R hR => ?_) ?_
  · refine ⟨fun m σ' H' => ∃ (vs : List V) (ts : List Sk) (m0 : Nat) (v6 v7 v8 v9 : Option V),σ' = [some (.ref s),some (.int w1),some (.int h1),some v,some (.int (m0 : Nat)),some (.ref wl),v6,v7,v8,v9] ∧ m = ksz ts ∧ H' wl = some (.lst vs) ∧ Paired (SkAt pp H H') vs ts ∧ ksz ts ≤ 10000 ∧ max m0 (supS ts) = tn t none 0 ∧ Same H H',⟨_,[.ref t'],[⟨t,none,0⟩],0,none,none,none,none,rfl,rfl,kb,.cons ⟨t',v,d,rfl,kt',hd,td⟩ .nil,(by show szT t + 0 ≤ 10000; omega),(by show max 0 (max (tn t none 0) 0) = _; omega),sab⟩,?_⟩
    rintro m σ H1 ⟨vs,ts,m0,v6,v7,v8,v9,rfl,rfl,hw,pr,sz1,al,s1⟩
    refine ⟨_,rfl,_,.inl ⟨vs,SqL.of hw,rfl⟩,?_⟩
    rcases List.eq_nil_or_concat vs with rfl | ⟨vs',v0,rfl⟩
    · have ets : ts = [] := by
        have := Paired.length pr
        cases ts with
        | nil => rfl
        | cons _ _ => simp at this
      subst ets
      have al : max m0 0 = tn t none 0 := al
      have em : m0 = tn t none 0 := by omega
      subst em
      exact iteF (hR _ _ ⟨v6,v7,v8,v9,rfl,s1⟩)
    rw [List.concat_eq_append] at pr hw ⊢
    obtain ⟨ts',t0,rfl,prp,⟨sp,u,du,rfl,hsp,hdu,tdu⟩⟩ := snocP pr
    rw [show (!(vs' ++ [V.ref sp]).isEmpty) = true by cases vs' <;> rfl]
    have ssz : ksz (ts' ++ [t0]) = ksz ts' + szT t0.t := by rw [ksz_app]; show _ + (szT t0.t + 0) = _; omega
    rw [ssz] at sz1 ⊢
    have al2 : max m0 (max (supS ts') (tn t0.t t0.la t0.n)) = tn t none 0 := by
      rw [← al,supS_app]
      show _ = max m0 (max (supS ts') (max (tn t0.t t0.la t0.n) 0))
      omega
    refine iteT ⟨fun σ' H' => ∃ (vs : List V) (ts : List Sk) (m0 : Nat) (v6 v7 v8 v9 : Option V),σ' = [some (.ref s),some (.int w1),some (.int h1),some v,some (.int (m0 : Nat)),some (.ref wl),v6,v7,v8,v9] ∧ ksz ts < ksz ts' + szT t0.t ∧ H' wl = some (.lst vs) ∧ Paired (SkAt pp H H') vs ts ∧ ksz ts ≤ 10000 ∧ max m0 (supS ts) = tn t none 0 ∧ Same H H',fun σ' H' ⟨vs,ts,m0,v6,v7,v8,v9,e,l,r⟩ => ⟨_,l,vs,ts,m0,v6,v7,v8,v9,e,rfl,r⟩,?_⟩
    have ml : (vs' ++ [V.ref sp]).length = vs'.length + 1 := by rw [List.length_append]; rfl
    have keep : ∀ {Hx : Hp} {o : HO},Same H Hx → Same H (upd Hx wl o) := fun {Hx o} sx c oo e => by
      rw [upd_ne (fun z => by rw [z,fw] at e; cases e)]
      exact sx _ _ e
    have go : ∀ (y : Str) (ys : List PyData),rowOf du = some (.str y :: ys) → ∃ a xs,u = .ref a ∧ (H a = some (.lst (.str y :: xs)) ∨ H a = some (.tup (.str y :: xs))) ∧ Dts pp H xs ys := fun y ys er => by
      obtain ⟨a,xs,e,hx,dxs⟩ := hdu.ref_row er
      cases dxs with
      | cons hd0 dxs =>
        cases hd0
        exact ⟨a,_,e,hx,dxs⟩
    refine seqCut (fun σ' H' => σ' = [some (.ref s),some (.int w1),some (.int h1),some v,some (.int (m0 : Nat)),some (.ref wl),some u,some (laV t0.la),some (.int (t0.n : Nat)),v9] ∧ H' wl = some (.lst vs') ∧ Paired (SkAt pp H H') vs' ts' ∧ Same H H') (fun R hR => ?_) ?_
    · refine ⟨_,rfl,.inl ⟨rfl,_,SqL.of hw⟩,wl,_,.ref sp,rfl,rfl,hw,(by rw [ml]; simp),?_⟩
      rw [List.dropLast_concat]
      have kt : ∀ {c : Addr} {xs : List V},H1 c = some (.tup xs) → (upd H1 wl (.lst vs')) c = some (.tup xs) := fun {c xs} e => by
        rw [upd_ne (fun z => by rw [z,hw] at e; cases e)]; exact e
      exact ⟨sp,_,rfl,SqT.of (kt hsp),rfl,_,_,rfl,_,_,rfl,_,_,rfl,rfl,hR _ _ ⟨rfl,upd_same,Paired.mapP prp fun v t h => h.keep fun a xs e => kt e,keep s1⟩⟩
    rintro _ H2 ⟨rfl,hw2,pr2,s02⟩
    clear prp hsp hw pr
    obtain ⟨m1,hm1⟩ : ∃ m1 : Nat,m1 = max m0 t0.n := ⟨_,rfl⟩
    refine seqCut (fun σ' H' => σ' = [some (.ref s),some (.int w1),some (.int h1),some v,some (.int (m1 : Nat)),some (.ref wl),some u,some (laV t0.la),some (.int (t0.n : Nat)),v9] ∧ H2 = H') (fun R hR => ?_) ?_
    · refine ⟨_,rfl,_,rfl,_,_,rfl,hR _ _ ⟨?_,rfl⟩⟩
      have em : (m1 : Int) = (if (t0.n : Int) > (m0 : Int) then (t0.n : Int) else m0) := by split <;> omega
      rw [em]
      rfl
    rintro _ _ ⟨rfl,rfl⟩
    have pl := Paired.length pr2
    have sl := ksz_len ts'
    have big : 30000 ≤ sizeLine := by decide
    have tg := tn_ge t0.t t0.la t0.n
    obtain ⟨tt,et⟩ : ∃ tt,t0.t = tt := ⟨_,rfl⟩
    have zpos := szpos t0.t
    cases tt with
    | cut dn p l r =>
      rw [et] at tdu
      obtain ⟨dl,dr,er,tl,tr⟩ := tdu
      obtain ⟨a,xs,eu,hx,dxs⟩ := go _ _ er
      cases dxs with
      | @cons x1 _ xs1 _ hd1 dxs =>
      cases dxs with
      | @cons lv _ xs2 _ hdl dxs =>
      cases dxs with
      | @cons rv _ xs3 _ hdr dxs =>
      cases dxs
      cases hd1
      subst eu
      refine seqCut (fun σ' H' => σ' = [some (.ref s),some (.int w1),some (.int h1),some v,some (.int (m1 : Nat)),some (.ref wl),some (.ref a),some (laV t0.la),some (.int (t0.n : Nat)),some (wv dn)] ∧ H2 = H') (fun R hR => ?_) ?_
      · refine ⟨_,rfl,?_⟩
        show rIx K (.ref a) (.int 0) H2 _
        exact ixR s02 hx (atI_int (Int.le_refl _) rfl) (hR _ _ ⟨rfl,rfl⟩)
      rintro _ _ ⟨rfl,rfl⟩
      refine ⟨_,rfl,wa,_,rfl,.inr (Z.wq _),rfl,rfl,_,rfl,?_⟩
      show (if (inV (wv dn) [V.str "down",V.str "across"]) = true then _ else _)
      rw [show inV (wv dn) [V.str "down",V.str "across"] = true by cases dn <;> decide +kernel]
      refine iteT ?_
      obtain ⟨n1,hn1⟩ : ∃ n1 : Nat,n1 = t0.n + tStep t0.la dn := ⟨_,rfl⟩
      refine seqCut (fun σ' H' => σ' = [some (.ref s),some (.int w1),some (.int h1),some v,some (.int (m1 : Nat)),some (.ref wl),some (.ref a),some (laV t0.la),some (.int (n1 : Nat)),some (wv dn)] ∧ H2 = H') (fun R hR => ?_) ?_
      · obtain ⟨la,ela⟩ : ∃ la,t0.la = la := ⟨_,rfl⟩
        rw [ela] at hn1 ⊢
        refine ⟨_,rfl,rfl,_,rfl,?_⟩
        cases la with
        | none =>
          have : n1 = t0.n := hn1
          subst this
          exact iteF (iteF (hR _ _ ⟨by rw [ela],rfl⟩))
        | some d0 =>
          refine iteT ⟨_,rfl,_,rfl,rfl,_,rfl,?_⟩
          have ek : (!decide (wv d0 = wv dn)) = !decide (d0 = dn) := by cases d0 <;> cases dn <;> decide +kernel
          show (if (!decide (wv d0 = wv dn)) = true then _ else _)
          rw [ek]
          have hn1 : n1 = t0.n + (if d0 = dn then 0 else 1) := hn1
          by_cases e : d0 = dn
          · rw [if_pos e] at hn1
            have : n1 = t0.n := hn1
            subst this
            rw [decide_eq_true e]
            exact iteF (hR _ _ ⟨by rw [ela],rfl⟩)
          · rw [if_neg e] at hn1
            rw [decide_eq_false e]
            exact iteT ⟨_,rfl,_,_,rfl,rfl,hR _ _ ⟨by rw [ela,hn1]; rfl,rfl⟩⟩
      rintro _ _ ⟨rfl,rfl⟩
      refine ⟨_,rfl,.inl ⟨rfl,_,SqL.of hw2⟩,_,rfl,?_⟩
      refine ixR s02 hx (atI_int (i := 2) (by decide) rfl) ?_
      refine ⟨_,rfl,_,rfl,(by show 3 ≤ sizeLine; decide),fun t1 ht1 => ?_⟩
      obtain ⟨H3,e3,k3,s3⟩ : ∃ H',upd H2 t1 (.tup [lv,wv dn,.int (n1 : Nat)]) = H' ∧ H' t1 = some (.tup [lv,wv dn,.int (n1 : Nat)]) ∧ Same H2 H' := ⟨_,rfl,upd_same,Same.new ht1⟩
      rw [show upd H2 t1 _ = H3 from e3]
      have s03 := s02.trans s3
      refine ⟨_,rfl,?_⟩
      refine ixR s03 hx (atI_int (i := 3) (by decide) rfl) ?_
      refine ⟨_,rfl,_,rfl,(by show 3 ≤ sizeLine; decide),fun t2 ht2 => ?_⟩
      obtain ⟨H4,e4,k4,s4⟩ : ∃ H',upd H3 t2 (.tup [rv,wv dn,.int (n1 : Nat)]) = H' ∧ H' t2 = some (.tup [rv,wv dn,.int (n1 : Nat)]) ∧ Same H3 H' := ⟨_,rfl,upd_same,Same.new ht2⟩
      rw [show upd H3 t2 _ = H4 from e4]
      refine ⟨(by show 2 ≤ sizeLine; decide),fun lu hlu => ?_⟩
      obtain ⟨H5,e5,k5,s5⟩ : ∃ H',upd H4 lu (.lst [.ref t1,.ref t2]) = H' ∧ H' lu = some (.lst [.ref t1,.ref t2]) ∧ Same H4 H' := ⟨_,rfl,upd_same,Same.new hlu⟩
      rw [show upd H4 lu _ = H5 from e5]
      have s25 := s3.trans (s4.trans s5)
      have hw5 := s25 _ _ hw2
      refine ⟨wl,lu,_,_,rfl,rfl,hw5,k5,(by show _ + 2 ≤ _; omega),?_⟩
      have kt : ∀ {c : Addr} {xs : List V},H5 c = some (.tup xs) → (upd H5 wl (.lst (vs' ++ [.ref t1,.ref t2]))) c = some (.tup xs) := fun {c xs} e => by
        rw [upd_ne (fun z => by rw [z,hw5] at e; cases e)]; exact e
      have e2 : ksz (ts' ++ [⟨l,some dn,n1⟩,⟨r,some dn,n1⟩]) = ksz ts' + (szT l + szT r) := by
        rw [ksz_app]
        show _ + (szT l + (szT r + 0)) = _
        omega
      have sz0 : szT t0.t = szT l + szT r + 1 := by rw [et]; rfl
      refine ⟨_,ts' ++ [⟨l,some dn,n1⟩,⟨r,some dn,n1⟩],m1,_,_,_,_,rfl,by rw [e2]; omega,upd_same,appP (Paired.mapP pr2 fun v t h => h.keep fun a xs e => kt (s25 _ _ e)) (.cons (show SkAt pp H _ (.ref t1) ⟨l,some dn,n1⟩ from ⟨t1,lv,dl,rfl,kt (s5 _ _ (s4 _ _ k3)),hdl,tl⟩) (.cons (show SkAt pp H _ (.ref t2) ⟨r,some dn,n1⟩ from ⟨t2,rv,dr,rfl,kt (s5 _ _ k4),hdr,tr⟩) .nil)),by rw [e2]; omega,?_,keep (s02.trans s25)⟩
      rw [supS_app]
      show max m1 (max (supS ts') (max (tn l (some dn) n1) (max (tn r (some dn) n1) 0))) = _
      have etn : tn t0.t t0.la t0.n = max (tn l (some dn) n1) (tn r (some dn) n1) := by rw [et,hn1]; rfl
      rw [etn] at al2 tg
      omega
    | rest =>
      rw [et] at tdu
      obtain ⟨a,xs,eu,hx,dxs⟩ := go _ _ tdu
      subst eu
      refine seqCut (fun σ' H' => σ' = [some (.ref s), some (.int w1), some (.int h1), some v, some (.int (m1 : Nat)), some (.ref wl), some (.ref a), some (laV t0.la), some (.int (t0.n : Nat)), some (.str "rest")] ∧ H2 = H') (fun R hR => ?_) ?_
      · refine ⟨_,rfl,?_⟩
        show rIx K (.ref a) (.int 0) H2 _
        exact ixR s02 hx (atI_int (Int.le_refl _) rfl) (hR _ _ ⟨rfl,rfl⟩)
      rintro _ _ ⟨rfl,rfl⟩
      refine ⟨_,rfl,wa,_,rfl,.inr (Z.wq _),rfl,rfl,_,rfl,?_⟩
      show (if (inV (V.str "rest") [V.str "down",V.str "across"]) = true then _ else _)
      rw [show inV (V.str "rest") [V.str "down",V.str "across"] = false by decide +kernel]
      have etn : tn t0.t t0.la t0.n = t0.n := by rw [et]; rfl
      exact iteF ⟨vs',ts',m1,_,_,_,_,rfl,by omega,hw2,pr2,by omega,by omega,s02⟩
    | piece i c x y =>
      rw [et] at tdu
      obtain ⟨a,xs,eu,hx,dxs⟩ := go _ _ tdu
      subst eu
      refine seqCut (fun σ' H' => σ' = [some (.ref s), some (.int w1), some (.int h1), some v, some (.int (m1 : Nat)), some (.ref wl), some (.ref a), some (laV t0.la), some (.int (t0.n : Nat)), some (.str "piece")] ∧ H2 = H') (fun R hR => ?_) ?_
      · refine ⟨_,rfl,?_⟩
        show rIx K (.ref a) (.int 0) H2 _
        exact ixR s02 hx (atI_int (Int.le_refl _) rfl) (hR _ _ ⟨rfl,rfl⟩)
      rintro _ _ ⟨rfl,rfl⟩
      refine ⟨_,rfl,wa,_,rfl,.inr (Z.wq _),rfl,rfl,_,rfl,?_⟩
      show (if (inV (V.str "piece") [V.str "down",V.str "across"]) = true then _ else _)
      rw [show inV (V.str "piece") [V.str "down",V.str "across"] = false by decide +kernel]
      have etn : tn t0.t t0.la t0.n = t0.n := by rw [et]; rfl
      exact iteF ⟨vs',ts',m1,_,_,_,_,rfl,by omega,hw2,pr2,by omega,by omega,s02⟩
  rintro _ H1 ⟨v6,v7,v8,v9,rfl,s1⟩
  exact ⟨_,rfl,q H1 s1⟩
theorem scturnsX : FnScope ["shop","wide","high","tree","most","waiting","part_tree","way_ahead","turns","way"] ["shop","wide","high","tree"] (defScope sTurnsOf) := ⟨rfl,rfl,rfl,by decide +kernel,rfl,by decide +kernel,by decide +kernel⟩
theorem ok_turnsX {f C NT wa : Addr} {fd : FuncData} (F : Fun K "turns_of" "turns_of" sTurnsOf f fd) (B : Blt mg) (Z : TrC K mg wa) (DC : DnX P w K mg base "check_tree" ["shop","wide","high","thing"] 7 (spCheckTX C NT)) : FnOk P w K mg base (CXx P w) 8 f fd ["shop","wide","high","tree"] (spTurnsX C NT) := by
  refine F.okX scturnsX (fun vs H Q E h => ?_) (fun cdv A outer s H vs Q E hr h => ?_)
  · obtain ⟨pp,s,b,w1,h1,ks,v,d,rfl,_⟩ := h
    rfl
  obtain ⟨pp,s,b,w1,h1,ks,v,d,rfl,SH,w0,h0,hd,dz,ht,q⟩ := h
  have nd := scturnsX.nd
  refine ⟨_,(@pss_cons _ _ _ _ _ (ps_exprX (pex_cD DC hr rfl (@pa_cons _ _ _ _ _ (pv 0) (@pa_cons _ _ _ _ _ (pv 1) (@pa_cons _ _ _ _ _ (pv 2) (@pa_cons _ _ _ _ _ (pv 3) pa_nil rfl) rfl) rfl) rfl))) (@pss_cons _ _ _ _ _ (@ps_set _ _ 4 _ _ _ _ nd rfl (Or.inl rfl) pe_int rfl (Or.inl rfl)) (@pss_cons _ _ _ _ _ (@ps_set _ _ 5 _ _ _ _ nd rfl (Or.inl rfl) (@pe_lst _ _ _ _ (@pa_cons _ _ _ _ _ (@pe_tup _ _ _ _ _ (@pa_cons _ _ _ _ _ (pv 3) (@pa_cons _ _ _ _ _ pe_non (@pa_cons _ _ _ _ _ pe_int pa_nil rfl) rfl) rfl)) pa_nil rfl)) rfl (Or.inl rfl)) (@pss_cons _ _ _ _ _ (ps_while PassesOwn.leaving (pt_truth (pv 5) (fun _ => rfl)) (@pss_cons _ _ _ _ _ (@ps_asg _ _ _ _ _ _ (pe_bm0 PySem.F.plainAttrs_list PySem.F.slot_list_pop PySem.F.type_list_pop mt_pop (pv 5)) (pg_tup rfl (pgs_cons (pg_name (i := 6) nd rfl (Or.inl rfl)) (pgs_cons (pg_name (i := 7) nd rfl (Or.inl rfl)) (pgs_cons (pg_name (i := 8) nd rfl (Or.inl rfl)) pgs_nil)))) rfl rfl rfl) (@pss_cons _ _ _ _ _ (@ps_set _ _ 4 _ _ _ _ nd rfl (Or.inl rfl) (@pe_callB _ _ _ _ _ _ _ _ _ (call_max2 rfl) rfl B.max PyProof.Rows.boot_max (@pa_cons _ _ _ _ _ (pv 4) (@pa_cons _ _ _ _ _ (pv 8) pa_nil rfl) rfl) (by decide) (by decide) rfl rfl) rfl (Or.inl rfl)) (@pss_cons _ _ _ _ _ (@ps_set _ _ 9 _ _ _ _ nd rfl (Or.inl rfl) (@pe_ix _ _ _ _ _ _ _ ix_seq (pv 6) pe_int (fun _ _ => rfl)) rfl (Or.inl rfl)) (@pss_one _ _ _ (@ps_if _ _ _ _ _ _ _ _ (@pt_cmpR _ _ _ _ _ _ _ _ op_in_seq (pv 9) (pe_glob (v := .ref wa) rfl Z.wy rfl) rfl) (@pss_cons _ _ _ _ _ (@ps_if _ _ _ _ _ _ _ _ (PW.pt (pw_and (@pt_cmpR _ _ _ _ _ _ _ _ op_notN (pv 7) pe_non (nomark _)) (pw_and1 (@pt_cmpR _ _ _ _ _ _ _ _ op_ne (pv 7) (pv 9) (nomark _))))) (@pss_one _ _ _ (ps_aug (i := 8) nd rfl (Or.inl rfl) pe_int ip_add)) pss_nil) (@pss_one _ _ _ (@ps_expr _ _ _ _ (@pe_bm _ _ _ _ _ _ _ _ _ _ _ _ PySem.F.plainAttrs_list PySem.F.slot_list_extend PySem.F.type_list_extend mt_extend (pv 5) (@pa_cons _ _ _ _ _ (@pe_lst _ _ _ _ (@pa_cons _ _ _ _ _ (@pe_tup _ _ _ _ _ (@pa_cons _ _ _ _ _ (@pe_ix _ _ _ _ _ _ _ ix_seq (pv 6) pe_int (fun _ _ => rfl)) (@pa_cons _ _ _ _ _ (pv 9) (@pa_cons _ _ _ _ _ (pv 8) pa_nil rfl) rfl) rfl)) (@pa_cons _ _ _ _ _ (@pe_tup _ _ _ _ _ (@pa_cons _ _ _ _ _ (@pe_ix _ _ _ _ _ _ _ ix_seq (pv 6) pe_int (fun _ _ => rfl)) (@pa_cons _ _ _ _ _ (pv 9) (@pa_cons _ _ _ _ _ (pv 8) pa_nil rfl) rfl) rfl)) pa_nil rfl) rfl)) pa_nil rfl) rfl rfl rfl rfl rfl) rfl))) pss_nil)))))) (@pss_one _ _ _ (@ps_ret _ _ _ _ (pv 4))))))),?_⟩
  refine seqCut (fun σ' H' => False) (fun R hR => ?_) ?_
  · exact ⟨_,rfl,_,rfl,_,rfl,_,rfl,pp,s,b,w1,h1,ks,v,d,rfl,SH,w0,h0,hd,dz,ht,fun H1 s1 => q H1 s1⟩
  · intro _ _ z
    exact z.elim
theorem screfused : FnScope ["_law_shop","_law_wide","_law_high","_law_tree_here","_law_told","e"] ["_law_shop","_law_wide","_law_high","_law_tree_here"] (defScope sRefused) := ⟨rfl,rfl,rfl,by decide +kernel,rfl,by decide +kernel,by decide +kernel⟩
theorem ok_refused {f C NT CE : Addr} {fd : FuncData} (F : Fun K "_law_refused" "_law_refused" sRefused f fd) (B : Blt mg) (F0 : ExK K NT) (mT : mg "NoTree" = some (.ref NT)) (DT : DnX P w K mg base "turns_of" ["shop","wide","high","tree"] 8 (spTurnsX C NT)) (mp : mg "PlateError" = some (.ref CE)) (x1 : PySem.W.exmOne K (.ref NT) (.ref CE) = some true) (kt : PySem.W.kitOne K (.ref NT) (.ref NT) = some true) :
    FnOk P w K mg base CX0 9 f fd ["_law_shop","_law_wide","_law_high","_law_tree_here"] (spRefused C) := by
  refine F.ok screfused (fun vs H Q E h => ?_) (fun cdv A outer s0 H vs Q E hr h => ?_)
  · obtain ⟨pp,s,b,w1,h1,ks,v,d,rfl,_⟩ := h
    rfl
  obtain ⟨pp,s,b,w1,h1,ks,v,d,rfl,SH,w0,h0,hd,dz,ht,q⟩ := h
  have nd := screfused.nd
  refine ⟨_,((@pss_cons _ _ _ _ _ (@ps_set _ _ 4 _ _ _ _ nd rfl (Or.inl rfl) pe_bl rfl (Or.inl rfl)) (@pss_cons _ _ _ _ _ (ps_tryC (i := 5) rfl rfl rfl (psx_expr (pex_cD DT hr rfl (@pa_cons _ _ _ _ _ (pv 0) (@pa_cons _ _ _ _ _ (pv 1) (@pa_cons _ _ _ _ _ (pv 2) (@pa_cons _ _ _ _ _ (pv 3) pa_nil rfl) rfl) rfl) rfl))) nd rfl rfl rfl mp (fun ea => pss_one (@ps_set _ _ 4 _ _ _ _ nd rfl (Or.inl rfl) (@pe_callB _ _ _ _ _ _ _ _ _ (call_isinstX F0) rfl B.isi PyProof.Rows.boot_isinstance (@pa_cons _ _ _ _ _ (pv 5) (@pa_cons _ _ _ _ _ (pe_glob (v := .ref NT) rfl mT rfl) pa_nil rfl) rfl) (by decide) (by decide) rfl rfl) rfl (Or.inl rfl)))) (@pss_one _ _ _ (@ps_ret _ _ _ _ (pv 4)))))),?_⟩
  refine seqCut (fun σ' H' => σ' = [some (.ref s),some (.int w1),some (.int h1),some v,some (.bl false),none] ∧ H = H') (fun R hR => hR _ _ ⟨rfl,rfl⟩) ?_
  rintro _ _ ⟨rfl,rfl⟩
  refine seqCut (fun σ' H' => σ' = [some (.ref s),some (.int w1),some (.int h1),some v,some (.bl true),none] ∧ Same H H') (fun R hR => ?_) ?_
  · refine ⟨_,rfl,_,rfl,_,rfl,_,rfl,pp,s,b,w1,h1,ks,v,d,rfl,SH,w0,h0,hd,dz,ht,fun H1 s1 => ⟨x1,fun ea hea => ?_⟩⟩
    exact ⟨_,rfl,ea,_,_,_,rfl,upd_same,rfl,kt,hR _ _ ⟨rfl,s1.trans (Same.new hea)⟩⟩
  rintro _ H1 ⟨rfl,s1⟩
  exact ⟨_,rfl,q H1 s1⟩
end
theorem toD_tup (t : Tr) : ∃ ds,toD t = .tuple ds := by cases t <;> exact ⟨_,rfl⟩
theorem int_mem {ns : List Int} {lo hi : Option Int} {x : V} (h : x ∈ cutV (ns.map V.int) lo hi ++ [.int 5]) : ∃ c,x = .int c := by
  rcases List.mem_append.mp h with h | h
  · unfold cutV at h
    obtain ⟨c,_,e⟩ := List.mem_map.mp (List.mem_of_mem_drop (List.mem_of_mem_take h))
    exact ⟨c,e.symm⟩
  · exact ⟨5,List.mem_singleton.mp h⟩
section
variable {P : Program} {w : World} {K : PySem.W.Frag} {mg : Str → Option Value} {base : Heap}
def spLaw (K : PySem.W.Frag) : Sp := fun vs H Q _ => ∃ (a : Addr) (ns : List Int),vs = [.ref a] ∧ SqL K H a (ns.map V.int) ∧ ns.length ≤ 63 ∧ ∀ H',Q (.bl true) H'
structure Kp (b : Int) (ks : List Kd) (p : Addr) (H4 H : Hp) (t : Tr) (v lv kv : V) : Prop where
  pt : PotB H p
  s : Same H4 H
  tv : TrV H t v
  l : Dt p H lv (lsD (toD t))
  k : Dt p H kv (lsD (toD t))
theorem Kp.same {b : Int} {ks : List Kd} {p : Addr} {H4 H H' : Hp} {t : Tr} {v lv kv : V} (h : Kp b ks p H4 H t v lv kv) (s : Same H H') : Kp b ks p H4 H' t v lv kv :=
  ⟨h.pt.same s,h.s.trans s,TrV.keep (fun a xs e => s _ _ e) t h.tv,h.l.same s,h.k.same s⟩
theorem Kp.but {b : Int} {ks : List Kd} {p : Addr} {H4 H H' : Hp} {t : Tr} {v lv kv : V} (h : Kp b ks p H4 H t v lv kv) (hp : H4 p = none) (s : But p H H') (pt : PotB H' p) : Kp b ks p H4 H' t v lv kv :=
  ⟨pt,But.same ((Pc.Same.but h.s).trans s) hp,TrV.keep (fun a xs e => by
    obtain ⟨_,hq⟩ := potL h.pt
    exact s _ _ (fun z => by rw [z,hq] at e; cases e) e) t h.tv,h.l.but (potL h.pt) s,h.k.but (potL h.pt) s⟩
theorem sclaw : FnScope ["_law_script","_law_pot_here","_law_blade","_law_kinds","_law_k","_law_shop","_law_cell","_law_wide","_law_high","_law_tree_here","_law_listed_here","_law_kept","_law_told","_law_bad_here"] ["_law_script"] (defScope sLaw) := ⟨rfl,rfl,rfl,by decide +kernel,rfl,by decide +kernel,by decide +kernel⟩
theorem ok_law {f C : Addr} {fd : FuncData} (F : Fun K "law" "law" sLaw f fd) (B : Blt mg) (DP : Dn P w K mg base "_law_pot" ["_law_cell"] 1 (spPotB)) (DD : Dn P w K mg base "_law_draw" ["_law_pot_here","_law_many"] 1 (spDrawB)) (DDr : Dn P w K mg base "_law_drawn" ["_law_pot_here","_law_blade","_law_kinds"] 15 (spDrawn)) (DLs : Dn P w K mg base "_law_listed" ["_law_tree_here"] 61 (spListedB 60)) (DTu : Dn P w K mg base "turns_of" ["shop","wide","high","tree"] 8 (spTurns C)) (DDu : Dn P w K mg base "_law_due" ["_law_tree_here"] 62 (spDue)) (DSp : Dn P w K mg base "_law_spoilt" ["_law_pot_here","_law_kinds","_law_tree_here"] 63 (spSpoiltB 60)) (DRe : Dn P w K mg base "_law_refused" ["_law_shop","_law_wide","_law_high","_law_tree_here"] 9 (spRefused C)) (DSh : Kn P w K mg base "Shop" C ["self","blade","kinds"] 3 (spInit C)) : FnOk P w K mg base CX0 64 f fd ["_law_script"] (spLaw K) := by
  refine F.ok sclaw (fun vs H Q E h => ?_) (fun cdv A outer s H vs Q E hr h => ?_)
  · obtain ⟨a,ns,rfl,_⟩ := h
    rfl
  obtain ⟨a,ns,rfl,hS,h63,q⟩ := h
  have nd := sclaw.nd
  have hu := hr.units
  refine ⟨_,(@pss_cons _ _ _ _ _ (@ps_set _ _ 1 _ _ _ _ nd rfl (Or.inl rfl) (@pe_cD _ _ _ _ _ _ _ _ _ _ DP (hr.mono (by decide)) rfl (@pa_cons _ _ _ _ _ (@pe_ix _ _ _ _ _ _ _ ix_list (@pe_op _ _ _ _ _ _ _ _ op_catS (pv 0) (@pe_lst _ _ _ _ (@pa_cons _ _ _ _ _ pe_int pa_nil rfl))) pe_int (fun _ _ => rfl)) pa_nil rfl) (by decide) rfl rfl) rfl (Or.inl rfl)) (@pss_cons _ _ _ _ _ (@ps_set _ _ 2 _ _ _ _ nd rfl (Or.inl rfl) (@pe_cD _ _ _ _ _ _ _ _ _ _ DD (hr.mono (by decide)) rfl (@pa_cons _ _ _ _ _ (pv 1) (@pa_cons _ _ _ _ _ pe_int pa_nil rfl) rfl) (by decide) rfl rfl) rfl (Or.inl rfl)) (@pss_cons _ _ _ _ _ (@ps_set _ _ 3 _ _ _ _ nd rfl (Or.inl rfl) (@pe_lst _ _ _ _ pa_nil) rfl (Or.inl rfl)) (@pss_cons _ _ _ _ _ (@ps_for _ _ _ _ _ _ _ _ PassesOwn.never rfl (pi_range1 rfl B.range (@pa_cons _ _ _ _ _ (@pe_op _ _ _ _ _ _ _ _ op_add pe_int (@pe_cD _ _ _ _ _ _ _ _ _ _ DD (hr.mono (by decide)) rfl (@pa_cons _ _ _ _ _ (pv 1) (@pa_cons _ _ _ _ _ pe_int pa_nil rfl) rfl) (by decide) rfl rfl)) pa_nil rfl)) (pg_name (i := 4) nd rfl (Or.inl rfl)) (@pss_one _ _ _ (@ps_expr _ _ _ _ (@pe_bm _ _ _ _ _ _ _ _ _ _ _ _ PySem.F.plainAttrs_list PySem.F.slot_list_append PySem.F.type_list_append mt_append (pv 3) (@pa_cons _ _ _ _ _ (@pe_tup _ _ _ _ _ (@pa_cons _ _ _ _ _ (@pe_op _ _ _ _ _ _ _ _ op_add pe_int (@pe_cD _ _ _ _ _ _ _ _ _ _ DD (hr.mono (by decide)) rfl (@pa_cons _ _ _ _ _ (pv 1) (@pa_cons _ _ _ _ _ pe_int pa_nil rfl) rfl) (by decide) rfl rfl)) (@pa_cons _ _ _ _ _ (@pe_op _ _ _ _ _ _ _ _ op_add pe_int (@pe_cD _ _ _ _ _ _ _ _ _ _ DD (hr.mono (by decide)) rfl (@pa_cons _ _ _ _ _ (pv 1) (@pa_cons _ _ _ _ _ pe_int pa_nil rfl) rfl) (by decide) rfl rfl)) (@pa_cons _ _ _ _ _ (@pe_cD _ _ _ _ _ _ _ _ _ _ DD (hr.mono (by decide)) rfl (@pa_cons _ _ _ _ _ (pv 1) (@pa_cons _ _ _ _ _ pe_int pa_nil rfl) rfl) (by decide) rfl rfl) (@pa_cons _ _ _ _ _ pe_int (@pa_cons _ _ _ _ _ (@pe_cmpR _ _ _ _ _ _ _ _ op_eq (@pe_cD _ _ _ _ _ _ _ _ _ _ DD (hr.mono (by decide)) rfl (@pa_cons _ _ _ _ _ (pv 1) (@pa_cons _ _ _ _ _ pe_int pa_nil rfl) rfl) (by decide) rfl rfl) pe_int (nomark _)) pa_nil rfl) rfl) rfl) rfl) rfl)) pa_nil rfl) rfl rfl rfl rfl rfl) rfl)) (by intro _; rfl)) (@pss_cons _ _ _ _ _ (@ps_set _ _ 5 _ _ _ _ nd rfl (Or.inl rfl) (pe_kD DSh (hr.mono (by decide)) rfl (@pa_cons _ _ _ _ _ (pv 2) (@pa_cons _ _ _ _ _ (@pe_callTy _ _ _ _ _ _ _ _ _ call_list_of rfl B.list PyProof.Rows.boot_list (@pa_cons _ _ _ _ _ (pv 3) pa_nil rfl) (by decide) (by decide) rfl rfl) pa_nil rfl) rfl)) rfl (Or.inl rfl)) (@pss_cons _ _ _ _ _ (@ps_for _ _ _ _ _ _ _ _ PassesOwn.never rfl (pi_list (@pe_op _ _ _ _ _ _ _ _ op_catS (@pe_slice _ _ _ _ _ _ _ _ _ _ sl_list (pv 0) (po_some pe_int) (po_some pe_int)) (@pe_lst _ _ _ _ (@pa_cons _ _ _ _ _ pe_int pa_nil rfl)))) (pg_name (i := 6) nd rfl (Or.inl rfl)) (@pss_cons _ _ _ _ _ (@ps_set _ _ 1 _ _ _ _ nd rfl (Or.inl rfl) (@pe_cD _ _ _ _ _ _ _ _ _ _ DP (hr.mono (by decide)) rfl (@pa_cons _ _ _ _ _ (pv 6) pa_nil rfl) (by decide) rfl rfl) rfl (Or.inl rfl)) (@pss_cons _ _ _ _ _ (@ps_asg _ _ _ _ _ _ (@pe_cD _ _ _ _ _ _ _ _ _ _ DDr (hr.mono (by decide)) rfl (@pa_cons _ _ _ _ _ (pv 1) (@pa_cons _ _ _ _ _ (pv 2) (@pa_cons _ _ _ _ _ (pv 3) pa_nil rfl) rfl) rfl) (by decide) rfl rfl) (pg_tup rfl (pgs_cons (pg_tup rfl (pgs_cons (pg_name (i := 7) nd rfl (Or.inl rfl)) (pgs_cons (pg_name (i := 8) nd rfl (Or.inl rfl)) pgs_nil))) (pgs_cons (pg_name (i := 9) nd rfl (Or.inl rfl)) pgs_nil))) rfl rfl rfl) (@pss_cons _ _ _ _ _ (@ps_set _ _ 10 _ _ _ _ nd rfl (Or.inl rfl) (@pe_cD _ _ _ _ _ _ _ _ _ _ DLs (hr.mono (by decide)) rfl (@pa_cons _ _ _ _ _ (pv 9) pa_nil rfl) (by decide) rfl rfl) rfl (Or.inl rfl)) (@pss_cons _ _ _ _ _ (@ps_set _ _ 11 _ _ _ _ nd rfl (Or.inl rfl) (@pe_cD _ _ _ _ _ _ _ _ _ _ DLs (hr.mono (by decide)) rfl (@pa_cons _ _ _ _ _ (pv 9) pa_nil rfl) (by decide) rfl rfl) rfl (Or.inl rfl)) (@pss_cons _ _ _ _ _ (@ps_set _ _ 12 _ _ _ _ nd rfl (Or.inl rfl) (@pe_cD _ _ _ _ _ _ _ _ _ _ DTu (hr.mono (by decide)) rfl (@pa_cons _ _ _ _ _ (pv 5) (@pa_cons _ _ _ _ _ (pv 7) (@pa_cons _ _ _ _ _ (pv 8) (@pa_cons _ _ _ _ _ (pv 9) pa_nil rfl) rfl) rfl) rfl) (by decide) rfl rfl) rfl (Or.inl rfl)) (@pss_cons _ _ _ _ _ (@ps_if _ _ _ _ _ _ _ _ (PW.pt (pw_or (@pt_not _ _ _ _ (@pt_val _ _ _ (@pe_callB _ _ _ _ _ _ _ _ _ call_isinst rfl B.isi PyProof.Rows.boot_isinstance (@pa_cons _ _ _ _ _ (pv 12) (@pa_cons _ _ _ _ _ (pe_bltn (v := .ty "int") rfl B.int PyProof.Rows.boot_int rfl) pa_nil rfl) rfl) (by decide) (by decide) rfl rfl) (by intro _; rfl))) (pw_or (@pt_val _ _ _ (@pe_callB _ _ _ _ _ _ _ _ _ call_isinst rfl B.isi PyProof.Rows.boot_isinstance (@pa_cons _ _ _ _ _ (pv 12) (@pa_cons _ _ _ _ _ (pe_bltn (v := .ty "bool") rfl B.bool PyProof.Rows.boot_bool rfl) pa_nil rfl) rfl) (by decide) (by decide) rfl rfl) (by intro _; rfl)) (pw_or1 (@pt_cmpR _ _ _ _ _ _ _ _ op_ne (pv 12) (@pe_cD _ _ _ _ _ _ _ _ _ _ DDu (hr.mono (by decide)) rfl (@pa_cons _ _ _ _ _ (pv 9) pa_nil rfl) (by decide) rfl rfl) (nomark _)))))) (@pss_one _ _ _ (@ps_ret _ _ _ _ pe_bl)) pss_nil) (@pss_cons _ _ _ _ _ (@ps_if _ _ _ _ _ _ _ _ (PW.pt (pw_or (@pt_cmpR _ _ _ _ _ _ _ _ op_ne (@pe_cD _ _ _ _ _ _ _ _ _ _ DTu (hr.mono (by decide)) rfl (@pa_cons _ _ _ _ _ (pv 5) (@pa_cons _ _ _ _ _ (pv 7) (@pa_cons _ _ _ _ _ (pv 8) (@pa_cons _ _ _ _ _ (pv 10) pa_nil rfl) rfl) rfl) rfl) (by decide) rfl rfl) (pv 12) (nomark _)) (pw_or1 (@pt_cmpR _ _ _ _ _ _ _ _ (op_neD hu) (pv 10) (pv 11) (nomark _))))) (@pss_one _ _ _ (@ps_ret _ _ _ _ pe_bl)) pss_nil) (@pss_cons _ _ _ _ _ (@ps_set _ _ 13 _ _ _ _ nd rfl (Or.inl rfl) (@pe_cD _ _ _ _ _ _ _ _ _ _ DSp (hr.mono (by decide)) rfl (@pa_cons _ _ _ _ _ (pv 1) (@pa_cons _ _ _ _ _ (pv 3) (@pa_cons _ _ _ _ _ (pv 9) pa_nil rfl) rfl) rfl) (by decide) rfl rfl) rfl (Or.inl rfl)) (@pss_cons _ _ _ _ _ (@ps_if _ _ _ _ _ _ _ _ (@pt_not _ _ _ _ (@pt_val _ _ _ (@pe_cD _ _ _ _ _ _ _ _ _ _ DRe (hr.mono (by decide)) rfl (@pa_cons _ _ _ _ _ (pv 5) (@pa_cons _ _ _ _ _ (pv 7) (@pa_cons _ _ _ _ _ (pv 8) (@pa_cons _ _ _ _ _ (@pe_ix _ _ _ _ _ _ _ ix_list (@pe_lst _ _ _ _ (@pa_cons _ _ _ _ _ (pv 13) (@pa_cons _ _ _ _ _ (@pe_cD _ _ _ _ _ _ _ _ _ _ DLs (hr.mono (by decide)) rfl (@pa_cons _ _ _ _ _ (pv 13) pa_nil rfl) (by decide) rfl rfl) pa_nil rfl) rfl)) (@pe_cD _ _ _ _ _ _ _ _ _ _ DD (hr.mono (by decide)) rfl (@pa_cons _ _ _ _ _ (pv 1) (@pa_cons _ _ _ _ _ pe_int pa_nil rfl) rfl) (by decide) rfl rfl) (fun _ _ => rfl)) pa_nil rfl) rfl) rfl) rfl) (by decide) rfl rfl) (by intro _; rfl))) (@pss_one _ _ _ (@ps_ret _ _ _ _ pe_bl)) pss_nil) (@pss_one _ _ _ (@ps_if _ _ _ _ _ _ _ _ (PW.pt (pw_or (@pt_cmpR _ _ _ _ _ _ _ _ op_ne (@pe_cD _ _ _ _ _ _ _ _ _ _ DTu (hr.mono (by decide)) rfl (@pa_cons _ _ _ _ _ (pv 5) (@pa_cons _ _ _ _ _ (pv 7) (@pa_cons _ _ _ _ _ (pv 8) (@pa_cons _ _ _ _ _ (@pe_tup _ _ _ _ _ (@pa_cons _ _ _ _ _ pe_str pa_nil rfl)) pa_nil rfl) rfl) rfl) rfl) (by decide) rfl rfl) pe_int (nomark _)) (pw_or1 (@pt_cmpR _ _ _ _ _ _ _ _ op_ne (@pe_cD _ _ _ _ _ _ _ _ _ _ DTu (hr.mono (by decide)) rfl (@pa_cons _ _ _ _ _ (pv 5) (@pa_cons _ _ _ _ _ (pv 7) (@pa_cons _ _ _ _ _ (pv 8) (@pa_cons _ _ _ _ _ (pv 9) pa_nil rfl) rfl) rfl) rfl) (by decide) rfl rfl) (pv 12) (nomark _))))) (@pss_one _ _ _ (@ps_ret _ _ _ _ pe_bl)) pss_nil))))))))))) (by intro _; rfl)) (@pss_one _ _ _ (@ps_ret _ _ _ _ pe_bl)))))))),?_⟩
  have e60 : (100 : Int) < 10 ^ 60 := by decide
  have z4 : 4096 ≤ sizeLine := by decide
  have ln : (ns.map V.int).length = ns.length := List.length_map _
  refine seqCut (fun σ' H' => ∃ p,σ' = [some (.ref a),some (.ref p),none,none,none,none,none,none,none,none,none,none,none,none] ∧ H p = none ∧ PotB H' p ∧ Same H H') (fun R hR => ?_) ?_
  · refine ⟨_,rfl,(by show 1 ≤ sizeLine; decide),fun l hl => ?_⟩
    obtain ⟨H1,e1,k1,s1⟩ : ∃ H',upd H l (.lst [.int 0]) = H' ∧ H' l = some (.lst [.int 0]) ∧ Same H H' := ⟨_,rfl,upd_same,Same.new hl⟩
    rw [show upd H l _ = H1 from e1]
    refine ⟨a,l,_,_,rfl,rfl,s1.seq hS,SqL.of k1,(by rw [ln]; show _ + 1 ≤ _; omega),fun m hm => ?_⟩
    obtain ⟨H2,e2,k2,s2⟩ : ∃ H',upd H1 m (.lst (ns.map V.int ++ [.int 0])) = H' ∧ H' m = some (.lst (ns.map V.int ++ [.int 0])) ∧ Same H1 H' := ⟨_,rfl,upd_same,Same.new hm⟩
    rw [show upd H1 m _ = H2 from e2]
    obtain ⟨c,hc⟩ : ∃ c,(ns.map V.int ++ [V.int 0])[0]? = some (.int c) := by
      cases ns with
      | nil => exact ⟨0,rfl⟩
      | cons n _ => exact ⟨n,rfl⟩
    exact ⟨m,_,0,_,rfl,rfl,SqL.of k2,atI_int (Int.le_refl _) hc,c,rfl,fun p H3 hp pt3 s3 => hR _ _ ⟨p,rfl,(s1.trans s2).free hp,pt3,(s1.trans s2).trans s3⟩⟩
  rintro _ H1 ⟨p,rfl,hp,pt1,s01⟩
  refine seqCut (fun σ' H' => ∃ b : Int,σ' = [some (.ref a),some (.ref p),some (.int b),none,none,none,none,none,none,none,none,none,none,none] ∧ 0 ≤ b ∧ b ≤ 2 ∧ PotB H' p ∧ Same H H') (fun R hR => ?_) ?_
  · exact ⟨_,rfl,p,3,rfl,pt1,by decide,by decide,fun b H2 b0 b3 pt2 b2 => hR _ _ ⟨b,rfl,b0,by omega,pt2,But.same ((Pc.Same.but s01).trans b2) hp⟩⟩
  rintro _ H2 ⟨b,rfl,b0,b2',pt2,s02⟩
  refine seqCut (fun σ' H' => ∃ kl : Addr,σ' = [some (.ref a),some (.ref p),some (.int b),some (.ref kl),none,none,none,none,none,none,none,none,none,none] ∧ H kl = none ∧ kl ≠ p ∧ H' kl = some (.lst []) ∧ PotB H' p ∧ Same H H') (fun R hR => ?_) ?_
  · refine ⟨by decide,fun kl hkl => ?_⟩
    have nkp := Ne.symm (pt2.ne hkl)
    obtain ⟨H3,e3,k3,s3⟩ : ∃ H',upd H2 kl (.lst []) = H' ∧ H' kl = some (.lst []) ∧ Same H2 H' := ⟨_,rfl,upd_same,Same.new hkl⟩
    rw [show upd H2 kl _ = H3 from e3]
    exact hR _ _ ⟨kl,rfl,s02.free hkl,nkp,k3,pt2.same s3,s02.trans s3⟩
  rintro _ H3 ⟨kl,rfl,hkl,nkp,hk3,pt3,s03⟩
  refine seqCut (fun σ' H' => ∃ (rs : List V) (ks : List Kd) (v4 : Option V),σ' = [some (.ref a),some (.ref p),some (.int b),some (.ref kl),v4,none,none,none,none,none,none,none,none,none] ∧ H' kl = some (.lst rs) ∧ Tups H' rs ks ∧ 1 ≤ rs.length ∧ rs.length ≤ 3 ∧ (∀ k ∈ ks,Good k) ∧ PotB H' p ∧ Same H H') (fun R hR => ?_) ?_
  · refine ⟨_,rfl,p,3,rfl,pt3,by decide,by decide,fun r H4 r0 r1 pt4 b4 => ⟨_,_,rfl,rfl,_,rfl,by omega,by omega,for_range (lo := 0) (n := (1 + r).toNat) (fun i σ' H' => ∃ (rs : List V) (ks : List Kd) (v4 : Option V),σ' = [some (.ref a),some (.ref p),some (.int b),some (.ref kl),v4,none,none,none,none,none,none,none,none,none] ∧ H' kl = some (.lst rs) ∧ Tups H' rs ks ∧ rs.length = i ∧ (∀ k ∈ ks,Good k) ∧ PotB H' p ∧ Same H H') ⟨[],[],none,rfl,b4 _ _ nkp hk3,.nil,rfl,fun k hk => by simp at hk,pt4,But.same ((Pc.Same.but s03).trans b4) hp⟩ ?_ ?_⟩⟩
    · rintro i σ H5 hi ⟨rs,ks,v4,rfl,hk5,tp,rl,gk,pt5,s05⟩
      refine ⟨_,rfl,.inl ⟨rfl,_,SqL.of hk5⟩,_,rfl,p,5,rfl,pt5,by decide,by decide,fun r1 H6 r10 r11 pt6 b6 => ⟨_,_,rfl,rfl,_,rfl,p,5,rfl,pt6,by decide,by decide,fun r2 H7 r20 r21 pt7 b7 => ⟨_,_,rfl,rfl,_,rfl,p,9,rfl,pt7,by decide,by decide,fun r3 H8 r30 r31 pt8 b8 => ⟨_,rfl,p,2,rfl,pt8,by decide,by decide,fun r4 H9 r40 r41 pt9 b9 => ⟨rfl,(by show 5 ≤ sizeLine; decide),fun t ht => ?_⟩⟩⟩⟩⟩
      have b59 := ((b6.trans b7).trans b8).trans b9
      have tp9 : Tups H9 rs ks := tupsB b59 pt5 tp
      have hk9 := b59 _ _ nkp hk5
      have s09 := But.same ((Pc.Same.but s05).trans b59) hp
      obtain ⟨HA,e10,k10,s10⟩ : ∃ H',upd H9 t (.tup (kdV ⟨1 + r1,1 + r2,r3,1,decide (V.int r4 = V.int 1)⟩)) = H' ∧ H' t = some (.tup (kdV ⟨1 + r1,1 + r2,r3,1,decide (V.int r4 = V.int 1)⟩)) ∧ Same H9 H' := ⟨_,rfl,upd_same,Same.new ht⟩
      rw [show upd H9 t (.tup [(fun i j => V.int (i + j)) 1 r1,(fun i j => V.int (i + j)) 1 r2,V.int r3,V.int 1,V.bl (decide (V.int r4 = V.int 1))]) = HA from e10]
      have hkA := s10 _ _ hk9
      have s0A := s09.trans s10
      have kt : ∀ c xs,HA c = some (.tup xs) → (upd HA kl (.lst (rs ++ [.ref t]))) c = some (.tup xs) := fun c xs e => by
        rw [upd_ne (fun z => by rw [z,hkA] at e; cases e)]; exact e
      refine ⟨kl,_,_,rfl,rfl,hkA,by omega,rs ++ [.ref t],ks ++ [⟨1 + r1,1 + r2,r3,1,decide (V.int r4 = V.int 1)⟩],_,rfl,upd_same,appP (Tups.keep (fun c xs e => kt _ _ (s10 _ _ e)) tp9) (.cons ⟨t,rfl,kt _ _ k10⟩ .nil),by rw [List.length_append,rl]; rfl,fun k hk => ?_,?_,fun c o e => by rw [upd_ne (ne_of_none e hkl)]; exact s0A _ _ e⟩
      · rcases List.mem_append.mp hk with hk | hk
        · exact gk k hk
        · rw [List.mem_singleton.mp hk]
          exact ⟨by show 1 ≤ 1 + r1; omega,by show 1 ≤ 1 + r2; omega,r30,by show (0 : Int) ≤ 1; decide,by show 1 + r1 < _; omega,by show 1 + r2 < _; omega,by show r3 < _; omega,by show (1 : Int) < 10 ^ 60; decide⟩
      · obtain ⟨x,y,q1,q2,q3,e⟩ := pt9.same s10
        exact ⟨x,y,q1,q2,q3,by rw [upd_ne (Ne.symm nkp)]; exact e⟩
    · rintro σ H5 ⟨rs,ks,v4,e,hk5,tp,rl,gk,pt5,s05⟩
      exact hR _ _ ⟨rs,ks,v4,e,hk5,tp,by omega,by omega,gk,pt5,s05⟩
  clear hk3 pt3 s03 s02 pt2 s01 pt1
  rintro _ H1 ⟨rs,ks,v4,rfl,hk1,tp1,r1,r3,gk,pt1,s01⟩
  refine seqCut (fun σ' H' => ∃ sa,σ' = [some (.ref a),some (.ref p),some (.int b),some (.ref kl),v4,some (.ref sa),none,none,none,none,none,none,none,none] ∧ ShopAt C H' sa b ks ∧ Same H1 H') (fun R hR => ?_) ?_
  · refine ⟨_,rfl,_,rfl,kl,_,rfl,.inl (SqL.of hk1),fun l2 hl2 => ?_⟩
    obtain ⟨H2,e2,k2,s2⟩ : ∃ H',upd H1 l2 (.lst rs) = H' ∧ H' l2 = some (.lst rs) ∧ Same H1 H' := ⟨_,rfl,upd_same,Same.new hl2⟩
    rw [show upd H1 l2 _ = H2 from e2]
    refine fun x dx hx hdx ne0 => ?_
    have sm : Same H2 (upd (upd H2 dx (.own x)) x (.ins C dx [])) := made_same hx hdx
    refine ⟨x,dx,l2,b,rs,ks,rfl,upd_same,b0,.inl (sm _ _ k2),Paired.mapP (Tups.keep (fun c xs e => sm _ _ (s2 _ _ e)) tp1) (fun v k h => .inl h),gk,r1,by omega,fun Hb Sb kb => ⟨rfl,hR _ _ ⟨x,rfl,Sb,fun c o e => kb c o (ne_of_none (s2 _ _ e) hx) (sm _ _ (s2 _ _ e))⟩⟩⟩
  rintro _ H2 ⟨sa,rfl,sA,s12⟩
  have hk2 := s12 _ _ hk1
  have tp2 : Tups H2 rs ks := Tups.keep (fun c xs e => s12 _ _ e) tp1
  have s02 := s01.trans s12
  have rlen : rs.length = ks.length := Paired.length tp2
  clear hk1 tp1 pt1 s01 s12 hp hkl
  clear H1
  refine seqCut (fun σ' H' => True) (fun R hR => ?_) (fun σ' H' _ => q _)
  have cl := cutV_length (ns.map V.int) (some 1) (some 16)
  refine ⟨_,rfl,_,rfl,_,rfl,a,_,rfl,s02.seq hS,fun m hm => ?_⟩
  obtain ⟨Ha,e3,k3,s3⟩ : ∃ H',upd H2 m (.lst (cutV (ns.map V.int) (some 1) (some 16))) = H' ∧ H' m = some (.lst (cutV (ns.map V.int) (some 1) (some 16))) ∧ Same H2 H' := ⟨_,rfl,upd_same,Same.new hm⟩
  rw [show upd H2 m _ = Ha from e3]
  refine ⟨(by show 1 ≤ sizeLine; decide),fun n hn => ?_⟩
  obtain ⟨Hb,e4,k4,s4⟩ : ∃ H',upd Ha n (.lst [.int 5]) = H' ∧ H' n = some (.lst [.int 5]) ∧ Same Ha H' := ⟨_,rfl,upd_same,Same.new hn⟩
  rw [show upd Ha n _ = Hb from e4]
  refine ⟨m,n,_,_,rfl,rfl,SqL.of (s4 _ _ k3),SqL.of k4,(by show _ + 1 ≤ _; omega),fun l hl => ?_⟩
  obtain ⟨Hc,e5,k5,s5⟩ : ∃ H',upd Hb l (.lst (cutV (ns.map V.int) (some 1) (some 16) ++ [.int 5])) = H' ∧ H' l = some (.lst (cutV (ns.map V.int) (some 1) (some 16) ++ [.int 5])) ∧ Same Hb H' := ⟨_,rfl,upd_same,Same.new hl⟩
  rw [show upd Hb l _ = Hc from e5]
  have s2c := (s3.trans s4).trans s5
  refine ⟨l,rfl,⟨_,SqL.of k5⟩,for_list (xs := cutV (ns.map V.int) (some 1) (some 16) ++ [.int 5]) (fun i σ' H' => (∃ v1 v4 v6 v7 v8 v9 v10 v11 v12 v13 : Option V,σ' = [some (.ref a),v1,some (.int b),some (.ref kl),v4,some (.ref sa),v6,v7,v8,v9,v10,v11,v12,v13]) ∧ Same Hc H') ⟨⟨_,_,_,_,_,_,_,_,_,_,rfl⟩,Same.refl _⟩ (fun i σ H' _ ⟨_,s⟩ => SqL.of (s _ _ k5)) ?_ (fun σ' H' _ => hR _ _ trivial)⟩
  rintro i x _ H4 hi ⟨⟨v1,v4,v6,v7,v8,v9,v10,v11,v12,v13,rfl⟩,sc4⟩
  obtain ⟨c,rfl⟩ := int_mem (List.mem_of_getElem? hi)
  have s24 := s2c.trans sc4
  have sA4 := shopS s24 sA
  have hk4 := s24 _ _ hk2
  have tp4 : Tups H4 rs ks := Tups.keep (fun c xs e => s24 _ _ e) tp2
  clear hi hl hn hm
  refine seqCut (fun σ' H' => ∃ p,(∃ v7 v8 v9 v10 v11 v12 v13 : Option V,σ' = [some (.ref a),some (.ref p),some (.int b),some (.ref kl),v4,some (.ref sa),some (.int c),v7,v8,v9,v10,v11,v12,v13]) ∧ H4 p = none ∧ PotB H' p ∧ Same H4 H') (fun R hR => ?_) ?_
  · exact ⟨_,rfl,c,rfl,fun p H5 hp pt5 s5 => hR _ _ ⟨p,⟨_,_,_,_,_,_,_,rfl⟩,hp,pt5,s5⟩⟩
  rintro _ H5 ⟨p,⟨v7,v8,v9,v10,v11,v12,v13,rfl⟩,hp,pt5,s45⟩
  have nkp : kl ≠ p := fun z => by rw [z,hp] at hk4; cases hk4
  refine seqCut (fun σ' H' => ∃ (w1 h1 : Int) (t : Tr) (v : V),(∃ v10 v11 v12 v13 : Option V,σ' = [some (.ref a),some (.ref p),some (.int b),some (.ref kl),v4,some (.ref sa),some (.int c),some (.int w1),some (.int h1),some v,v10,v11,v12,v13]) ∧ 1 ≤ w1 ∧ 1 ≤ h1 ∧ TrV H' t v ∧ okT b ks w1 h1 t ∧ dpT t ≤ 59 ∧ szT t ≤ 2047 ∧ PotB H' p ∧ Same H4 H') (fun R hR => ?_) ?_
  · refine ⟨_,rfl,_,rfl,_,rfl,p,kl,b,rs,ks,rfl,s45 _ _ hk4,nkp,Tups.keep (fun c xs e => s45 _ _ e) tp4,by omega,gk,b0,b2',pt5,fun a1 w1 h1 t H6 pl pt6 b6 => ?_⟩
    obtain ⟨qa,v,ka,kq,w0,w60,h0,h60,tv,ok,dp,sz⟩ := pl
    exact ⟨a1,_,rfl,SqT.of ka,rfl,_,_,rfl,qa,_,rfl,SqT.of kq,rfl,_,_,rfl,_,_,rfl,rfl,_,_,rfl,rfl,hR _ _ ⟨w1,h1,t,v,⟨_,_,_,_,rfl⟩,w0,h0,tv,ok,dp,sz,pt6,But.same ((Pc.Same.but s45).trans b6) hp⟩⟩
  clear pt5 s45
  clear H5
  rintro _ H5 ⟨w1,h1,t,v,⟨v10,v11,v12,v13,rfl⟩,w0,h0,tv5,ok,dp,sz,pt5,s45⟩
  obtain ⟨ds,eds⟩ := toD_tup t
  have dd := toD_depth t
  have wd := toD_wt t
  rw [eds] at dd wd
  have dd : PyData.depthAll ds + 1 = dpT t + 1 := dd
  have wd : wts ds + 1 ≤ 11 * szT t := wd
  have els : PyData.list (lsDs ds) = lsD (toD t) := by rw [eds]; rfl
  have lw := lsD_wt (toD t)
  have wd2 := toD_wt t
  refine seqCut (fun σ' H' => ∃ lv,(∃ v11 v12 v13 : Option V,σ' = [some (.ref a),some (.ref p),some (.int b),some (.ref kl),v4,some (.ref sa),some (.int c),some (.int w1),some (.int h1),some v,some lv,v11,v12,v13]) ∧ Dt p H' lv (lsD (toD t)) ∧ Same H5 H') (fun R hR => ?_) ?_
  · refine ⟨_,rfl,p,v,ds,rfl,(by rw [← eds]; exact TrV.dt t tv5),by omega,by omega,potL pt5,fun lv H6 hl s6 => hR _ _ ⟨lv,⟨_,_,_,rfl⟩,by rw [← els]; exact hl,s6⟩⟩
  rintro _ H6 ⟨lv,⟨v11,v12,v13,rfl⟩,dl6,s56⟩
  refine seqCut (fun σ' H' => ∃ kv,(∃ v12 v13 : Option V,σ' = [some (.ref a),some (.ref p),some (.int b),some (.ref kl),v4,some (.ref sa),some (.int c),some (.int w1),some (.int h1),some v,some lv,some kv,v12,v13]) ∧ Kp b ks p H4 H' t v lv kv) (fun R hR => ?_) ?_
  · have tv6 := TrV.keep (fun a xs e => s56 _ _ e) t tv5
    refine ⟨_,rfl,p,v,ds,rfl,(by rw [← eds]; exact TrV.dt t tv6),by omega,by omega,potL (pt5.same s56),fun kv H7 hl s7 => hR _ _ ⟨kv,⟨_,_,rfl⟩,(pt5.same s56).same s7,s45.trans (s56.trans s7),TrV.keep (fun a xs e => s7 _ _ e) t tv6,dl6.same s7,by rw [← els]; exact hl⟩⟩
  clear tv5 pt5 s45 dl6 s56
  clear H5 H6
  rintro _ H5 ⟨kv,⟨v12,v13,rfl⟩,K5⟩
  refine seqCut (fun σ' H' => (∃ v13 : Option V,σ' = [some (.ref a),some (.ref p),some (.int b),some (.ref kl),v4,some (.ref sa),some (.int c),some (.int w1),some (.int h1),some v,some lv,some kv,some (.int (tn t none 0 : Nat)),v13]) ∧ Kp b ks p H4 H' t v lv kv) (fun R hR => ?_) ?_
  · exact ⟨_,rfl,_,rfl,_,rfl,_,rfl,p,sa,b,w1,h1,ks,v,toD t,t,rfl,shopS K5.s sA4,w0,h0,TrV.dt t K5.tv,by omega,TrD.to t,ok,by omega,fun H6 s6 => hR _ _ ⟨⟨_,rfl⟩,K5.same s6⟩⟩
  clear K5
  clear H5
  rintro _ H5 ⟨⟨v13,rfl⟩,K5⟩
  have ne0 : ∀ n : Int,(!decide (V.int n = V.int n)) = false := fun n => by rw [decide_eq_true rfl]; rfl
  refine seqCut (fun σ' H' => σ' = [some (.ref a),some (.ref p),some (.int b),some (.ref kl),v4,some (.ref sa),some (.int c),some (.int w1),some (.int h1),some v,some lv,some kv,some (.int (tn t none 0 : Nat)),v13] ∧ Kp b ks p H4 H' t v lv kv) (fun R hR => ?_) ?_
  · refine ⟨_,rfl,_,_,_,_,_,rfl,(Ty.int (K := K)).2,rfl,kit_int "int" (by simp [tyNames]),_,rfl,iteF ?_⟩
    refine ⟨_,rfl,_,_,_,_,_,rfl,(Ty.int (K := K)).2,rfl,kit_bool "int" (by simp [tyNames]),_,rfl,iteF ?_⟩
    refine ⟨_,rfl,_,rfl,v,t,rfl,K5.tv,dp,sz,fun H6 s6 => ⟨rfl,_,rfl,?_⟩⟩
    rw [ne0]
    exact iteF (hR _ _ ⟨rfl,K5.same s6⟩)
  clear K5
  clear H5
  rintro _ H5 ⟨rfl,K5⟩
  have ly : (lsD (toD t)).canLay0 = true := by rw [lsD_lay]; exact toD_lay t
  have shq : SeqAt.shaped (lsD (toD t)) = true := by
    unfold SeqAt.shaped
    rw [ly,lsD_depth,toD_depth,decide_eq_true (show dpT t + 1 ≤ 64 by omega)]; rfl
  refine seqCut (fun σ' H' => σ' = [some (.ref a),some (.ref p),some (.int b),some (.ref kl),v4,some (.ref sa),some (.int c),some (.int w1),some (.int h1),some v,some lv,some kv,some (.int (tn t none 0 : Nat)),v13] ∧ Kp b ks p H4 H' t v lv kv) (fun R hR => ?_) ?_
  · refine ⟨_,rfl,_,rfl,_,rfl,_,rfl,p,sa,b,w1,h1,ks,lv,lsD (toD t),t,rfl,shopS K5.s sA4,w0,h0,K5.l,by omega,TrD.ls t,ok,by omega,fun H6 s6 => ⟨_,rfl,rfl,_,rfl,?_⟩⟩
    rw [ne0]
    have K6 := K5.same s6
    refine iteF ⟨_,rfl,_,rfl,lsD (toD t),lsD (toD t),K6.l.dat ly,K6.k.dat ly,shq,shq,_,rfl,?_⟩
    rw [PySem.SeqAt.eqv_refl _ ly]
    exact iteF (hR _ _ ⟨rfl,K6⟩)
  clear K5
  clear H5
  rintro _ H5 ⟨rfl,K5⟩
  refine seqCut (fun σ' H' => ∃ bv,σ' = [some (.ref a),some (.ref p),some (.int b),some (.ref kl),v4,some (.ref sa),some (.int c),some (.int w1),some (.int h1),some v,some lv,some kv,some (.int (tn t none 0 : Nat)),some bv] ∧ BadAt ks p t H' bv ∧ Kp b ks p H4 H' t v lv kv) (fun R hR => ?_) ?_
  · exact ⟨_,rfl,_,rfl,_,rfl,p,kl,rs,ks,v,t,rfl,K5.s _ _ hk4,nkp,rlen,K5.tv,by omega,K5.pt,fun bv H6 bd pt6 b6 => hR _ _ ⟨bv,rfl,bd,K5.but hp b6 pt6⟩⟩
  clear K5
  clear H5
  rintro _ H5 ⟨bv,rfl,⟨bs,db,bd1,bd2,bd3,bd4⟩,K5⟩
  refine seqCut (fun σ' H' => σ' = [some (.ref a),some (.ref p),some (.int b),some (.ref kl),v4,some (.ref sa),some (.int c),some (.int w1),some (.int h1),some v,some lv,some kv,some (.int (tn t none 0 : Nat)),some bv] ∧ Kp b ks p H4 H' t v lv kv) (fun R hR => ?_) ?_
  · refine ⟨_,rfl,_,rfl,_,rfl,_,rfl,_,rfl,p,bv,bs,rfl,db,by omega,by omega,potL K5.pt,fun bl H6 hbl s6 => ⟨(by show 2 ≤ sizeLine; decide),fun l' hl' => ?_⟩⟩
    have K6 := K5.same s6
    have nlp := Ne.symm (K6.pt.ne hl')
    obtain ⟨H7,e7,k7,s7⟩ : ∃ H',upd H6 l' (.lst [bv,bl]) = H' ∧ H' l' = some (.lst [bv,bl]) ∧ Same H6 H' := ⟨_,rfl,upd_same,Same.new hl'⟩
    rw [show upd H6 l' _ = H7 from e7]
    have K7 := K6.same s7
    refine ⟨_,rfl,p,2,rfl,K7.pt,by decide,by decide,fun z H8 z0 z1 pt8 b8 => ?_⟩
    have K8 := K7.but hp b8 pt8
    have d1 : Dt p H8 bv (.tuple bs) := (((db.same s6).same s7).but (potL K7.pt) b8)
    have d2 : Dt p H8 bl (.list (lsDs bs)) := ((hbl.same s7).but (potL K7.pt) b8)
    have k8 := b8 _ _ nlp k7
    have fin : ∀ (Hx : Hp),Same H8 Hx → R [some (.ref a),some (.ref p),some (.int b),some (.ref kl),v4,some (.ref sa),some (.int c),some (.int w1),some (.int h1),some v,some lv,some kv,some (.int (tn t none 0 : Nat)),some bv] Hx := fun Hx sx => hR _ _ ⟨rfl,K8.same sx⟩
    have bw := lsDs_wt bs
    rcases (show z = 0 ∨ z = 1 by omega) with rfl | rfl
    · exact ⟨l',_,_,_,rfl,rfl,SqL.of k8,rfl,p,sa,b,w1,h1,ks,bv,.tuple bs,rfl,shopS K8.s sA4,w0,h0,d1,(by show wts bs + 1 ≤ _; omega),bd1.no w1 h1,fun H9 s9 => ⟨_,rfl,iteF (fin H9 s9)⟩⟩
    · exact ⟨l',_,_,_,rfl,rfl,SqL.of k8,rfl,p,sa,b,w1,h1,ks,bl,.list (lsDs bs),rfl,shopS K8.s sA4,w0,h0,d2,(by show wts (lsDs bs) + 1 ≤ _; omega),bd2.no w1 h1,fun H9 s9 => ⟨_,rfl,iteF (fin H9 s9)⟩⟩
  clear K5 db
  clear H5
  rintro _ H5 ⟨rfl,K5⟩
  refine ⟨_,rfl,_,rfl,_,rfl,(by show 1 ≤ sizeLine; decide),fun t9 ht9 => ?_⟩
  obtain ⟨H6, e6, k6, s6⟩ : ∃ H', upd H5 t9 (.tup [.str "rest"]) = H' ∧ H' t9 = some (.tup [.str "rest"]) ∧ Same H5 H' := ⟨_, rfl, upd_same, Same.new ht9⟩
  rw [show upd H5 t9 _ = H6 from e6]
  have K6 := K5.same s6
  refine ⟨p,sa,b,w1,h1,ks,.ref t9,.tuple [.str "rest"],.rest,rfl,shopS K6.s sA4,w0,h0,.tup k6 (.cons (.str _) .nil),by decide +kernel,rfl,trivial,by decide,fun H7 s7 => ⟨rfl,_,rfl,?_⟩⟩
  rw [show (!decide (V.int ((tn .rest none 0 : Nat) : Int) = V.int 0)) = false from ne0 0]
  have K7 := K6.same s7
  refine iteF ⟨_,rfl,_,rfl,_,rfl,_,rfl,p,sa,b,w1,h1,ks,v,toD t,t,rfl,shopS K7.s sA4,w0,h0,TrV.dt t K7.tv,by omega,TrD.to t,ok,by omega,fun H8 s8 => ⟨_,rfl,rfl,_,rfl,?_⟩⟩
  rw [ne0]
  exact iteF ⟨⟨_,_,_,_,_,_,_,_,_,_,rfl⟩,sc4.trans (K7.same s8).s⟩
end
theorem len1 {α : Type} {us : List α} (h : us.length = 1) : ∃ a,us = [a] := by
  match us,h with
  | [a],_ => exact ⟨a,rfl⟩
theorem len2 {α : Type} {us : List α} (h : us.length = 2) : ∃ a b,us = [a,b] := by
  match us,h with
  | [a,b],_ => exact ⟨a,b,rfl⟩
theorem len3 {α : Type} {us : List α} (h : us.length = 3) : ∃ a b c,us = [a,b,c] := by
  match us,h with
  | [a,b,c],_ => exact ⟨a,b,c,rfl⟩
theorem len4 {α : Type} {us : List α} (h : us.length = 4) : ∃ a b c d,us = [a,b,c,d] := by
  match us,h with
  | [a,b,c,d],_ => exact ⟨a,b,c,d,rfl⟩
theorem len5 {α : Type} {us : List α} (h : us.length = 5) : ∃ a b c d e,us = [a,b,c,d,e] := by
  match us,h with
  | [a,b,c,d,e],_ => exact ⟨a,b,c,d,e,rfl⟩
theorem len6 {α : Type} {us : List α} (h : us.length = 6) : ∃ a b c d e f,us = [a,b,c,d,e,f] := by
  match us,h with
  | [a,b,c,d,e,f],_ => exact ⟨a,b,c,d,e,f,rfl⟩
theorem len7 {α : Type} {us : List α} (h : us.length = 7) : ∃ a b c d e f g,us = [a,b,c,d,e,f,g] := by
  match us,h with
  | [a,b,c,d,e,f,g],_ => exact ⟨a,b,c,d,e,f,g,rfl⟩
theorem len8 {α : Type} {us : List α} (h : us.length = 8) : ∃ a b c d e f g i,us = [a,b,c,d,e,f,g,i] := by
  match us,h with
  | [a,b,c,d,e,f,g,i],_ => exact ⟨a,b,c,d,e,f,g,i,rfl⟩
open PySem.W in
theorem all_mk {l : OpenLaw} {w : World} {K : Frag} {h : Heap} {mg : Str → Option Value} {fa f0 f1 f2 f3 f4 f5 f6 f7 f8 f9 f10 f11 f12 f13 f14 f15 f16 f17 f18 f19 f20 f21 f22 f23 f24 f25 f26 f27 f28 f29 f30 f31 f32 f33 C fm0 fm1 fm2 fm3 fm4 xNoLying xWAYS xNoTree xPlateError : Addr} (X : K.In h) (G : h.Ns mainGlobals mg) (hfa : mg "law" = some (.ref fa))
    {od0 an0 : Option Addr} {sl0 : Array (Option Value)} {oc0 kV0 dc0 pm0 cd0 ct0 : Value} {od1 an1 : Option Addr} {sl1 : Array (Option Value)} {oc1 kV1 dc1 pm1 cd1 ct1 : Value} {od2 an2 : Option Addr} {sl2 : Array (Option Value)} {oc2 kV2 dc2 pm2 cd2 ct2 : Value} {od3 an3 : Option Addr} {sl3 : Array (Option Value)} {oc3 kV3 dc3 pm3 cd3 ct3 : Value} {od4 an4 : Option Addr} {sl4 : Array (Option Value)} {oc4 kV4 dc4 pm4 cd4 ct4 : Value} {od5 an5 : Option Addr} {sl5 : Array (Option Value)} {oc5 kV5 dc5 pm5 cd5 ct5 : Value} {od6 an6 : Option Addr} {sl6 : Array (Option Value)} {oc6 kV6 dc6 pm6 cd6 ct6 : Value} {od7 an7 : Option Addr} {sl7 : Array (Option Value)} {oc7 kV7 dc7 pm7 cd7 ct7 : Value} {od8 an8 : Option Addr} {sl8 : Array (Option Value)} {oc8 kV8 dc8 pm8 cd8 ct8 : Value} {od9 an9 : Option Addr} {sl9 : Array (Option Value)} {oc9 kV9 dc9 pm9 cd9 ct9 : Value} {od10 an10 : Option Addr} {sl10 : Array (Option Value)} {oc10 kV10 dc10 pm10 cd10 ct10 : Value} {od11 an11 : Option Addr} {sl11 : Array (Option Value)} {oc11 kV11 dc11 pm11 cd11 ct11 : Value} {od12 an12 : Option Addr} {sl12 : Array (Option Value)} {oc12 kV12 dc12 pm12 cd12 ct12 : Value} {od13 an13 : Option Addr} {sl13 : Array (Option Value)} {oc13 kV13 dc13 pm13 cd13 ct13 : Value} {od14 an14 : Option Addr} {sl14 : Array (Option Value)} {oc14 kV14 dc14 pm14 cd14 ct14 : Value} {od15 an15 : Option Addr} {sl15 : Array (Option Value)} {oc15 kV15 dc15 pm15 cd15 ct15 : Value} {od16 an16 : Option Addr} {sl16 : Array (Option Value)} {oc16 kV16 dc16 pm16 cd16 ct16 : Value} {od17 an17 : Option Addr} {sl17 : Array (Option Value)} {oc17 kV17 dc17 pm17 cd17 ct17 : Value} {od18 an18 : Option Addr} {sl18 : Array (Option Value)} {oc18 kV18 dc18 pm18 cd18 ct18 : Value} {od19 an19 : Option Addr} {sl19 : Array (Option Value)} {oc19 kV19 dc19 pm19 cd19 ct19 : Value} {od20 an20 : Option Addr} {sl20 : Array (Option Value)} {oc20 kV20 dc20 pm20 cd20 ct20 : Value} {od21 an21 : Option Addr} {sl21 : Array (Option Value)} {oc21 kV21 dc21 pm21 cd21 ct21 : Value} {od22 an22 : Option Addr} {sl22 : Array (Option Value)} {oc22 kV22 dc22 pm22 cd22 ct22 : Value} {od23 an23 : Option Addr} {sl23 : Array (Option Value)} {oc23 kV23 dc23 pm23 cd23 ct23 : Value} {od24 an24 : Option Addr} {sl24 : Array (Option Value)} {oc24 kV24 dc24 pm24 cd24 ct24 : Value} {od25 an25 : Option Addr} {sl25 : Array (Option Value)} {oc25 kV25 dc25 pm25 cd25 ct25 : Value} {od26 an26 : Option Addr} {sl26 : Array (Option Value)} {oc26 kV26 dc26 pm26 cd26 ct26 : Value} {od27 an27 : Option Addr} {sl27 : Array (Option Value)} {oc27 kV27 dc27 pm27 cd27 ct27 : Value} {od28 an28 : Option Addr} {sl28 : Array (Option Value)} {oc28 kV28 dc28 pm28 cd28 ct28 : Value} {od29 an29 : Option Addr} {sl29 : Array (Option Value)} {oc29 kV29 dc29 pm29 cd29 ct29 : Value} {od30 an30 : Option Addr} {sl30 : Array (Option Value)} {oc30 kV30 dc30 pm30 cd30 ct30 : Value} {od31 an31 : Option Addr} {sl31 : Array (Option Value)} {oc31 kV31 dc31 pm31 cd31 ct31 : Value} {od32 an32 : Option Addr} {sl32 : Array (Option Value)} {oc32 kV32 dc32 pm32 cd32 ct32 : Value} {od33 an33 : Option Addr} {sl33 : Array (Option Value)} {oc33 kV33 dc33 pm33 cd33 ct33 : Value} {odm0 anm0 : Option Addr} {slm0 : Array (Option Value)} {ocm0 kVm0 dcm0 pmm0 cdm0 ctm0 : Value} {odm1 anm1 : Option Addr} {slm1 : Array (Option Value)} {ocm1 kVm1 dcm1 pmm1 cdm1 ctm1 : Value} {odm2 anm2 : Option Addr} {slm2 : Array (Option Value)} {ocm2 kVm2 dcm2 pmm2 cdm2 ctm2 : Value} {odm3 anm3 : Option Addr} {slm3 : Array (Option Value)} {ocm3 kVm3 dcm3 pmm3 cdm3 ctm3 : Value} {odm4 anm4 : Option Addr} {slm4 : Array (Option Value)} {ocm4 kVm4 dcm4 pmm4 cdm4 ctm4 : Value} {tc0 : Tok} {tc1 : Tok} {tc2 : Tok} {tc3 : Tok} {tc4 : Tok} {tc5 : Tok} {tc6 : Tok} {tc7 : Tok}
    (a0 : nsIn K mainGlobals "is_whole" = some (some (.ref f0)))
    (l0 : K.lookup f0 = some ⟨oc0,od0,.func (fnOf "is_whole" "is_whole" (defArgs sWhole) (defBody sWhole) (defScope sWhole) .none kV0 dc0 pm0 an0 cd0 ct0),sl0⟩)
    (c0 : codeIn K cd0 "is_whole" = true)
    (k0 : keepIn K (.ref f0) = true)
    (a1 : nsIn K mainGlobals "is_truth" = some (some (.ref f1)))
    (l1 : K.lookup f1 = some ⟨oc1,od1,.func (fnOf "is_truth" "is_truth" (defArgs sTruth) (defBody sTruth) (defScope sTruth) .none kV1 dc1 pm1 an1 cd1 ct1),sl1⟩)
    (c1 : codeIn K cd1 "is_truth" = true)
    (k1 : keepIn K (.ref f1) = true)
    (a2 : nsIn K mainGlobals "is_row" = some (some (.ref f2)))
    (l2 : K.lookup f2 = some ⟨oc2,od2,.func (fnOf "is_row" "is_row" (defArgs sRow) (defBody sRow) (defScope sRow) .none kV2 dc2 pm2 an2 cd2 ct2),sl2⟩)
    (c2 : codeIn K cd2 "is_row" = true)
    (k2 : keepIn K (.ref f2) = true)
    (a3 : nsIn K mainGlobals "is_kind" = some (some (.ref f3)))
    (l3 : K.lookup f3 = some ⟨oc3,od3,.func (fnOf "is_kind" "is_kind" (defArgs sIsKind) (defBody sIsKind) (defScope sIsKind) .none kV3 dc3 pm3 an3 cd3 ct3),sl3⟩)
    (c3 : codeIn K cd3 "is_kind" = true)
    (k3 : keepIn K (.ref f3) = true)
    (a4 : nsIn K mainGlobals "can_lie_turned" = some (some (.ref f4)))
    (l4 : K.lookup f4 = some ⟨oc4,od4,.func (fnOf "can_lie_turned" "can_lie_turned" (defArgs sTurned) (defBody sTurned) (defScope sTurned) .none kV4 dc4 pm4 an4 cd4 ct4),sl4⟩)
    (c4 : codeIn K cd4 "can_lie_turned" = true)
    (k4 : keepIn K (.ref f4) = true)
    (a5 : nsIn K mainGlobals "check_plate" = some (some (.ref f5)))
    (l5 : K.lookup f5 = some ⟨oc5,od5,.func (fnOf "check_plate" "check_plate" (defArgs sCheckPlate) (defBody sCheckPlate) (defScope sCheckPlate) .none kV5 dc5 pm5 an5 cd5 ct5),sl5⟩)
    (c5 : codeIn K cd5 "check_plate" = true)
    (k5 : keepIn K (.ref f5) = true)
    (a6 : nsIn K mainGlobals "lies_in" = some (some (.ref f6)))
    (l6 : K.lookup f6 = some ⟨oc6,od6,.func (fnOf "lies_in" "lies_in" (defArgs sLiesIn) (defBody sLiesIn) (defScope sLiesIn) .none kV6 dc6 pm6 an6 cd6 ct6),sl6⟩)
    (c6 : codeIn K cd6 "lies_in" = true)
    (k6 : keepIn K (.ref f6) = true)
    (a7 : nsIn K mainGlobals "cut_parts" = some (some (.ref f7)))
    (l7 : K.lookup f7 = some ⟨oc7,od7,.func (fnOf "cut_parts" "cut_parts" (defArgs sCutParts) (defBody sCutParts) (defScope sCutParts) .none kV7 dc7 pm7 an7 cd7 ct7),sl7⟩)
    (c7 : codeIn K cd7 "cut_parts" = true)
    (k7 : keepIn K (.ref f7) = true)
    (a8 : nsIn K mainGlobals "begins_with" = some (some (.ref f8)))
    (l8 : K.lookup f8 = some ⟨oc8,od8,.func (fnOf "begins_with" "begins_with" (defArgs sBeginsWith) (defBody sBeginsWith) (defScope sBeginsWith) .none kV8 dc8 pm8 an8 cd8 ct8),sl8⟩)
    (c8 : codeIn K cd8 "begins_with" = true)
    (k8 : keepIn K (.ref f8) = true)
    (a9 : nsIn K mainGlobals "is_cut" = some (some (.ref f9)))
    (l9 : K.lookup f9 = some ⟨oc9,od9,.func (fnOf "is_cut" "is_cut" (defArgs sIsCut) (defBody sIsCut) (defScope sIsCut) .none kV9 dc9 pm9 an9 cd9 ct9),sl9⟩)
    (c9 : codeIn K cd9 "is_cut" = true)
    (k9 : keepIn K (.ref f9) = true)
    (a10 : nsIn K mainGlobals "is_leaf" = some (some (.ref f10)))
    (l10 : K.lookup f10 = some ⟨oc10,od10,.func (fnOf "is_leaf" "is_leaf" (defArgs sIsLeaf) (defBody sIsLeaf) (defScope sIsLeaf) .none kV10 dc10 pm10 an10 cd10 ct10),sl10⟩)
    (c10 : codeIn K cd10 "is_leaf" = true)
    (k10 : keepIn K (.ref f10) = true)
    (a11 : nsIn K mainGlobals "spots_behind" = some (some (.ref f11)))
    (l11 : K.lookup f11 = some ⟨oc11,od11,.func (fnOf "spots_behind" "spots_behind" (defArgs sSpotsBehind) (defBody sSpotsBehind) (defScope sSpotsBehind) .none kV11 dc11 pm11 an11 cd11 ct11),sl11⟩)
    (c11 : codeIn K cd11 "spots_behind" = true)
    (k11 : keepIn K (.ref f11) = true)
    (a12 : nsIn K mainGlobals "is_tree" = some (some (.ref f12)))
    (l12 : K.lookup f12 = some ⟨oc12,od12,.func (fnOf "is_tree" "is_tree" (defArgs sIsTree) (defBody sIsTree) (defScope sIsTree) .none kV12 dc12 pm12 an12 cd12 ct12),sl12⟩)
    (c12 : codeIn K cd12 "is_tree" = true)
    (k12 : keepIn K (.ref f12) = true)
    (a13 : nsIn K mainGlobals "check_tree" = some (some (.ref f13)))
    (l13 : K.lookup f13 = some ⟨oc13,od13,.func (fnOf "check_tree" "check_tree" (defArgs sCheckTree) (defBody sCheckTree) (defScope sCheckTree) .none kV13 dc13 pm13 an13 cd13 ct13),sl13⟩)
    (c13 : codeIn K cd13 "check_tree" = true)
    (k13 : keepIn K (.ref f13) = true)
    (a14 : nsIn K mainGlobals "turns_of" = some (some (.ref f14)))
    (l14 : K.lookup f14 = some ⟨oc14,od14,.func (fnOf "turns_of" "turns_of" (defArgs sTurnsOf) (defBody sTurnsOf) (defScope sTurnsOf) .none kV14 dc14 pm14 an14 cd14 ct14),sl14⟩)
    (c14 : codeIn K cd14 "turns_of" = true)
    (k14 : keepIn K (.ref f14) = true)
    (a15 : nsIn K mainGlobals "_law_pot" = some (some (.ref f15)))
    (l15 : K.lookup f15 = some ⟨oc15,od15,.func (fnOf "_law_pot" "_law_pot" (defArgs sPot) (defBody sPot) (defScope sPot) .none kV15 dc15 pm15 an15 cd15 ct15),sl15⟩)
    (c15 : codeIn K cd15 "_law_pot" = true)
    (k15 : keepIn K (.ref f15) = true)
    (a16 : nsIn K mainGlobals "_law_draw" = some (some (.ref f16)))
    (l16 : K.lookup f16 = some ⟨oc16,od16,.func (fnOf "_law_draw" "_law_draw" (defArgs sDraw) (defBody sDraw) (defScope sDraw) .none kV16 dc16 pm16 an16 cd16 ct16),sl16⟩)
    (c16 : codeIn K cd16 "_law_draw" = true)
    (k16 : keepIn K (.ref f16) = true)
    (a17 : nsIn K mainGlobals "_law_great" = some (some (.ref f17)))
    (l17 : K.lookup f17 = some ⟨oc17,od17,.func (fnOf "_law_great" "_law_great" (defArgs sGreat) (defBody sGreat) (defScope sGreat) .none kV17 dc17 pm17 an17 cd17 ct17),sl17⟩)
    (c17 : codeIn K cd17 "_law_great" = true)
    (k17 : keepIn K (.ref f17) = true)
    (a18 : nsIn K mainGlobals "_law_side" = some (some (.ref f18)))
    (l18 : K.lookup f18 = some ⟨oc18,od18,.func (fnOf "_law_side" "_law_side" (defArgs sSide) (defBody sSide) (defScope sSide) .none kV18 dc18 pm18 an18 cd18 ct18),sl18⟩)
    (c18 : codeIn K cd18 "_law_side" = true)
    (k18 : keepIn K (.ref f18) = true)
    (a19 : nsIn K mainGlobals "_law_leaf" = some (some (.ref f19)))
    (l19 : K.lookup f19 = some ⟨oc19,od19,.func (fnOf "_law_leaf" "_law_leaf" (defArgs sLeaf) (defBody sLeaf) (defScope sLeaf) .none kV19 dc19 pm19 an19 cd19 ct19),sl19⟩)
    (c19 : codeIn K cd19 "_law_leaf" = true)
    (k19 : keepIn K (.ref f19) = true)
    (a20 : nsIn K mainGlobals "_law_way" = some (some (.ref f20)))
    (l20 : K.lookup f20 = some ⟨oc20,od20,.func (fnOf "_law_way" "_law_way" (defArgs sWay) (defBody sWay) (defScope sWay) .none kV20 dc20 pm20 an20 cd20 ct20),sl20⟩)
    (c20 : codeIn K cd20 "_law_way" = true)
    (k20 : keepIn K (.ref f20) = true)
    (a21 : nsIn K mainGlobals "_law_tree" = some (some (.ref f21)))
    (l21 : K.lookup f21 = some ⟨oc21,od21,.func (fnOf "_law_tree" "_law_tree" (defArgs sTree) (defBody sTree) (defScope sTree) .none kV21 dc21 pm21 an21 cd21 ct21),sl21⟩)
    (c21 : codeIn K cd21 "_law_tree" = true)
    (k21 : keepIn K (.ref f21) = true)
    (a22 : nsIn K mainGlobals "_law_row" = some (some (.ref f22)))
    (l22 : K.lookup f22 = some ⟨oc22,od22,.func (fnOf "_law_row" "_law_row" (defArgs sLRow) (defBody sLRow) (defScope sLRow) .none kV22 dc22 pm22 an22 cd22 ct22),sl22⟩)
    (c22 : codeIn K cd22 "_law_row" = true)
    (k22 : keepIn K (.ref f22) = true)
    (a23 : nsIn K mainGlobals "_law_beside" = some (some (.ref f23)))
    (l23 : K.lookup f23 = some ⟨oc23,od23,.func (fnOf "_law_beside" "_law_beside" (defArgs sBeside) (defBody sBeside) (defScope sBeside) .none kV23 dc23 pm23 an23 cd23 ct23),sl23⟩)
    (c23 : codeIn K cd23 "_law_beside" = true)
    (k23 : keepIn K (.ref f23) = true)
    (a24 : nsIn K mainGlobals "_law_around" = some (some (.ref f24)))
    (l24 : K.lookup f24 = some ⟨oc24,od24,.func (fnOf "_law_around" "_law_around" (defArgs sAround) (defBody sAround) (defScope sAround) .none kV24 dc24 pm24 an24 cd24 ct24),sl24⟩)
    (c24 : codeIn K cd24 "_law_around" = true)
    (k24 : keepIn K (.ref f24) = true)
    (a25 : nsIn K mainGlobals "_law_deep" = some (some (.ref f25)))
    (l25 : K.lookup f25 = some ⟨oc25,od25,.func (fnOf "_law_deep" "_law_deep" (defArgs sDeep) (defBody sDeep) (defScope sDeep) .none kV25 dc25 pm25 an25 cd25 ct25),sl25⟩)
    (c25 : codeIn K cd25 "_law_deep" = true)
    (k25 : keepIn K (.ref f25) = true)
    (a26 : nsIn K mainGlobals "_law_drawn" = some (some (.ref f26)))
    (l26 : K.lookup f26 = some ⟨oc26,od26,.func (fnOf "_law_drawn" "_law_drawn" (defArgs sDrawn) (defBody sDrawn) (defScope sDrawn) .none kV26 dc26 pm26 an26 cd26 ct26),sl26⟩)
    (c26 : codeIn K cd26 "_law_drawn" = true)
    (k26 : keepIn K (.ref f26) = true)
    (a27 : nsIn K mainGlobals "_law_ways" = some (some (.ref f27)))
    (l27 : K.lookup f27 = some ⟨oc27,od27,.func (fnOf "_law_ways" "_law_ways" (defArgs sWays) (defBody sWays) (defScope sWays) .none kV27 dc27 pm27 an27 cd27 ct27),sl27⟩)
    (c27 : codeIn K cd27 "_law_ways" = true)
    (k27 : keepIn K (.ref f27) = true)
    (a28 : nsIn K mainGlobals "_law_due" = some (some (.ref f28)))
    (l28 : K.lookup f28 = some ⟨oc28,od28,.func (fnOf "_law_due" "_law_due" (defArgs sDue) (defBody sDue) (defScope sDue) .none kV28 dc28 pm28 an28 cd28 ct28),sl28⟩)
    (c28 : codeIn K cd28 "_law_due" = true)
    (k28 : keepIn K (.ref f28) = true)
    (a29 : nsIn K mainGlobals "_law_listed" = some (some (.ref f29)))
    (l29 : K.lookup f29 = some ⟨oc29,od29,.func (fnOf "_law_listed" "_law_listed" (defArgs sListed) (defBody sListed) (defScope sListed) .none kV29 dc29 pm29 an29 cd29 ct29),sl29⟩)
    (c29 : codeIn K cd29 "_law_listed" = true)
    (k29 : keepIn K (.ref f29) = true)
    (a30 : nsIn K mainGlobals "_law_bad" = some (some (.ref f30)))
    (l30 : K.lookup f30 = some ⟨oc30,od30,.func (fnOf "_law_bad" "_law_bad" (defArgs sBad) (defBody sBad) (defScope sBad) .none kV30 dc30 pm30 an30 cd30 ct30),sl30⟩)
    (c30 : codeIn K cd30 "_law_bad" = true)
    (k30 : keepIn K (.ref f30) = true)
    (a31 : nsIn K mainGlobals "_law_spoilt" = some (some (.ref f31)))
    (l31 : K.lookup f31 = some ⟨oc31,od31,.func (fnOf "_law_spoilt" "_law_spoilt" (defArgs sSpoilt) (defBody sSpoilt) (defScope sSpoilt) .none kV31 dc31 pm31 an31 cd31 ct31),sl31⟩)
    (c31 : codeIn K cd31 "_law_spoilt" = true)
    (k31 : keepIn K (.ref f31) = true)
    (a32 : nsIn K mainGlobals "_law_refused" = some (some (.ref f32)))
    (l32 : K.lookup f32 = some ⟨oc32,od32,.func (fnOf "_law_refused" "_law_refused" (defArgs sRefused) (defBody sRefused) (defScope sRefused) .none kV32 dc32 pm32 an32 cd32 ct32),sl32⟩)
    (c32 : codeIn K cd32 "_law_refused" = true)
    (k32 : keepIn K (.ref f32) = true)
    (a33 : nsIn K mainGlobals "law" = some (some (.ref f33)))
    (l33 : K.lookup f33 = some ⟨oc33,od33,.func (fnOf "law" "law" (defArgs sLaw) (defBody sLaw) (defScope sLaw) .none kV33 dc33 pm33 an33 cd33 ct33),sl33⟩)
    (c33 : codeIn K cd33 "law" = true)
    (k33 : keepIn K (.ref f33) = true)
    (aC : nsIn K mainGlobals "Shop" = some (some (.ref C)))
    (am0 : findIn K (.ref C) "__init__" = some (some (.ref fm0)))
    (im0 : isFn K (.ref fm0) = true)
    (lm0 : K.lookup fm0 = some ⟨ocm0,odm0,.func (fnOf "__init__" "Shop.__init__" (defArgs sShopInit) (defBody sShopInit) (defScope sShopInit) .none kVm0 dcm0 pmm0 anm0 cdm0 ctm0),slm0⟩)
    (cm0 : codeIn K cdm0 "Shop.__init__" = true)
    (km0 : keepIn K (.ref fm0) = true)
    (am1 : findIn K (.ref C) "blade" = some (some (.ref fm1)))
    (im1 : isFn K (.ref fm1) = true)
    (lm1 : K.lookup fm1 = some ⟨ocm1,odm1,.func (fnOf "blade" "Shop.blade" (defArgs sShopBlade) (defBody sShopBlade) (defScope sShopBlade) .none kVm1 dcm1 pmm1 anm1 cdm1 ctm1),slm1⟩)
    (cm1 : codeIn K cdm1 "Shop.blade" = true)
    (km1 : keepIn K (.ref fm1) = true)
    (am2 : findIn K (.ref C) "kinds" = some (some (.ref fm2)))
    (im2 : isFn K (.ref fm2) = true)
    (lm2 : K.lookup fm2 = some ⟨ocm2,odm2,.func (fnOf "kinds" "Shop.kinds" (defArgs sShopKinds) (defBody sShopKinds) (defScope sShopKinds) .none kVm2 dcm2 pmm2 anm2 cdm2 ctm2),slm2⟩)
    (cm2 : codeIn K cdm2 "Shop.kinds" = true)
    (km2 : keepIn K (.ref fm2) = true)
    (am3 : findIn K (.ref C) "is_lying" = some (some (.ref fm3)))
    (im3 : isFn K (.ref fm3) = true)
    (lm3 : K.lookup fm3 = some ⟨ocm3,odm3,.func (fnOf "is_lying" "Shop.is_lying" (defArgs sShopIsLying) (defBody sShopIsLying) (defScope sShopIsLying) .none kVm3 dcm3 pmm3 anm3 cdm3 ctm3),slm3⟩)
    (cm3 : codeIn K cdm3 "Shop.is_lying" = true)
    (km3 : keepIn K (.ref fm3) = true)
    (am4 : findIn K (.ref C) "sides" = some (some (.ref fm4)))
    (im4 : isFn K (.ref fm4) = true)
    (lm4 : K.lookup fm4 = some ⟨ocm4,odm4,.func (fnOf "sides" "Shop.sides" (defArgs sShopSides) (defBody sShopSides) (defScope sShopSides) .none kVm4 dcm4 pmm4 anm4 cdm4 ctm4),slm4⟩)
    (cm4 : codeIn K cdm4 "Shop.sides" = true)
    (km4 : keepIn K (.ref fm4) = true)
    (pg : plainGet K C Str.empty = true)
    (hd : hasDictIn K C = true)
    (po : plainOver K C = true)
    (sa : findIn K (.ref C) "__setattr__" = some (some (.builtin "object.__setattr__")))
    (mk : makesIn K C = true)
    (kc : keepIn K (.ref C) = true)
    (n0 : findIn K (.ref C) "blade_width" = some none)
    (n1 : findIn K (.ref C) "kind_rows" = some none)
    (eNoLying : nsIn K mainGlobals "NoLying" = some (some (.ref xNoLying)))
    (eWAYS : nsIn K mainGlobals "WAYS" = some (some (.ref xWAYS)))
    (eNoTree : nsIn K mainGlobals "NoTree" = some (some (.ref xNoTree)))
    (ePlateError : nsIn K mainGlobals "PlateError" = some (some (.ref xPlateError)))
    (cNoLying : excIn K xNoLying L2.bmVE "ValueError.__new__" = true)
    (lWAYS : ∃ (o : Obj) (its : Array Value) (n : Nat),K.lookup xWAYS = some o ∧ o.cls = .type "tuple" ∧ o.data = .seq its n ∧ its.size ≤ sizeLine ∧ Vals [.str "down",.str "across"] its.toList)
    (cNoTree : excIn K xNoTree L2.bmVE "ValueError.__new__" = true)
    (cPlateError : excIn K xPlateError L2.bmVE "ValueError.__new__" = true)
    (sNoTree : subIn K (.ref xNoTree) (.ref xPlateError) = some true)
    (ka : findIn K (.ref xNoTree) "__class__" = some (some (.builtin "object.__class__")))
    (kb : findIn K (.ref xNoTree) "__getattribute__" = some (some (.builtin "BaseException.__getattribute__")))
    (kg : findIn K (.ref xNoTree) "__getattr__" = some none)
    (kd : subIn K (.ref xNoTree) (.type "BaseException") = some true)
    (ke : subIn K (.ref xNoTree) (.type "object") = some true)
    (bP : subIn K (.ref xPlateError) (.type "BaseException") = some true)
    (z0 : nsIn K mainGlobals "isinstance" = some none)
    (z1 : nsIn K mainGlobals "int" = some none)
    (z2 : nsIn K mainGlobals "bool" = some none)
    (z3 : nsIn K mainGlobals "list" = some none)
    (z4 : nsIn K mainGlobals "tuple" = some none)
    (z5 : nsIn K mainGlobals "len" = some none)
    (z6 : nsIn K mainGlobals "range" = some none)
    (z7 : nsIn K mainGlobals "max" = some none)
    (z8 : nsIn K mainGlobals "min" = some none)
    (z9 : nsIn K mainGlobals "abs" = some none)
    (z10 : nsIn K mainGlobals "divmod" = some none)
    (z11 : nsIn K mainGlobals "sum" = some none)
    (z12 : nsIn K mainGlobals "sorted" = some none)
    (z13 : nsIn K mainGlobals "all" = some none)
    (z14 : nsIn K mainGlobals "repr" = some none)
    (z15 : nsIn K mainGlobals "zip" = some none)
    (z16 : nsIn K mainGlobals "enumerate" = some none)
    (z17 : nsIn K mainGlobals "str" = some none)
    (uc0 : nsIn K mainGlobals "MOST_KINDS" = some (some (.int 8 tc0)))
    (uc1 : nsIn K mainGlobals "THINGS_OF_A_KIND" = some (some (.int 5 tc1)))
    (uc2 : nsIn K mainGlobals "DOWN" = some (some (.str "down" tc2)))
    (uc3 : nsIn K mainGlobals "REST" = some (some (.str "rest" tc3)))
    (uc4 : nsIn K mainGlobals "PIECE" = some (some (.str "piece" tc4)))
    (uc5 : nsIn K mainGlobals "THINGS_OF_A_REST" = some (some (.int 1 tc5)))
    (uc6 : nsIn K mainGlobals "THINGS_OF_A_PIECE" = some (some (.int 5 tc6)))
    (uc7 : nsIn K mainGlobals "THINGS_OF_A_CUT" = some (some (.int 4 tc7))) :
    ∃ fd : FuncData,(∀ (s : Shared) (v : Value),BindsTo s fd ⟨[v],[]⟩ [("_law_script",v)]) ∧ ∀ base : Heap,K.In base → base.Ns mainGlobals mg → FnOk l.prog w K mg base CX0 64 fa fd ["_law_script"] (spLaw K) := by
  have e := hfa.symm.trans (mg_of X G a33)
  cases e
  have F0 := fun_mk (st := sWhole) l0 c0 k0
  have b0 := F0.binds (ps := ["thing","least"]) fun _ _ _ _ _ _ us hl => by obtain ⟨_,_,rfl⟩ := len2 hl; rfl
  have F1 := fun_mk (st := sTruth) l1 c1 k1
  have b1 := F1.binds (ps := ["thing"]) fun _ _ _ _ _ _ us hl => by obtain ⟨_,rfl⟩ := len1 hl; rfl
  have F2 := fun_mk (st := sRow) l2 c2 k2
  have b2 := F2.binds (ps := ["thing"]) fun _ _ _ _ _ _ us hl => by obtain ⟨_,rfl⟩ := len1 hl; rfl
  have F3 := fun_mk (st := sIsKind) l3 c3 k3
  have b3 := F3.binds (ps := ["thing"]) fun _ _ _ _ _ _ us hl => by obtain ⟨_,rfl⟩ := len1 hl; rfl
  have F4 := fun_mk (st := sTurned) l4 c4 k4
  have b4 := F4.binds (ps := ["kind"]) fun _ _ _ _ _ _ us hl => by obtain ⟨_,rfl⟩ := len1 hl; rfl
  have F5 := fun_mk (st := sCheckPlate) l5 c5 k5
  have b5 := F5.binds (ps := ["wide","high"]) fun _ _ _ _ _ _ us hl => by obtain ⟨_,_,rfl⟩ := len2 hl; rfl
  have F6 := fun_mk (st := sLiesIn) l6 c6 k6
  have b6 := F6.binds (ps := ["shop","wide","high","kind","turned","x","y"]) fun _ _ _ _ _ _ us hl => by obtain ⟨_,_,_,_,_,_,_,rfl⟩ := len7 hl; rfl
  have F7 := fun_mk (st := sCutParts) l7 c7 k7
  have b7 := F7.binds (ps := ["blade","part","way","p"]) fun _ _ _ _ _ _ us hl => by obtain ⟨_,_,_,_,rfl⟩ := len4 hl; rfl
  have F8 := fun_mk (st := sBeginsWith) l8 c8 k8
  have b8 := F8.binds (ps := ["thing","word","many"]) fun _ _ _ _ _ _ us hl => by obtain ⟨_,_,_,rfl⟩ := len3 hl; rfl
  have F9 := fun_mk (st := sIsCut) l9 c9 k9
  have b9 := F9.binds (ps := ["blade","spot"]) fun _ _ _ _ _ _ us hl => by obtain ⟨_,_,rfl⟩ := len2 hl; rfl
  have F10 := fun_mk (st := sIsLeaf) l10 c10 k10
  have b10 := F10.binds (ps := ["shop","spot"]) fun _ _ _ _ _ _ us hl => by obtain ⟨_,_,rfl⟩ := len2 hl; rfl
  have F11 := fun_mk (st := sSpotsBehind) l11 c11 k11
  have b11 := F11.binds (ps := ["blade","spot"]) fun _ _ _ _ _ _ us hl => by obtain ⟨_,_,rfl⟩ := len2 hl; rfl
  have F12 := fun_mk (st := sIsTree) l12 c12 k12
  have b12 := F12.binds (ps := ["shop","wide","high","thing"]) fun _ _ _ _ _ _ us hl => by obtain ⟨_,_,_,_,rfl⟩ := len4 hl; rfl
  have F13 := fun_mk (st := sCheckTree) l13 c13 k13
  have b13 := F13.binds (ps := ["shop","wide","high","thing"]) fun _ _ _ _ _ _ us hl => by obtain ⟨_,_,_,_,rfl⟩ := len4 hl; rfl
  have F14 := fun_mk (st := sTurnsOf) l14 c14 k14
  have b14 := F14.binds (ps := ["shop","wide","high","tree"]) fun _ _ _ _ _ _ us hl => by obtain ⟨_,_,_,_,rfl⟩ := len4 hl; rfl
  have F15 := fun_mk (st := sPot) l15 c15 k15
  have b15 := F15.binds (ps := ["_law_cell"]) fun _ _ _ _ _ _ us hl => by obtain ⟨_,rfl⟩ := len1 hl; rfl
  have F16 := fun_mk (st := sDraw) l16 c16 k16
  have b16 := F16.binds (ps := ["_law_pot_here","_law_many"]) fun _ _ _ _ _ _ us hl => by obtain ⟨_,_,rfl⟩ := len2 hl; rfl
  have F17 := fun_mk (st := sGreat) l17 c17 k17
  have b17 := F17.binds (ps := ["_law_pot_here","_law_many"]) fun _ _ _ _ _ _ us hl => by obtain ⟨_,_,rfl⟩ := len2 hl; rfl
  have F18 := fun_mk (st := sSide) l18 c18 k18
  have b18 := F18.binds (ps := ["_law_pot_here"]) fun _ _ _ _ _ _ us hl => by obtain ⟨_,rfl⟩ := len1 hl; rfl
  have F19 := fun_mk (st := sLeaf) l19 c19 k19
  have b19 := F19.binds (ps := ["_law_pot_here","_law_kinds","_law_wide","_law_high"]) fun _ _ _ _ _ _ us hl => by obtain ⟨_,_,_,_,rfl⟩ := len4 hl; rfl
  have F20 := fun_mk (st := sWay) l20 c20 k20
  have b20 := F20.binds (ps := ["_law_pot_here","_law_sort","_law_last"]) fun _ _ _ _ _ _ us hl => by obtain ⟨_,_,_,rfl⟩ := len3 hl; rfl
  have F21 := fun_mk (st := sTree) l21 c21 k21
  have b21 := F21.binds (ps := ["_law_pot_here","_law_budget","_law_blade","_law_kinds","_law_part","_law_depth","_law_sort","_law_last"]) fun _ _ _ _ _ _ us hl => by obtain ⟨_,_,_,_,_,_,_,_,rfl⟩ := len8 hl; rfl
  have F22 := fun_mk (st := sLRow) l22 c22 k22
  have b22 := F22.binds (ps := ["_law_pot_here","_law_blade","_law_part","_law_way_here"]) fun _ _ _ _ _ _ us hl => by obtain ⟨_,_,_,_,rfl⟩ := len4 hl; rfl
  have F23 := fun_mk (st := sBeside) l23 c23 k23
  have b23 := F23.binds (ps := ["_law_pot_here","_law_blade","_law_kinds","_law_part","_law_sort","_law_way_here"]) fun _ _ _ _ _ _ us hl => by obtain ⟨_,_,_,_,_,_,rfl⟩ := len6 hl; rfl
  have F24 := fun_mk (st := sAround) l24 c24 k24
  have b24 := F24.binds (ps := ["_law_pot_here","_law_blade","_law_kinds","_law_part","_law_tree_here","_law_sort"]) fun _ _ _ _ _ _ us hl => by obtain ⟨_,_,_,_,_,_,rfl⟩ := len6 hl; rfl
  have F25 := fun_mk (st := sDeep) l25 c25 k25
  have b25 := F25.binds (ps := ["_law_pot_here","_law_blade","_law_kinds","_law_sort"]) fun _ _ _ _ _ _ us hl => by obtain ⟨_,_,_,_,rfl⟩ := len4 hl; rfl
  have F26 := fun_mk (st := sDrawn) l26 c26 k26
  have b26 := F26.binds (ps := ["_law_pot_here","_law_blade","_law_kinds"]) fun _ _ _ _ _ _ us hl => by obtain ⟨_,_,_,rfl⟩ := len3 hl; rfl
  have F27 := fun_mk (st := sWays) l27 c27 k27
  have b27 := F27.binds (ps := ["_law_tree_here","_law_ahead"]) fun _ _ _ _ _ _ us hl => by obtain ⟨_,_,rfl⟩ := len2 hl; rfl
  have F28 := fun_mk (st := sDue) l28 c28 k28
  have b28 := F28.binds (ps := ["_law_tree_here"]) fun _ _ _ _ _ _ us hl => by obtain ⟨_,rfl⟩ := len1 hl; rfl
  have F29 := fun_mk (st := sListed) l29 c29 k29
  have b29 := F29.binds (ps := ["_law_tree_here"]) fun _ _ _ _ _ _ us hl => by obtain ⟨_,rfl⟩ := len1 hl; rfl
  have F30 := fun_mk (st := sBad) l30 c30 k30
  have b30 := F30.binds (ps := ["_law_pot_here","_law_kinds","_law_tree_here"]) fun _ _ _ _ _ _ us hl => by obtain ⟨_,_,_,rfl⟩ := len3 hl; rfl
  have F31 := fun_mk (st := sSpoilt) l31 c31 k31
  have b31 := F31.binds (ps := ["_law_pot_here","_law_kinds","_law_tree_here"]) fun _ _ _ _ _ _ us hl => by obtain ⟨_,_,_,rfl⟩ := len3 hl; rfl
  have F32 := fun_mk (st := sRefused) l32 c32 k32
  have b32 := F32.binds (ps := ["_law_shop","_law_wide","_law_high","_law_tree_here"]) fun _ _ _ _ _ _ us hl => by obtain ⟨_,_,_,_,rfl⟩ := len4 hl; rfl
  have F33 := fun_mk (st := sLaw) l33 c33 k33
  have b33 := F33.binds (ps := ["_law_script"]) fun _ _ _ _ _ _ us hl => by obtain ⟨_,rfl⟩ := len1 hl; rfl
  have Fm0 := fun_mk (st := sShopInit) lm0 cm0 km0
  have bm0 := Fm0.binds (ps := ["self","blade","kinds"]) fun _ _ _ _ _ _ us hl => by obtain ⟨_,_,_,rfl⟩ := len3 hl; rfl
  have Fm1 := fun_mk (st := sShopBlade) lm1 cm1 km1
  have bm1 := Fm1.binds (ps := ["self"]) fun _ _ _ _ _ _ us hl => by obtain ⟨_,rfl⟩ := len1 hl; rfl
  have Fm2 := fun_mk (st := sShopKinds) lm2 cm2 km2
  have bm2 := Fm2.binds (ps := ["self"]) fun _ _ _ _ _ _ us hl => by obtain ⟨_,rfl⟩ := len1 hl; rfl
  have Fm3 := fun_mk (st := sShopIsLying) lm3 cm3 km3
  have bm3 := Fm3.binds (ps := ["self","kind","turned"]) fun _ _ _ _ _ _ us hl => by obtain ⟨_,_,_,rfl⟩ := len3 hl; rfl
  have Fm4 := fun_mk (st := sShopSides) lm4 cm4 km4
  have bm4 := Fm4.binds (ps := ["self","kind","turned"]) fun _ _ _ _ _ _ us hl => by obtain ⟨_,_,_,rfl⟩ := len3 hl; rfl
  have y0 := mg_none_of X G z0
  have y1 := mg_none_of X G z1
  have y2 := mg_none_of X G z2
  have y3 := mg_none_of X G z3
  have y4 := mg_none_of X G z4
  have y5 := mg_none_of X G z5
  have y6 := mg_none_of X G z6
  have y7 := mg_none_of X G z7
  have y8 := mg_none_of X G z8
  have y9 := mg_none_of X G z9
  have y10 := mg_none_of X G z10
  have y11 := mg_none_of X G z11
  have y12 := mg_none_of X G z12
  have y13 := mg_none_of X G z13
  have y14 := mg_none_of X G z14
  have y15 := mg_none_of X G z15
  have y16 := mg_none_of X G z16
  have y17 := mg_none_of X G z17
  have gNoLying := mg_of X G eNoLying
  have gWAYS := mg_of X G eWAYS
  have gNoTree := mg_of X G eNoTree
  have gPlateError := mg_of X G ePlateError
  have u0 := mg_of X G uc0
  have u1 := mg_of X G uc1
  have u2 := mg_of X G uc2
  have u3 := mg_of X G uc3
  have u4 := mg_of X G uc4
  have u5 := mg_of X G uc5
  have u6 := mg_of X G uc6
  have u7 := mg_of X G uc7
  have q0 := mg_of X G a0
  have q1 := mg_of X G a1
  have q2 := mg_of X G a2
  have q3 := mg_of X G a3
  have q4 := mg_of X G a4
  have q5 := mg_of X G a5
  have q6 := mg_of X G a6
  have q7 := mg_of X G a7
  have q8 := mg_of X G a8
  have q9 := mg_of X G a9
  have q10 := mg_of X G a10
  have q11 := mg_of X G a11
  have q12 := mg_of X G a12
  have q13 := mg_of X G a13
  have q14 := mg_of X G a14
  have q15 := mg_of X G a15
  have q16 := mg_of X G a16
  have q17 := mg_of X G a17
  have q18 := mg_of X G a18
  have q19 := mg_of X G a19
  have q20 := mg_of X G a20
  have q21 := mg_of X G a21
  have q22 := mg_of X G a22
  have q23 := mg_of X G a23
  have q24 := mg_of X G a24
  have q25 := mg_of X G a25
  have q26 := mg_of X G a26
  have q27 := mg_of X G a27
  have q28 := mg_of X G a28
  have q29 := mg_of X G a29
  have q30 := mg_of X G a30
  have q31 := mg_of X G a31
  have q32 := mg_of X G a32
  have q33 := mg_of X G a33
  have qC := mg_of X G aC
  refine ⟨fnOf "law" "law" (defArgs sLaw) (defBody sLaw) (defScope sLaw) .none kV33 dc33 pm33 an33 cd33 ct33,fun s v => .of_eq rfl,fun base _ _ => ?_⟩
  have B : Blt mg := ⟨y0,y1,y2,y3,y4,y5,y6,y7,y8,y9,y10,y11,y12,y13,y14,y15,y16,⟨_,u0⟩,⟨_,u1⟩⟩
  have T : ShopTxt K C := ⟨⟨pg,hd,po,sa⟩,n0,n1⟩
  have Z : TrC K mg xWAYS := ⟨⟨_,u2⟩,⟨_,u3⟩,⟨_,u4⟩,⟨_,u5⟩,⟨_,u6⟩,⟨_,u7⟩,gWAYS,fun H => .inr lWAYS⟩
  have D0 : Dn l.prog w K mg base "is_whole" ["thing","least"] 1 (spWhole K) := ⟨_,_,ok_whole F0 B,b0,k0,q0⟩
  have D1 : Dn l.prog w K mg base "is_truth" ["thing"] 1 (spTruth K) := ⟨_,_,ok_truth F1 B,b1,k1,q1⟩
  have D2 : Dn l.prog w K mg base "is_row" ["thing"] 1 (spRow K) := ⟨_,_,ok_row F2 B,b2,k2,q2⟩
  have D3 : Dn l.prog w K mg base "is_kind" ["thing"] 2 (spIsKind K) := ⟨_,_,ok_iskind F3 B D0 D1 D2,b3,k3,q3⟩
  have D4 : Dn l.prog w K mg base "can_lie_turned" ["kind"] 1 (spTurned K) := ⟨_,_,ok_turned F4,b4,k4,q4⟩
  have MB : Mn l.prog w K mg base C "blade" ["self"] 1 (spBlade C) := ⟨_,_,ok_blade Fm1 T,bm1,⟨am1,im1,km1⟩⟩
  have MK : Mn l.prog w K mg base C "kinds" ["self"] 1 (spKinds C) := ⟨_,_,ok_kinds Fm2 T y3,bm2,⟨am2,im2,km2⟩⟩
  have MI : Mn l.prog w K mg base C "is_lying" ["self","kind","turned"] 2 (spIsLying K C) := ⟨_,_,ok_islying Fm3 B T D0 D1 D4,bm3,⟨am3,im3,km3⟩⟩
  have MS : MnX l.prog w K mg base C "sides" ["self","kind","turned"] 3 (spSides K C xNoLying) := ⟨_,_,ok_sides Fm4 T MI gNoLying cNoLying,bm4,⟨am4,im4,km4⟩⟩
  have DS : Kn l.prog w K mg base "Shop" C ["self","blade","kinds"] 3 (spInit C) := ⟨_,_,⟨mk,am0,im0,kc⟩,ok_init Fm0 B T D0 D2 D3,bm0,qC⟩
  have D5 : Dn l.prog w K mg base "check_plate" ["wide","high"] 2 (spCP) := ⟨_,_,ok_cplate F5 D0,b5,k5,q5⟩
  have D6 : Dn l.prog w K mg base "lies_in" ["shop","wide","high","kind","turned","x","y"] 4 (spLiesG K C) := ⟨_,_,ok_liesG F6 T D0 MI MS,b6,k6,q6⟩
  have D7 : Dn l.prog w K mg base "cut_parts" ["blade","part","way","p"] 1 (spParts2) := ⟨_,_,ok_parts2 F7 Z,b7,k7,q7⟩
  have D8 : Dn l.prog w K mg base "begins_with" ["thing","word","many"] 2 (spBegins) := ⟨_,_,ok_begins F8 B y17 D2,b8,k8,q8⟩
  have D9 : Dn l.prog w K mg base "is_cut" ["blade","spot"] 3 (spCut) := ⟨_,_,ok_cut F9 Z D8 D0,b9,k9,q9⟩
  have D10 : Dn l.prog w K mg base "is_leaf" ["shop","spot"] 5 (spLeaf C) := ⟨_,_,ok_leaf F10 Z D8 D6,b10,k10,q10⟩
  have D11 : Dn l.prog w K mg base "spots_behind" ["blade","spot"] 2 (spBehind) := ⟨_,_,ok_behind F11 Z D7,b11,k11,q11⟩
  have D12 : Dn l.prog w K mg base "is_tree" ["shop","wide","high","thing"] 6 (spIsTree C) := ⟨_,_,ok_istree F12 T MB D5 D9 D10 D11,b12,k12,q12⟩
  have D13 : Dn l.prog w K mg base "check_tree" ["shop","wide","high","thing"] 7 (spCheckT C) := ⟨_,_,ok_checkt F13 D12,b13,k13,q13⟩
  have D14 : Dn l.prog w K mg base "turns_of" ["shop","wide","high","tree"] 8 (spTurns C) := ⟨_,_,ok_turns F14 B Z D13,b14,k14,q14⟩
  have XT : ExK K xNoTree := ⟨ka,kb,kg,kd,ke,(exc_cls cNoTree).1⟩
  have DCX : L2.DnX l.prog w K mg base "check_tree" ["shop","wide","high","thing"] 7 (spCheckTX C xNoTree) := ⟨_,_,ok_checktX F13 gNoTree cNoTree D12,b13,k13,q13⟩
  have DTX : L2.DnX l.prog w K mg base "turns_of" ["shop","wide","high","tree"] 8 (spTurnsX C xNoTree) := ⟨_,_,ok_turnsX F14 B Z DCX,b14,k14,q14⟩
  have D15 : Dn l.prog w K mg base "_law_pot" ["_law_cell"] 1 (spPotB) := ⟨_,_,ok_pot F15 B,b15,k15,q15⟩
  have D16 : Dn l.prog w K mg base "_law_draw" ["_law_pot_here","_law_many"] 1 (spDrawB) := ⟨_,_,ok_draw F16 B,b16,k16,q16⟩
  have D17 : Dn l.prog w K mg base "_law_great" ["_law_pot_here","_law_many"] 2 (spGreatM) := ⟨_,_,ok_greatm F17 B D16,b17,k17,q17⟩
  have D18 : Dn l.prog w K mg base "_law_side" ["_law_pot_here"] 3 (spSideB) := ⟨_,_,ok_sideb F18 B D16 D17,b18,k18,q18⟩
  have D19 : Dn l.prog w K mg base "_law_leaf" ["_law_pot_here","_law_kinds","_law_wide","_law_high"] 2 (spLeafB) := ⟨_,_,ok_leafb F19 B D16,b19,k19,q19⟩
  have D20 : Dn l.prog w K mg base "_law_way" ["_law_pot_here","_law_sort","_law_last"] 2 (spWay) := ⟨_,_,ok_way F20 D16 B,b20,k20,q20⟩
  have D21 : Dn l.prog w K mg base "_law_tree" ["_law_pot_here","_law_budget","_law_blade","_law_kinds","_law_part","_law_depth","_law_sort","_law_last"] 14 (spTreeB 11) := ⟨_,_,ok_treebN F21 B D16 D19 D20 (fun n h => ⟨_,_,h,b21,k21,q21⟩) 11,b21,k21,q21⟩
  have D22 : Dn l.prog w K mg base "_law_row" ["_law_pot_here","_law_blade","_law_part","_law_way_here"] 2 (spLRow) := ⟨_,_,ok_lrow F22 B D16,b22,k22,q22⟩
  have D23 : Dn l.prog w K mg base "_law_beside" ["_law_pot_here","_law_blade","_law_kinds","_law_part","_law_sort","_law_way_here"] 3 (spBeside) := ⟨_,_,ok_beside F23 B D16 D19 D20 D22,b23,k23,q23⟩
  have D24 : Dn l.prog w K mg base "_law_around" ["_law_pot_here","_law_blade","_law_kinds","_law_part","_law_tree_here","_law_sort"] 4 (spAround) := ⟨_,_,ok_around F24 B D16 D20 D23,b24,k24,q24⟩
  have D25 : Dn l.prog w K mg base "_law_deep" ["_law_pot_here","_law_blade","_law_kinds","_law_sort"] 5 (spDeep) := ⟨_,_,ok_deep F25 B D16 D19 D24,b25,k25,q25⟩
  have D26 : Dn l.prog w K mg base "_law_drawn" ["_law_pot_here","_law_blade","_law_kinds"] 15 (spDrawn) := ⟨_,_,ok_drawn F26 B D16 D18 D25 D21,b26,k26,q26⟩
  have D27 : Dn l.prog w K mg base "_law_ways" ["_law_tree_here","_law_ahead"] 61 (spWays 60) := ⟨_,_,ok_waysN F27 (fun n h => ⟨_,_,h,b27,k27,q27⟩) 60,b27,k27,q27⟩
  have D28 : Dn l.prog w K mg base "_law_due" ["_law_tree_here"] 62 (spDue) := ⟨_,_,ok_due F28 B D27,b28,k28,q28⟩
  have D29 : Dn l.prog w K mg base "_law_listed" ["_law_tree_here"] 61 (spListedB 60) := ⟨_,_,ok_listedbN F29 B (fun n h => ⟨_,_,h,b29,k29,q29⟩) 60,b29,k29,q29⟩
  have D30 : Dn l.prog w K mg base "_law_bad" ["_law_pot_here","_law_kinds","_law_tree_here"] 2 (spBad) := ⟨_,_,ok_bad F30 B D16,b30,k30,q30⟩
  have D31 : Dn l.prog w K mg base "_law_spoilt" ["_law_pot_here","_law_kinds","_law_tree_here"] 63 (spSpoiltB 60) := ⟨_,_,ok_spoiltbN F31 B D16 D30 (fun n h => ⟨_,_,h,b31,k31,q31⟩) 60,b31,k31,q31⟩
  have D32 : Dn l.prog w K mg base "_law_refused" ["_law_shop","_law_wide","_law_high","_law_tree_here"] 9 (spRefused C) := ⟨_,_,ok_refused F32 B XT gNoTree DTX gPlateError (exm_of cPlateError bP sNoTree) kit_self,b32,k32,q32⟩
  exact ok_law F33 B D15 D16 D26 D29 D14 D28 D31 D32 DS
theorem walk {l : PySem.W.OpenLaw} {q : Program} {loose : List Str} {XP : (Str → Option Value) → Heap → Prop} {YP : World → Heap → Prop} {d : DefRec} {K : Params → PySem.W.Frag} (hn : l.most = some 63) (hdf : d.params.defaults = [])
    (hY : ∀ (w : World) (h : Heap),YP w h → (K w.params).In h)
    (F : ∀ (w : World) (mg : Str → Option Value) (fa : Addr) (h : Heap),(K w.params).In h → h.Ns mainGlobals mg → mg d.name = some (.ref fa) →
      ∃ fd : FuncData,(∀ (s : Shared) (u : Value),BindsTo s fd ⟨[u],[]⟩ [("_law_script",u)]) ∧ ∀ base : Heap,(K w.params).In base → base.Ns mainGlobals mg → FnOk l.prog w (K w.params) mg base CX0 64 fa fd ["_law_script"] (spLaw (K w.params))) :
    PySem.W.WalkO q loose XP YP l.row.toRowW d [] (fun f vs => PySem.call f vs) :=
  L2.walk_of (n := 63) (k := 64) (x := "_law_script") (CX := fun _ => CX0) (sp := fun w => spLaw (K w.params)) hn (by decide) hdf ⟨rfl,by decide,by decide,rfl⟩ hY F (fun _ _ a ns hl _ hS => ⟨a,ns,rfl,hS,hl,fun _ => rfl⟩) fun _ _ _ _ _ z => z
end Pc
namespace Pc
open PySem L2
section
open PySem.W
noncomputable def kE (P : Params) (n : Str) (t : Nat) (v : Value) : DictEntry := ⟨PyData.keyHash P n,.str n t,v⟩
noncomputable def kO3 (P : Params) : Obj := ⟨(.type "dict"),none,(.dict #[kE P "__name__" 165 (.str "law_platecuts_k51_turns_counted" 585),kE P "__doc__" 166 .none,kE P "__package__" 167 .none,kE P "__loader__" 168 (.builtin "__main__.__loader__#opaque"),kE P "__spec__" 169 .none,kE P "__annotations__" 170 (.ref 6),kE P "__builtins__" 171 (.ref 4),kE P "__file__" 173 (.str "/claim/cut.py" 172),kE P "__cached__" 174 .none,kE P "_wall" 193 (.ref 21),kE P "PlateError" 213 (.ref 31),kE P "NoBlade" 229 (.ref 44),kE P "NoKinds" 245 (.ref 56),kE P "NoKind" 261 (.ref 68),kE P "NoLying" 277 (.ref 80),kE P "NoPlate" 293 (.ref 92),kE P "NoTree" 309 (.ref 104),kE P "is_whole" 319 (.ref 113),kE P "is_truth" 326 (.ref 120),kE P "is_row" 333 (.ref 127),kE P "check_plate" 341 (.ref 134),kE P "DOWN" 345 (.str "down" 344),kE P "ACROSS" 347 (.str "across" 346),kE P "WAYS" 348 (.ref 135),kE P "lies_in" 363 (.ref 142),kE P "cut_parts" 375 (.ref 149),kE P "REST" 379 (.str "rest" 378),kE P "PIECE" 381 (.str "piece" 380),kE P "THINGS_OF_A_REST" 383 (.int (1) 382),kE P "THINGS_OF_A_PIECE" 385 (.int (5) 384),kE P "THINGS_OF_A_CUT" 387 (.int (4) 386),kE P "begins_with" 396 (.ref 156),kE P "is_cut" 407 (.ref 163),kE P "is_leaf" 420 (.ref 170),kE P "spots_behind" 444 (.ref 177),kE P "is_tree" 457 (.ref 184),kE P "check_tree" 467 (.ref 191),kE P "turns_of" 485 (.ref 198),kE P "MOST_KINDS" 489 (.int (8) 488),kE P "THINGS_OF_A_KIND" 491 (.int (5) 490),kE P "is_kind" 503 (.ref 205),kE P "can_lie_turned" 510 (.ref 212),kE P "Shop" 584 (.ref 267),kE P "_law_pot" 593 (.ref 278),kE P "_law_draw" 602 (.ref 285),kE P "_law_great" 612 (.ref 292),kE P "_law_leaf" 632 (.ref 299),kE P "_law_way" 641 (.ref 306),kE P "_law_tree" 663 (.ref 313),kE P "_law_row" 677 (.ref 320),kE P "_law_beside" 689 (.ref 327),kE P "_law_around" 710 (.ref 334),kE P "_law_deep" 723 (.ref 341),kE P "_law_drawn" 734 (.ref 348),kE P "_law_ways" 742 (.ref 355),kE P "_law_due" 748 (.ref 360),kE P "_law_listed" 754 (.ref 365),kE P "_law_bad" 765 (.ref 372),kE P "_law_spoilt" 775 (.ref 379),kE P "_law_refused" 787 (.ref 386),kE P "_law_side" 794 (.ref 393),kE P "law" 814 (.ref 400)] 62),#[]⟩
noncomputable def kO20 (P : Params) : Obj := ⟨(.type "code"),none,(.fields #[(.str "_wall" 187),(.str "_wall" 188),(.str "/claim/cut.py" 189),(.int (1) 0),(.int (1) 0),(.int (0) 0),(.int (0) 0),(.int (3) 0),(.ref 15),(.bool true),(.int (181) 0),(.ref 16),.none,(.ref 17),(.ref 18),(.ref 19),(.int (191) 0),(.int (1) 0),(.str "/claim/cut.py" 192)]),#[]⟩
noncomputable def kO21 (P : Params) : Obj := ⟨(.type "function"),none,(.func (fnOf "_wall" "_wall" (defArgs sWall) (defBody sWall) (defScope sWall) .none .none .none (.str "__main__" 164) none (.ref 20) .none)),#[]⟩
noncomputable def kO30 (P : Params) : Obj := ⟨(.type "dict"),none,(.dict #[kE P "__module__" 203 (.str "platecuts.errors" 194),kE P "__firstlineno__" 207 (.int (5) 206),kE P "__static_attributes__" 208 (.ref 29),kE P "__weakref__" 210 (.ref 32),kE P "__doc__" 211 .none] 3),#[]⟩
noncomputable def kO31 (P : Params) : Obj := ⟨(.type "type"),none,(.cls ⟨"PlateError",[(.type "ValueError")],[(.ref 31),(.type "ValueError"),(.type "Exception"),(.type "BaseException"),(.type "object")],30,"PlateError",true,[],[(.ref 44),(.ref 56),(.ref 68),(.ref 80),(.ref 92),(.ref 104)],false,none,false⟩),#[(some (.ref 22)),none,(some (.str "PlateError" 196)),(some (.str "PlateError" 204)),(some (.builtin "ValueError.__new__")),(some (.bool true))]⟩
noncomputable def kO43 (P : Params) : Obj := ⟨(.type "dict"),none,(.dict #[kE P "__module__" 221 (.str "platecuts.errors" 194),kE P "__firstlineno__" 225 (.int (7) 224),kE P "__static_attributes__" 226 (.ref 42),kE P "__doc__" 227 .none] 2),#[]⟩
noncomputable def kO44 (P : Params) : Obj := ⟨(.type "type"),none,(.cls ⟨"NoBlade",[(.ref 31)],[(.ref 44),(.ref 31),(.type "ValueError"),(.type "Exception"),(.type "BaseException"),(.type "object")],43,"NoBlade",true,[],[],false,none,false⟩),#[(some (.ref 35)),none,(some (.str "NoBlade" 214)),(some (.str "NoBlade" 222)),(some (.builtin "ValueError.__new__")),(some (.bool true))]⟩
noncomputable def kO55 (P : Params) : Obj := ⟨(.type "dict"),none,(.dict #[kE P "__module__" 237 (.str "platecuts.errors" 194),kE P "__firstlineno__" 241 (.int (9) 240),kE P "__static_attributes__" 242 (.ref 54),kE P "__doc__" 243 .none] 2),#[]⟩
noncomputable def kO56 (P : Params) : Obj := ⟨(.type "type"),none,(.cls ⟨"NoKinds",[(.ref 31)],[(.ref 56),(.ref 31),(.type "ValueError"),(.type "Exception"),(.type "BaseException"),(.type "object")],55,"NoKinds",true,[],[],false,none,false⟩),#[(some (.ref 47)),none,(some (.str "NoKinds" 230)),(some (.str "NoKinds" 238)),(some (.builtin "ValueError.__new__")),(some (.bool true))]⟩
noncomputable def kO67 (P : Params) : Obj := ⟨(.type "dict"),none,(.dict #[kE P "__module__" 253 (.str "platecuts.errors" 194),kE P "__firstlineno__" 257 (.int (11) 256),kE P "__static_attributes__" 258 (.ref 66),kE P "__doc__" 259 .none] 2),#[]⟩
noncomputable def kO68 (P : Params) : Obj := ⟨(.type "type"),none,(.cls ⟨"NoKind",[(.ref 31)],[(.ref 68),(.ref 31),(.type "ValueError"),(.type "Exception"),(.type "BaseException"),(.type "object")],67,"NoKind",true,[],[],false,none,false⟩),#[(some (.ref 59)),none,(some (.str "NoKind" 246)),(some (.str "NoKind" 254)),(some (.builtin "ValueError.__new__")),(some (.bool true))]⟩
noncomputable def kO79 (P : Params) : Obj := ⟨(.type "dict"),none,(.dict #[kE P "__module__" 269 (.str "platecuts.errors" 194),kE P "__firstlineno__" 273 (.int (13) 272),kE P "__static_attributes__" 274 (.ref 78),kE P "__doc__" 275 .none] 2),#[]⟩
noncomputable def kO80 (P : Params) : Obj := ⟨(.type "type"),none,(.cls ⟨"NoLying",[(.ref 31)],[(.ref 80),(.ref 31),(.type "ValueError"),(.type "Exception"),(.type "BaseException"),(.type "object")],79,"NoLying",true,[],[],false,none,false⟩),#[(some (.ref 71)),none,(some (.str "NoLying" 262)),(some (.str "NoLying" 270)),(some (.builtin "ValueError.__new__")),(some (.bool true))]⟩
noncomputable def kO91 (P : Params) : Obj := ⟨(.type "dict"),none,(.dict #[kE P "__module__" 285 (.str "platecuts.errors" 194),kE P "__firstlineno__" 289 (.int (15) 288),kE P "__static_attributes__" 290 (.ref 90),kE P "__doc__" 291 .none] 2),#[]⟩
noncomputable def kO92 (P : Params) : Obj := ⟨(.type "type"),none,(.cls ⟨"NoPlate",[(.ref 31)],[(.ref 92),(.ref 31),(.type "ValueError"),(.type "Exception"),(.type "BaseException"),(.type "object")],91,"NoPlate",true,[],[],false,none,false⟩),#[(some (.ref 83)),none,(some (.str "NoPlate" 278)),(some (.str "NoPlate" 286)),(some (.builtin "ValueError.__new__")),(some (.bool true))]⟩
noncomputable def kO103 (P : Params) : Obj := ⟨(.type "dict"),none,(.dict #[kE P "__module__" 301 (.str "platecuts.errors" 194),kE P "__firstlineno__" 305 (.int (17) 304),kE P "__static_attributes__" 306 (.ref 102),kE P "__doc__" 307 .none] 2),#[]⟩
noncomputable def kO104 (P : Params) : Obj := ⟨(.type "type"),none,(.cls ⟨"NoTree",[(.ref 31)],[(.ref 104),(.ref 31),(.type "ValueError"),(.type "Exception"),(.type "BaseException"),(.type "object")],103,"NoTree",true,[],[],false,none,false⟩),#[(some (.ref 95)),none,(some (.str "NoTree" 294)),(some (.str "NoTree" 302)),(some (.builtin "ValueError.__new__")),(some (.bool true))]⟩
noncomputable def kO112 (P : Params) : Obj := ⟨(.type "code"),none,(.fields #[(.str "is_whole" 312),(.str "is_whole" 313),(.str "/claim/cut.py" 314),(.int (20) 0),(.int (2) 0),(.int (0) 0),(.int (0) 0),(.int (3) 0),(.ref 107),(.bool true),(.int (181) 0),(.ref 108),.none,(.ref 109),(.ref 110),(.ref 111),(.int (317) 0),(.int (20) 0),(.str "/claim/cut.py" 318)]),#[]⟩
noncomputable def kO113 (P : Params) : Obj := ⟨(.type "function"),none,(.func (fnOf "is_whole" "is_whole" (defArgs sWhole) (defBody sWhole) (defScope sWhole) .none .none .none (.str "platecuts.checks" 310) none (.ref 112) .none)),#[]⟩
noncomputable def kO119 (P : Params) : Obj := ⟨(.type "code"),none,(.fields #[(.str "is_truth" 320),(.str "is_truth" 321),(.str "/claim/cut.py" 322),(.int (22) 0),(.int (1) 0),(.int (0) 0),(.int (0) 0),(.int (3) 0),(.ref 114),(.bool true),(.int (181) 0),(.ref 115),.none,(.ref 116),(.ref 117),(.ref 118),(.int (324) 0),(.int (22) 0),(.str "/claim/cut.py" 325)]),#[]⟩
noncomputable def kO120 (P : Params) : Obj := ⟨(.type "function"),none,(.func (fnOf "is_truth" "is_truth" (defArgs sTruth) (defBody sTruth) (defScope sTruth) .none .none .none (.str "platecuts.checks" 310) none (.ref 119) .none)),#[]⟩
noncomputable def kO126 (P : Params) : Obj := ⟨(.type "code"),none,(.fields #[(.str "is_row" 327),(.str "is_row" 328),(.str "/claim/cut.py" 329),(.int (24) 0),(.int (1) 0),(.int (0) 0),(.int (0) 0),(.int (3) 0),(.ref 121),(.bool true),(.int (181) 0),(.ref 122),.none,(.ref 123),(.ref 124),(.ref 125),(.int (331) 0),(.int (24) 0),(.str "/claim/cut.py" 332)]),#[]⟩
noncomputable def kO127 (P : Params) : Obj := ⟨(.type "function"),none,(.func (fnOf "is_row" "is_row" (defArgs sRow) (defBody sRow) (defScope sRow) .none .none .none (.str "platecuts.checks" 310) none (.ref 126) .none)),#[]⟩
noncomputable def kO133 (P : Params) : Obj := ⟨(.type "code"),none,(.fields #[(.str "check_plate" 334),(.str "check_plate" 335),(.str "/claim/cut.py" 336),(.int (26) 0),(.int (2) 0),(.int (0) 0),(.int (0) 0),(.int (3) 0),(.ref 128),(.bool true),(.int (181) 0),(.ref 129),.none,(.ref 130),(.ref 131),(.ref 132),(.int (339) 0),(.int (26) 0),(.str "/claim/cut.py" 340)]),#[]⟩
noncomputable def kO134 (P : Params) : Obj := ⟨(.type "function"),none,(.func (fnOf "check_plate" "check_plate" (defArgs sCheckPlate) (defBody sCheckPlate) (defScope sCheckPlate) .none .none .none (.str "platecuts.checks" 310) none (.ref 133) .none)),#[]⟩
noncomputable def kO135 (P : Params) : Obj := ⟨(.type "tuple"),none,(.seq #[(.str "down" 344),(.str "across" 346)] 0),#[]⟩
noncomputable def kO141 (P : Params) : Obj := ⟨(.type "code"),none,(.fields #[(.str "lies_in" 349),(.str "lies_in" 350),(.str "/claim/cut.py" 351),(.int (33) 0),(.int (7) 0),(.int (0) 0),(.int (0) 0),(.int (3) 0),(.ref 136),(.bool true),(.int (181) 0),(.ref 137),.none,(.ref 138),(.ref 139),(.ref 140),(.int (361) 0),(.int (33) 0),(.str "/claim/cut.py" 362)]),#[]⟩
noncomputable def kO142 (P : Params) : Obj := ⟨(.type "function"),none,(.func (fnOf "lies_in" "lies_in" (defArgs sLiesIn) (defBody sLiesIn) (defScope sLiesIn) .none .none .none (.str "platecuts.parts" 342) none (.ref 141) .none)),#[]⟩
noncomputable def kO148 (P : Params) : Obj := ⟨(.type "code"),none,(.fields #[(.str "cut_parts" 364),(.str "cut_parts" 365),(.str "/claim/cut.py" 366),(.int (38) 0),(.int (4) 0),(.int (0) 0),(.int (0) 0),(.int (3) 0),(.ref 143),(.bool true),(.int (181) 0),(.ref 144),.none,(.ref 145),(.ref 146),(.ref 147),(.int (373) 0),(.int (38) 0),(.str "/claim/cut.py" 374)]),#[]⟩
noncomputable def kO149 (P : Params) : Obj := ⟨(.type "function"),none,(.func (fnOf "cut_parts" "cut_parts" (defArgs sCutParts) (defBody sCutParts) (defScope sCutParts) .none .none .none (.str "platecuts.parts" 342) none (.ref 148) .none)),#[]⟩
noncomputable def kO155 (P : Params) : Obj := ⟨(.type "code"),none,(.fields #[(.str "begins_with" 388),(.str "begins_with" 389),(.str "/claim/cut.py" 390),(.int (49) 0),(.int (3) 0),(.int (0) 0),(.int (0) 0),(.int (3) 0),(.ref 150),(.bool true),(.int (181) 0),(.ref 151),.none,(.ref 152),(.ref 153),(.ref 154),(.int (394) 0),(.int (49) 0),(.str "/claim/cut.py" 395)]),#[]⟩
noncomputable def kO156 (P : Params) : Obj := ⟨(.type "function"),none,(.func (fnOf "begins_with" "begins_with" (defArgs sBeginsWith) (defBody sBeginsWith) (defScope sBeginsWith) .none .none .none (.str "platecuts.trees" 376) none (.ref 155) .none)),#[]⟩
noncomputable def kO162 (P : Params) : Obj := ⟨(.type "code"),none,(.fields #[(.str "is_cut" 397),(.str "is_cut" 398),(.str "/claim/cut.py" 399),(.int (53) 0),(.int (2) 0),(.int (0) 0),(.int (0) 0),(.int (3) 0),(.ref 157),(.bool true),(.int (181) 0),(.ref 158),.none,(.ref 159),(.ref 160),(.ref 161),(.int (405) 0),(.int (53) 0),(.str "/claim/cut.py" 406)]),#[]⟩
noncomputable def kO163 (P : Params) : Obj := ⟨(.type "function"),none,(.func (fnOf "is_cut" "is_cut" (defArgs sIsCut) (defBody sIsCut) (defScope sIsCut) .none .none .none (.str "platecuts.trees" 376) none (.ref 162) .none)),#[]⟩
noncomputable def kO169 (P : Params) : Obj := ⟨(.type "code"),none,(.fields #[(.str "is_leaf" 408),(.str "is_leaf" 409),(.str "/claim/cut.py" 410),(.int (60) 0),(.int (2) 0),(.int (0) 0),(.int (0) 0),(.int (3) 0),(.ref 164),(.bool true),(.int (181) 0),(.ref 165),.none,(.ref 166),(.ref 167),(.ref 168),(.int (418) 0),(.int (60) 0),(.str "/claim/cut.py" 419)]),#[]⟩
noncomputable def kO170 (P : Params) : Obj := ⟨(.type "function"),none,(.func (fnOf "is_leaf" "is_leaf" (defArgs sIsLeaf) (defBody sIsLeaf) (defScope sIsLeaf) .none .none .none (.str "platecuts.trees" 376) none (.ref 169) .none)),#[]⟩
noncomputable def kO176 (P : Params) : Obj := ⟨(.type "code"),none,(.fields #[(.str "spots_behind" 421),(.str "spots_behind" 422),(.str "/claim/cut.py" 423),(.int (65) 0),(.int (2) 0),(.int (0) 0),(.int (0) 0),(.int (3) 0),(.ref 171),(.bool true),(.int (181) 0),(.ref 172),.none,(.ref 173),(.ref 174),(.ref 175),(.int (442) 0),(.int (65) 0),(.str "/claim/cut.py" 443)]),#[]⟩
noncomputable def kO177 (P : Params) : Obj := ⟨(.type "function"),none,(.func (fnOf "spots_behind" "spots_behind" (defArgs sSpotsBehind) (defBody sSpotsBehind) (defScope sSpotsBehind) .none .none .none (.str "platecuts.trees" 376) none (.ref 176) .none)),#[]⟩
noncomputable def kO183 (P : Params) : Obj := ⟨(.type "code"),none,(.fields #[(.str "is_tree" 445),(.str "is_tree" 446),(.str "/claim/cut.py" 447),(.int (72) 0),(.int (4) 0),(.int (0) 0),(.int (0) 0),(.int (3) 0),(.ref 178),(.bool true),(.int (181) 0),(.ref 179),.none,(.ref 180),(.ref 181),(.ref 182),(.int (455) 0),(.int (72) 0),(.str "/claim/cut.py" 456)]),#[]⟩
noncomputable def kO184 (P : Params) : Obj := ⟨(.type "function"),none,(.func (fnOf "is_tree" "is_tree" (defArgs sIsTree) (defBody sIsTree) (defScope sIsTree) .none .none .none (.str "platecuts.trees" 376) none (.ref 183) .none)),#[]⟩
noncomputable def kO190 (P : Params) : Obj := ⟨(.type "code"),none,(.fields #[(.str "check_tree" 458),(.str "check_tree" 459),(.str "/claim/cut.py" 460),(.int (83) 0),(.int (4) 0),(.int (0) 0),(.int (0) 0),(.int (3) 0),(.ref 185),(.bool true),(.int (181) 0),(.ref 186),.none,(.ref 187),(.ref 188),(.ref 189),(.int (465) 0),(.int (83) 0),(.str "/claim/cut.py" 466)]),#[]⟩
noncomputable def kO191 (P : Params) : Obj := ⟨(.type "function"),none,(.func (fnOf "check_tree" "check_tree" (defArgs sCheckTree) (defBody sCheckTree) (defScope sCheckTree) .none .none .none (.str "platecuts.trees" 376) none (.ref 190) .none)),#[]⟩
noncomputable def kO197 (P : Params) : Obj := ⟨(.type "code"),none,(.fields #[(.str "turns_of" 470),(.str "turns_of" 471),(.str "/claim/cut.py" 472),(.int (87) 0),(.int (4) 0),(.int (0) 0),(.int (0) 0),(.int (3) 0),(.ref 192),(.bool true),(.int (181) 0),(.ref 193),.none,(.ref 194),(.ref 195),(.ref 196),(.int (483) 0),(.int (87) 0),(.str "/claim/cut.py" 484)]),#[]⟩
noncomputable def kO198 (P : Params) : Obj := ⟨(.type "function"),none,(.func (fnOf "turns_of" "turns_of" (defArgs sTurnsOf) (defBody sTurnsOf) (defScope sTurnsOf) .none .none .none (.str "platecuts.turning" 468) none (.ref 197) .none)),#[]⟩
noncomputable def kO204 (P : Params) : Obj := ⟨(.type "code"),none,(.fields #[(.str "is_kind" 492),(.str "is_kind" 493),(.str "/claim/cut.py" 494),(.int (103) 0),(.int (1) 0),(.int (0) 0),(.int (0) 0),(.int (3) 0),(.ref 199),(.bool true),(.int (181) 0),(.ref 200),.none,(.ref 201),(.ref 202),(.ref 203),(.int (501) 0),(.int (103) 0),(.str "/claim/cut.py" 502)]),#[]⟩
noncomputable def kO205 (P : Params) : Obj := ⟨(.type "function"),none,(.func (fnOf "is_kind" "is_kind" (defArgs sIsKind) (defBody sIsKind) (defScope sIsKind) .none .none .none (.str "platecuts.shops" 486) none (.ref 204) .none)),#[]⟩
noncomputable def kO211 (P : Params) : Obj := ⟨(.type "code"),none,(.fields #[(.str "can_lie_turned" 504),(.str "can_lie_turned" 505),(.str "/claim/cut.py" 506),(.int (110) 0),(.int (1) 0),(.int (0) 0),(.int (0) 0),(.int (3) 0),(.ref 206),(.bool true),(.int (181) 0),(.ref 207),.none,(.ref 208),(.ref 209),(.ref 210),(.int (508) 0),(.int (110) 0),(.str "/claim/cut.py" 509)]),#[]⟩
noncomputable def kO212 (P : Params) : Obj := ⟨(.type "function"),none,(.func (fnOf "can_lie_turned" "can_lie_turned" (defArgs sTurned) (defBody sTurned) (defScope sTurned) .none .none .none (.str "platecuts.shops" 486) none (.ref 211) .none)),#[]⟩
noncomputable def kO223 (P : Params) : Obj := ⟨(.type "code"),none,(.fields #[(.str "__init__" 523),(.str "Shop.__init__" 524),(.str "/claim/cut.py" 525),(.int (114) 0),(.int (3) 0),(.int (0) 0),(.int (0) 0),(.int (3) 0),(.ref 220),(.bool true),(.int (181) 0),(.ref 221),.none,.none,.none,(.ref 222),(.int (526) 0),(.int (114) 0),(.str "/claim/cut.py" 527)]),#[]⟩
noncomputable def kO224 (P : Params) : Obj := ⟨(.type "function"),none,(.func (fnOf "__init__" "Shop.__init__" (defArgs sShopInit) (defBody sShopInit) (defScope sShopInit) .none .none .none (.str "platecuts.shops" 486) none (.ref 223) .none)),#[]⟩
noncomputable def kO230 (P : Params) : Obj := ⟨(.type "code"),none,(.fields #[(.str "blade" 529),(.str "Shop.blade" 530),(.str "/claim/cut.py" 531),(.int (125) 0),(.int (1) 0),(.int (0) 0),(.int (0) 0),(.int (3) 0),(.ref 225),(.bool true),(.int (181) 0),(.ref 226),.none,(.ref 227),(.ref 228),(.ref 229),(.int (533) 0),(.int (125) 0),(.str "/claim/cut.py" 534)]),#[]⟩
noncomputable def kO231 (P : Params) : Obj := ⟨(.type "function"),none,(.func (fnOf "blade" "Shop.blade" (defArgs sShopBlade) (defBody sShopBlade) (defScope sShopBlade) .none .none .none (.str "platecuts.shops" 486) none (.ref 230) .none)),#[]⟩
noncomputable def kO237 (P : Params) : Obj := ⟨(.type "code"),none,(.fields #[(.str "kinds" 536),(.str "Shop.kinds" 537),(.str "/claim/cut.py" 538),(.int (128) 0),(.int (1) 0),(.int (0) 0),(.int (0) 0),(.int (3) 0),(.ref 232),(.bool true),(.int (181) 0),(.ref 233),.none,(.ref 234),(.ref 235),(.ref 236),(.int (540) 0),(.int (128) 0),(.str "/claim/cut.py" 541)]),#[]⟩
noncomputable def kO238 (P : Params) : Obj := ⟨(.type "function"),none,(.func (fnOf "kinds" "Shop.kinds" (defArgs sShopKinds) (defBody sShopKinds) (defScope sShopKinds) .none .none .none (.str "platecuts.shops" 486) none (.ref 237) .none)),#[]⟩
noncomputable def kO242 (P : Params) : Obj := ⟨(.type "code"),none,(.fields #[(.str "wanted" 543),(.str "Shop.wanted" 544),(.str "/claim/cut.py" 545),(.int (131) 0),(.int (1) 0),(.int (0) 0),(.int (0) 0),(.int (3) 0),(.ref 239),(.bool true),(.int (181) 0),(.ref 240),.none,.none,.none,(.ref 241),(.int (546) 0),(.int (131) 0),(.str "/claim/cut.py" 547)]),#[]⟩
noncomputable def kO243 (P : Params) : Obj := ⟨(.type "function"),none,(.func (fnOf "wanted" "Shop.wanted" (defArgs sShopWanted) (defBody sShopWanted) (defScope sShopWanted) .none .none .none (.str "platecuts.shops" 486) none (.ref 242) .none)),#[]⟩
noncomputable def kO249 (P : Params) : Obj := ⟨(.type "code"),none,(.fields #[(.str "lyings" 549),(.str "Shop.lyings" 550),(.str "/claim/cut.py" 551),(.int (134) 0),(.int (1) 0),(.int (0) 0),(.int (0) 0),(.int (3) 0),(.ref 244),(.bool true),(.int (181) 0),(.ref 245),.none,(.ref 246),(.ref 247),(.ref 248),(.int (553) 0),(.int (134) 0),(.str "/claim/cut.py" 554)]),#[]⟩
noncomputable def kO250 (P : Params) : Obj := ⟨(.type "function"),none,(.func (fnOf "lyings" "Shop.lyings" (defArgs sShopLyings) (defBody sShopLyings) (defScope sShopLyings) .none .none .none (.str "platecuts.shops" 486) none (.ref 249) .none)),#[]⟩
noncomputable def kO256 (P : Params) : Obj := ⟨(.type "code"),none,(.fields #[(.str "is_lying" 556),(.str "Shop.is_lying" 557),(.str "/claim/cut.py" 558),(.int (137) 0),(.int (3) 0),(.int (0) 0),(.int (0) 0),(.int (3) 0),(.ref 251),(.bool true),(.int (181) 0),(.ref 252),.none,(.ref 253),(.ref 254),(.ref 255),(.int (562) 0),(.int (137) 0),(.str "/claim/cut.py" 563)]),#[]⟩
noncomputable def kO257 (P : Params) : Obj := ⟨(.type "function"),none,(.func (fnOf "is_lying" "Shop.is_lying" (defArgs sShopIsLying) (defBody sShopIsLying) (defScope sShopIsLying) .none .none .none (.str "platecuts.shops" 486) none (.ref 256) .none)),#[]⟩
noncomputable def kO263 (P : Params) : Obj := ⟨(.type "code"),none,(.fields #[(.str "sides" 565),(.str "Shop.sides" 566),(.str "/claim/cut.py" 567),(.int (142) 0),(.int (3) 0),(.int (0) 0),(.int (0) 0),(.int (3) 0),(.ref 258),(.bool true),(.int (181) 0),(.ref 259),.none,(.ref 260),(.ref 261),(.ref 262),(.int (572) 0),(.int (142) 0),(.str "/claim/cut.py" 573)]),#[]⟩
noncomputable def kO264 (P : Params) : Obj := ⟨(.type "function"),none,(.func (fnOf "sides" "Shop.sides" (defArgs sShopSides) (defBody sShopSides) (defScope sShopSides) .none .none .none (.str "platecuts.shops" 486) none (.ref 263) .none)),#[]⟩
noncomputable def kO266 (P : Params) : Obj := ⟨(.type "dict"),none,(.dict #[kE P "__module__" 518 (.str "platecuts.shops" 486),kE P "__firstlineno__" 522 (.int (112) 521),kE P "__init__" 528 (.ref 224),kE P "blade" 535 (.ref 231),kE P "kinds" 542 (.ref 238),kE P "wanted" 548 (.ref 243),kE P "lyings" 555 (.ref 250),kE P "is_lying" 564 (.ref 257),kE P "sides" 574 (.ref 264),kE P "__static_attributes__" 577 (.ref 265),kE P "__dict__" 579 (.ref 268),kE P "__weakref__" 581 (.ref 269),kE P "__doc__" 582 .none] 4),#[]⟩
noncomputable def kO267 (P : Params) : Obj := ⟨(.type "type"),none,(.cls ⟨"Shop",[(.type "object")],[(.ref 267),(.type "object")],266,"Shop",true,[],[],false,none,false⟩),#[none,none,(some (.str "Shop" 511)),(some (.str "Shop" 519)),(some (.builtin "object.__new__")),(some (.bool true))]⟩
noncomputable def kO277 (P : Params) : Obj := ⟨(.type "code"),none,(.fields #[(.str "_law_pot" 587),(.str "_law_pot" 588),(.str "/claim/cut.py" 589),(.int (150) 0),(.int (1) 0),(.int (0) 0),(.int (0) 0),(.int (3) 0),(.ref 272),(.bool true),(.int (181) 0),(.ref 273),.none,(.ref 274),(.ref 275),(.ref 276),(.int (591) 0),(.int (150) 0),(.str "/claim/cut.py" 592)]),#[]⟩
noncomputable def kO278 (P : Params) : Obj := ⟨(.type "function"),none,(.func (fnOf "_law_pot" "_law_pot" (defArgs sPot) (defBody sPot) (defScope sPot) .none .none .none (.str "law_platecuts_k51_turns_counted" 585) none (.ref 277) .none)),#[]⟩
noncomputable def kO284 (P : Params) : Obj := ⟨(.type "code"),none,(.fields #[(.str "_law_draw" 594),(.str "_law_draw" 595),(.str "/claim/cut.py" 596),(.int (152) 0),(.int (2) 0),(.int (0) 0),(.int (0) 0),(.int (3) 0),(.ref 279),(.bool true),(.int (181) 0),(.ref 280),.none,(.ref 281),(.ref 282),(.ref 283),(.int (600) 0),(.int (152) 0),(.str "/claim/cut.py" 601)]),#[]⟩
noncomputable def kO285 (P : Params) : Obj := ⟨(.type "function"),none,(.func (fnOf "_law_draw" "_law_draw" (defArgs sDraw) (defBody sDraw) (defScope sDraw) .none .none .none (.str "law_platecuts_k51_turns_counted" 585) none (.ref 284) .none)),#[]⟩
noncomputable def kO291 (P : Params) : Obj := ⟨(.type "code"),none,(.fields #[(.str "_law_great" 603),(.str "_law_great" 604),(.str "/claim/cut.py" 605),(.int (159) 0),(.int (2) 0),(.int (0) 0),(.int (0) 0),(.int (3) 0),(.ref 286),(.bool true),(.int (181) 0),(.ref 287),.none,(.ref 288),(.ref 289),(.ref 290),(.int (610) 0),(.int (159) 0),(.str "/claim/cut.py" 611)]),#[]⟩
noncomputable def kO292 (P : Params) : Obj := ⟨(.type "function"),none,(.func (fnOf "_law_great" "_law_great" (defArgs sGreat) (defBody sGreat) (defScope sGreat) .none .none .none (.str "law_platecuts_k51_turns_counted" 585) none (.ref 291) .none)),#[]⟩
noncomputable def kO298 (P : Params) : Obj := ⟨(.type "code"),none,(.fields #[(.str "_law_leaf" 613),(.str "_law_leaf" 614),(.str "/claim/cut.py" 615),(.int (166) 0),(.int (4) 0),(.int (0) 0),(.int (0) 0),(.int (3) 0),(.ref 293),(.bool true),(.int (181) 0),(.ref 294),.none,(.ref 295),(.ref 296),(.ref 297),(.int (630) 0),(.int (166) 0),(.str "/claim/cut.py" 631)]),#[]⟩
noncomputable def kO299 (P : Params) : Obj := ⟨(.type "function"),none,(.func (fnOf "_law_leaf" "_law_leaf" (defArgs sLeaf) (defBody sLeaf) (defScope sLeaf) .none .none .none (.str "law_platecuts_k51_turns_counted" 585) none (.ref 298) .none)),#[]⟩
noncomputable def kO305 (P : Params) : Obj := ⟨(.type "code"),none,(.fields #[(.str "_law_way" 633),(.str "_law_way" 634),(.str "/claim/cut.py" 635),(.int (177) 0),(.int (3) 0),(.int (0) 0),(.int (0) 0),(.int (3) 0),(.ref 300),(.bool true),(.int (181) 0),(.ref 301),.none,(.ref 302),(.ref 303),(.ref 304),(.int (639) 0),(.int (177) 0),(.str "/claim/cut.py" 640)]),#[]⟩
noncomputable def kO306 (P : Params) : Obj := ⟨(.type "function"),none,(.func (fnOf "_law_way" "_law_way" (defArgs sWay) (defBody sWay) (defScope sWay) .none .none .none (.str "law_platecuts_k51_turns_counted" 585) none (.ref 305) .none)),#[]⟩
noncomputable def kO312 (P : Params) : Obj := ⟨(.type "code"),none,(.fields #[(.str "_law_tree" 642),(.str "_law_tree" 643),(.str "/claim/cut.py" 644),(.int (183) 0),(.int (8) 0),(.int (0) 0),(.int (0) 0),(.int (3) 0),(.ref 307),(.bool true),(.int (181) 0),(.ref 308),.none,(.ref 309),(.ref 310),(.ref 311),(.int (661) 0),(.int (183) 0),(.str "/claim/cut.py" 662)]),#[]⟩
noncomputable def kO313 (P : Params) : Obj := ⟨(.type "function"),none,(.func (fnOf "_law_tree" "_law_tree" (defArgs sTree) (defBody sTree) (defScope sTree) .none .none .none (.str "law_platecuts_k51_turns_counted" 585) none (.ref 312) .none)),#[]⟩
noncomputable def kO319 (P : Params) : Obj := ⟨(.type "code"),none,(.fields #[(.str "_law_row" 664),(.str "_law_row" 665),(.str "/claim/cut.py" 666),(.int (197) 0),(.int (4) 0),(.int (0) 0),(.int (0) 0),(.int (3) 0),(.ref 314),(.bool true),(.int (181) 0),(.ref 315),.none,(.ref 316),(.ref 317),(.ref 318),(.int (675) 0),(.int (197) 0),(.str "/claim/cut.py" 676)]),#[]⟩
noncomputable def kO320 (P : Params) : Obj := ⟨(.type "function"),none,(.func (fnOf "_law_row" "_law_row" (defArgs sLRow) (defBody sLRow) (defScope sLRow) .none .none .none (.str "law_platecuts_k51_turns_counted" 585) none (.ref 319) .none)),#[]⟩
noncomputable def kO326 (P : Params) : Obj := ⟨(.type "code"),none,(.fields #[(.str "_law_beside" 678),(.str "_law_beside" 679),(.str "/claim/cut.py" 680),(.int (206) 0),(.int (6) 0),(.int (0) 0),(.int (0) 0),(.int (3) 0),(.ref 321),(.bool true),(.int (181) 0),(.ref 322),.none,(.ref 323),(.ref 324),(.ref 325),(.int (687) 0),(.int (206) 0),(.str "/claim/cut.py" 688)]),#[]⟩
noncomputable def kO327 (P : Params) : Obj := ⟨(.type "function"),none,(.func (fnOf "_law_beside" "_law_beside" (defArgs sBeside) (defBody sBeside) (defScope sBeside) .none .none .none (.str "law_platecuts_k51_turns_counted" 585) none (.ref 326) .none)),#[]⟩
noncomputable def kO333 (P : Params) : Obj := ⟨(.type "code"),none,(.fields #[(.str "_law_around" 690),(.str "_law_around" 691),(.str "/claim/cut.py" 692),(.int (210) 0),(.int (6) 0),(.int (0) 0),(.int (0) 0),(.int (3) 0),(.ref 328),(.bool true),(.int (181) 0),(.ref 329),.none,(.ref 330),(.ref 331),(.ref 332),(.int (708) 0),(.int (210) 0),(.str "/claim/cut.py" 709)]),#[]⟩
noncomputable def kO334 (P : Params) : Obj := ⟨(.type "function"),none,(.func (fnOf "_law_around" "_law_around" (defArgs sAround) (defBody sAround) (defScope sAround) .none .none .none (.str "law_platecuts_k51_turns_counted" 585) none (.ref 333) .none)),#[]⟩
noncomputable def kO340 (P : Params) : Obj := ⟨(.type "code"),none,(.fields #[(.str "_law_deep" 711),(.str "_law_deep" 712),(.str "/claim/cut.py" 713),(.int (226) 0),(.int (4) 0),(.int (0) 0),(.int (0) 0),(.int (3) 0),(.ref 335),(.bool true),(.int (181) 0),(.ref 336),.none,(.ref 337),(.ref 338),(.ref 339),(.int (721) 0),(.int (226) 0),(.str "/claim/cut.py" 722)]),#[]⟩
noncomputable def kO341 (P : Params) : Obj := ⟨(.type "function"),none,(.func (fnOf "_law_deep" "_law_deep" (defArgs sDeep) (defBody sDeep) (defScope sDeep) .none .none .none (.str "law_platecuts_k51_turns_counted" 585) none (.ref 340) .none)),#[]⟩
noncomputable def kO347 (P : Params) : Obj := ⟨(.type "code"),none,(.fields #[(.str "_law_drawn" 724),(.str "_law_drawn" 725),(.str "/claim/cut.py" 726),(.int (232) 0),(.int (3) 0),(.int (0) 0),(.int (0) 0),(.int (3) 0),(.ref 342),(.bool true),(.int (181) 0),(.ref 343),.none,(.ref 344),(.ref 345),(.ref 346),(.int (732) 0),(.int (232) 0),(.str "/claim/cut.py" 733)]),#[]⟩
noncomputable def kO348 (P : Params) : Obj := ⟨(.type "function"),none,(.func (fnOf "_law_drawn" "_law_drawn" (defArgs sDrawn) (defBody sDrawn) (defScope sDrawn) .none .none .none (.str "law_platecuts_k51_turns_counted" 585) none (.ref 347) .none)),#[]⟩
noncomputable def kO354 (P : Params) : Obj := ⟨(.type "code"),none,(.fields #[(.str "_law_ways" 735),(.str "_law_ways" 736),(.str "/claim/cut.py" 737),(.int (238) 0),(.int (2) 0),(.int (0) 0),(.int (0) 0),(.int (3) 0),(.ref 349),(.bool true),(.int (181) 0),(.ref 350),.none,(.ref 351),(.ref 352),(.ref 353),(.int (740) 0),(.int (238) 0),(.str "/claim/cut.py" 741)]),#[]⟩
noncomputable def kO355 (P : Params) : Obj := ⟨(.type "function"),none,(.func (fnOf "_law_ways" "_law_ways" (defArgs sWays) (defBody sWays) (defScope sWays) .none .none .none (.str "law_platecuts_k51_turns_counted" 585) none (.ref 354) .none)),#[]⟩
noncomputable def kO359 (P : Params) : Obj := ⟨(.type "code"),none,(.fields #[(.str "_law_due" 743),(.str "_law_due" 744),(.str "/claim/cut.py" 745),(.int (242) 0),(.int (1) 0),(.int (0) 0),(.int (0) 0),(.int (3) 0),(.ref 356),(.bool true),(.int (181) 0),(.ref 357),.none,.none,.none,(.ref 358),(.int (746) 0),(.int (242) 0),(.str "/claim/cut.py" 747)]),#[]⟩
noncomputable def kO360 (P : Params) : Obj := ⟨(.type "function"),none,(.func (fnOf "_law_due" "_law_due" (defArgs sDue) (defBody sDue) (defScope sDue) .none .none .none (.str "law_platecuts_k51_turns_counted" 585) none (.ref 359) .none)),#[]⟩
noncomputable def kO364 (P : Params) : Obj := ⟨(.type "code"),none,(.fields #[(.str "_law_listed" 749),(.str "_law_listed" 750),(.str "/claim/cut.py" 751),(.int (247) 0),(.int (1) 0),(.int (0) 0),(.int (0) 0),(.int (3) 0),(.ref 361),(.bool true),(.int (181) 0),(.ref 362),.none,.none,.none,(.ref 363),(.int (752) 0),(.int (247) 0),(.str "/claim/cut.py" 753)]),#[]⟩
noncomputable def kO365 (P : Params) : Obj := ⟨(.type "function"),none,(.func (fnOf "_law_listed" "_law_listed" (defArgs sListed) (defBody sListed) (defScope sListed) .none .none .none (.str "law_platecuts_k51_turns_counted" 585) none (.ref 364) .none)),#[]⟩
noncomputable def kO371 (P : Params) : Obj := ⟨(.type "code"),none,(.fields #[(.str "_law_bad" 755),(.str "_law_bad" 756),(.str "/claim/cut.py" 757),(.int (249) 0),(.int (3) 0),(.int (0) 0),(.int (0) 0),(.int (3) 0),(.ref 366),(.bool true),(.int (181) 0),(.ref 367),.none,(.ref 368),(.ref 369),(.ref 370),(.int (763) 0),(.int (249) 0),(.str "/claim/cut.py" 764)]),#[]⟩
noncomputable def kO372 (P : Params) : Obj := ⟨(.type "function"),none,(.func (fnOf "_law_bad" "_law_bad" (defArgs sBad) (defBody sBad) (defScope sBad) .none .none .none (.str "law_platecuts_k51_turns_counted" 585) none (.ref 371) .none)),#[]⟩
noncomputable def kO378 (P : Params) : Obj := ⟨(.type "code"),none,(.fields #[(.str "_law_spoilt" 766),(.str "_law_spoilt" 767),(.str "/claim/cut.py" 768),(.int (255) 0),(.int (3) 0),(.int (0) 0),(.int (0) 0),(.int (3) 0),(.ref 373),(.bool true),(.int (181) 0),(.ref 374),.none,(.ref 375),(.ref 376),(.ref 377),(.int (773) 0),(.int (255) 0),(.str "/claim/cut.py" 774)]),#[]⟩
noncomputable def kO379 (P : Params) : Obj := ⟨(.type "function"),none,(.func (fnOf "_law_spoilt" "_law_spoilt" (defArgs sSpoilt) (defBody sSpoilt) (defScope sSpoilt) .none .none .none (.str "law_platecuts_k51_turns_counted" 585) none (.ref 378) .none)),#[]⟩
noncomputable def kO385 (P : Params) : Obj := ⟨(.type "code"),none,(.fields #[(.str "_law_refused" 776),(.str "_law_refused" 777),(.str "/claim/cut.py" 778),(.int (260) 0),(.int (4) 0),(.int (0) 0),(.int (0) 0),(.int (3) 0),(.ref 380),(.bool true),(.int (181) 0),(.ref 381),.none,(.ref 382),(.ref 383),(.ref 384),(.int (785) 0),(.int (260) 0),(.str "/claim/cut.py" 786)]),#[]⟩
noncomputable def kO386 (P : Params) : Obj := ⟨(.type "function"),none,(.func (fnOf "_law_refused" "_law_refused" (defArgs sRefused) (defBody sRefused) (defScope sRefused) .none .none .none (.str "law_platecuts_k51_turns_counted" 585) none (.ref 385) .none)),#[]⟩
noncomputable def kO392 (P : Params) : Obj := ⟨(.type "code"),none,(.fields #[(.str "_law_side" 788),(.str "_law_side" 789),(.str "/claim/cut.py" 790),(.int (267) 0),(.int (1) 0),(.int (0) 0),(.int (0) 0),(.int (3) 0),(.ref 387),(.bool true),(.int (181) 0),(.ref 388),.none,(.ref 389),(.ref 390),(.ref 391),(.int (792) 0),(.int (267) 0),(.str "/claim/cut.py" 793)]),#[]⟩
noncomputable def kO393 (P : Params) : Obj := ⟨(.type "function"),none,(.func (fnOf "_law_side" "_law_side" (defArgs sSide) (defBody sSide) (defScope sSide) .none .none .none (.str "law_platecuts_k51_turns_counted" 585) none (.ref 392) .none)),#[]⟩
noncomputable def kO399 (P : Params) : Obj := ⟨(.type "code"),none,(.fields #[(.str "law" 795),(.str "law" 796),(.str "/claim/cut.py" 797),(.int (271) 0),(.int (1) 0),(.int (0) 0),(.int (0) 0),(.int (3) 0),(.ref 394),(.bool true),(.int (181) 0),(.ref 395),.none,(.ref 396),(.ref 397),(.ref 398),(.int (812) 0),(.int (271) 0),(.str "/claim/cut.py" 813)]),#[]⟩
noncomputable def kO400 (P : Params) : Obj := ⟨(.type "function"),none,(.func (fnOf "law" "law" (defArgs sLaw) (defBody sLaw) (defScope sLaw) .none .none .none (.str "law_platecuts_k51_turns_counted" 585) none (.ref 399) .none)),#[]⟩
noncomputable def kK : Params → Frag := fun P => (nat_lit 3,kO3 P) :: (nat_lit 20,kO20 P) :: (nat_lit 21,kO21 P) :: (nat_lit 30,kO30 P) :: (nat_lit 31,kO31 P) :: (nat_lit 43,kO43 P) :: (nat_lit 44,kO44 P) :: (nat_lit 55,kO55 P) :: (nat_lit 56,kO56 P) :: (nat_lit 67,kO67 P) :: (nat_lit 68,kO68 P) :: (nat_lit 79,kO79 P) :: (nat_lit 80,kO80 P) :: (nat_lit 91,kO91 P) :: (nat_lit 92,kO92 P) :: (nat_lit 103,kO103 P) :: (nat_lit 104,kO104 P) :: (nat_lit 112,kO112 P) :: (nat_lit 113,kO113 P) :: (nat_lit 119,kO119 P) :: (nat_lit 120,kO120 P) :: (nat_lit 126,kO126 P) :: (nat_lit 127,kO127 P) :: (nat_lit 133,kO133 P) :: (nat_lit 134,kO134 P) :: (nat_lit 135,kO135 P) :: (nat_lit 141,kO141 P) :: (nat_lit 142,kO142 P) :: (nat_lit 148,kO148 P) :: (nat_lit 149,kO149 P) :: (nat_lit 155,kO155 P) :: (nat_lit 156,kO156 P) :: (nat_lit 162,kO162 P) :: (nat_lit 163,kO163 P) :: (nat_lit 169,kO169 P) :: (nat_lit 170,kO170 P) :: (nat_lit 176,kO176 P) :: (nat_lit 177,kO177 P) :: (nat_lit 183,kO183 P) :: (nat_lit 184,kO184 P) :: (nat_lit 190,kO190 P) :: (nat_lit 191,kO191 P) :: (nat_lit 197,kO197 P) :: (nat_lit 198,kO198 P) :: (nat_lit 204,kO204 P) :: (nat_lit 205,kO205 P) :: (nat_lit 211,kO211 P) :: (nat_lit 212,kO212 P) :: (nat_lit 223,kO223 P) :: (nat_lit 224,kO224 P) :: (nat_lit 230,kO230 P) :: (nat_lit 231,kO231 P) :: (nat_lit 237,kO237 P) :: (nat_lit 238,kO238 P) :: (nat_lit 242,kO242 P) :: (nat_lit 243,kO243 P) :: (nat_lit 249,kO249 P) :: (nat_lit 250,kO250 P) :: (nat_lit 256,kO256 P) :: (nat_lit 257,kO257 P) :: (nat_lit 263,kO263 P) :: (nat_lit 264,kO264 P) :: (nat_lit 266,kO266 P) :: (nat_lit 267,kO267 P) :: (nat_lit 277,kO277 P) :: (nat_lit 278,kO278 P) :: (nat_lit 284,kO284 P) :: (nat_lit 285,kO285 P) :: (nat_lit 291,kO291 P) :: (nat_lit 292,kO292 P) :: (nat_lit 298,kO298 P) :: (nat_lit 299,kO299 P) :: (nat_lit 305,kO305 P) :: (nat_lit 306,kO306 P) :: (nat_lit 312,kO312 P) :: (nat_lit 313,kO313 P) :: (nat_lit 319,kO319 P) :: (nat_lit 320,kO320 P) :: (nat_lit 326,kO326 P) :: (nat_lit 327,kO327 P) :: (nat_lit 333,kO333 P) :: (nat_lit 334,kO334 P) :: (nat_lit 340,kO340 P) :: (nat_lit 341,kO341 P) :: (nat_lit 347,kO347 P) :: (nat_lit 348,kO348 P) :: (nat_lit 354,kO354 P) :: (nat_lit 355,kO355 P) :: (nat_lit 359,kO359 P) :: (nat_lit 360,kO360 P) :: (nat_lit 364,kO364 P) :: (nat_lit 365,kO365 P) :: (nat_lit 371,kO371 P) :: (nat_lit 372,kO372 P) :: (nat_lit 378,kO378 P) :: (nat_lit 379,kO379 P) :: (nat_lit 385,kO385 P) :: (nat_lit 386,kO386 P) :: (nat_lit 392,kO392 P) :: (nat_lit 393,kO393 P) :: (nat_lit 399,kO399 P) :: (nat_lit 400,kO400 P) :: []
end
end Pc
set_option maxHeartbeats 0
lay_quick PySem.Challenge.pw_platecuts_k51_turns_counted
namespace Hd
open PySem PySem.W
noncomputable def S0 : Str := ⟨⟨[95,95,110,97,109,101,95,95]⟩⟩
noncomputable def S2 : Str := ⟨⟨[95,95,100,111,99,95,95]⟩⟩
noncomputable def S3 : Str := ⟨⟨[95,95,112,97,99,107,97,103,101,95,95]⟩⟩
noncomputable def S4 : Str := ⟨⟨[95,95,108,111,97,100,101,114,95,95]⟩⟩
noncomputable def S5 : Str := ⟨⟨[95,95,115,112,101,99,95,95]⟩⟩
noncomputable def S160 : Str := ⟨⟨[95,95,109,97,105,110,95,95]⟩⟩
noncomputable def S161 : Str := ⟨⟨[95,95,97,110,110,111,116,97,116,105,111,110,115,95,95]⟩⟩
noncomputable def S162 : Str := ⟨⟨[95,95,98,117,105,108,116,105,110,115,95,95]⟩⟩
noncomputable def S163 : Str := ⟨⟨[95,95,102,105,108,101,95,95]⟩⟩
noncomputable def S164 : Str := ⟨⟨[47,99,108,97,105,109,47,99,117,116,46,112,121]⟩⟩
noncomputable def S165 : Str := ⟨⟨[95,95,99,97,99,104,101,100,95,95]⟩⟩
noncomputable def S166 : Str := ⟨⟨[60,109,111,100,117,108,101,62]⟩⟩
noncomputable def S167 : Str := ⟨⟨[112,108,97,116,101,99,117,116,115,46,116,114,101,101,115]⟩⟩
noncomputable def S168 : Str := ⟨⟨[95,119,97,108,108]⟩⟩
noncomputable def S169 : Str := ⟨⟨[80,108,97,116,101,69,114,114,111,114]⟩⟩
noncomputable def S170 : Str := ⟨⟨[78,111,66,108,97,100,101]⟩⟩
noncomputable def S171 : Str := ⟨⟨[78,111,75,105,110,100,115]⟩⟩
noncomputable def S172 : Str := ⟨⟨[78,111,75,105,110,100]⟩⟩
noncomputable def S173 : Str := ⟨⟨[78,111,76,121,105,110,103]⟩⟩
noncomputable def S174 : Str := ⟨⟨[78,111,80,108,97,116,101]⟩⟩
noncomputable def S175 : Str := ⟨⟨[78,111,84,114,101,101]⟩⟩
noncomputable def S176 : Str := ⟨⟨[105,115,95,119,104,111,108,101]⟩⟩
noncomputable def S177 : Str := ⟨⟨[105,115,95,116,114,117,116,104]⟩⟩
noncomputable def S178 : Str := ⟨⟨[105,115,95,114,111,119]⟩⟩
noncomputable def S179 : Str := ⟨⟨[99,104,101,99,107,95,112,108,97,116,101]⟩⟩
noncomputable def S180 : Str := ⟨⟨[68,79,87,78]⟩⟩
noncomputable def S181 : Str := ⟨⟨[100,111,119,110]⟩⟩
noncomputable def S182 : Str := ⟨⟨[65,67,82,79,83,83]⟩⟩
noncomputable def S183 : Str := ⟨⟨[97,99,114,111,115,115]⟩⟩
noncomputable def S184 : Str := ⟨⟨[87,65,89,83]⟩⟩
noncomputable def S185 : Str := ⟨⟨[108,105,101,115,95,105,110]⟩⟩
noncomputable def S186 : Str := ⟨⟨[99,117,116,95,112,97,114,116,115]⟩⟩
noncomputable def S187 : Str := ⟨⟨[82,69,83,84]⟩⟩
noncomputable def S188 : Str := ⟨⟨[114,101,115,116]⟩⟩
noncomputable def S189 : Str := ⟨⟨[80,73,69,67,69]⟩⟩
noncomputable def S190 : Str := ⟨⟨[112,105,101,99,101]⟩⟩
noncomputable def S191 : Str := ⟨⟨[84,72,73,78,71,83,95,79,70,95,65,95,82,69,83,84]⟩⟩
noncomputable def S192 : Str := ⟨⟨[84,72,73,78,71,83,95,79,70,95,65,95,80,73,69,67,69]⟩⟩
noncomputable def S193 : Str := ⟨⟨[84,72,73,78,71,83,95,79,70,95,65,95,67,85,84]⟩⟩
noncomputable def S194 : Str := ⟨⟨[98,101,103,105,110,115,95,119,105,116,104]⟩⟩
noncomputable def S195 : Str := ⟨⟨[105,115,95,99,117,116]⟩⟩
noncomputable def S196 : Str := ⟨⟨[105,115,95,108,101,97,102]⟩⟩
noncomputable def S197 : Str := ⟨⟨[115,112,111,116,115,95,98,101,104,105,110,100]⟩⟩
noncomputable def S198 : Str := ⟨⟨[105,115,95,116,114,101,101]⟩⟩
noncomputable def S199 : Str := ⟨⟨[107]⟩⟩
noncomputable def S200 : Str := ⟨⟨[95,95,109,111,100,117,108,101,95,95]⟩⟩
noncomputable def S201 : Str := ⟨⟨[112,108,97,116,101,99,117,116,115,46,101,114,114,111,114,115]⟩⟩
noncomputable def S202 : Str := ⟨⟨[95,95,113,117,97,108,110,97,109,101,95,95]⟩⟩
noncomputable def S203 : Str := ⟨⟨[95,95,102,105,114,115,116,108,105,110,101,110,111,95,95]⟩⟩
noncomputable def S204 : Str := ⟨⟨[95,95,115,116,97,116,105,99,95,97,116,116,114,105,98,117,116,101,115,95,95]⟩⟩
noncomputable def S205 : Str := ⟨⟨[95,95,119,101,97,107,114,101,102,95,95]⟩⟩
noncomputable def S206 : Str := ⟨⟨[116,104,105,110,103]⟩⟩
noncomputable def S207 : Str := ⟨⟨[108,101,97,115,116]⟩⟩
noncomputable def S208 : Str := ⟨⟨[112,108,97,116,101,99,117,116,115,46,99,104,101,99,107,115]⟩⟩
noncomputable def S209 : Str := ⟨⟨[119,105,100,101]⟩⟩
noncomputable def S210 : Str := ⟨⟨[104,105,103,104]⟩⟩
noncomputable def S211 : Str := ⟨⟨[115,104,111,112]⟩⟩
noncomputable def S212 : Str := ⟨⟨[107,105,110,100]⟩⟩
noncomputable def S213 : Str := ⟨⟨[116,117,114,110,101,100]⟩⟩
noncomputable def S214 : Str := ⟨⟨[120]⟩⟩
noncomputable def S215 : Str := ⟨⟨[121]⟩⟩
noncomputable def S216 : Str := ⟨⟨[112,105,101,99,101,95,119,105,100,101]⟩⟩
noncomputable def S217 : Str := ⟨⟨[112,105,101,99,101,95,104,105,103,104]⟩⟩
noncomputable def S218 : Str := ⟨⟨[112,108,97,116,101,99,117,116,115,46,112,97,114,116,115]⟩⟩
noncomputable def S219 : Str := ⟨⟨[98,108,97,100,101]⟩⟩
noncomputable def S220 : Str := ⟨⟨[112,97,114,116]⟩⟩
noncomputable def S221 : Str := ⟨⟨[119,97,121]⟩⟩
noncomputable def S222 : Str := ⟨⟨[112]⟩⟩
noncomputable def S223 : Str := ⟨⟨[119,111,114,100]⟩⟩
noncomputable def S224 : Str := ⟨⟨[109,97,110,121]⟩⟩
noncomputable def S225 : Str := ⟨⟨[115,112,111,116]⟩⟩
noncomputable def S226 : Str := ⟨⟨[116,114,101,101]⟩⟩
noncomputable def S227 : Str := ⟨⟨[115,105,100,101]⟩⟩
noncomputable def S228 : Str := ⟨⟨[102,105,114,115,116]⟩⟩
noncomputable def S229 : Str := ⟨⟨[115,101,99,111,110,100]⟩⟩
noncomputable def S230 : Str := ⟨⟨[119,105,100,101,95,97,104,101,97,100]⟩⟩
noncomputable def S231 : Str := ⟨⟨[104,105,103,104,95,97,104,101,97,100]⟩⟩
noncomputable def S232 : Str := ⟨⟨[119,105,100,101,95,98,101,104,105,110,100]⟩⟩
noncomputable def S233 : Str := ⟨⟨[104,105,103,104,95,98,101,104,105,110,100]⟩⟩
noncomputable def S234 : Str := ⟨⟨[115,116,101,112]⟩⟩
noncomputable def S235 : Str := ⟨⟨[102,97,114,95,120]⟩⟩
noncomputable def S236 : Str := ⟨⟨[102,97,114,95,121]⟩⟩
noncomputable def S237 : Str := ⟨⟨[119,97,105,116,105,110,103]⟩⟩
noncomputable def S238 : Str := ⟨⟨[108,97,119,95,112,108,97,116,101,99,117,116,115,95,107,53,49,95,116,117,114,110,115,95,99,111,117,110,116,101,100]⟩⟩
noncomputable def S239 : Str := ⟨⟨[99,104,101,99,107,95,116,114,101,101]⟩⟩
noncomputable def S240 : Str := ⟨⟨[116,117,114,110,115,95,111,102]⟩⟩
noncomputable def S241 : Str := ⟨⟨[77,79,83,84,95,75,73,78,68,83]⟩⟩
noncomputable def S242 : Str := ⟨⟨[84,72,73,78,71,83,95,79,70,95,65,95,75,73,78,68]⟩⟩
noncomputable def S243 : Str := ⟨⟨[105,115,95,107,105,110,100]⟩⟩
noncomputable def S244 : Str := ⟨⟨[99,97,110,95,108,105,101,95,116,117,114,110,101,100]⟩⟩
noncomputable def S245 : Str := ⟨⟨[83,104,111,112]⟩⟩
noncomputable def S246 : Str := ⟨⟨[95,108,97,119,95,112,111,116]⟩⟩
noncomputable def S247 : Str := ⟨⟨[95,108,97,119,95,100,114,97,119]⟩⟩
noncomputable def S248 : Str := ⟨⟨[95,108,97,119,95,103,114,101,97,116]⟩⟩
noncomputable def S249 : Str := ⟨⟨[95,108,97,119,95,108,101,97,102]⟩⟩
noncomputable def S250 : Str := ⟨⟨[95,108,97,119,95,119,97,121]⟩⟩
noncomputable def S251 : Str := ⟨⟨[95,108,97,119,95,116,114,101,101]⟩⟩
noncomputable def S252 : Str := ⟨⟨[95,108,97,119,95,114,111,119]⟩⟩
noncomputable def S253 : Str := ⟨⟨[95,108,97,119,95,98,101,115,105,100,101]⟩⟩
noncomputable def S254 : Str := ⟨⟨[95,108,97,119,95,97,114,111,117,110,100]⟩⟩
noncomputable def S255 : Str := ⟨⟨[95,108,97,119,95,100,101,101,112]⟩⟩
noncomputable def S256 : Str := ⟨⟨[95,108,97,119,95,100,114,97,119,110]⟩⟩
noncomputable def S257 : Str := ⟨⟨[95,108,97,119,95,119,97,121,115]⟩⟩
noncomputable def S258 : Str := ⟨⟨[95,108,97,119,95,100,117,101]⟩⟩
noncomputable def S259 : Str := ⟨⟨[95,108,97,119,95,108,105,115,116,101,100]⟩⟩
noncomputable def S260 : Str := ⟨⟨[95,108,97,119,95,98,97,100]⟩⟩
noncomputable def S261 : Str := ⟨⟨[95,108,97,119,95,115,112,111,105,108,116]⟩⟩
noncomputable def S262 : Str := ⟨⟨[95,108,97,119,95,114,101,102,117,115,101,100]⟩⟩
noncomputable def S263 : Str := ⟨⟨[95,108,97,119,95,115,105,100,101]⟩⟩
noncomputable def S264 : Str := ⟨⟨[108,97,119]⟩⟩
noncomputable def S265 : Str := ⟨⟨[109,111,115,116]⟩⟩
noncomputable def S266 : Str := ⟨⟨[112,97,114,116,95,116,114,101,101]⟩⟩
noncomputable def S267 : Str := ⟨⟨[119,97,121,95,97,104,101,97,100]⟩⟩
noncomputable def S268 : Str := ⟨⟨[116,117,114,110,115]⟩⟩
noncomputable def S269 : Str := ⟨⟨[112,108,97,116,101,99,117,116,115,46,116,117,114,110,105,110,103]⟩⟩
noncomputable def S270 : Str := ⟨⟨[119,111,114,116,104]⟩⟩
noncomputable def S271 : Str := ⟨⟨[119,97,110,116,101,100]⟩⟩
noncomputable def S272 : Str := ⟨⟨[112,108,97,116,101,99,117,116,115,46,115,104,111,112,115]⟩⟩
noncomputable def S273 : Str := ⟨⟨[95,95,105,110,105,116,95,95]⟩⟩
noncomputable def S274 : Str := ⟨⟨[107,105,110,100,115]⟩⟩
noncomputable def S275 : Str := ⟨⟨[108,121,105,110,103,115]⟩⟩
noncomputable def S276 : Str := ⟨⟨[105,115,95,108,121,105,110,103]⟩⟩
noncomputable def S277 : Str := ⟨⟨[115,105,100,101,115]⟩⟩
noncomputable def S278 : Str := ⟨⟨[83,104,111,112,46,95,95,105,110,105,116,95,95]⟩⟩
noncomputable def S279 : Str := ⟨⟨[115,101,108,102]⟩⟩
noncomputable def S280 : Str := ⟨⟨[83,104,111,112,46,98,108,97,100,101]⟩⟩
noncomputable def S281 : Str := ⟨⟨[83,104,111,112,46,107,105,110,100,115]⟩⟩
noncomputable def S282 : Str := ⟨⟨[83,104,111,112,46,119,97,110,116,101,100]⟩⟩
noncomputable def S283 : Str := ⟨⟨[83,104,111,112,46,108,121,105,110,103,115]⟩⟩
noncomputable def S284 : Str := ⟨⟨[83,104,111,112,46,105,115,95,108,121,105,110,103]⟩⟩
noncomputable def S285 : Str := ⟨⟨[114,111,119]⟩⟩
noncomputable def S286 : Str := ⟨⟨[83,104,111,112,46,115,105,100,101,115]⟩⟩
noncomputable def S287 : Str := ⟨⟨[98,108,97,100,101,95,119,105,100,116,104]⟩⟩
noncomputable def S288 : Str := ⟨⟨[107,105,110,100,95,114,111,119,115]⟩⟩
noncomputable def S289 : Str := ⟨⟨[95,95,100,105,99,116,95,95]⟩⟩
noncomputable def S290 : Str := ⟨⟨[95,108,97,119,95,99,101,108,108]⟩⟩
noncomputable def S291 : Str := ⟨⟨[95,108,97,119,95,112,111,116,95,104,101,114,101]⟩⟩
noncomputable def S292 : Str := ⟨⟨[95,108,97,119,95,109,97,110,121]⟩⟩
noncomputable def S293 : Str := ⟨⟨[95,108,97,119,95,110,117,109,98,101,114]⟩⟩
noncomputable def S294 : Str := ⟨⟨[95,108,97,119,95,102,111,117,110,100]⟩⟩
noncomputable def S295 : Str := ⟨⟨[95,108,97,119,95,107]⟩⟩
noncomputable def S296 : Str := ⟨⟨[95,108,97,119,95,107,105,110,100,115]⟩⟩
noncomputable def S297 : Str := ⟨⟨[95,108,97,119,95,119,105,100,101]⟩⟩
noncomputable def S298 : Str := ⟨⟨[95,108,97,119,95,104,105,103,104]⟩⟩
noncomputable def S299 : Str := ⟨⟨[95,108,97,119,95,115,111,109,101]⟩⟩
noncomputable def S300 : Str := ⟨⟨[95,108,97,119,95,111,119,110,95,119,105,100,101]⟩⟩
noncomputable def S301 : Str := ⟨⟨[95,108,97,119,95,111,119,110,95,104,105,103,104]⟩⟩
noncomputable def S302 : Str := ⟨⟨[95,108,97,119,95,119,111,114,116,104]⟩⟩
noncomputable def S303 : Str := ⟨⟨[95,108,97,119,95,119,97,110,116,101,100]⟩⟩
noncomputable def S304 : Str := ⟨⟨[95,108,97,119,95,116,117,114,110,115]⟩⟩
noncomputable def S305 : Str := ⟨⟨[95,108,97,119,95,116,117,114,110,101,100]⟩⟩
noncomputable def S306 : Str := ⟨⟨[95,108,97,119,95,114,105,103,104,116]⟩⟩
noncomputable def S307 : Str := ⟨⟨[95,108,97,119,95,117,112]⟩⟩
noncomputable def S308 : Str := ⟨⟨[95,108,97,119,95,115,111,114,116]⟩⟩
noncomputable def S309 : Str := ⟨⟨[95,108,97,119,95,108,97,115,116]⟩⟩
noncomputable def S310 : Str := ⟨⟨[95,108,97,119,95,98,117,100,103,101,116]⟩⟩
noncomputable def S311 : Str := ⟨⟨[95,108,97,119,95,98,108,97,100,101]⟩⟩
noncomputable def S312 : Str := ⟨⟨[95,108,97,119,95,112,97,114,116]⟩⟩
noncomputable def S313 : Str := ⟨⟨[95,108,97,119,95,100,101,112,116,104]⟩⟩
noncomputable def S314 : Str := ⟨⟨[95,108,97,119,95,119,97,121,95,104,101,114,101]⟩⟩
noncomputable def S315 : Str := ⟨⟨[95,108,97,119,95,115,105,100,101,95,104,101,114,101]⟩⟩
noncomputable def S316 : Str := ⟨⟨[95,108,97,119,95,112]⟩⟩
noncomputable def S317 : Str := ⟨⟨[95,108,97,119,95,111,110,101]⟩⟩
noncomputable def S318 : Str := ⟨⟨[95,108,97,119,95,111,116,104,101,114]⟩⟩
noncomputable def S319 : Str := ⟨⟨[95,108,97,119,95,116,114,101,101,95,104,101,114,101]⟩⟩
noncomputable def S320 : Str := ⟨⟨[95,108,97,119,95,109,111,114,101]⟩⟩
noncomputable def S321 : Str := ⟨⟨[95,108,97,119,95,98,101,115,105,100,101,95,104,101,114,101]⟩⟩
noncomputable def S322 : Str := ⟨⟨[95,108,97,119,95,119,104,111,108,101]⟩⟩
noncomputable def S323 : Str := ⟨⟨[95,108,97,119,95,111,119,110]⟩⟩
noncomputable def S324 : Str := ⟨⟨[95,108,97,119,95,97,104,101,97,100]⟩⟩
noncomputable def S325 : Str := ⟨⟨[95,108,97,119,95,115,104,111,112]⟩⟩
noncomputable def S326 : Str := ⟨⟨[95,108,97,119,95,116,111,108,100]⟩⟩
noncomputable def S327 : Str := ⟨⟨[101]⟩⟩
noncomputable def S328 : Str := ⟨⟨[95,108,97,119,95,115,99,114,105,112,116]⟩⟩
noncomputable def S329 : Str := ⟨⟨[95,108,97,119,95,108,105,115,116,101,100,95,104,101,114,101]⟩⟩
noncomputable def S330 : Str := ⟨⟨[95,108,97,119,95,107,101,112,116]⟩⟩
noncomputable def S331 : Str := ⟨⟨[95,108,97,119,95,98,97,100,95,104,101,114,101]⟩⟩
noncomputable abbrev HK : Hook := kHook Pc.kK [nat_lit 3,nat_lit 20,nat_lit 21,nat_lit 30,nat_lit 31,nat_lit 43,nat_lit 44,nat_lit 55,nat_lit 56,nat_lit 67,nat_lit 68,nat_lit 79,nat_lit 80,nat_lit 91,nat_lit 92,nat_lit 103,nat_lit 104,nat_lit 112,nat_lit 113,nat_lit 119,nat_lit 120,nat_lit 126,nat_lit 127,nat_lit 133,nat_lit 134,nat_lit 135,nat_lit 141,nat_lit 142,nat_lit 148,nat_lit 149,nat_lit 155,nat_lit 156,nat_lit 162,nat_lit 163,nat_lit 169,nat_lit 170,nat_lit 176,nat_lit 177,nat_lit 183,nat_lit 184,nat_lit 190,nat_lit 191,nat_lit 197,nat_lit 198,nat_lit 204,nat_lit 205,nat_lit 211,nat_lit 212,nat_lit 223,nat_lit 224,nat_lit 230,nat_lit 231,nat_lit 237,nat_lit 238,nat_lit 242,nat_lit 243,nat_lit 249,nat_lit 250,nat_lit 256,nat_lit 257,nat_lit 263,nat_lit 264,nat_lit 266,nat_lit 267,nat_lit 277,nat_lit 278,nat_lit 284,nat_lit 285,nat_lit 291,nat_lit 292,nat_lit 298,nat_lit 299,nat_lit 305,nat_lit 306,nat_lit 312,nat_lit 313,nat_lit 319,nat_lit 320,nat_lit 326,nat_lit 327,nat_lit 333,nat_lit 334,nat_lit 340,nat_lit 341,nat_lit 347,nat_lit 348,nat_lit 354,nat_lit 355,nat_lit 359,nat_lit 360,nat_lit 364,nat_lit 365,nat_lit 371,nat_lit 372,nat_lit 378,nat_lit 379,nat_lit 385,nat_lit 386,nat_lit 392,nat_lit 393,nat_lit 399,nat_lit 400] (fun _ => by kernel_rfl)
noncomputable abbrev pt : Program := PySem.W.Fast.tw13245593863721793529
theorem pt_eq : PySem.Challenge.pw_platecuts_k51_turns_counted = pt := PySem.W.Fast.te13245593863721793529
noncomputable def tp (i : Nat) : Stmt := pt.main.body.getD i (.Pass ⟨0,0,0,0⟩)
noncomputable abbrev f (o : Params → Obj) (l r : Params → BT) : Params → BT := fun P => .node (o P) (l P) (r P)
noncomputable abbrev z : Params → BT := fun _ => .nil
noncomputable abbrev e (P : Params) (n : Str) (t : Nat) (v : Value) : DictEntry := ⟨PyData.keyHash P n,.str n t,v⟩
noncomputable abbrev m0 : Nat := nat_lit 11
noncomputable abbrev an : Option Value := (some (.ref 6))
noncomputable abbrev en : Env := { scope := pt.main.scope,locals := mainNs,globals := mainNs,cells := [],code := (.ref 13),frame := some 14 }
noncomputable abbrev cE : Code := .body (behindTheImports pt) en
noncomputable abbrev qP : Pos := ⟨0,0,0,0⟩
noncomputable abbrev B : List Frame := [topFrame qP]
noncomputable abbrev L0 : String := PySem.W.SL.s14018661285674007319x4
noncomputable abbrev L1 : String := PySem.W.SL.s11665532747177232413x24
noncomputable abbrev L2 : String := PySem.W.SL.s15183661809925369436x15
noncomputable abbrev L3 : String := PySem.W.SL.s13915890719876406383x10
noncomputable abbrev L4 : String := PySem.W.SL.s13459172003223722735x3
noncomputable abbrev L5 : String := PySem.W.SL.s10557405761357834076x3
noncomputable abbrev L6 : String := PySem.W.SL.s4233737765568776869x3
noncomputable abbrev L7 : String := PySem.W.SL.s2508922471967985374x5
noncomputable abbrev L8 : String := PySem.W.SL.s15574269061696679450x3
noncomputable abbrev L9 : String := PySem.W.SL.s6016482663378992977x10
noncomputable abbrev L10 : String := PySem.W.SL.s5596568736180474577x8
noncomputable abbrev L11 : String := PySem.W.SL.s2839554839881490554x3
noncomputable abbrev L12 : String := PySem.W.SL.s725004073602090463x7
noncomputable abbrev L13 : String := PySem.W.SL.s9436932552931045734x7
noncomputable abbrev L14 : String := PySem.W.SL.s2754603736356183583x3
noncomputable abbrev L15 : String := PySem.W.SL.s15185746759980889043x6
noncomputable abbrev L16 : String := PySem.W.SL.s8192189862530294059x4
noncomputable abbrev L17 : String := PySem.W.SL.s7038307821325472102x4
noncomputable abbrev L18 : String := PySem.W.SL.s5662562618415449548x6
noncomputable abbrev L19 : String := PySem.W.SL.s15281542589158584767x7
noncomputable abbrev L20 : String := PySem.W.SL.s17651547275483570877x7
noncomputable abbrev L21 : String := PySem.W.SL.s4036449017235975746x7
noncomputable abbrev L22 : String := PySem.W.SL.s8879979712987360175x4
noncomputable abbrev L23 : String := PySem.W.SL.s1801250619170735830x3
noncomputable abbrev L24 : String := PySem.W.SL.s17659931425627118568x2
noncomputable abbrev L25 : String := PySem.W.SL.s6063217899685152688x5
noncomputable abbrev L26 : String := PySem.W.SL.s8008927332132565319x10
noncomputable abbrev L27 : String := PySem.W.SL.s3544116645089599534x10
noncomputable abbrev L28 : String := PySem.W.SL.s13761710972054866084x4
noncomputable abbrev L29 : String := PySem.W.SL.s12896375587409280029x5
noncomputable abbrev L30 : String := PySem.W.SL.s13014049009108672802x3
noncomputable abbrev L31 : String := PySem.W.SL.s13935586738268321596x6
noncomputable abbrev L32 : String := PySem.W.SL.s8200498257699607233x3
noncomputable abbrev L33 : String := PySem.W.SL.s14114244577727609259x3
noncomputable abbrev L34 : String := PySem.W.SL.s1499430450269397089x4
noncomputable abbrev L35 : String := PySem.W.SL.s8755793994789770505x5
noncomputable abbrev L36 : String := PySem.W.SL.s15725212667919936108x3
noncomputable abbrev L37 : String := PySem.W.SL.s15791221867095933363x3
noncomputable abbrev L38 : String := PySem.W.SL.s81309575031448614x3
noncomputable abbrev L39 : String := PySem.W.SL.s8069831620301644142x5
noncomputable abbrev L40 : String := PySem.W.SL.s10061844253413749634x4
noncomputable abbrev L41 : String := PySem.W.SL.s9496514870978017513x5
noncomputable abbrev L42 : String := PySem.W.SL.s8899691144933366716x7
noncomputable abbrev L43 : String := PySem.W.SL.s15201008993051130160x6
noncomputable abbrev L44 : String := PySem.W.SL.s741896355592496720x3
noncomputable abbrev L45 : String := PySem.W.SL.s17925004256654032244x4
noncomputable abbrev L46 : String := PySem.W.SL.s11695548795398191787x4
noncomputable abbrev L47 : String := PySem.W.SL.s4156966113859768872x10
noncomputable abbrev L48 : String := PySem.W.SL.s9501651726347032510x9
noncomputable abbrev L49 : String := PySem.W.SL.s15722918466584999320x5
noncomputable abbrev L50 : String := PySem.W.SL.s591115383303110208x11
noncomputable abbrev L51 : String := PySem.W.SL.s15721156781594690315x7
noncomputable abbrev L52 : String := PySem.W.SL.s14340494229221121180x9
noncomputable abbrev L53 : String := PySem.W.SL.s13429844117177748173x6
noncomputable abbrev L54 : String := PySem.W.SL.s16463266125957815391x5
noncomputable abbrev L55 : String := PySem.W.SL.s4922535414793169389x9
noncomputable abbrev L56 : String := PySem.W.SL.s8101838861749082086x8
noncomputable abbrev L57 : String := PySem.W.SL.s7066276694103001551x3
noncomputable abbrev L58 : String := PySem.W.SL.s9222952809800978799x4
noncomputable abbrev L59 : String := PySem.W.SL.s462964344163437139x3
noncomputable abbrev L60 : String := PySem.W.SL.s2742458400755230247x6
noncomputable abbrev L61 : String := PySem.W.SL.s1438033511350832697x5
noncomputable abbrev L62 : String := PySem.W.SL.s14365286008749172514x8
noncomputable abbrev L63 : String := PySem.W.SL.s3642769012341782148x3
noncomputable abbrev L64 : String := PySem.W.SL.s4674234679698826739x5
noncomputable abbrev L65 : String := PySem.W.SL.s16656946322747308186x12
noncomputable abbrev L66 : String := PySem.W.SL.s10796804682411823810x3
noncomputable abbrev L67 : String := PySem.W.SL.s4290257624100764138x5
noncomputable abbrev L68 : String := PySem.W.SL.s2766695959194262286x5
noncomputable abbrev L69 : String := PySem.W.SL.s17162191345867700912x4
noncomputable abbrev L70 : String := PySem.W.SL.s14339709457334898076x3
noncomputable abbrev L71 : String := PySem.W.SL.s4278001404047624695x13
noncomputable abbrev L72 : String := PySem.W.SL.s6585700554429387442x18
noncomputable abbrev L73 : String := PySem.W.SL.s5946037652744460706x9
noncomputable abbrev L74 : String := PySem.W.SL.s7410770068591931388x13
noncomputable abbrev L75 : String := PySem.W.SL.s11817881795495490833x17
noncomputable abbrev L76 : String := PySem.W.SL.s15679963881808890155x10
noncomputable abbrev L77 : String := PySem.W.SL.s3871700062485845797x15
noncomputable abbrev L78 : String := PySem.W.SL.s7689518266570723881x14
noncomputable abbrev L79 : String := PySem.W.SL.s9001593270443806431x14
noncomputable abbrev L80 : String := PySem.W.SL.s6882542574934516792x11
noncomputable abbrev L81 : String := PySem.W.SL.s14403400214490484960x8
noncomputable abbrev L82 : String := PySem.W.SL.s14457978657717015782x11
noncomputable abbrev L83 : String := PySem.W.SL.s1753610191782819921x11
noncomputable abbrev L84 : String := PySem.W.SL.s14119380538032626715x11
noncomputable abbrev L85 : String := PySem.W.SL.s11437920000406562045x9
noncomputable abbrev L86 : String := PySem.W.SL.s10852414792293593619x7
noncomputable abbrev L87 : String := PySem.W.SL.s14816307405966870543x14
noncomputable abbrev L88 : String := PySem.W.SL.s8682627914449686677x12
noncomputable abbrev L89 : String := PySem.W.SL.s4428170145600203450x18
noncomputable abbrev L90 : String := PySem.W.SL.s5991306692159431302x13
noncomputable abbrev L91 : String := PySem.W.SL.s16067994140765818257x11
noncomputable abbrev L92 : String := PySem.W.SL.s2327743974964600596x11
noncomputable abbrev L93 : String := PySem.W.SL.s2804747833354056582x9
noncomputable abbrev L94 : String := PySem.W.SL.s6070975301684473832x10
noncomputable abbrev L95 : String := PySem.W.SL.s14270485950484850486x7
noncomputable abbrev L96 : String := PySem.W.SL.s12041534306414923332x18
noncomputable abbrev L97 : String := PySem.W.SL.s2531307568338490285x13
noncomputable abbrev L98 : String := PySem.W.SL.s631175304937289666x17
noncomputable abbrev L99 : String := PySem.W.SL.s5144983644357021410x12
noncomputable abbrev L100 : String := PySem.W.SL.s18039099521571816885x18
noncomputable abbrev L101 : String := PySem.W.SL.s6011586214260557989x15
noncomputable abbrev L102 : String := PySem.W.SL.s5430567037509283100x13
noncomputable abbrev L103 : String := PySem.W.SL.s8117915138073963741x13
noncomputable abbrev L104 : String := PySem.W.SL.s3423317712779056401x25
noncomputable abbrev L105 : String := PySem.W.SL.s2007317383269046180x15
noncomputable abbrev L106 : String := PySem.W.SL.s17481586968713580700x14
noncomputable abbrev L107 : String := PySem.W.SL.s2450899226349176912x13
noncomputable abbrev L108 : String := PySem.W.SL.s16626165730633575011x14
noncomputable abbrev L109 : String := PySem.W.SL.s14288496050688921416x11
noncomputable abbrev L110 : String := PySem.W.SL.s5735081916595925998x15
noncomputable abbrev L111 : String := PySem.W.SL.s3865607918536308442x17
noncomputable abbrev L112 : String := PySem.W.SL.s13337502604062700212x15
noncomputable abbrev L113 : String := PySem.W.SL.s13114017843053701147x15
noncomputable abbrev L114 : String := PySem.W.SL.s17467278006356818441x17
noncomputable abbrev L115 : String := PySem.W.SL.s17722149559621369488x16
noncomputable abbrev L116 : String := PySem.W.SL.s7855274175708717672x17
noncomputable abbrev L117 : String := PySem.W.SL.s13351283678309829046x18
noncomputable abbrev L118 : String := PySem.W.SL.s6668348653404991179x15
noncomputable abbrev L119 : String := PySem.W.SL.s12913350958174193794x18
noncomputable abbrev L120 : String := PySem.W.SL.s16115879512475548326x12
noncomputable abbrev L121 : String := PySem.W.SL.s15920661018069861047x16
noncomputable abbrev L122 : String := PySem.W.SL.s10779130036587390575x21
noncomputable abbrev L123 : String := PySem.W.SL.s7801419657504700863x10
noncomputable abbrev L124 : String := PySem.W.SL.s1688129525768580628x8
noncomputable abbrev L125 : String := PySem.W.SL.s1031832959479892071x19
noncomputable abbrev L126 : String := PySem.W.SL.s8991790508128307865x19
noncomputable abbrev L127 : String := PySem.W.SL.s14539662485746970245x23
noncomputable abbrev L128 : String := PySem.W.SL.s11643622729373238714x14
noncomputable abbrev L129 : String := PySem.W.SL.s3386828779285465597x17
noncomputable abbrev L130 : String := PySem.W.SL.s13042696260734638735x12
noncomputable abbrev L131 : String := PySem.W.SL.s18239426817015966623x15
noncomputable abbrev L132 : String := PySem.W.SL.s1270395311379034370x22
noncomputable abbrev L133 : String := PySem.W.SL.s10696252587037064777x22
noncomputable abbrev L134 : String := PySem.W.SL.s7852717498200857586x20
noncomputable abbrev L135 : String := PySem.W.SL.s6377248116197321094x8
noncomputable abbrev L136 : String := PySem.W.SL.s3834378056692298002x18
noncomputable abbrev L137 : String := PySem.W.SL.s17586630440231065808x18
noncomputable abbrev L138 : String := PySem.W.SL.s15234114252648025395x21
noncomputable abbrev L139 : String := PySem.W.SL.s8496462677383758984x14
noncomputable abbrev L140 : String := PySem.W.SL.s16789243406116112673x4
noncomputable abbrev L141 : String := PySem.W.SL.s14400166428656793546x20
noncomputable abbrev L142 : String := PySem.W.SL.s5857708277339239366x20
noncomputable abbrev L143 : String := PySem.W.SL.s7804999707787243718x20
noncomputable abbrev L144 : String := PySem.W.SL.s7097527257260152453x26
noncomputable abbrev L145 : String := PySem.W.SL.s6658869562736209489x6
noncomputable abbrev L146 : String := PySem.W.SL.s5856160107412720595x4
noncomputable abbrev L147 : String := PySem.W.SL.s658472552662922059x5
noncomputable abbrev sZ (w : World) (os : OsState) : Shared := ⟨boot_heap w.params,Array.mk [],boot_drawn,boot_toks,os⟩
noncomputable def o11 (P : Params) : Obj := ⟨(.type L68),none,(.seq #[] 0),#[]⟩
noncomputable def o12 (P : Params) : Obj := ⟨.none,none,(.fields #[]),#[]⟩
noncomputable def o13 (P : Params) : Obj := ⟨(.type L146),none,(.fields #[.str S166 182,.str S166 183,.str S164 184,.int 1 0,.int 0 0,.int 0 0,.int 0 0,.int 0 0,.ref 11,.bool false,.int 181 0,.ref 12,.none,.none,.none,.none,.int 185 0,.int 1 0,.str S164 186]),#[]⟩
noncomputable def o14 (P : Params) : Obj := ⟨(.type L147),none,.plain,#[some (.ref 13),some (.ref 3),some (.ref 3),none,some (.str S160 164),none,some (.ref 0)]⟩
noncomputable def hA (P : Params) : Heap := ⟨⟨[boot_o_0 P,boot_o_1 P,boot_o_2 P,boot_o_3 P,boot_o_4 P,boot_o_5 P,boot_o_6 P,boot_o_7 P,boot_o_8 P,boot_o_9 P,boot_o_10 P,o11 P,o12 P,o13 P,o14 P]⟩,{ }⟩
noncomputable abbrev sA (w : World) (os : OsState) : Shared := ⟨hA w.params,(Array.mk []),⟨0,0,0,0⟩,187,os⟩
noncomputable abbrev pA : Pos := ⟨0,0,0,0⟩
theorem pre (w : World) : (fun os => topGo treeTable pt w m0 an 12 (sZ w os) (topStub pt)) = fun os => some (sA w os,(⟨denote treeTable cE,cE,pA,B⟩ : Thread)) := by
  rw [PySem.W.Fast.te15667345088766844465,PySem.W.Fast.te14364793385576792824,PySem.W.Fast.te11892475500146522536]; kernel_rfl
noncomputable def tB : Params → BT := (f boot_o_0 (f boot_o_1 (f boot_o_3 (f boot_o_7 z z) (f o11 z z)) (f boot_o_5 (f boot_o_9 z z) (f o13 z z))) (f boot_o_2 (f boot_o_4 (f boot_o_8 z z) (f o12 z z)) (f boot_o_6 (f boot_o_10 z z) (f o14 z z))))
noncomputable abbrev sB (w : World) (os : OsState) : SharedT := ⟨tB w.params,15,{ },(Array.mk []),⟨0,0,0,0⟩,187,os⟩
noncomputable abbrev pB : Pos := ⟨0,0,0,0⟩
theorem blk (w : World) : (fun os => segRun treeTable pt w m0 an 1 1 (sA w os) ⟨(blockStart (behindTheImports pt) en).wrap (fun _ => doneF .next) deadEnd id id,cE,pA,B⟩) = fun os => some (.next,(sB w os).abs,cE,pB) := by
  rw [PySem.W.Fast.te14374325043358763698,PySem.W.Fast.te14364793385576792824,PySem.W.Fast.te1066825118222455980]; kernel_rfl
noncomputable def o3v1 (P : Params) : Obj := ⟨(.type L0),none,(.dict #[e P S0 165 (.str S167 376),e P S2 166 .none,e P S3 167 .none,e P S4 168 (.builtin L144),e P S5 169 .none,e P S161 170 (.ref 6),e P S162 171 (.ref 4),e P S163 173 (.str S164 172),e P S165 174 .none,e P S168 193 (.ref 21),e P S169 213 (.ref 31),e P S170 229 (.ref 44),e P S171 245 (.ref 56),e P S172 261 (.ref 68),e P S173 277 (.ref 80),e P S174 293 (.ref 92),e P S175 309 (.ref 104),e P S176 319 (.ref 113),e P S177 326 (.ref 120),e P S178 333 (.ref 127),e P S179 341 (.ref 134),e P S180 345 (.str S181 344),e P S182 347 (.str S183 346),e P S184 348 (.ref 135),e P S185 363 (.ref 142),e P S186 375 (.ref 149),e P S187 379 (.str S188 378),e P S189 381 (.str S190 380),e P S191 383 (.int 1 382),e P S192 385 (.int 5 384),e P S193 387 (.int 4 386),e P S194 396 (.ref 156),e P S195 407 (.ref 163),e P S196 420 (.ref 170),e P S197 444 (.ref 177),e P S198 457 (.ref 184)] 36),#[]⟩
noncomputable def o12v1 (P : Params) : Obj := ⟨.none,none,(.fields #[.int 1 0,.int 0 0,.ref 20,.int 5 0,.int 0 0,.ref 27,.int 7 0,.int 0 0,.ref 40,.int 9 0,.int 0 0,.ref 52,.int 11 0,.int 0 0,.ref 64,.int 13 0,.int 0 0,.ref 76,.int 15 0,.int 0 0,.ref 88,.int 17 0,.int 0 0,.ref 100,.int 20 0,.int 0 0,.ref 112,.int 22 0,.int 0 0,.ref 119,.int 24 0,.int 0 0,.ref 126,.int 26 0,.int 0 0,.ref 133,.int 33 0,.int 0 0,.ref 141,.int 38 0,.int 0 0,.ref 148,.int 49 0,.int 0 0,.ref 155,.int 53 0,.int 0 0,.ref 162,.int 60 0,.int 0 0,.ref 169,.int 65 0,.int 0 0,.ref 176,.int 72 0,.int 0 0,.ref 183]),#[]⟩
noncomputable def o15 (P : Params) : Obj := ⟨(.type L68),none,(.seq #[] 0),#[]⟩
noncomputable def o16 (P : Params) : Obj := ⟨.none,none,(.fields #[]),#[]⟩
noncomputable def o17 (P : Params) : Obj := ⟨(.type L68),none,(.seq #[.str S199 190] 0),#[]⟩
noncomputable def o18 (P : Params) : Obj := ⟨(.type L68),none,(.seq #[] 0),#[]⟩
noncomputable def o19 (P : Params) : Obj := ⟨.none,none,(.func ⟨S168,S168,L2.defArgs (tp 0),(.stmts (L2.defBody (tp 0))),L2.defScope (tp 0),0,[],.none,.none,.none,.none,none,.none,.none,0⟩),#[]⟩
noncomputable def o20 (P : Params) : Obj := ⟨(.type L146),none,(.fields #[.str S168 187,.str S168 188,.str S164 189,.int 1 0,.int 1 0,.int 0 0,.int 0 0,.int 3 0,.ref 15,.bool true,.int 181 0,.ref 16,.none,.ref 17,.ref 18,.ref 19,.int 191 0,.int 1 0,.str S164 192]),#[]⟩
noncomputable abbrev L148 : String := PySem.W.SL.s7174869446012820540x8
noncomputable def o21 (P : Params) : Obj := ⟨(.type L148),none,(.func ⟨S168,S168,L2.defArgs (tp 0),(.stmts (L2.defBody (tp 0))),L2.defScope (tp 0),3,[],.none,.none,.none,.str S160 164,none,.ref 20,.none,0⟩),#[]⟩
noncomputable def o22 (P : Params) : Obj := ⟨(.type L68),none,(.seq #[.type L94] 0),#[]⟩
noncomputable abbrev L149 : String := PySem.W.SL.s11030030927630378310x26
noncomputable abbrev L150 : String := PySem.W.SL.s10062305145149207511x16
noncomputable def o23 (P : Params) : Obj := ⟨(.type L149),none,(.fields #[.builtin L150,.type L69]),#[]⟩
noncomputable def o24 (P : Params) : Obj := ⟨(.type L0),none,(.dict #[e P S200 203 (.str S201 194),e P S202 205 (.str S169 204),e P S203 207 (.int 5 206),e P S204 208 (.ref 29)] 4),#[]⟩
noncomputable def o25 (P : Params) : Obj := ⟨(.type L68),none,(.seq #[] 0),#[]⟩
noncomputable def o26 (P : Params) : Obj := ⟨.none,none,(.fields #[]),#[]⟩
noncomputable def o27 (P : Params) : Obj := ⟨(.type L146),none,(.fields #[.str S169 198,.str S169 199,.str S164 200,.int 5 0,.int 0 0,.int 0 0,.int 0 0,.int 0 0,.ref 25,.bool false,.int 181 0,.ref 26,.none,.none,.none,.none,.int 201 0,.int 5 0,.str S164 202]),#[]⟩
noncomputable def o28 (P : Params) : Obj := ⟨(.type L147),none,.plain,#[some (.ref 27),some (.ref 3),some (.ref 24),none,some (.str S201 194),none,some (.ref 0)]⟩
noncomputable def o29 (P : Params) : Obj := ⟨(.type L68),none,(.seq #[] 0),#[]⟩
noncomputable def o30 (P : Params) : Obj := ⟨(.type L0),none,(.dict #[e P S200 203 (.str S201 194),e P S203 207 (.int 5 206),e P S204 208 (.ref 29),e P S205 210 (.ref 32),e P S2 211 .none] 3),#[]⟩
noncomputable abbrev L151 : String := PySem.W.SL.s4209523147560561109x18
noncomputable def o31 (P : Params) : Obj := ⟨(.type L69),none,(.cls ⟨S169,[.type L94],[.ref 31,.type L94,.type L73,.type L71,.type L60],30,S169,true,[],[.ref 44,.ref 56,.ref 68,.ref 80,.ref 92,.ref 104],false,none,false⟩),#[some (.ref 22),none,some (.str S169 196),some (.str S169 204),some (.builtin L151),some (.bool true)]⟩
noncomputable abbrev L152 : String := PySem.W.SL.s14755015743595814543x17
noncomputable abbrev L153 : String := PySem.W.SL.s10220274742760427390x26
noncomputable def o32 (P : Params) : Obj := ⟨(.type L152),none,(.fields #[.str S205 209,.ref 31,.builtin L153,.none]),#[]⟩
noncomputable def o33 (P : Params) : Obj := ⟨(.type L67),none,(.fields #[.ref 31,.ref 31,.ref 31]),#[]⟩
noncomputable abbrev L154 : String := PySem.W.SL.s4860613602091757760x24
noncomputable def o34 (P : Params) : Obj := ⟨(.type L149),none,(.fields #[.builtin L154,.ref 31]),#[]⟩
noncomputable def o35 (P : Params) : Obj := ⟨(.type L68),none,(.seq #[.ref 31] 0),#[]⟩
noncomputable def o36 (P : Params) : Obj := ⟨(.type L149),none,(.fields #[.builtin L150,.type L69]),#[]⟩
noncomputable def o37 (P : Params) : Obj := ⟨(.type L0),none,(.dict #[e P S200 221 (.str S201 194),e P S202 223 (.str S170 222),e P S203 225 (.int 7 224),e P S204 226 (.ref 42)] 4),#[]⟩
noncomputable def o38 (P : Params) : Obj := ⟨(.type L68),none,(.seq #[] 0),#[]⟩
noncomputable def o39 (P : Params) : Obj := ⟨.none,none,(.fields #[]),#[]⟩
noncomputable def o40 (P : Params) : Obj := ⟨(.type L146),none,(.fields #[.str S170 216,.str S170 217,.str S164 218,.int 7 0,.int 0 0,.int 0 0,.int 0 0,.int 0 0,.ref 38,.bool false,.int 181 0,.ref 39,.none,.none,.none,.none,.int 219 0,.int 7 0,.str S164 220]),#[]⟩
noncomputable def o41 (P : Params) : Obj := ⟨(.type L147),none,.plain,#[some (.ref 40),some (.ref 3),some (.ref 37),none,some (.str S201 194),none,some (.ref 0)]⟩
noncomputable def o42 (P : Params) : Obj := ⟨(.type L68),none,(.seq #[] 0),#[]⟩
noncomputable def o43 (P : Params) : Obj := ⟨(.type L0),none,(.dict #[e P S200 221 (.str S201 194),e P S203 225 (.int 7 224),e P S204 226 (.ref 42),e P S2 227 .none] 2),#[]⟩
noncomputable def o44 (P : Params) : Obj := ⟨(.type L69),none,(.cls ⟨S170,[.ref 31],[.ref 44,.ref 31,.type L94,.type L73,.type L71,.type L60],43,S170,true,[],[],false,none,false⟩),#[some (.ref 35),none,some (.str S170 214),some (.str S170 222),some (.builtin L151),some (.bool true)]⟩
noncomputable def o45 (P : Params) : Obj := ⟨(.type L67),none,(.fields #[.ref 44,.ref 44,.ref 44]),#[]⟩
noncomputable def o46 (P : Params) : Obj := ⟨(.type L149),none,(.fields #[.builtin L154,.ref 44]),#[]⟩
noncomputable def o47 (P : Params) : Obj := ⟨(.type L68),none,(.seq #[.ref 31] 0),#[]⟩
noncomputable def o48 (P : Params) : Obj := ⟨(.type L149),none,(.fields #[.builtin L150,.type L69]),#[]⟩
noncomputable def o49 (P : Params) : Obj := ⟨(.type L0),none,(.dict #[e P S200 237 (.str S201 194),e P S202 239 (.str S171 238),e P S203 241 (.int 9 240),e P S204 242 (.ref 54)] 4),#[]⟩
noncomputable def o50 (P : Params) : Obj := ⟨(.type L68),none,(.seq #[] 0),#[]⟩
noncomputable def o51 (P : Params) : Obj := ⟨.none,none,(.fields #[]),#[]⟩
noncomputable def o52 (P : Params) : Obj := ⟨(.type L146),none,(.fields #[.str S171 232,.str S171 233,.str S164 234,.int 9 0,.int 0 0,.int 0 0,.int 0 0,.int 0 0,.ref 50,.bool false,.int 181 0,.ref 51,.none,.none,.none,.none,.int 235 0,.int 9 0,.str S164 236]),#[]⟩
noncomputable def o53 (P : Params) : Obj := ⟨(.type L147),none,.plain,#[some (.ref 52),some (.ref 3),some (.ref 49),none,some (.str S201 194),none,some (.ref 0)]⟩
noncomputable def o54 (P : Params) : Obj := ⟨(.type L68),none,(.seq #[] 0),#[]⟩
noncomputable def o55 (P : Params) : Obj := ⟨(.type L0),none,(.dict #[e P S200 237 (.str S201 194),e P S203 241 (.int 9 240),e P S204 242 (.ref 54),e P S2 243 .none] 2),#[]⟩
noncomputable def o56 (P : Params) : Obj := ⟨(.type L69),none,(.cls ⟨S171,[.ref 31],[.ref 56,.ref 31,.type L94,.type L73,.type L71,.type L60],55,S171,true,[],[],false,none,false⟩),#[some (.ref 47),none,some (.str S171 230),some (.str S171 238),some (.builtin L151),some (.bool true)]⟩
noncomputable def o57 (P : Params) : Obj := ⟨(.type L67),none,(.fields #[.ref 56,.ref 56,.ref 56]),#[]⟩
noncomputable def o58 (P : Params) : Obj := ⟨(.type L149),none,(.fields #[.builtin L154,.ref 56]),#[]⟩
noncomputable def o59 (P : Params) : Obj := ⟨(.type L68),none,(.seq #[.ref 31] 0),#[]⟩
noncomputable def o60 (P : Params) : Obj := ⟨(.type L149),none,(.fields #[.builtin L150,.type L69]),#[]⟩
noncomputable def o61 (P : Params) : Obj := ⟨(.type L0),none,(.dict #[e P S200 253 (.str S201 194),e P S202 255 (.str S172 254),e P S203 257 (.int 11 256),e P S204 258 (.ref 66)] 4),#[]⟩
noncomputable def o62 (P : Params) : Obj := ⟨(.type L68),none,(.seq #[] 0),#[]⟩
noncomputable def o63 (P : Params) : Obj := ⟨.none,none,(.fields #[]),#[]⟩
noncomputable def o64 (P : Params) : Obj := ⟨(.type L146),none,(.fields #[.str S172 248,.str S172 249,.str S164 250,.int 11 0,.int 0 0,.int 0 0,.int 0 0,.int 0 0,.ref 62,.bool false,.int 181 0,.ref 63,.none,.none,.none,.none,.int 251 0,.int 11 0,.str S164 252]),#[]⟩
noncomputable def o65 (P : Params) : Obj := ⟨(.type L147),none,.plain,#[some (.ref 64),some (.ref 3),some (.ref 61),none,some (.str S201 194),none,some (.ref 0)]⟩
noncomputable def o66 (P : Params) : Obj := ⟨(.type L68),none,(.seq #[] 0),#[]⟩
noncomputable def o67 (P : Params) : Obj := ⟨(.type L0),none,(.dict #[e P S200 253 (.str S201 194),e P S203 257 (.int 11 256),e P S204 258 (.ref 66),e P S2 259 .none] 2),#[]⟩
noncomputable def o68 (P : Params) : Obj := ⟨(.type L69),none,(.cls ⟨S172,[.ref 31],[.ref 68,.ref 31,.type L94,.type L73,.type L71,.type L60],67,S172,true,[],[],false,none,false⟩),#[some (.ref 59),none,some (.str S172 246),some (.str S172 254),some (.builtin L151),some (.bool true)]⟩
noncomputable def o69 (P : Params) : Obj := ⟨(.type L67),none,(.fields #[.ref 68,.ref 68,.ref 68]),#[]⟩
noncomputable def o70 (P : Params) : Obj := ⟨(.type L149),none,(.fields #[.builtin L154,.ref 68]),#[]⟩
noncomputable def o71 (P : Params) : Obj := ⟨(.type L68),none,(.seq #[.ref 31] 0),#[]⟩
noncomputable def o72 (P : Params) : Obj := ⟨(.type L149),none,(.fields #[.builtin L150,.type L69]),#[]⟩
noncomputable def o73 (P : Params) : Obj := ⟨(.type L0),none,(.dict #[e P S200 269 (.str S201 194),e P S202 271 (.str S173 270),e P S203 273 (.int 13 272),e P S204 274 (.ref 78)] 4),#[]⟩
noncomputable def o74 (P : Params) : Obj := ⟨(.type L68),none,(.seq #[] 0),#[]⟩
noncomputable def o75 (P : Params) : Obj := ⟨.none,none,(.fields #[]),#[]⟩
noncomputable def o76 (P : Params) : Obj := ⟨(.type L146),none,(.fields #[.str S173 264,.str S173 265,.str S164 266,.int 13 0,.int 0 0,.int 0 0,.int 0 0,.int 0 0,.ref 74,.bool false,.int 181 0,.ref 75,.none,.none,.none,.none,.int 267 0,.int 13 0,.str S164 268]),#[]⟩
noncomputable def o77 (P : Params) : Obj := ⟨(.type L147),none,.plain,#[some (.ref 76),some (.ref 3),some (.ref 73),none,some (.str S201 194),none,some (.ref 0)]⟩
noncomputable def o78 (P : Params) : Obj := ⟨(.type L68),none,(.seq #[] 0),#[]⟩
noncomputable def o79 (P : Params) : Obj := ⟨(.type L0),none,(.dict #[e P S200 269 (.str S201 194),e P S203 273 (.int 13 272),e P S204 274 (.ref 78),e P S2 275 .none] 2),#[]⟩
noncomputable def o80 (P : Params) : Obj := ⟨(.type L69),none,(.cls ⟨S173,[.ref 31],[.ref 80,.ref 31,.type L94,.type L73,.type L71,.type L60],79,S173,true,[],[],false,none,false⟩),#[some (.ref 71),none,some (.str S173 262),some (.str S173 270),some (.builtin L151),some (.bool true)]⟩
noncomputable def o81 (P : Params) : Obj := ⟨(.type L67),none,(.fields #[.ref 80,.ref 80,.ref 80]),#[]⟩
noncomputable def o82 (P : Params) : Obj := ⟨(.type L149),none,(.fields #[.builtin L154,.ref 80]),#[]⟩
noncomputable def o83 (P : Params) : Obj := ⟨(.type L68),none,(.seq #[.ref 31] 0),#[]⟩
noncomputable def o84 (P : Params) : Obj := ⟨(.type L149),none,(.fields #[.builtin L150,.type L69]),#[]⟩
noncomputable def o85 (P : Params) : Obj := ⟨(.type L0),none,(.dict #[e P S200 285 (.str S201 194),e P S202 287 (.str S174 286),e P S203 289 (.int 15 288),e P S204 290 (.ref 90)] 4),#[]⟩
noncomputable def o86 (P : Params) : Obj := ⟨(.type L68),none,(.seq #[] 0),#[]⟩
noncomputable def o87 (P : Params) : Obj := ⟨.none,none,(.fields #[]),#[]⟩
noncomputable def o88 (P : Params) : Obj := ⟨(.type L146),none,(.fields #[.str S174 280,.str S174 281,.str S164 282,.int 15 0,.int 0 0,.int 0 0,.int 0 0,.int 0 0,.ref 86,.bool false,.int 181 0,.ref 87,.none,.none,.none,.none,.int 283 0,.int 15 0,.str S164 284]),#[]⟩
noncomputable def o89 (P : Params) : Obj := ⟨(.type L147),none,.plain,#[some (.ref 88),some (.ref 3),some (.ref 85),none,some (.str S201 194),none,some (.ref 0)]⟩
noncomputable def o90 (P : Params) : Obj := ⟨(.type L68),none,(.seq #[] 0),#[]⟩
noncomputable def o91 (P : Params) : Obj := ⟨(.type L0),none,(.dict #[e P S200 285 (.str S201 194),e P S203 289 (.int 15 288),e P S204 290 (.ref 90),e P S2 291 .none] 2),#[]⟩
noncomputable def o92 (P : Params) : Obj := ⟨(.type L69),none,(.cls ⟨S174,[.ref 31],[.ref 92,.ref 31,.type L94,.type L73,.type L71,.type L60],91,S174,true,[],[],false,none,false⟩),#[some (.ref 83),none,some (.str S174 278),some (.str S174 286),some (.builtin L151),some (.bool true)]⟩
noncomputable def o93 (P : Params) : Obj := ⟨(.type L67),none,(.fields #[.ref 92,.ref 92,.ref 92]),#[]⟩
noncomputable def o94 (P : Params) : Obj := ⟨(.type L149),none,(.fields #[.builtin L154,.ref 92]),#[]⟩
noncomputable def o95 (P : Params) : Obj := ⟨(.type L68),none,(.seq #[.ref 31] 0),#[]⟩
noncomputable def o96 (P : Params) : Obj := ⟨(.type L149),none,(.fields #[.builtin L150,.type L69]),#[]⟩
noncomputable def o97 (P : Params) : Obj := ⟨(.type L0),none,(.dict #[e P S200 301 (.str S201 194),e P S202 303 (.str S175 302),e P S203 305 (.int 17 304),e P S204 306 (.ref 102)] 4),#[]⟩
noncomputable def o98 (P : Params) : Obj := ⟨(.type L68),none,(.seq #[] 0),#[]⟩
noncomputable def o99 (P : Params) : Obj := ⟨.none,none,(.fields #[]),#[]⟩
noncomputable def o100 (P : Params) : Obj := ⟨(.type L146),none,(.fields #[.str S175 296,.str S175 297,.str S164 298,.int 17 0,.int 0 0,.int 0 0,.int 0 0,.int 0 0,.ref 98,.bool false,.int 181 0,.ref 99,.none,.none,.none,.none,.int 299 0,.int 17 0,.str S164 300]),#[]⟩
noncomputable def o101 (P : Params) : Obj := ⟨(.type L147),none,.plain,#[some (.ref 100),some (.ref 3),some (.ref 97),none,some (.str S201 194),none,some (.ref 0)]⟩
noncomputable def o102 (P : Params) : Obj := ⟨(.type L68),none,(.seq #[] 0),#[]⟩
noncomputable def o103 (P : Params) : Obj := ⟨(.type L0),none,(.dict #[e P S200 301 (.str S201 194),e P S203 305 (.int 17 304),e P S204 306 (.ref 102),e P S2 307 .none] 2),#[]⟩
noncomputable def o104 (P : Params) : Obj := ⟨(.type L69),none,(.cls ⟨S175,[.ref 31],[.ref 104,.ref 31,.type L94,.type L73,.type L71,.type L60],103,S175,true,[],[],false,none,false⟩),#[some (.ref 95),none,some (.str S175 294),some (.str S175 302),some (.builtin L151),some (.bool true)]⟩
noncomputable def o105 (P : Params) : Obj := ⟨(.type L67),none,(.fields #[.ref 104,.ref 104,.ref 104]),#[]⟩
noncomputable def o106 (P : Params) : Obj := ⟨(.type L149),none,(.fields #[.builtin L154,.ref 104]),#[]⟩
noncomputable def o107 (P : Params) : Obj := ⟨(.type L68),none,(.seq #[] 0),#[]⟩
noncomputable def o108 (P : Params) : Obj := ⟨.none,none,(.fields #[]),#[]⟩
noncomputable def o109 (P : Params) : Obj := ⟨(.type L68),none,(.seq #[.str S206 315,.str S207 316] 0),#[]⟩
noncomputable def o110 (P : Params) : Obj := ⟨(.type L68),none,(.seq #[] 0),#[]⟩
noncomputable def o111 (P : Params) : Obj := ⟨.none,none,(.func ⟨S176,S176,L2.defArgs (tp 10),(.stmts (L2.defBody (tp 10))),L2.defScope (tp 10),0,[],.none,.none,.none,.none,none,.none,.none,0⟩),#[]⟩
noncomputable def o112 (P : Params) : Obj := ⟨(.type L146),none,(.fields #[.str S176 312,.str S176 313,.str S164 314,.int 20 0,.int 2 0,.int 0 0,.int 0 0,.int 3 0,.ref 107,.bool true,.int 181 0,.ref 108,.none,.ref 109,.ref 110,.ref 111,.int 317 0,.int 20 0,.str S164 318]),#[]⟩
noncomputable def o113 (P : Params) : Obj := ⟨(.type L148),none,(.func ⟨S176,S176,L2.defArgs (tp 10),(.stmts (L2.defBody (tp 10))),L2.defScope (tp 10),3,[],.none,.none,.none,.str S208 310,none,.ref 112,.none,0⟩),#[]⟩
noncomputable def o114 (P : Params) : Obj := ⟨(.type L68),none,(.seq #[] 0),#[]⟩
noncomputable def o115 (P : Params) : Obj := ⟨.none,none,(.fields #[]),#[]⟩
noncomputable def o116 (P : Params) : Obj := ⟨(.type L68),none,(.seq #[.str S206 323] 0),#[]⟩
noncomputable def o117 (P : Params) : Obj := ⟨(.type L68),none,(.seq #[] 0),#[]⟩
noncomputable def o118 (P : Params) : Obj := ⟨.none,none,(.func ⟨S177,S177,L2.defArgs (tp 11),(.stmts (L2.defBody (tp 11))),L2.defScope (tp 11),0,[],.none,.none,.none,.none,none,.none,.none,0⟩),#[]⟩
noncomputable def o119 (P : Params) : Obj := ⟨(.type L146),none,(.fields #[.str S177 320,.str S177 321,.str S164 322,.int 22 0,.int 1 0,.int 0 0,.int 0 0,.int 3 0,.ref 114,.bool true,.int 181 0,.ref 115,.none,.ref 116,.ref 117,.ref 118,.int 324 0,.int 22 0,.str S164 325]),#[]⟩
noncomputable def o120 (P : Params) : Obj := ⟨(.type L148),none,(.func ⟨S177,S177,L2.defArgs (tp 11),(.stmts (L2.defBody (tp 11))),L2.defScope (tp 11),3,[],.none,.none,.none,.str S208 310,none,.ref 119,.none,0⟩),#[]⟩
noncomputable def o121 (P : Params) : Obj := ⟨(.type L68),none,(.seq #[] 0),#[]⟩
noncomputable def o122 (P : Params) : Obj := ⟨.none,none,(.fields #[]),#[]⟩
noncomputable def o123 (P : Params) : Obj := ⟨(.type L68),none,(.seq #[.str S206 330] 0),#[]⟩
noncomputable def o124 (P : Params) : Obj := ⟨(.type L68),none,(.seq #[] 0),#[]⟩
noncomputable def o125 (P : Params) : Obj := ⟨.none,none,(.func ⟨S178,S178,L2.defArgs (tp 12),(.stmts (L2.defBody (tp 12))),L2.defScope (tp 12),0,[],.none,.none,.none,.none,none,.none,.none,0⟩),#[]⟩
noncomputable def o126 (P : Params) : Obj := ⟨(.type L146),none,(.fields #[.str S178 327,.str S178 328,.str S164 329,.int 24 0,.int 1 0,.int 0 0,.int 0 0,.int 3 0,.ref 121,.bool true,.int 181 0,.ref 122,.none,.ref 123,.ref 124,.ref 125,.int 331 0,.int 24 0,.str S164 332]),#[]⟩
noncomputable def o127 (P : Params) : Obj := ⟨(.type L148),none,(.func ⟨S178,S178,L2.defArgs (tp 12),(.stmts (L2.defBody (tp 12))),L2.defScope (tp 12),3,[],.none,.none,.none,.str S208 310,none,.ref 126,.none,0⟩),#[]⟩
noncomputable def o128 (P : Params) : Obj := ⟨(.type L68),none,(.seq #[] 0),#[]⟩
noncomputable def o129 (P : Params) : Obj := ⟨.none,none,(.fields #[]),#[]⟩
noncomputable def o130 (P : Params) : Obj := ⟨(.type L68),none,(.seq #[.str S209 337,.str S210 338] 0),#[]⟩
noncomputable def o131 (P : Params) : Obj := ⟨(.type L68),none,(.seq #[] 0),#[]⟩
noncomputable def o132 (P : Params) : Obj := ⟨.none,none,(.func ⟨S179,S179,L2.defArgs (tp 13),(.stmts (L2.defBody (tp 13))),L2.defScope (tp 13),0,[],.none,.none,.none,.none,none,.none,.none,0⟩),#[]⟩
noncomputable def o133 (P : Params) : Obj := ⟨(.type L146),none,(.fields #[.str S179 334,.str S179 335,.str S164 336,.int 26 0,.int 2 0,.int 0 0,.int 0 0,.int 3 0,.ref 128,.bool true,.int 181 0,.ref 129,.none,.ref 130,.ref 131,.ref 132,.int 339 0,.int 26 0,.str S164 340]),#[]⟩
noncomputable def o134 (P : Params) : Obj := ⟨(.type L148),none,(.func ⟨S179,S179,L2.defArgs (tp 13),(.stmts (L2.defBody (tp 13))),L2.defScope (tp 13),3,[],.none,.none,.none,.str S208 310,none,.ref 133,.none,0⟩),#[]⟩
noncomputable def o135 (P : Params) : Obj := ⟨(.type L68),none,(.seq #[.str S181 344,.str S183 346] 0),#[]⟩
noncomputable def o136 (P : Params) : Obj := ⟨(.type L68),none,(.seq #[] 0),#[]⟩
noncomputable def o137 (P : Params) : Obj := ⟨.none,none,(.fields #[]),#[]⟩
noncomputable def o138 (P : Params) : Obj := ⟨(.type L68),none,(.seq #[.str S211 352,.str S209 353,.str S210 354,.str S212 355,.str S213 356,.str S214 357,.str S215 358,.str S216 359,.str S217 360] 0),#[]⟩
noncomputable def o139 (P : Params) : Obj := ⟨(.type L68),none,(.seq #[] 0),#[]⟩
noncomputable def o140 (P : Params) : Obj := ⟨.none,none,(.func ⟨S185,S185,L2.defArgs (tp 18),(.stmts (L2.defBody (tp 18))),L2.defScope (tp 18),0,[],.none,.none,.none,.none,none,.none,.none,0⟩),#[]⟩
noncomputable def o141 (P : Params) : Obj := ⟨(.type L146),none,(.fields #[.str S185 349,.str S185 350,.str S164 351,.int 33 0,.int 7 0,.int 0 0,.int 0 0,.int 3 0,.ref 136,.bool true,.int 181 0,.ref 137,.none,.ref 138,.ref 139,.ref 140,.int 361 0,.int 33 0,.str S164 362]),#[]⟩
noncomputable def o142 (P : Params) : Obj := ⟨(.type L148),none,(.func ⟨S185,S185,L2.defArgs (tp 18),(.stmts (L2.defBody (tp 18))),L2.defScope (tp 18),3,[],.none,.none,.none,.str S218 342,none,.ref 141,.none,0⟩),#[]⟩
noncomputable def o143 (P : Params) : Obj := ⟨(.type L68),none,(.seq #[] 0),#[]⟩
noncomputable def o144 (P : Params) : Obj := ⟨.none,none,(.fields #[]),#[]⟩
noncomputable def o145 (P : Params) : Obj := ⟨(.type L68),none,(.seq #[.str S219 367,.str S220 368,.str S221 369,.str S222 370,.str S209 371,.str S210 372] 0),#[]⟩
noncomputable def o146 (P : Params) : Obj := ⟨(.type L68),none,(.seq #[] 0),#[]⟩
noncomputable def o147 (P : Params) : Obj := ⟨.none,none,(.func ⟨S186,S186,L2.defArgs (tp 19),(.stmts (L2.defBody (tp 19))),L2.defScope (tp 19),0,[],.none,.none,.none,.none,none,.none,.none,0⟩),#[]⟩
noncomputable def o148 (P : Params) : Obj := ⟨(.type L146),none,(.fields #[.str S186 364,.str S186 365,.str S164 366,.int 38 0,.int 4 0,.int 0 0,.int 0 0,.int 3 0,.ref 143,.bool true,.int 181 0,.ref 144,.none,.ref 145,.ref 146,.ref 147,.int 373 0,.int 38 0,.str S164 374]),#[]⟩
noncomputable def o149 (P : Params) : Obj := ⟨(.type L148),none,(.func ⟨S186,S186,L2.defArgs (tp 19),(.stmts (L2.defBody (tp 19))),L2.defScope (tp 19),3,[],.none,.none,.none,.str S218 342,none,.ref 148,.none,0⟩),#[]⟩
noncomputable def o150 (P : Params) : Obj := ⟨(.type L68),none,(.seq #[] 0),#[]⟩
noncomputable def o151 (P : Params) : Obj := ⟨.none,none,(.fields #[]),#[]⟩
noncomputable def o152 (P : Params) : Obj := ⟨(.type L68),none,(.seq #[.str S206 391,.str S223 392,.str S224 393] 0),#[]⟩
noncomputable def o153 (P : Params) : Obj := ⟨(.type L68),none,(.seq #[] 0),#[]⟩
noncomputable def o154 (P : Params) : Obj := ⟨.none,none,(.func ⟨S194,S194,L2.defArgs (tp 26),(.stmts (L2.defBody (tp 26))),L2.defScope (tp 26),0,[],.none,.none,.none,.none,none,.none,.none,0⟩),#[]⟩
noncomputable def o155 (P : Params) : Obj := ⟨(.type L146),none,(.fields #[.str S194 388,.str S194 389,.str S164 390,.int 49 0,.int 3 0,.int 0 0,.int 0 0,.int 3 0,.ref 150,.bool true,.int 181 0,.ref 151,.none,.ref 152,.ref 153,.ref 154,.int 394 0,.int 49 0,.str S164 395]),#[]⟩
noncomputable def o156 (P : Params) : Obj := ⟨(.type L148),none,(.func ⟨S194,S194,L2.defArgs (tp 26),(.stmts (L2.defBody (tp 26))),L2.defScope (tp 26),3,[],.none,.none,.none,.str S167 376,none,.ref 155,.none,0⟩),#[]⟩
noncomputable def o157 (P : Params) : Obj := ⟨(.type L68),none,(.seq #[] 0),#[]⟩
noncomputable def o158 (P : Params) : Obj := ⟨.none,none,(.fields #[]),#[]⟩
noncomputable def o159 (P : Params) : Obj := ⟨(.type L68),none,(.seq #[.str S219 400,.str S225 401,.str S226 402,.str S221 403,.str S227 404] 0),#[]⟩
noncomputable def o160 (P : Params) : Obj := ⟨(.type L68),none,(.seq #[] 0),#[]⟩
noncomputable def o161 (P : Params) : Obj := ⟨.none,none,(.func ⟨S195,S195,L2.defArgs (tp 27),(.stmts (L2.defBody (tp 27))),L2.defScope (tp 27),0,[],.none,.none,.none,.none,none,.none,.none,0⟩),#[]⟩
noncomputable def o162 (P : Params) : Obj := ⟨(.type L146),none,(.fields #[.str S195 397,.str S195 398,.str S164 399,.int 53 0,.int 2 0,.int 0 0,.int 0 0,.int 3 0,.ref 157,.bool true,.int 181 0,.ref 158,.none,.ref 159,.ref 160,.ref 161,.int 405 0,.int 53 0,.str S164 406]),#[]⟩
noncomputable def o163 (P : Params) : Obj := ⟨(.type L148),none,(.func ⟨S195,S195,L2.defArgs (tp 27),(.stmts (L2.defBody (tp 27))),L2.defScope (tp 27),3,[],.none,.none,.none,.str S167 376,none,.ref 162,.none,0⟩),#[]⟩
noncomputable def o164 (P : Params) : Obj := ⟨(.type L68),none,(.seq #[] 0),#[]⟩
noncomputable def o165 (P : Params) : Obj := ⟨.none,none,(.fields #[]),#[]⟩
noncomputable def o166 (P : Params) : Obj := ⟨(.type L68),none,(.seq #[.str S211 411,.str S225 412,.str S214 413,.str S215 414,.str S209 415,.str S210 416,.str S226 417] 0),#[]⟩
noncomputable def o167 (P : Params) : Obj := ⟨(.type L68),none,(.seq #[] 0),#[]⟩
noncomputable def o168 (P : Params) : Obj := ⟨.none,none,(.func ⟨S196,S196,L2.defArgs (tp 28),(.stmts (L2.defBody (tp 28))),L2.defScope (tp 28),0,[],.none,.none,.none,.none,none,.none,.none,0⟩),#[]⟩
noncomputable def o169 (P : Params) : Obj := ⟨(.type L146),none,(.fields #[.str S196 408,.str S196 409,.str S164 410,.int 60 0,.int 2 0,.int 0 0,.int 0 0,.int 3 0,.ref 164,.bool true,.int 181 0,.ref 165,.none,.ref 166,.ref 167,.ref 168,.int 418 0,.int 60 0,.str S164 419]),#[]⟩
noncomputable def o170 (P : Params) : Obj := ⟨(.type L148),none,(.func ⟨S196,S196,L2.defArgs (tp 28),(.stmts (L2.defBody (tp 28))),L2.defScope (tp 28),3,[],.none,.none,.none,.str S167 376,none,.ref 169,.none,0⟩),#[]⟩
noncomputable def o171 (P : Params) : Obj := ⟨(.type L68),none,(.seq #[] 0),#[]⟩
noncomputable def o172 (P : Params) : Obj := ⟨.none,none,(.fields #[]),#[]⟩
noncomputable def o173 (P : Params) : Obj := ⟨(.type L68),none,(.seq #[.str S219 424,.str S225 425,.str S214 426,.str S215 427,.str S209 428,.str S210 429,.str S226 430,.str S221 431,.str S222 432,.str S228 433,.str S229 434,.str S230 435,.str S231 436,.str S232 437,.str S233 438,.str S234 439,.str S235 440,.str S236 441] 0),#[]⟩
noncomputable def o174 (P : Params) : Obj := ⟨(.type L68),none,(.seq #[] 0),#[]⟩
noncomputable def o175 (P : Params) : Obj := ⟨.none,none,(.func ⟨S197,S197,L2.defArgs (tp 29),(.stmts (L2.defBody (tp 29))),L2.defScope (tp 29),0,[],.none,.none,.none,.none,none,.none,.none,0⟩),#[]⟩
noncomputable def o176 (P : Params) : Obj := ⟨(.type L146),none,(.fields #[.str S197 421,.str S197 422,.str S164 423,.int 65 0,.int 2 0,.int 0 0,.int 0 0,.int 3 0,.ref 171,.bool true,.int 181 0,.ref 172,.none,.ref 173,.ref 174,.ref 175,.int 442 0,.int 65 0,.str S164 443]),#[]⟩
noncomputable def o177 (P : Params) : Obj := ⟨(.type L148),none,(.func ⟨S197,S197,L2.defArgs (tp 29),(.stmts (L2.defBody (tp 29))),L2.defScope (tp 29),3,[],.none,.none,.none,.str S167 376,none,.ref 176,.none,0⟩),#[]⟩
noncomputable def o178 (P : Params) : Obj := ⟨(.type L68),none,(.seq #[] 0),#[]⟩
noncomputable def o179 (P : Params) : Obj := ⟨.none,none,(.fields #[]),#[]⟩
noncomputable def o180 (P : Params) : Obj := ⟨(.type L68),none,(.seq #[.str S211 448,.str S209 449,.str S210 450,.str S206 451,.str S219 452,.str S237 453,.str S225 454] 0),#[]⟩
noncomputable def o181 (P : Params) : Obj := ⟨(.type L68),none,(.seq #[] 0),#[]⟩
noncomputable def o182 (P : Params) : Obj := ⟨.none,none,(.func ⟨S198,S198,L2.defArgs (tp 30),(.stmts (L2.defBody (tp 30))),L2.defScope (tp 30),0,[],.none,.none,.none,.none,none,.none,.none,0⟩),#[]⟩
noncomputable def o183 (P : Params) : Obj := ⟨(.type L146),none,(.fields #[.str S198 445,.str S198 446,.str S164 447,.int 72 0,.int 4 0,.int 0 0,.int 0 0,.int 3 0,.ref 178,.bool true,.int 181 0,.ref 179,.none,.ref 180,.ref 181,.ref 182,.int 455 0,.int 72 0,.str S164 456]),#[]⟩
noncomputable def o184 (P : Params) : Obj := ⟨(.type L148),none,(.func ⟨S198,S198,L2.defArgs (tp 30),(.stmts (L2.defBody (tp 30))),L2.defScope (tp 30),3,[],.none,.none,.none,.str S167 376,none,.ref 183,.none,0⟩),#[]⟩
noncomputable def t0 : Params → BT := (f boot_o_0 (f boot_o_1 (f o3v1 (f boot_o_7 (f o15 (f o31 (f o63 (f o127 z z) z) (f o95 (f o159 z z) z)) (f o47 (f o79 (f o143 z z) z) (f o111 (f o175 z z) z))) (f o23 (f o39 (f o71 (f o135 z z) z) (f o103 (f o167 z z) z)) (f o55 (f o87 (f o151 z z) z) (f o119 (f o183 z z) z)))) (f o11 (f o19 (f o35 (f o67 (f o131 z z) z) (f o99 (f o163 z z) z)) (f o51 (f o83 (f o147 z z) z) (f o115 (f o179 z z) z))) (f o27 (f o43 (f o75 (f o139 z z) z) (f o107 (f o171 z z) z)) (f o59 (f o91 (f o155 z z) z) (f o123 z z))))) (f boot_o_5 (f boot_o_9 (f o17 (f o33 (f o65 (f o129 z z) z) (f o97 (f o161 z z) z)) (f o49 (f o81 (f o145 z z) z) (f o113 (f o177 z z) z))) (f o25 (f o41 (f o73 (f o137 z z) z) (f o105 (f o169 z z) z)) (f o57 (f o89 (f o153 z z) z) (f o121 z z)))) (f o13 (f o21 (f o37 (f o69 (f o133 z z) z) (f o101 (f o165 z z) z)) (f o53 (f o85 (f o149 z z) z) (f o117 (f o181 z z) z))) (f o29 (f o45 (f o77 (f o141 z z) z) (f o109 (f o173 z z) z)) (f o61 (f o93 (f o157 z z) z) (f o125 z z)))))) (f boot_o_2 (f boot_o_4 (f boot_o_8 (f o16 (f o32 (f o64 (f o128 z z) z) (f o96 (f o160 z z) z)) (f o48 (f o80 (f o144 z z) z) (f o112 (f o176 z z) z))) (f o24 (f o40 (f o72 (f o136 z z) z) (f o104 (f o168 z z) z)) (f o56 (f o88 (f o152 z z) z) (f o120 (f o184 z z) z)))) (f o12v1 (f o20 (f o36 (f o68 (f o132 z z) z) (f o100 (f o164 z z) z)) (f o52 (f o84 (f o148 z z) z) (f o116 (f o180 z z) z))) (f o28 (f o44 (f o76 (f o140 z z) z) (f o108 (f o172 z z) z)) (f o60 (f o92 (f o156 z z) z) (f o124 z z))))) (f boot_o_6 (f boot_o_10 (f o18 (f o34 (f o66 (f o130 z z) z) (f o98 (f o162 z z) z)) (f o50 (f o82 (f o146 z z) z) (f o114 (f o178 z z) z))) (f o26 (f o42 (f o74 (f o138 z z) z) (f o106 (f o170 z z) z)) (f o58 (f o90 (f o154 z z) z) (f o122 z z)))) (f o14 (f o22 (f o38 (f o70 (f o134 z z) z) (f o102 (f o166 z z) z)) (f o54 (f o86 (f o150 z z) z) (f o118 (f o182 z z) z))) (f o30 (f o46 (f o78 (f o142 z z) z) (f o110 (f o174 z z) z)) (f o62 (f o94 (f o158 z z) z) (f o126 z z)))))))
noncomputable abbrev s0 (w : World) (os : OsState) : SharedT := ⟨t0 w.params,185,{ },(Array.mk []),⟨0,0,0,0⟩,458,os⟩
noncomputable abbrev p0 : Pos := ⟨72,0,82,15⟩
noncomputable abbrev st0 : List Stmt := (pt.main.body.drop 0).take 31
theorem q0 (w : World) : (fun os => segRunT treeTable pt w m0 an 1 1976 (sB w os) ⟨(execs st0 en).wrap doneF deadEnd id id,cE,pB,B⟩) = fun os => some (.next,s0 w os,cE,p0) := by
  rw [PySem.W.Fast.te10110043849684766642,PySem.W.Fast.te14364793385576792824,PySem.W.Fast.te12563942051412417395]; kernel_rfl
noncomputable def o3v2 (P : Params) : Obj := ⟨(.type L0),none,(.dict #[e P S0 165 (.str S238 585),e P S2 166 .none,e P S3 167 .none,e P S4 168 (.builtin L144),e P S5 169 .none,e P S161 170 (.ref 6),e P S162 171 (.ref 4),e P S163 173 (.str S164 172),e P S165 174 .none,e P S168 193 (.ref 21),e P S169 213 (.ref 31),e P S170 229 (.ref 44),e P S171 245 (.ref 56),e P S172 261 (.ref 68),e P S173 277 (.ref 80),e P S174 293 (.ref 92),e P S175 309 (.ref 104),e P S176 319 (.ref 113),e P S177 326 (.ref 120),e P S178 333 (.ref 127),e P S179 341 (.ref 134),e P S180 345 (.str S181 344),e P S182 347 (.str S183 346),e P S184 348 (.ref 135),e P S185 363 (.ref 142),e P S186 375 (.ref 149),e P S187 379 (.str S188 378),e P S189 381 (.str S190 380),e P S191 383 (.int 1 382),e P S192 385 (.int 5 384),e P S193 387 (.int 4 386),e P S194 396 (.ref 156),e P S195 407 (.ref 163),e P S196 420 (.ref 170),e P S197 444 (.ref 177),e P S198 457 (.ref 184),e P S239 467 (.ref 191),e P S240 485 (.ref 198),e P S241 489 (.int 8 488),e P S242 491 (.int 5 490),e P S243 503 (.ref 205),e P S244 510 (.ref 212),e P S245 584 (.ref 267),e P S246 593 (.ref 278),e P S247 602 (.ref 285),e P S248 612 (.ref 292),e P S249 632 (.ref 299),e P S250 641 (.ref 306),e P S251 663 (.ref 313),e P S252 677 (.ref 320),e P S253 689 (.ref 327),e P S254 710 (.ref 334),e P S255 723 (.ref 341),e P S256 734 (.ref 348),e P S257 742 (.ref 355),e P S258 748 (.ref 360),e P S259 754 (.ref 365),e P S260 765 (.ref 372),e P S261 775 (.ref 379),e P S262 787 (.ref 386),e P S263 794 (.ref 393),e P S264 814 (.ref 400)] 62),#[]⟩
noncomputable def o12v2 (P : Params) : Obj := ⟨.none,none,(.fields #[.int 1 0,.int 0 0,.ref 20,.int 5 0,.int 0 0,.ref 27,.int 7 0,.int 0 0,.ref 40,.int 9 0,.int 0 0,.ref 52,.int 11 0,.int 0 0,.ref 64,.int 13 0,.int 0 0,.ref 76,.int 15 0,.int 0 0,.ref 88,.int 17 0,.int 0 0,.ref 100,.int 20 0,.int 0 0,.ref 112,.int 22 0,.int 0 0,.ref 119,.int 24 0,.int 0 0,.ref 126,.int 26 0,.int 0 0,.ref 133,.int 33 0,.int 0 0,.ref 141,.int 38 0,.int 0 0,.ref 148,.int 49 0,.int 0 0,.ref 155,.int 53 0,.int 0 0,.ref 162,.int 60 0,.int 0 0,.ref 169,.int 65 0,.int 0 0,.ref 176,.int 72 0,.int 0 0,.ref 183,.int 83 0,.int 0 0,.ref 190,.int 87 0,.int 0 0,.ref 197,.int 103 0,.int 0 0,.ref 204,.int 110 0,.int 0 0,.ref 211,.int 112 0,.int 0 0,.ref 218,.int 150 0,.int 0 0,.ref 277,.int 152 0,.int 0 0,.ref 284,.int 159 0,.int 0 0,.ref 291,.int 166 0,.int 0 0,.ref 298,.int 177 0,.int 0 0,.ref 305,.int 183 0,.int 0 0,.ref 312,.int 197 0,.int 0 0,.ref 319,.int 206 0,.int 0 0,.ref 326,.int 210 0,.int 0 0,.ref 333,.int 226 0,.int 0 0,.ref 340,.int 232 0,.int 0 0,.ref 347,.int 238 0,.int 0 0,.ref 354,.int 242 0,.int 0 0,.ref 359,.int 247 0,.int 0 0,.ref 364,.int 249 0,.int 0 0,.ref 371,.int 255 0,.int 0 0,.ref 378,.int 260 0,.int 0 0,.ref 385,.int 267 0,.int 0 0,.ref 392,.int 271 0,.int 0 0,.ref 399]),#[]⟩
noncomputable def o185 (P : Params) : Obj := ⟨(.type L68),none,(.seq #[] 0),#[]⟩
noncomputable def o186 (P : Params) : Obj := ⟨.none,none,(.fields #[]),#[]⟩
noncomputable def o187 (P : Params) : Obj := ⟨(.type L68),none,(.seq #[.str S211 461,.str S209 462,.str S210 463,.str S206 464] 0),#[]⟩
noncomputable def o188 (P : Params) : Obj := ⟨(.type L68),none,(.seq #[] 0),#[]⟩
noncomputable def o189 (P : Params) : Obj := ⟨.none,none,(.func ⟨S239,S239,L2.defArgs (tp 31),(.stmts (L2.defBody (tp 31))),L2.defScope (tp 31),0,[],.none,.none,.none,.none,none,.none,.none,0⟩),#[]⟩
noncomputable def o190 (P : Params) : Obj := ⟨(.type L146),none,(.fields #[.str S239 458,.str S239 459,.str S164 460,.int 83 0,.int 4 0,.int 0 0,.int 0 0,.int 3 0,.ref 185,.bool true,.int 181 0,.ref 186,.none,.ref 187,.ref 188,.ref 189,.int 465 0,.int 83 0,.str S164 466]),#[]⟩
noncomputable def o191 (P : Params) : Obj := ⟨(.type L148),none,(.func ⟨S239,S239,L2.defArgs (tp 31),(.stmts (L2.defBody (tp 31))),L2.defScope (tp 31),3,[],.none,.none,.none,.str S167 376,none,.ref 190,.none,0⟩),#[]⟩
noncomputable def o192 (P : Params) : Obj := ⟨(.type L68),none,(.seq #[] 0),#[]⟩
noncomputable def o193 (P : Params) : Obj := ⟨.none,none,(.fields #[]),#[]⟩
noncomputable def o194 (P : Params) : Obj := ⟨(.type L68),none,(.seq #[.str S211 473,.str S209 474,.str S210 475,.str S226 476,.str S265 477,.str S237 478,.str S266 479,.str S267 480,.str S268 481,.str S221 482] 0),#[]⟩
noncomputable def o195 (P : Params) : Obj := ⟨(.type L68),none,(.seq #[] 0),#[]⟩
noncomputable def o196 (P : Params) : Obj := ⟨.none,none,(.func ⟨S240,S240,L2.defArgs (tp 33),(.stmts (L2.defBody (tp 33))),L2.defScope (tp 33),0,[],.none,.none,.none,.none,none,.none,.none,0⟩),#[]⟩
noncomputable def o197 (P : Params) : Obj := ⟨(.type L146),none,(.fields #[.str S240 470,.str S240 471,.str S164 472,.int 87 0,.int 4 0,.int 0 0,.int 0 0,.int 3 0,.ref 192,.bool true,.int 181 0,.ref 193,.none,.ref 194,.ref 195,.ref 196,.int 483 0,.int 87 0,.str S164 484]),#[]⟩
noncomputable def o198 (P : Params) : Obj := ⟨(.type L148),none,(.func ⟨S240,S240,L2.defArgs (tp 33),(.stmts (L2.defBody (tp 33))),L2.defScope (tp 33),3,[],.none,.none,.none,.str S269 468,none,.ref 197,.none,0⟩),#[]⟩
noncomputable def o199 (P : Params) : Obj := ⟨(.type L68),none,(.seq #[] 0),#[]⟩
noncomputable def o200 (P : Params) : Obj := ⟨.none,none,(.fields #[]),#[]⟩
noncomputable def o201 (P : Params) : Obj := ⟨(.type L68),none,(.seq #[.str S206 495,.str S209 496,.str S210 497,.str S270 498,.str S271 499,.str S268 500] 0),#[]⟩
noncomputable def o202 (P : Params) : Obj := ⟨(.type L68),none,(.seq #[] 0),#[]⟩
noncomputable def o203 (P : Params) : Obj := ⟨.none,none,(.func ⟨S243,S243,L2.defArgs (tp 37),(.stmts (L2.defBody (tp 37))),L2.defScope (tp 37),0,[],.none,.none,.none,.none,none,.none,.none,0⟩),#[]⟩
noncomputable def o204 (P : Params) : Obj := ⟨(.type L146),none,(.fields #[.str S243 492,.str S243 493,.str S164 494,.int 103 0,.int 1 0,.int 0 0,.int 0 0,.int 3 0,.ref 199,.bool true,.int 181 0,.ref 200,.none,.ref 201,.ref 202,.ref 203,.int 501 0,.int 103 0,.str S164 502]),#[]⟩
noncomputable def o205 (P : Params) : Obj := ⟨(.type L148),none,(.func ⟨S243,S243,L2.defArgs (tp 37),(.stmts (L2.defBody (tp 37))),L2.defScope (tp 37),3,[],.none,.none,.none,.str S272 486,none,.ref 204,.none,0⟩),#[]⟩
noncomputable def o206 (P : Params) : Obj := ⟨(.type L68),none,(.seq #[] 0),#[]⟩
noncomputable def o207 (P : Params) : Obj := ⟨.none,none,(.fields #[]),#[]⟩
noncomputable def o208 (P : Params) : Obj := ⟨(.type L68),none,(.seq #[.str S212 507] 0),#[]⟩
noncomputable def o209 (P : Params) : Obj := ⟨(.type L68),none,(.seq #[] 0),#[]⟩
noncomputable def o210 (P : Params) : Obj := ⟨.none,none,(.func ⟨S244,S244,L2.defArgs (tp 38),(.stmts (L2.defBody (tp 38))),L2.defScope (tp 38),0,[],.none,.none,.none,.none,none,.none,.none,0⟩),#[]⟩
noncomputable def o211 (P : Params) : Obj := ⟨(.type L146),none,(.fields #[.str S244 504,.str S244 505,.str S164 506,.int 110 0,.int 1 0,.int 0 0,.int 0 0,.int 3 0,.ref 206,.bool true,.int 181 0,.ref 207,.none,.ref 208,.ref 209,.ref 210,.int 508 0,.int 110 0,.str S164 509]),#[]⟩
noncomputable def o212 (P : Params) : Obj := ⟨(.type L148),none,(.func ⟨S244,S244,L2.defArgs (tp 38),(.stmts (L2.defBody (tp 38))),L2.defScope (tp 38),3,[],.none,.none,.none,.str S272 486,none,.ref 211,.none,0⟩),#[]⟩
noncomputable def o213 (P : Params) : Obj := ⟨(.type L68),none,(.seq #[] 0),#[]⟩
noncomputable def o214 (P : Params) : Obj := ⟨(.type L149),none,(.fields #[.builtin L150,.type L69]),#[]⟩
noncomputable def o215 (P : Params) : Obj := ⟨(.type L0),none,(.dict #[e P S200 518 (.str S272 486),e P S202 520 (.str S245 519),e P S203 522 (.int 112 521),e P S273 528 (.ref 224),e P S219 535 (.ref 231),e P S274 542 (.ref 238),e P S271 548 (.ref 243),e P S275 555 (.ref 250),e P S276 564 (.ref 257),e P S277 574 (.ref 264),e P S204 577 (.ref 265)] 11),#[]⟩
noncomputable def o216 (P : Params) : Obj := ⟨(.type L68),none,(.seq #[] 0),#[]⟩
noncomputable def o217 (P : Params) : Obj := ⟨.none,none,(.fields #[.int 114 0,.int 4 0,.ref 223,.int 125 0,.int 4 0,.ref 230,.int 128 0,.int 4 0,.ref 237,.int 131 0,.int 4 0,.ref 242,.int 134 0,.int 4 0,.ref 249,.int 137 0,.int 4 0,.ref 256,.int 142 0,.int 4 0,.ref 263]),#[]⟩
noncomputable def o218 (P : Params) : Obj := ⟨(.type L146),none,(.fields #[.str S245 513,.str S245 514,.str S164 515,.int 112 0,.int 0 0,.int 0 0,.int 0 0,.int 0 0,.ref 216,.bool false,.int 181 0,.ref 217,.none,.none,.none,.none,.int 516 0,.int 112 0,.str S164 517]),#[]⟩
noncomputable def o219 (P : Params) : Obj := ⟨(.type L147),none,.plain,#[some (.ref 218),some (.ref 3),some (.ref 215),none,some (.str S272 486),none,some (.ref 0)]⟩
noncomputable def o220 (P : Params) : Obj := ⟨(.type L68),none,(.seq #[] 0),#[]⟩
noncomputable def o221 (P : Params) : Obj := ⟨.none,none,(.fields #[]),#[]⟩
noncomputable def o222 (P : Params) : Obj := ⟨.none,none,(.func ⟨S273,S278,L2.defArgs (L2.inClass (tp 39) 0),(.stmts (L2.defBody (L2.inClass (tp 39) 0))),L2.defScope (L2.inClass (tp 39) 0),0,[],.none,.none,.none,.none,none,.none,.none,0⟩),#[]⟩
noncomputable def o223 (P : Params) : Obj := ⟨(.type L146),none,(.fields #[.str S273 523,.str S278 524,.str S164 525,.int 114 0,.int 3 0,.int 0 0,.int 0 0,.int 3 0,.ref 220,.bool true,.int 181 0,.ref 221,.none,.none,.none,.ref 222,.int 526 0,.int 114 0,.str S164 527]),#[]⟩
noncomputable def o224 (P : Params) : Obj := ⟨(.type L148),none,(.func ⟨S273,S278,L2.defArgs (L2.inClass (tp 39) 0),(.stmts (L2.defBody (L2.inClass (tp 39) 0))),L2.defScope (L2.inClass (tp 39) 0),3,[],.none,.none,.none,.str S272 486,none,.ref 223,.none,0⟩),#[]⟩
noncomputable def o225 (P : Params) : Obj := ⟨(.type L68),none,(.seq #[] 0),#[]⟩
noncomputable def o226 (P : Params) : Obj := ⟨.none,none,(.fields #[]),#[]⟩
noncomputable def o227 (P : Params) : Obj := ⟨(.type L68),none,(.seq #[.str S279 532] 0),#[]⟩
noncomputable def o228 (P : Params) : Obj := ⟨(.type L68),none,(.seq #[] 0),#[]⟩
noncomputable def o229 (P : Params) : Obj := ⟨.none,none,(.func ⟨S219,S280,L2.defArgs (L2.inClass (tp 39) 1),(.stmts (L2.defBody (L2.inClass (tp 39) 1))),L2.defScope (L2.inClass (tp 39) 1),0,[],.none,.none,.none,.none,none,.none,.none,0⟩),#[]⟩
noncomputable def o230 (P : Params) : Obj := ⟨(.type L146),none,(.fields #[.str S219 529,.str S280 530,.str S164 531,.int 125 0,.int 1 0,.int 0 0,.int 0 0,.int 3 0,.ref 225,.bool true,.int 181 0,.ref 226,.none,.ref 227,.ref 228,.ref 229,.int 533 0,.int 125 0,.str S164 534]),#[]⟩
noncomputable def o231 (P : Params) : Obj := ⟨(.type L148),none,(.func ⟨S219,S280,L2.defArgs (L2.inClass (tp 39) 1),(.stmts (L2.defBody (L2.inClass (tp 39) 1))),L2.defScope (L2.inClass (tp 39) 1),3,[],.none,.none,.none,.str S272 486,none,.ref 230,.none,0⟩),#[]⟩
noncomputable def o232 (P : Params) : Obj := ⟨(.type L68),none,(.seq #[] 0),#[]⟩
noncomputable def o233 (P : Params) : Obj := ⟨.none,none,(.fields #[]),#[]⟩
noncomputable def o234 (P : Params) : Obj := ⟨(.type L68),none,(.seq #[.str S279 539] 0),#[]⟩
noncomputable def o235 (P : Params) : Obj := ⟨(.type L68),none,(.seq #[] 0),#[]⟩
noncomputable def o236 (P : Params) : Obj := ⟨.none,none,(.func ⟨S274,S281,L2.defArgs (L2.inClass (tp 39) 2),(.stmts (L2.defBody (L2.inClass (tp 39) 2))),L2.defScope (L2.inClass (tp 39) 2),0,[],.none,.none,.none,.none,none,.none,.none,0⟩),#[]⟩
noncomputable def o237 (P : Params) : Obj := ⟨(.type L146),none,(.fields #[.str S274 536,.str S281 537,.str S164 538,.int 128 0,.int 1 0,.int 0 0,.int 0 0,.int 3 0,.ref 232,.bool true,.int 181 0,.ref 233,.none,.ref 234,.ref 235,.ref 236,.int 540 0,.int 128 0,.str S164 541]),#[]⟩
noncomputable def o238 (P : Params) : Obj := ⟨(.type L148),none,(.func ⟨S274,S281,L2.defArgs (L2.inClass (tp 39) 2),(.stmts (L2.defBody (L2.inClass (tp 39) 2))),L2.defScope (L2.inClass (tp 39) 2),3,[],.none,.none,.none,.str S272 486,none,.ref 237,.none,0⟩),#[]⟩
noncomputable def o239 (P : Params) : Obj := ⟨(.type L68),none,(.seq #[] 0),#[]⟩
noncomputable def o240 (P : Params) : Obj := ⟨.none,none,(.fields #[]),#[]⟩
noncomputable def o241 (P : Params) : Obj := ⟨.none,none,(.func ⟨S271,S282,L2.defArgs (L2.inClass (tp 39) 3),(.stmts (L2.defBody (L2.inClass (tp 39) 3))),L2.defScope (L2.inClass (tp 39) 3),0,[],.none,.none,.none,.none,none,.none,.none,0⟩),#[]⟩
noncomputable def o242 (P : Params) : Obj := ⟨(.type L146),none,(.fields #[.str S271 543,.str S282 544,.str S164 545,.int 131 0,.int 1 0,.int 0 0,.int 0 0,.int 3 0,.ref 239,.bool true,.int 181 0,.ref 240,.none,.none,.none,.ref 241,.int 546 0,.int 131 0,.str S164 547]),#[]⟩
noncomputable def o243 (P : Params) : Obj := ⟨(.type L148),none,(.func ⟨S271,S282,L2.defArgs (L2.inClass (tp 39) 3),(.stmts (L2.defBody (L2.inClass (tp 39) 3))),L2.defScope (L2.inClass (tp 39) 3),3,[],.none,.none,.none,.str S272 486,none,.ref 242,.none,0⟩),#[]⟩
noncomputable def o244 (P : Params) : Obj := ⟨(.type L68),none,(.seq #[] 0),#[]⟩
noncomputable def o245 (P : Params) : Obj := ⟨.none,none,(.fields #[]),#[]⟩
noncomputable def o246 (P : Params) : Obj := ⟨(.type L68),none,(.seq #[.str S279 552] 0),#[]⟩
noncomputable def o247 (P : Params) : Obj := ⟨(.type L68),none,(.seq #[] 0),#[]⟩
noncomputable def o248 (P : Params) : Obj := ⟨.none,none,(.func ⟨S275,S283,L2.defArgs (L2.inClass (tp 39) 4),(.stmts (L2.defBody (L2.inClass (tp 39) 4))),L2.defScope (L2.inClass (tp 39) 4),0,[],.none,.none,.none,.none,none,.none,.none,0⟩),#[]⟩
noncomputable def o249 (P : Params) : Obj := ⟨(.type L146),none,(.fields #[.str S275 549,.str S283 550,.str S164 551,.int 134 0,.int 1 0,.int 0 0,.int 0 0,.int 3 0,.ref 244,.bool true,.int 181 0,.ref 245,.none,.ref 246,.ref 247,.ref 248,.int 553 0,.int 134 0,.str S164 554]),#[]⟩
noncomputable def o250 (P : Params) : Obj := ⟨(.type L148),none,(.func ⟨S275,S283,L2.defArgs (L2.inClass (tp 39) 4),(.stmts (L2.defBody (L2.inClass (tp 39) 4))),L2.defScope (L2.inClass (tp 39) 4),3,[],.none,.none,.none,.str S272 486,none,.ref 249,.none,0⟩),#[]⟩
noncomputable def o251 (P : Params) : Obj := ⟨(.type L68),none,(.seq #[] 0),#[]⟩
noncomputable def o252 (P : Params) : Obj := ⟨.none,none,(.fields #[]),#[]⟩
noncomputable def o253 (P : Params) : Obj := ⟨(.type L68),none,(.seq #[.str S279 559,.str S212 560,.str S213 561] 0),#[]⟩
noncomputable def o254 (P : Params) : Obj := ⟨(.type L68),none,(.seq #[] 0),#[]⟩
noncomputable def o255 (P : Params) : Obj := ⟨.none,none,(.func ⟨S276,S284,L2.defArgs (L2.inClass (tp 39) 5),(.stmts (L2.defBody (L2.inClass (tp 39) 5))),L2.defScope (L2.inClass (tp 39) 5),0,[],.none,.none,.none,.none,none,.none,.none,0⟩),#[]⟩
noncomputable def o256 (P : Params) : Obj := ⟨(.type L146),none,(.fields #[.str S276 556,.str S284 557,.str S164 558,.int 137 0,.int 3 0,.int 0 0,.int 0 0,.int 3 0,.ref 251,.bool true,.int 181 0,.ref 252,.none,.ref 253,.ref 254,.ref 255,.int 562 0,.int 137 0,.str S164 563]),#[]⟩
noncomputable def o257 (P : Params) : Obj := ⟨(.type L148),none,(.func ⟨S276,S284,L2.defArgs (L2.inClass (tp 39) 5),(.stmts (L2.defBody (L2.inClass (tp 39) 5))),L2.defScope (L2.inClass (tp 39) 5),3,[],.none,.none,.none,.str S272 486,none,.ref 256,.none,0⟩),#[]⟩
noncomputable def o258 (P : Params) : Obj := ⟨(.type L68),none,(.seq #[] 0),#[]⟩
noncomputable def o259 (P : Params) : Obj := ⟨.none,none,(.fields #[]),#[]⟩
noncomputable def o260 (P : Params) : Obj := ⟨(.type L68),none,(.seq #[.str S279 568,.str S212 569,.str S213 570,.str S285 571] 0),#[]⟩
noncomputable def o261 (P : Params) : Obj := ⟨(.type L68),none,(.seq #[] 0),#[]⟩
noncomputable def o262 (P : Params) : Obj := ⟨.none,none,(.func ⟨S277,S286,L2.defArgs (L2.inClass (tp 39) 6),(.stmts (L2.defBody (L2.inClass (tp 39) 6))),L2.defScope (L2.inClass (tp 39) 6),0,[],.none,.none,.none,.none,none,.none,.none,0⟩),#[]⟩
noncomputable def o263 (P : Params) : Obj := ⟨(.type L146),none,(.fields #[.str S277 565,.str S286 566,.str S164 567,.int 142 0,.int 3 0,.int 0 0,.int 0 0,.int 3 0,.ref 258,.bool true,.int 181 0,.ref 259,.none,.ref 260,.ref 261,.ref 262,.int 572 0,.int 142 0,.str S164 573]),#[]⟩
noncomputable def o264 (P : Params) : Obj := ⟨(.type L148),none,(.func ⟨S277,S286,L2.defArgs (L2.inClass (tp 39) 6),(.stmts (L2.defBody (L2.inClass (tp 39) 6))),L2.defScope (L2.inClass (tp 39) 6),3,[],.none,.none,.none,.str S272 486,none,.ref 263,.none,0⟩),#[]⟩
noncomputable def o265 (P : Params) : Obj := ⟨(.type L68),none,(.seq #[.str S287 575,.str S288 576] 0),#[]⟩
noncomputable def o266 (P : Params) : Obj := ⟨(.type L0),none,(.dict #[e P S200 518 (.str S272 486),e P S203 522 (.int 112 521),e P S273 528 (.ref 224),e P S219 535 (.ref 231),e P S274 542 (.ref 238),e P S271 548 (.ref 243),e P S275 555 (.ref 250),e P S276 564 (.ref 257),e P S277 574 (.ref 264),e P S204 577 (.ref 265),e P S289 579 (.ref 268),e P S205 581 (.ref 269),e P S2 582 .none] 4),#[]⟩
noncomputable abbrev L155 : String := PySem.W.SL.s11443829558043349243x14
noncomputable def o267 (P : Params) : Obj := ⟨(.type L69),none,(.cls ⟨S245,[.type L60],[.ref 267,.type L60],266,S245,true,[],[],false,none,false⟩),#[none,none,some (.str S245 511),some (.str S245 519),some (.builtin L155),some (.bool true)]⟩
noncomputable abbrev L156 : String := PySem.W.SL.s6511155373996960695x17
noncomputable abbrev L157 : String := PySem.W.SL.s12411053484034534018x21
noncomputable def o268 (P : Params) : Obj := ⟨(.type L152),none,(.fields #[.str S289 578,.ref 267,.builtin L156,.builtin L157]),#[]⟩
noncomputable def o269 (P : Params) : Obj := ⟨(.type L152),none,(.fields #[.str S205 580,.ref 267,.builtin L153,.none]),#[]⟩
noncomputable def o270 (P : Params) : Obj := ⟨(.type L67),none,(.fields #[.ref 267,.ref 267,.ref 267]),#[]⟩
noncomputable def o271 (P : Params) : Obj := ⟨(.type L149),none,(.fields #[.builtin L154,.ref 267]),#[]⟩
noncomputable def o272 (P : Params) : Obj := ⟨(.type L68),none,(.seq #[] 0),#[]⟩
noncomputable def o273 (P : Params) : Obj := ⟨.none,none,(.fields #[]),#[]⟩
noncomputable def o274 (P : Params) : Obj := ⟨(.type L68),none,(.seq #[.str S290 590] 0),#[]⟩
noncomputable def o275 (P : Params) : Obj := ⟨(.type L68),none,(.seq #[] 0),#[]⟩
noncomputable def o276 (P : Params) : Obj := ⟨.none,none,(.func ⟨S246,S246,L2.defArgs (tp 41),(.stmts (L2.defBody (tp 41))),L2.defScope (tp 41),0,[],.none,.none,.none,.none,none,.none,.none,0⟩),#[]⟩
noncomputable def o277 (P : Params) : Obj := ⟨(.type L146),none,(.fields #[.str S246 587,.str S246 588,.str S164 589,.int 150 0,.int 1 0,.int 0 0,.int 0 0,.int 3 0,.ref 272,.bool true,.int 181 0,.ref 273,.none,.ref 274,.ref 275,.ref 276,.int 591 0,.int 150 0,.str S164 592]),#[]⟩
noncomputable def o278 (P : Params) : Obj := ⟨(.type L148),none,(.func ⟨S246,S246,L2.defArgs (tp 41),(.stmts (L2.defBody (tp 41))),L2.defScope (tp 41),3,[],.none,.none,.none,.str S238 585,none,.ref 277,.none,0⟩),#[]⟩
noncomputable def o279 (P : Params) : Obj := ⟨(.type L68),none,(.seq #[] 0),#[]⟩
noncomputable def o280 (P : Params) : Obj := ⟨.none,none,(.fields #[]),#[]⟩
noncomputable def o281 (P : Params) : Obj := ⟨(.type L68),none,(.seq #[.str S291 597,.str S292 598,.str S293 599] 0),#[]⟩
noncomputable def o282 (P : Params) : Obj := ⟨(.type L68),none,(.seq #[] 0),#[]⟩
noncomputable def o283 (P : Params) : Obj := ⟨.none,none,(.func ⟨S247,S247,L2.defArgs (tp 42),(.stmts (L2.defBody (tp 42))),L2.defScope (tp 42),0,[],.none,.none,.none,.none,none,.none,.none,0⟩),#[]⟩
noncomputable def o284 (P : Params) : Obj := ⟨(.type L146),none,(.fields #[.str S247 594,.str S247 595,.str S164 596,.int 152 0,.int 2 0,.int 0 0,.int 0 0,.int 3 0,.ref 279,.bool true,.int 181 0,.ref 280,.none,.ref 281,.ref 282,.ref 283,.int 600 0,.int 152 0,.str S164 601]),#[]⟩
noncomputable def o285 (P : Params) : Obj := ⟨(.type L148),none,(.func ⟨S247,S247,L2.defArgs (tp 42),(.stmts (L2.defBody (tp 42))),L2.defScope (tp 42),3,[],.none,.none,.none,.str S238 585,none,.ref 284,.none,0⟩),#[]⟩
noncomputable def o286 (P : Params) : Obj := ⟨(.type L68),none,(.seq #[] 0),#[]⟩
noncomputable def o287 (P : Params) : Obj := ⟨.none,none,(.fields #[]),#[]⟩
noncomputable def o288 (P : Params) : Obj := ⟨(.type L68),none,(.seq #[.str S291 606,.str S292 607,.str S294 608,.str S295 609] 0),#[]⟩
noncomputable def o289 (P : Params) : Obj := ⟨(.type L68),none,(.seq #[] 0),#[]⟩
noncomputable def o290 (P : Params) : Obj := ⟨.none,none,(.func ⟨S248,S248,L2.defArgs (tp 43),(.stmts (L2.defBody (tp 43))),L2.defScope (tp 43),0,[],.none,.none,.none,.none,none,.none,.none,0⟩),#[]⟩
noncomputable def o291 (P : Params) : Obj := ⟨(.type L146),none,(.fields #[.str S248 603,.str S248 604,.str S164 605,.int 159 0,.int 2 0,.int 0 0,.int 0 0,.int 3 0,.ref 286,.bool true,.int 181 0,.ref 287,.none,.ref 288,.ref 289,.ref 290,.int 610 0,.int 159 0,.str S164 611]),#[]⟩
noncomputable def o292 (P : Params) : Obj := ⟨(.type L148),none,(.func ⟨S248,S248,L2.defArgs (tp 43),(.stmts (L2.defBody (tp 43))),L2.defScope (tp 43),3,[],.none,.none,.none,.str S238 585,none,.ref 291,.none,0⟩),#[]⟩
noncomputable def o293 (P : Params) : Obj := ⟨(.type L68),none,(.seq #[] 0),#[]⟩
noncomputable def o294 (P : Params) : Obj := ⟨.none,none,(.fields #[]),#[]⟩
noncomputable def o295 (P : Params) : Obj := ⟨(.type L68),none,(.seq #[.str S291 616,.str S296 617,.str S297 618,.str S298 619,.str S299 620,.str S293 621,.str S300 622,.str S301 623,.str S302 624,.str S303 625,.str S304 626,.str S305 627,.str S306 628,.str S307 629] 0),#[]⟩
noncomputable def o296 (P : Params) : Obj := ⟨(.type L68),none,(.seq #[] 0),#[]⟩
noncomputable def o297 (P : Params) : Obj := ⟨.none,none,(.func ⟨S249,S249,L2.defArgs (tp 44),(.stmts (L2.defBody (tp 44))),L2.defScope (tp 44),0,[],.none,.none,.none,.none,none,.none,.none,0⟩),#[]⟩
noncomputable def o298 (P : Params) : Obj := ⟨(.type L146),none,(.fields #[.str S249 613,.str S249 614,.str S164 615,.int 166 0,.int 4 0,.int 0 0,.int 0 0,.int 3 0,.ref 293,.bool true,.int 181 0,.ref 294,.none,.ref 295,.ref 296,.ref 297,.int 630 0,.int 166 0,.str S164 631]),#[]⟩
noncomputable def o299 (P : Params) : Obj := ⟨(.type L148),none,(.func ⟨S249,S249,L2.defArgs (tp 44),(.stmts (L2.defBody (tp 44))),L2.defScope (tp 44),3,[],.none,.none,.none,.str S238 585,none,.ref 298,.none,0⟩),#[]⟩
noncomputable def o300 (P : Params) : Obj := ⟨(.type L68),none,(.seq #[] 0),#[]⟩
noncomputable def o301 (P : Params) : Obj := ⟨.none,none,(.fields #[]),#[]⟩
noncomputable def o302 (P : Params) : Obj := ⟨(.type L68),none,(.seq #[.str S291 636,.str S308 637,.str S309 638] 0),#[]⟩
noncomputable def o303 (P : Params) : Obj := ⟨(.type L68),none,(.seq #[] 0),#[]⟩
noncomputable def o304 (P : Params) : Obj := ⟨.none,none,(.func ⟨S250,S250,L2.defArgs (tp 45),(.stmts (L2.defBody (tp 45))),L2.defScope (tp 45),0,[],.none,.none,.none,.none,none,.none,.none,0⟩),#[]⟩
noncomputable def o305 (P : Params) : Obj := ⟨(.type L146),none,(.fields #[.str S250 633,.str S250 634,.str S164 635,.int 177 0,.int 3 0,.int 0 0,.int 0 0,.int 3 0,.ref 300,.bool true,.int 181 0,.ref 301,.none,.ref 302,.ref 303,.ref 304,.int 639 0,.int 177 0,.str S164 640]),#[]⟩
noncomputable def o306 (P : Params) : Obj := ⟨(.type L148),none,(.func ⟨S250,S250,L2.defArgs (tp 45),(.stmts (L2.defBody (tp 45))),L2.defScope (tp 45),3,[],.none,.none,.none,.str S238 585,none,.ref 305,.none,0⟩),#[]⟩
noncomputable def o307 (P : Params) : Obj := ⟨(.type L68),none,(.seq #[] 0),#[]⟩
noncomputable def o308 (P : Params) : Obj := ⟨.none,none,(.fields #[]),#[]⟩
noncomputable def o309 (P : Params) : Obj := ⟨(.type L68),none,(.seq #[.str S291 645,.str S310 646,.str S311 647,.str S296 648,.str S312 649,.str S313 650,.str S308 651,.str S309 652,.str S297 653,.str S298 654,.str S314 655,.str S315 656,.str S316 657,.str S299 658,.str S317 659,.str S318 660] 0),#[]⟩
noncomputable def o310 (P : Params) : Obj := ⟨(.type L68),none,(.seq #[] 0),#[]⟩
noncomputable def o311 (P : Params) : Obj := ⟨.none,none,(.func ⟨S251,S251,L2.defArgs (tp 46),(.stmts (L2.defBody (tp 46))),L2.defScope (tp 46),0,[],.none,.none,.none,.none,none,.none,.none,0⟩),#[]⟩
noncomputable def o312 (P : Params) : Obj := ⟨(.type L146),none,(.fields #[.str S251 642,.str S251 643,.str S164 644,.int 183 0,.int 8 0,.int 0 0,.int 0 0,.int 3 0,.ref 307,.bool true,.int 181 0,.ref 308,.none,.ref 309,.ref 310,.ref 311,.int 661 0,.int 183 0,.str S164 662]),#[]⟩
noncomputable def o313 (P : Params) : Obj := ⟨(.type L148),none,(.func ⟨S251,S251,L2.defArgs (tp 46),(.stmts (L2.defBody (tp 46))),L2.defScope (tp 46),3,[],.none,.none,.none,.str S238 585,none,.ref 312,.none,0⟩),#[]⟩
noncomputable def o314 (P : Params) : Obj := ⟨(.type L68),none,(.seq #[] 0),#[]⟩
noncomputable def o315 (P : Params) : Obj := ⟨.none,none,(.fields #[]),#[]⟩
noncomputable def o316 (P : Params) : Obj := ⟨(.type L68),none,(.seq #[.str S291 667,.str S311 668,.str S312 669,.str S314 670,.str S292 671,.str S315 672,.str S319 673,.str S295 674] 0),#[]⟩
noncomputable def o317 (P : Params) : Obj := ⟨(.type L68),none,(.seq #[] 0),#[]⟩
noncomputable def o318 (P : Params) : Obj := ⟨.none,none,(.func ⟨S252,S252,L2.defArgs (tp 47),(.stmts (L2.defBody (tp 47))),L2.defScope (tp 47),0,[],.none,.none,.none,.none,none,.none,.none,0⟩),#[]⟩
noncomputable def o319 (P : Params) : Obj := ⟨(.type L146),none,(.fields #[.str S252 664,.str S252 665,.str S164 666,.int 197 0,.int 4 0,.int 0 0,.int 0 0,.int 3 0,.ref 314,.bool true,.int 181 0,.ref 315,.none,.ref 316,.ref 317,.ref 318,.int 675 0,.int 197 0,.str S164 676]),#[]⟩
noncomputable def o320 (P : Params) : Obj := ⟨(.type L148),none,(.func ⟨S252,S252,L2.defArgs (tp 47),(.stmts (L2.defBody (tp 47))),L2.defScope (tp 47),3,[],.none,.none,.none,.str S238 585,none,.ref 319,.none,0⟩),#[]⟩
noncomputable def o321 (P : Params) : Obj := ⟨(.type L68),none,(.seq #[] 0),#[]⟩
noncomputable def o322 (P : Params) : Obj := ⟨.none,none,(.fields #[]),#[]⟩
noncomputable def o323 (P : Params) : Obj := ⟨(.type L68),none,(.seq #[.str S291 681,.str S311 682,.str S296 683,.str S312 684,.str S308 685,.str S314 686] 0),#[]⟩
noncomputable def o324 (P : Params) : Obj := ⟨(.type L68),none,(.seq #[] 0),#[]⟩
noncomputable def o325 (P : Params) : Obj := ⟨.none,none,(.func ⟨S253,S253,L2.defArgs (tp 48),(.stmts (L2.defBody (tp 48))),L2.defScope (tp 48),0,[],.none,.none,.none,.none,none,.none,.none,0⟩),#[]⟩
noncomputable def o326 (P : Params) : Obj := ⟨(.type L146),none,(.fields #[.str S253 678,.str S253 679,.str S164 680,.int 206 0,.int 6 0,.int 0 0,.int 0 0,.int 3 0,.ref 321,.bool true,.int 181 0,.ref 322,.none,.ref 323,.ref 324,.ref 325,.int 687 0,.int 206 0,.str S164 688]),#[]⟩
noncomputable def o327 (P : Params) : Obj := ⟨(.type L148),none,(.func ⟨S253,S253,L2.defArgs (tp 48),(.stmts (L2.defBody (tp 48))),L2.defScope (tp 48),3,[],.none,.none,.none,.str S238 585,none,.ref 326,.none,0⟩),#[]⟩
noncomputable def o328 (P : Params) : Obj := ⟨(.type L68),none,(.seq #[] 0),#[]⟩
noncomputable def o329 (P : Params) : Obj := ⟨.none,none,(.fields #[]),#[]⟩
noncomputable def o330 (P : Params) : Obj := ⟨(.type L68),none,(.seq #[.str S291 693,.str S311 694,.str S296 695,.str S312 696,.str S319 697,.str S308 698,.str S309 699,.str S314 700,.str S320 701,.str S297 702,.str S298 703,.str S321 704,.str S322 705,.str S323 706,.str S318 707] 0),#[]⟩
noncomputable def o331 (P : Params) : Obj := ⟨(.type L68),none,(.seq #[] 0),#[]⟩
noncomputable def o332 (P : Params) : Obj := ⟨.none,none,(.func ⟨S254,S254,L2.defArgs (tp 49),(.stmts (L2.defBody (tp 49))),L2.defScope (tp 49),0,[],.none,.none,.none,.none,none,.none,.none,0⟩),#[]⟩
noncomputable def o333 (P : Params) : Obj := ⟨(.type L146),none,(.fields #[.str S254 690,.str S254 691,.str S164 692,.int 210 0,.int 6 0,.int 0 0,.int 0 0,.int 3 0,.ref 328,.bool true,.int 181 0,.ref 329,.none,.ref 330,.ref 331,.ref 332,.int 708 0,.int 210 0,.str S164 709]),#[]⟩
noncomputable def o334 (P : Params) : Obj := ⟨(.type L148),none,(.func ⟨S254,S254,L2.defArgs (tp 49),(.stmts (L2.defBody (tp 49))),L2.defScope (tp 49),3,[],.none,.none,.none,.str S238 585,none,.ref 333,.none,0⟩),#[]⟩
noncomputable def o335 (P : Params) : Obj := ⟨(.type L68),none,(.seq #[] 0),#[]⟩
noncomputable def o336 (P : Params) : Obj := ⟨.none,none,(.fields #[]),#[]⟩
noncomputable def o337 (P : Params) : Obj := ⟨(.type L68),none,(.seq #[.str S291 714,.str S311 715,.str S296 716,.str S308 717,.str S312 718,.str S319 719,.str S295 720] 0),#[]⟩
noncomputable def o338 (P : Params) : Obj := ⟨(.type L68),none,(.seq #[] 0),#[]⟩
noncomputable def o339 (P : Params) : Obj := ⟨.none,none,(.func ⟨S255,S255,L2.defArgs (tp 50),(.stmts (L2.defBody (tp 50))),L2.defScope (tp 50),0,[],.none,.none,.none,.none,none,.none,.none,0⟩),#[]⟩
noncomputable def o340 (P : Params) : Obj := ⟨(.type L146),none,(.fields #[.str S255 711,.str S255 712,.str S164 713,.int 226 0,.int 4 0,.int 0 0,.int 0 0,.int 3 0,.ref 335,.bool true,.int 181 0,.ref 336,.none,.ref 337,.ref 338,.ref 339,.int 721 0,.int 226 0,.str S164 722]),#[]⟩
noncomputable def o341 (P : Params) : Obj := ⟨(.type L148),none,(.func ⟨S255,S255,L2.defArgs (tp 50),(.stmts (L2.defBody (tp 50))),L2.defScope (tp 50),3,[],.none,.none,.none,.str S238 585,none,.ref 340,.none,0⟩),#[]⟩
noncomputable def o342 (P : Params) : Obj := ⟨(.type L68),none,(.seq #[] 0),#[]⟩
noncomputable def o343 (P : Params) : Obj := ⟨.none,none,(.fields #[]),#[]⟩
noncomputable def o344 (P : Params) : Obj := ⟨(.type L68),none,(.seq #[.str S291 727,.str S311 728,.str S296 729,.str S308 730,.str S312 731] 0),#[]⟩
noncomputable def o345 (P : Params) : Obj := ⟨(.type L68),none,(.seq #[] 0),#[]⟩
noncomputable def o346 (P : Params) : Obj := ⟨.none,none,(.func ⟨S256,S256,L2.defArgs (tp 51),(.stmts (L2.defBody (tp 51))),L2.defScope (tp 51),0,[],.none,.none,.none,.none,none,.none,.none,0⟩),#[]⟩
noncomputable def o347 (P : Params) : Obj := ⟨(.type L146),none,(.fields #[.str S256 724,.str S256 725,.str S164 726,.int 232 0,.int 3 0,.int 0 0,.int 0 0,.int 3 0,.ref 342,.bool true,.int 181 0,.ref 343,.none,.ref 344,.ref 345,.ref 346,.int 732 0,.int 232 0,.str S164 733]),#[]⟩
noncomputable def o348 (P : Params) : Obj := ⟨(.type L148),none,(.func ⟨S256,S256,L2.defArgs (tp 51),(.stmts (L2.defBody (tp 51))),L2.defScope (tp 51),3,[],.none,.none,.none,.str S238 585,none,.ref 347,.none,0⟩),#[]⟩
noncomputable def o349 (P : Params) : Obj := ⟨(.type L68),none,(.seq #[] 0),#[]⟩
noncomputable def o350 (P : Params) : Obj := ⟨.none,none,(.fields #[]),#[]⟩
noncomputable def o351 (P : Params) : Obj := ⟨(.type L68),none,(.seq #[.str S319 738,.str S324 739] 0),#[]⟩
noncomputable def o352 (P : Params) : Obj := ⟨(.type L68),none,(.seq #[] 0),#[]⟩
noncomputable def o353 (P : Params) : Obj := ⟨.none,none,(.func ⟨S257,S257,L2.defArgs (tp 52),(.stmts (L2.defBody (tp 52))),L2.defScope (tp 52),0,[],.none,.none,.none,.none,none,.none,.none,0⟩),#[]⟩
noncomputable def o354 (P : Params) : Obj := ⟨(.type L146),none,(.fields #[.str S257 735,.str S257 736,.str S164 737,.int 238 0,.int 2 0,.int 0 0,.int 0 0,.int 3 0,.ref 349,.bool true,.int 181 0,.ref 350,.none,.ref 351,.ref 352,.ref 353,.int 740 0,.int 238 0,.str S164 741]),#[]⟩
noncomputable def o355 (P : Params) : Obj := ⟨(.type L148),none,(.func ⟨S257,S257,L2.defArgs (tp 52),(.stmts (L2.defBody (tp 52))),L2.defScope (tp 52),3,[],.none,.none,.none,.str S238 585,none,.ref 354,.none,0⟩),#[]⟩
noncomputable def o356 (P : Params) : Obj := ⟨(.type L68),none,(.seq #[] 0),#[]⟩
noncomputable def o357 (P : Params) : Obj := ⟨.none,none,(.fields #[]),#[]⟩
noncomputable def o358 (P : Params) : Obj := ⟨.none,none,(.func ⟨S258,S258,L2.defArgs (tp 53),(.stmts (L2.defBody (tp 53))),L2.defScope (tp 53),0,[],.none,.none,.none,.none,none,.none,.none,0⟩),#[]⟩
noncomputable def o359 (P : Params) : Obj := ⟨(.type L146),none,(.fields #[.str S258 743,.str S258 744,.str S164 745,.int 242 0,.int 1 0,.int 0 0,.int 0 0,.int 3 0,.ref 356,.bool true,.int 181 0,.ref 357,.none,.none,.none,.ref 358,.int 746 0,.int 242 0,.str S164 747]),#[]⟩
noncomputable def o360 (P : Params) : Obj := ⟨(.type L148),none,(.func ⟨S258,S258,L2.defArgs (tp 53),(.stmts (L2.defBody (tp 53))),L2.defScope (tp 53),3,[],.none,.none,.none,.str S238 585,none,.ref 359,.none,0⟩),#[]⟩
noncomputable def o361 (P : Params) : Obj := ⟨(.type L68),none,(.seq #[] 0),#[]⟩
noncomputable def o362 (P : Params) : Obj := ⟨.none,none,(.fields #[]),#[]⟩
noncomputable def o363 (P : Params) : Obj := ⟨.none,none,(.func ⟨S259,S259,L2.defArgs (tp 54),(.stmts (L2.defBody (tp 54))),L2.defScope (tp 54),0,[],.none,.none,.none,.none,none,.none,.none,0⟩),#[]⟩
noncomputable def o364 (P : Params) : Obj := ⟨(.type L146),none,(.fields #[.str S259 749,.str S259 750,.str S164 751,.int 247 0,.int 1 0,.int 0 0,.int 0 0,.int 3 0,.ref 361,.bool true,.int 181 0,.ref 362,.none,.none,.none,.ref 363,.int 752 0,.int 247 0,.str S164 753]),#[]⟩
noncomputable def o365 (P : Params) : Obj := ⟨(.type L148),none,(.func ⟨S259,S259,L2.defArgs (tp 54),(.stmts (L2.defBody (tp 54))),L2.defScope (tp 54),3,[],.none,.none,.none,.str S238 585,none,.ref 364,.none,0⟩),#[]⟩
noncomputable def o366 (P : Params) : Obj := ⟨(.type L68),none,(.seq #[] 0),#[]⟩
noncomputable def o367 (P : Params) : Obj := ⟨.none,none,(.fields #[]),#[]⟩
noncomputable def o368 (P : Params) : Obj := ⟨(.type L68),none,(.seq #[.str S291 758,.str S296 759,.str S319 760,.str S314 761,.str S299 762] 0),#[]⟩
noncomputable def o369 (P : Params) : Obj := ⟨(.type L68),none,(.seq #[] 0),#[]⟩
noncomputable def o370 (P : Params) : Obj := ⟨.none,none,(.func ⟨S260,S260,L2.defArgs (tp 55),(.stmts (L2.defBody (tp 55))),L2.defScope (tp 55),0,[],.none,.none,.none,.none,none,.none,.none,0⟩),#[]⟩
noncomputable def o371 (P : Params) : Obj := ⟨(.type L146),none,(.fields #[.str S260 755,.str S260 756,.str S164 757,.int 249 0,.int 3 0,.int 0 0,.int 0 0,.int 3 0,.ref 366,.bool true,.int 181 0,.ref 367,.none,.ref 368,.ref 369,.ref 370,.int 763 0,.int 249 0,.str S164 764]),#[]⟩
noncomputable def o372 (P : Params) : Obj := ⟨(.type L148),none,(.func ⟨S260,S260,L2.defArgs (tp 55),(.stmts (L2.defBody (tp 55))),L2.defScope (tp 55),3,[],.none,.none,.none,.str S238 585,none,.ref 371,.none,0⟩),#[]⟩
noncomputable def o373 (P : Params) : Obj := ⟨(.type L68),none,(.seq #[] 0),#[]⟩
noncomputable def o374 (P : Params) : Obj := ⟨.none,none,(.fields #[]),#[]⟩
noncomputable def o375 (P : Params) : Obj := ⟨(.type L68),none,(.seq #[.str S291 769,.str S296 770,.str S319 771,.str S295 772] 0),#[]⟩
noncomputable def o376 (P : Params) : Obj := ⟨(.type L68),none,(.seq #[] 0),#[]⟩
noncomputable def o377 (P : Params) : Obj := ⟨.none,none,(.func ⟨S261,S261,L2.defArgs (tp 56),(.stmts (L2.defBody (tp 56))),L2.defScope (tp 56),0,[],.none,.none,.none,.none,none,.none,.none,0⟩),#[]⟩
noncomputable def o378 (P : Params) : Obj := ⟨(.type L146),none,(.fields #[.str S261 766,.str S261 767,.str S164 768,.int 255 0,.int 3 0,.int 0 0,.int 0 0,.int 3 0,.ref 373,.bool true,.int 181 0,.ref 374,.none,.ref 375,.ref 376,.ref 377,.int 773 0,.int 255 0,.str S164 774]),#[]⟩
noncomputable def o379 (P : Params) : Obj := ⟨(.type L148),none,(.func ⟨S261,S261,L2.defArgs (tp 56),(.stmts (L2.defBody (tp 56))),L2.defScope (tp 56),3,[],.none,.none,.none,.str S238 585,none,.ref 378,.none,0⟩),#[]⟩
noncomputable def o380 (P : Params) : Obj := ⟨(.type L68),none,(.seq #[] 0),#[]⟩
noncomputable def o381 (P : Params) : Obj := ⟨.none,none,(.fields #[]),#[]⟩
noncomputable def o382 (P : Params) : Obj := ⟨(.type L68),none,(.seq #[.str S325 779,.str S297 780,.str S298 781,.str S319 782,.str S326 783,.str S327 784] 0),#[]⟩
noncomputable def o383 (P : Params) : Obj := ⟨(.type L68),none,(.seq #[] 0),#[]⟩
noncomputable def o384 (P : Params) : Obj := ⟨.none,none,(.func ⟨S262,S262,L2.defArgs (tp 57),(.stmts (L2.defBody (tp 57))),L2.defScope (tp 57),0,[],.none,.none,.none,.none,none,.none,.none,0⟩),#[]⟩
noncomputable def o385 (P : Params) : Obj := ⟨(.type L146),none,(.fields #[.str S262 776,.str S262 777,.str S164 778,.int 260 0,.int 4 0,.int 0 0,.int 0 0,.int 3 0,.ref 380,.bool true,.int 181 0,.ref 381,.none,.ref 382,.ref 383,.ref 384,.int 785 0,.int 260 0,.str S164 786]),#[]⟩
noncomputable def o386 (P : Params) : Obj := ⟨(.type L148),none,(.func ⟨S262,S262,L2.defArgs (tp 57),(.stmts (L2.defBody (tp 57))),L2.defScope (tp 57),3,[],.none,.none,.none,.str S238 585,none,.ref 385,.none,0⟩),#[]⟩
noncomputable def o387 (P : Params) : Obj := ⟨(.type L68),none,(.seq #[] 0),#[]⟩
noncomputable def o388 (P : Params) : Obj := ⟨.none,none,(.fields #[]),#[]⟩
noncomputable def o389 (P : Params) : Obj := ⟨(.type L68),none,(.seq #[.str S291 791] 0),#[]⟩
noncomputable def o390 (P : Params) : Obj := ⟨(.type L68),none,(.seq #[] 0),#[]⟩
noncomputable def o391 (P : Params) : Obj := ⟨.none,none,(.func ⟨S263,S263,L2.defArgs (tp 58),(.stmts (L2.defBody (tp 58))),L2.defScope (tp 58),0,[],.none,.none,.none,.none,none,.none,.none,0⟩),#[]⟩
noncomputable def o392 (P : Params) : Obj := ⟨(.type L146),none,(.fields #[.str S263 788,.str S263 789,.str S164 790,.int 267 0,.int 1 0,.int 0 0,.int 0 0,.int 3 0,.ref 387,.bool true,.int 181 0,.ref 388,.none,.ref 389,.ref 390,.ref 391,.int 792 0,.int 267 0,.str S164 793]),#[]⟩
noncomputable def o393 (P : Params) : Obj := ⟨(.type L148),none,(.func ⟨S263,S263,L2.defArgs (tp 58),(.stmts (L2.defBody (tp 58))),L2.defScope (tp 58),3,[],.none,.none,.none,.str S238 585,none,.ref 392,.none,0⟩),#[]⟩
noncomputable def o394 (P : Params) : Obj := ⟨(.type L68),none,(.seq #[] 0),#[]⟩
noncomputable def o395 (P : Params) : Obj := ⟨.none,none,(.fields #[]),#[]⟩
noncomputable def o396 (P : Params) : Obj := ⟨(.type L68),none,(.seq #[.str S328 798,.str S291 799,.str S311 800,.str S296 801,.str S295 802,.str S325 803,.str S290 804,.str S297 805,.str S298 806,.str S319 807,.str S329 808,.str S330 809,.str S326 810,.str S331 811] 0),#[]⟩
noncomputable def o397 (P : Params) : Obj := ⟨(.type L68),none,(.seq #[] 0),#[]⟩
noncomputable def o398 (P : Params) : Obj := ⟨.none,none,(.func ⟨S264,S264,L2.defArgs (tp 59),(.stmts (L2.defBody (tp 59))),L2.defScope (tp 59),0,[],.none,.none,.none,.none,none,.none,.none,0⟩),#[]⟩
noncomputable def o399 (P : Params) : Obj := ⟨(.type L146),none,(.fields #[.str S264 795,.str S264 796,.str S164 797,.int 271 0,.int 1 0,.int 0 0,.int 0 0,.int 3 0,.ref 394,.bool true,.int 181 0,.ref 395,.none,.ref 396,.ref 397,.ref 398,.int 812 0,.int 271 0,.str S164 813]),#[]⟩
noncomputable def o400 (P : Params) : Obj := ⟨(.type L148),none,(.func ⟨S264,S264,L2.defArgs (tp 59),(.stmts (L2.defBody (tp 59))),L2.defScope (tp 59),3,[],.none,.none,.none,.str S238 585,none,.ref 399,.none,0⟩),#[]⟩
noncomputable def t1 : Params → BT := (f boot_o_0 (f boot_o_1 (f o3v2 (f boot_o_7 (f o15 (f o31 (f o63 (f o127 (f o255 z z) (f o383 z z)) (f o191 (f o319 z z) z)) (f o95 (f o159 (f o287 z z) z) (f o223 (f o351 z z) z))) (f o47 (f o79 (f o143 (f o271 z z) (f o399 z z)) (f o207 (f o335 z z) z)) (f o111 (f o175 (f o303 z z) z) (f o239 (f o367 z z) z)))) (f o23 (f o39 (f o71 (f o135 (f o263 z z) (f o391 z z)) (f o199 (f o327 z z) z)) (f o103 (f o167 (f o295 z z) z) (f o231 (f o359 z z) z))) (f o55 (f o87 (f o151 (f o279 z z) z) (f o215 (f o343 z z) z)) (f o119 (f o183 (f o311 z z) z) (f o247 (f o375 z z) z))))) (f o11 (f o19 (f o35 (f o67 (f o131 (f o259 z z) (f o387 z z)) (f o195 (f o323 z z) z)) (f o99 (f o163 (f o291 z z) z) (f o227 (f o355 z z) z))) (f o51 (f o83 (f o147 (f o275 z z) z) (f o211 (f o339 z z) z)) (f o115 (f o179 (f o307 z z) z) (f o243 (f o371 z z) z)))) (f o27 (f o43 (f o75 (f o139 (f o267 z z) (f o395 z z)) (f o203 (f o331 z z) z)) (f o107 (f o171 (f o299 z z) z) (f o235 (f o363 z z) z))) (f o59 (f o91 (f o155 (f o283 z z) z) (f o219 (f o347 z z) z)) (f o123 (f o187 (f o315 z z) z) (f o251 (f o379 z z) z)))))) (f boot_o_5 (f boot_o_9 (f o17 (f o33 (f o65 (f o129 (f o257 z z) (f o385 z z)) (f o193 (f o321 z z) z)) (f o97 (f o161 (f o289 z z) z) (f o225 (f o353 z z) z))) (f o49 (f o81 (f o145 (f o273 z z) z) (f o209 (f o337 z z) z)) (f o113 (f o177 (f o305 z z) z) (f o241 (f o369 z z) z)))) (f o25 (f o41 (f o73 (f o137 (f o265 z z) (f o393 z z)) (f o201 (f o329 z z) z)) (f o105 (f o169 (f o297 z z) z) (f o233 (f o361 z z) z))) (f o57 (f o89 (f o153 (f o281 z z) z) (f o217 (f o345 z z) z)) (f o121 (f o185 (f o313 z z) z) (f o249 (f o377 z z) z))))) (f o13 (f o21 (f o37 (f o69 (f o133 (f o261 z z) (f o389 z z)) (f o197 (f o325 z z) z)) (f o101 (f o165 (f o293 z z) z) (f o229 (f o357 z z) z))) (f o53 (f o85 (f o149 (f o277 z z) z) (f o213 (f o341 z z) z)) (f o117 (f o181 (f o309 z z) z) (f o245 (f o373 z z) z)))) (f o29 (f o45 (f o77 (f o141 (f o269 z z) (f o397 z z)) (f o205 (f o333 z z) z)) (f o109 (f o173 (f o301 z z) z) (f o237 (f o365 z z) z))) (f o61 (f o93 (f o157 (f o285 z z) z) (f o221 (f o349 z z) z)) (f o125 (f o189 (f o317 z z) z) (f o253 (f o381 z z) z))))))) (f boot_o_2 (f boot_o_4 (f boot_o_8 (f o16 (f o32 (f o64 (f o128 (f o256 z z) (f o384 z z)) (f o192 (f o320 z z) z)) (f o96 (f o160 (f o288 z z) z) (f o224 (f o352 z z) z))) (f o48 (f o80 (f o144 (f o272 z z) (f o400 z z)) (f o208 (f o336 z z) z)) (f o112 (f o176 (f o304 z z) z) (f o240 (f o368 z z) z)))) (f o24 (f o40 (f o72 (f o136 (f o264 z z) (f o392 z z)) (f o200 (f o328 z z) z)) (f o104 (f o168 (f o296 z z) z) (f o232 (f o360 z z) z))) (f o56 (f o88 (f o152 (f o280 z z) z) (f o216 (f o344 z z) z)) (f o120 (f o184 (f o312 z z) z) (f o248 (f o376 z z) z))))) (f o12v2 (f o20 (f o36 (f o68 (f o132 (f o260 z z) (f o388 z z)) (f o196 (f o324 z z) z)) (f o100 (f o164 (f o292 z z) z) (f o228 (f o356 z z) z))) (f o52 (f o84 (f o148 (f o276 z z) z) (f o212 (f o340 z z) z)) (f o116 (f o180 (f o308 z z) z) (f o244 (f o372 z z) z)))) (f o28 (f o44 (f o76 (f o140 (f o268 z z) (f o396 z z)) (f o204 (f o332 z z) z)) (f o108 (f o172 (f o300 z z) z) (f o236 (f o364 z z) z))) (f o60 (f o92 (f o156 (f o284 z z) z) (f o220 (f o348 z z) z)) (f o124 (f o188 (f o316 z z) z) (f o252 (f o380 z z) z)))))) (f boot_o_6 (f boot_o_10 (f o18 (f o34 (f o66 (f o130 (f o258 z z) (f o386 z z)) (f o194 (f o322 z z) z)) (f o98 (f o162 (f o290 z z) z) (f o226 (f o354 z z) z))) (f o50 (f o82 (f o146 (f o274 z z) z) (f o210 (f o338 z z) z)) (f o114 (f o178 (f o306 z z) z) (f o242 (f o370 z z) z)))) (f o26 (f o42 (f o74 (f o138 (f o266 z z) (f o394 z z)) (f o202 (f o330 z z) z)) (f o106 (f o170 (f o298 z z) z) (f o234 (f o362 z z) z))) (f o58 (f o90 (f o154 (f o282 z z) z) (f o218 (f o346 z z) z)) (f o122 (f o186 (f o314 z z) z) (f o250 (f o378 z z) z))))) (f o14 (f o22 (f o38 (f o70 (f o134 (f o262 z z) (f o390 z z)) (f o198 (f o326 z z) z)) (f o102 (f o166 (f o294 z z) z) (f o230 (f o358 z z) z))) (f o54 (f o86 (f o150 (f o278 z z) z) (f o214 (f o342 z z) z)) (f o118 (f o182 (f o310 z z) z) (f o246 (f o374 z z) z)))) (f o30 (f o46 (f o78 (f o142 (f o270 z z) (f o398 z z)) (f o206 (f o334 z z) z)) (f o110 (f o174 (f o302 z z) z) (f o238 (f o366 z z) z))) (f o62 (f o94 (f o158 (f o286 z z) z) (f o222 (f o350 z z) z)) (f o126 (f o190 (f o318 z z) z) (f o254 (f o382 z z) z))))))))
noncomputable abbrev s1 (w : World) (os : OsState) : SharedT := ⟨t1 w.params,401,{ },(Array.mk []),⟨0,0,0,0⟩,815,os⟩
noncomputable abbrev p1 : Pos := ⟨271,0,293,15⟩
noncomputable abbrev st1 : List Stmt := (pt.main.body.drop 31).take 29
theorem q1 (w : World) : (fun os => segRunT treeTable pt w m0 an 1 1228 (s0 w os) ⟨(execs st1 en).wrap doneF deadEnd id id,cE,p0,B⟩) = fun os => some (.next,s1 w os,cE,p1) := by
  rw [PySem.W.Fast.te10110043849684766642,PySem.W.Fast.te14364793385576792824,PySem.W.Fast.te12563942051412417395]; kernel_rfl
noncomputable def hF (P : Params) : Heap := ⟨⟨[boot_o_0 P,boot_o_1 P,boot_o_2 P,o3v2 P,boot_o_4 P,boot_o_5 P,boot_o_6 P,boot_o_7 P,boot_o_8 P,boot_o_9 P,boot_o_10 P,o11 P,o12v2 P,o13 P,o14 P,o15 P,o16 P,o17 P,o18 P,o19 P,o20 P,o21 P,o22 P,o23 P,o24 P,o25 P,o26 P,o27 P,o28 P,o29 P,o30 P,o31 P,o32 P,o33 P,o34 P,o35 P,o36 P,o37 P,o38 P,o39 P,o40 P,o41 P,o42 P,o43 P,o44 P,o45 P,o46 P,o47 P,o48 P,o49 P,o50 P,o51 P,o52 P,o53 P,o54 P,o55 P,o56 P,o57 P,o58 P,o59 P,o60 P,o61 P,o62 P,o63 P,o64 P,o65 P,o66 P,o67 P,o68 P,o69 P,o70 P,o71 P,o72 P,o73 P,o74 P,o75 P,o76 P,o77 P,o78 P,o79 P,o80 P,o81 P,o82 P,o83 P,o84 P,o85 P,o86 P,o87 P,o88 P,o89 P,o90 P,o91 P,o92 P,o93 P,o94 P,o95 P,o96 P,o97 P,o98 P,o99 P,o100 P,o101 P,o102 P,o103 P,o104 P,o105 P,o106 P,o107 P,o108 P,o109 P,o110 P,o111 P,o112 P,o113 P,o114 P,o115 P,o116 P,o117 P,o118 P,o119 P,o120 P,o121 P,o122 P,o123 P,o124 P,o125 P,o126 P,o127 P,o128 P,o129 P,o130 P,o131 P,o132 P,o133 P,o134 P,o135 P,o136 P,o137 P,o138 P,o139 P,o140 P,o141 P,o142 P,o143 P,o144 P,o145 P,o146 P,o147 P,o148 P,o149 P,o150 P,o151 P,o152 P,o153 P,o154 P,o155 P,o156 P,o157 P,o158 P,o159 P,o160 P,o161 P,o162 P,o163 P,o164 P,o165 P,o166 P,o167 P,o168 P,o169 P,o170 P,o171 P,o172 P,o173 P,o174 P,o175 P,o176 P,o177 P,o178 P,o179 P,o180 P,o181 P,o182 P,o183 P,o184 P,o185 P,o186 P,o187 P,o188 P,o189 P,o190 P,o191 P,o192 P,o193 P,o194 P,o195 P,o196 P,o197 P,o198 P,o199 P,o200 P,o201 P,o202 P,o203 P,o204 P,o205 P,o206 P,o207 P,o208 P,o209 P,o210 P,o211 P,o212 P,o213 P,o214 P,o215 P,o216 P,o217 P,o218 P,o219 P,o220 P,o221 P,o222 P,o223 P,o224 P,o225 P,o226 P,o227 P,o228 P,o229 P,o230 P,o231 P,o232 P,o233 P,o234 P,o235 P,o236 P,o237 P,o238 P,o239 P,o240 P,o241 P,o242 P,o243 P,o244 P,o245 P,o246 P,o247 P,o248 P,o249 P,o250 P,o251 P,o252 P,o253 P,o254 P,o255 P,o256 P,o257 P,o258 P,o259 P,o260 P,o261 P,o262 P,o263 P,o264 P,o265 P,o266 P,o267 P,o268 P,o269 P,o270 P,o271 P,o272 P,o273 P,o274 P,o275 P,o276 P,o277 P,o278 P,o279 P,o280 P,o281 P,o282 P,o283 P,o284 P,o285 P,o286 P,o287 P,o288 P,o289 P,o290 P,o291 P,o292 P,o293 P,o294 P,o295 P,o296 P,o297 P,o298 P,o299 P,o300 P,o301 P,o302 P,o303 P,o304 P,o305 P,o306 P,o307 P,o308 P,o309 P,o310 P,o311 P,o312 P,o313 P,o314 P,o315 P,o316 P,o317 P,o318 P,o319 P,o320 P,o321 P,o322 P,o323 P,o324 P,o325 P,o326 P,o327 P,o328 P,o329 P,o330 P,o331 P,o332 P,o333 P,o334 P,o335 P,o336 P,o337 P,o338 P,o339 P,o340 P,o341 P,o342 P,o343 P,o344 P,o345 P,o346 P,o347 P,o348 P,o349 P,o350 P,o351 P,o352 P,o353 P,o354 P,o355 P,o356 P,o357 P,o358 P,o359 P,o360 P,o361 P,o362 P,o363 P,o364 P,o365 P,o366 P,o367 P,o368 P,o369 P,o370 P,o371 P,o372 P,o373 P,o374 P,o375 P,o376 P,o377 P,o378 P,o379 P,o380 P,o381 P,o382 P,o383 P,o384 P,o385 P,o386 P,o387 P,o388 P,o389 P,o390 P,o391 P,o392 P,o393 P,o394 P,o395 P,o396 P,o397 P,o398 P,o399 P,o400 P]⟩,{ }⟩
noncomputable abbrev sF (w : World) (os : OsState) : Shared := ⟨hF w.params,(Array.mk []),⟨0,0,0,0⟩,815,os⟩
theorem fin (w : World) : (fun os => topRun treeTable pt w m0 an 2 (s1 w os).abs ⟨doneF .next,cE,p1,B⟩) = fun os => some (sF w os) := by
  rw [PySem.W.Fast.te14082659384304107361,PySem.W.Fast.te14364793385576792824]; kernel_rfl
theorem body_eq : behindTheImports pt = st0 ++ (st1 ++ ([])) := by kernel_rfl
noncomputable abbrev MM : Nat := 12 + (1 + (1976 + (1228 + 2)))
theorem run_eq (w : World) (os : OsState) : topRun treeTable pt w m0 an MM (sZ w os) (topStub pt) = some (sF w os) :=
  go_top (congrFun (pre w) os) (piece_block (congrFun (blk w) os) (body_eq ▸ (piece_app (l := st0) (segRun_of (congrFun (q0 w) os)) (piece_app (l := st1) (segRun_of (congrFun (q1 w) os)) (piece_nil (congrFun (fin w) os))))))
noncomputable def loose : List Str := [S168,S169,S170,S171,S172,S173,S174,S175,S176,S177,S178,S179,S180,S182,S184,S185,S186,S187,S189,S191,S192,S193,S194,S195,S196,S197,S198,S239,S240,S241,S242,S243,S244,S245,S246,S247,S248,S249,S250,S251,S252,S253,S254,S255,S256,S257,S258,S259,S260,S261,S262,S263]
noncomputable abbrev NN : Nat := 6530
noncomputable abbrev q : Program := view pt [59]
noncomputable abbrev Xt : Shared → Bool := fun s => xlAt q [] s && recOk [] s
theorem size (w : World) : ((boot_heap w.params).isNs mainGlobals && (Array.mk [] : Array GenState).size == 0,(boot_heap w.params).objs.size,(boot_heap w.params).nsMap mainGlobals "__annotations__") = (true,m0,an) := by
  rw [PySem.W.Fast.te8920871248978507458]; kernel_rfl
theorem looks (w : World) : (fun os => ((staticsOk (importedModules pt.main.body) (boot_heap w.params) (hF w.params) && namesBound pt (hF w.params) && gensDone (sF w os) && laidKept (boot_heap w.params) (hF w.params)),openSeen q loose (importedModules pt.main.body) Xt true (sF w os),HK.obs (sF w os))) = fun _ => (true,openGood q loose,HK.val w) := by
  rw [PySem.W.Fast.te4187177175401517315,PySem.W.Fast.te5923862056798008813]; kernel_rfl
theorem left : LeftO pt q loose Xt HK.obs HK.val NN true := LeftO.of_pieces (boot_open (by kernel_rfl) (by decide) (fun s => rfl)) size run_eq (by decide) looks
end Hd
open PySem PySem.W PyProof.Rows
set_option maxRecDepth 100000 in
set_option maxHeartbeats 0 in
theorem PySem.Challenge.cw_platecuts_k51_turns_counted_holds : PySem.Challenge.rw_platecuts_k51_turns_counted.Holds := by
  w_on; o_law
  refine holds_open (q := view PySem.Challenge.pw_platecuts_k51_turns_counted [59]) (loose := Hd.loose) (Xt := fun s => xlAt (view PySem.Challenge.pw_platecuts_k51_turns_counted [59]) [] s && recOk [] s) (XP := XL (view PySem.Challenge.pw_platecuts_k51_turns_counted [59]) []) (Yf := Hook.obs Hd.HK) (Ya := Hook.val Hd.HK) (YP := InK Pc.kK) (N := Hd.NN) ?hl (Hook.of Hd.HK) (Hook.keeps Hd.HK) (fun s e => xl_of s (Bool.and_eq_true_iff.mp e).1) XL.keeps (by rfl) (by rfl) (by rfl) (fun s e => recFacts_of (Bool.and_eq_true_iff.mp e).2) (by rfl) (by first | assumption | decide +kernel) (by decide +kernel) ⟨rfl,rfl,rfl,rfl,rfl,by decide +kernel⟩ ?hw ?hc
  case hl => exact Hd.pt_eq ▸ Hd.left
  case hw => w_witness2
  k_fill
  refine Pc.walk (l := PySem.Challenge.rw_platecuts_k51_turns_counted) rfl rfl (fun w h Y => Y) ?F
  case F =>
    intro w mg fa h KX G hmg
    refine' Pc.all_mk KX G hmg ?a0 ?l0 ?c0 ?k0 ?a1 ?l1 ?c1 ?k1 ?a2 ?l2 ?c2 ?k2 ?a3 ?l3 ?c3 ?k3 ?a4 ?l4 ?c4 ?k4 ?a5 ?l5 ?c5 ?k5 ?a6 ?l6 ?c6 ?k6 ?a7 ?l7 ?c7 ?k7 ?a8 ?l8 ?c8 ?k8 ?a9 ?l9 ?c9 ?k9 ?a10 ?l10 ?c10 ?k10 ?a11 ?l11 ?c11 ?k11 ?a12 ?l12 ?c12 ?k12 ?a13 ?l13 ?c13 ?k13 ?a14 ?l14 ?c14 ?k14 ?a15 ?l15 ?c15 ?k15 ?a16 ?l16 ?c16 ?k16 ?a17 ?l17 ?c17 ?k17 ?a18 ?l18 ?c18 ?k18 ?a19 ?l19 ?c19 ?k19 ?a20 ?l20 ?c20 ?k20 ?a21 ?l21 ?c21 ?k21 ?a22 ?l22 ?c22 ?k22 ?a23 ?l23 ?c23 ?k23 ?a24 ?l24 ?c24 ?k24 ?a25 ?l25 ?c25 ?k25 ?a26 ?l26 ?c26 ?k26 ?a27 ?l27 ?c27 ?k27 ?a28 ?l28 ?c28 ?k28 ?a29 ?l29 ?c29 ?k29 ?a30 ?l30 ?c30 ?k30 ?a31 ?l31 ?c31 ?k31 ?a32 ?l32 ?c32 ?k32 ?a33 ?l33 ?c33 ?k33 ?aC ?am0 ?im0 ?lm0 ?cm0 ?km0 ?am1 ?im1 ?lm1 ?cm1 ?km1 ?am2 ?im2 ?lm2 ?cm2 ?km2 ?am3 ?im3 ?lm3 ?cm3 ?km3 ?am4 ?im4 ?lm4 ?cm4 ?km4 ?pg ?hd ?po ?sa ?mk ?kc ?n0 ?n1 ?eNoLying ?eWAYS ?eNoTree ?ePlateError ?cNoLying ?lWAYS ?cNoTree ?cPlateError ?sNoTree ?ka ?kb ?kg ?kd ?ke ?bP ?z0 ?z1 ?z2 ?z3 ?z4 ?z5 ?z6 ?z7 ?z8 ?z9 ?z10 ?z11 ?z12 ?z13 ?z14 ?z15 ?z16 ?z17 ?uc0 ?uc1 ?uc2 ?uc3 ?uc4 ?uc5 ?uc6 ?uc7
    (case a0 => k_is)
    (case l0 => k_is)
    (case c0 => k_is)
    (case k0 => k_is)
    (case a1 => k_is)
    (case l1 => k_is)
    (case c1 => k_is)
    (case k1 => k_is)
    (case a2 => k_is)
    (case l2 => k_is)
    (case c2 => k_is)
    (case k2 => k_is)
    (case a3 => k_is)
    (case l3 => k_is)
    (case c3 => k_is)
    (case k3 => k_is)
    (case a4 => k_is)
    (case l4 => k_is)
    (case c4 => k_is)
    (case k4 => k_is)
    (case a5 => k_is)
    (case l5 => k_is)
    (case c5 => k_is)
    (case k5 => k_is)
    (case a6 => k_is)
    (case l6 => k_is)
    (case c6 => k_is)
    (case k6 => k_is)
    (case a7 => k_is)
    (case l7 => k_is)
    (case c7 => k_is)
    (case k7 => k_is)
    (case a8 => k_is)
    (case l8 => k_is)
    (case c8 => k_is)
    (case k8 => k_is)
    (case a9 => k_is)
    (case l9 => k_is)
    (case c9 => k_is)
    (case k9 => k_is)
    (case a10 => k_is)
    (case l10 => k_is)
    (case c10 => k_is)
    (case k10 => k_is)
    (case a11 => k_is)
    (case l11 => k_is)
    (case c11 => k_is)
    (case k11 => k_is)
    (case a12 => k_is)
    (case l12 => k_is)
    (case c12 => k_is)
    (case k12 => k_is)
    (case a13 => k_is)
    (case l13 => k_is)
    (case c13 => k_is)
    (case k13 => k_is)
    (case a14 => k_is)
    (case l14 => k_is)
    (case c14 => k_is)
    (case k14 => k_is)
    (case a15 => k_is)
    (case l15 => k_is)
    (case c15 => k_is)
    (case k15 => k_is)
    (case a16 => k_is)
    (case l16 => k_is)
    (case c16 => k_is)
    (case k16 => k_is)
    (case a17 => k_is)
    (case l17 => k_is)
    (case c17 => k_is)
    (case k17 => k_is)
    (case a18 => k_is)
    (case l18 => k_is)
    (case c18 => k_is)
    (case k18 => k_is)
    (case a19 => k_is)
    (case l19 => k_is)
    (case c19 => k_is)
    (case k19 => k_is)
    (case a20 => k_is)
    (case l20 => k_is)
    (case c20 => k_is)
    (case k20 => k_is)
    (case a21 => k_is)
    (case l21 => k_is)
    (case c21 => k_is)
    (case k21 => k_is)
    (case a22 => k_is)
    (case l22 => k_is)
    (case c22 => k_is)
    (case k22 => k_is)
    (case a23 => k_is)
    (case l23 => k_is)
    (case c23 => k_is)
    (case k23 => k_is)
    (case a24 => k_is)
    (case l24 => k_is)
    (case c24 => k_is)
    (case k24 => k_is)
    (case a25 => k_is)
    (case l25 => k_is)
    (case c25 => k_is)
    (case k25 => k_is)
    (case a26 => k_is)
    (case l26 => k_is)
    (case c26 => k_is)
    (case k26 => k_is)
    (case a27 => k_is)
    (case l27 => k_is)
    (case c27 => k_is)
    (case k27 => k_is)
    (case a28 => k_is)
    (case l28 => k_is)
    (case c28 => k_is)
    (case k28 => k_is)
    (case a29 => k_is)
    (case l29 => k_is)
    (case c29 => k_is)
    (case k29 => k_is)
    (case a30 => k_is)
    (case l30 => k_is)
    (case c30 => k_is)
    (case k30 => k_is)
    (case a31 => k_is)
    (case l31 => k_is)
    (case c31 => k_is)
    (case k31 => k_is)
    (case a32 => k_is)
    (case l32 => k_is)
    (case c32 => k_is)
    (case k32 => k_is)
    (case a33 => k_is)
    (case l33 => k_is)
    (case c33 => k_is)
    (case k33 => k_is)
    (case aC => k_is)
    (case am0 => k_is)
    (case im0 => k_is)
    (case lm0 => k_is)
    (case cm0 => k_is)
    (case km0 => k_is)
    (case am1 => k_is)
    (case im1 => k_is)
    (case lm1 => k_is)
    (case cm1 => k_is)
    (case km1 => k_is)
    (case am2 => k_is)
    (case im2 => k_is)
    (case lm2 => k_is)
    (case cm2 => k_is)
    (case km2 => k_is)
    (case am3 => k_is)
    (case im3 => k_is)
    (case lm3 => k_is)
    (case cm3 => k_is)
    (case km3 => k_is)
    (case am4 => k_is)
    (case im4 => k_is)
    (case lm4 => k_is)
    (case cm4 => k_is)
    (case km4 => k_is)
    (case pg => k_is)
    (case hd => k_is)
    (case po => k_is)
    (case sa => k_is)
    (case mk => k_is)
    (case kc => k_is)
    (case n0 => k_is)
    (case n1 => k_is)
    (case eNoLying => k_is)
    (case eWAYS => k_is)
    (case eNoTree => k_is)
    (case ePlateError => k_is)
    (case cNoLying => k_exc)
    (case lWAYS => exact ⟨_,_,_,rfl,rfl,rfl,by decide,.cons ⟨_,rfl⟩ (.cons ⟨_,rfl⟩ .nil)⟩)
    (case cNoTree => k_exc)
    (case cPlateError => k_exc)
    (case sNoTree => k_is)
    (case ka => k_is)
    (case kb => k_is)
    (case kg => k_is)
    (case kd => k_is)
    (case ke => k_is)
    (case bP => k_is)
    (case z0 => k_is)
    (case z1 => k_is)
    (case z2 => k_is)
    (case z3 => k_is)
    (case z4 => k_is)
    (case z5 => k_is)
    (case z6 => k_is)
    (case z7 => k_is)
    (case z8 => k_is)
    (case z9 => k_is)
    (case z10 => k_is)
    (case z11 => k_is)
    (case z12 => k_is)
    (case z13 => k_is)
    (case z14 => k_is)
    (case z15 => k_is)
    (case z16 => k_is)
    (case z17 => k_is)
    (case uc0 => k_is)
    (case uc1 => k_is)
    (case uc2 => k_is)
    (case uc3 => k_is)
    (case uc4 => k_is)
    (case uc5 => k_is)
    (case uc6 => k_is)
    (case uc7 => k_is)