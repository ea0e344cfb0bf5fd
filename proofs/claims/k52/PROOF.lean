import PyProof.Rows.All
import Wide.All
import OpenK.AllK
import Wide.FinOn
import Lean
import PyProof.EqAt
import PyProof.EqKinds
import PyProof.TupleCall
import PyProof.Draws
import PyProof.WalksMore
import PyProof.EnumMake
import PyProof.ReprRoads
import PyProof.Rows.SortWalk
import PyProof.Rows.SumAny
import PyProof.FitsBits
import PyProof.ListRange
import PyProof.Rows.SeqMore
import PyProof.LongRange
import PySem.Challenge.RW_platecuts_k52_whole_best_by_turns
set_option Elab.async false
set_option linter.all false
set_option maxRecDepth 100000
namespace L2
open PySem PySem.Spec PyProof.Rows
abbrev Key := Sum Int Str
def keyIs : Key → Value → Bool
  | .inl k,v => Value.isInt k v
  | .inr x,v => Value.isStrOf x v
def keyH (w : World) : Key → Int
  | .inl k => hashInt k
  | .inr x => hashStr w x
theorem keyIs_shape : ∀ {k : Key} {v : Value},keyIs k v = true → (∃ i t,k = Sum.inl i ∧ v = Value.int i t) ∨ (∃ x t,k = Sum.inr x ∧ v = Value.str x t)
  | .inl i,v,h => by
    obtain ⟨t,e⟩ := Value.isInt_shape (k := i) (v := v) h
    exact .inl ⟨i,t,rfl,e⟩
  | .inr x,v,h => by
    obtain ⟨t,e⟩ := Value.isStrOf_shape (x := x) (v := v) h
    exact .inr ⟨x,t,rfl,e⟩
theorem keyIs_int (i : Int) (t : Tok) : keyIs (.inl i) (.int i t) = true := by simp [keyIs,Value.isInt]
theorem keyIs_str (x : Str) (t : Tok) : keyIs (.inr x) (.str x t) = true := by simp [keyIs,Value.isStrOf]
theorem key_ll (a b : Int) : decide ((Sum.inl a : Key) = Sum.inl b) = (a == b) := by
  by_cases e : a = b
  · subst e; simp
  · have h : ¬ (Sum.inl a : Key) = Sum.inl b := fun q => e (Sum.inl.inj q)
    rw [decide_eq_false h]
    exact (beq_eq_false_iff_ne.mpr e).symm
theorem key_rr (a b : Str) : decide ((Sum.inr a : Key) = Sum.inr b) = decide (a = b) := by
  by_cases e : a = b
  · subst e; simp
  · have h : ¬ (Sum.inr a : Key) = Sum.inr b := fun q => e (Sum.inr.inj q)
    rw [decide_eq_false h,decide_eq_false e]
theorem key_lr (a : Int) (b : Str) : decide ((Sum.inl a : Key) = Sum.inr b) = false := decide_eq_false (fun q => nomatch q)
theorem key_rl (a : Str) (b : Int) : decide ((Sum.inr a : Key) = Sum.inl b) = false := decide_eq_false (fun q => nomatch q)
def mixKind (prog : Program) (w : World) : PySem.KeyKind prog w Key where
  is := keyIs
  hash := keyH w
  inj := fun v a b ha hb => by
    rcases keyIs_shape ha with ⟨i,t,rfl,rfl⟩ | ⟨x,t,rfl,rfl⟩
    · rcases keyIs_shape hb with ⟨j,u,rfl,e⟩ | ⟨y,u,rfl,e⟩
      · injection e with e1 _; rw [e1]
      · exact nomatch e
    · rcases keyIs_shape hb with ⟨j,u,rfl,e⟩ | ⟨y,u,rfl,e⟩
      · exact nomatch e
      · injection e with e1 _; rw [e1]
  byValue := fun k v h => by
    rcases keyIs_shape h with ⟨i,t,rfl,rfl⟩ | ⟨x,t,rfl,rfl⟩ <;> rfl
  pyHash := fun hv h => by
    rcases keyIs_shape hv with ⟨i,t,rfl,rfl⟩ | ⟨x,t,rfl,rfl⟩
    · exact wpAny_pyHash_int h
    · exact wpAny_pyHash_str h
  eqBool := fun hu hv h => by
    rcases keyIs_shape hu with ⟨i,t,rfl,rfl⟩ | ⟨x,t,rfl,rfl⟩
    · rcases keyIs_shape hv with ⟨j,u,rfl,rfl⟩ | ⟨y,u,rfl,rfl⟩
      · rw [key_ll] at h; exact wpAny_eqBool_int h
      · rw [key_lr] at h; exact SeqAt.EqAt.int_str i t y u _ _ _ _ h
    · rcases keyIs_shape hv with ⟨j,u,rfl,rfl⟩ | ⟨y,u,rfl,rfl⟩
      · rw [key_rl] at h; exact SeqAt.EqAt.str_int x t j u _ _ _ _ h
      · rw [key_rr] at h; exact wpAny_eqBool_str h
  «strs» := fun k x t v h => by
    rcases keyIs_shape h with ⟨i,u,rfl,e⟩ | ⟨y,u,rfl,e⟩
    · exact nomatch e
    · injection e with e1 _
      subst e1
      cases v <;> rfl
theorem mixKind_int (prog : Program) (w : World) (i : Int) (t : Tok) : (mixKind prog w).is (.inl i) (.int i t) = true := keyIs_int i t
theorem mixKind_str (prog : Program) (w : World) (x : Str) (t : Tok) : (mixKind prog w).is (.inr x) (.str x t) = true := keyIs_str x t
end L2
namespace L2
open PySem PySem.Spec PyProof.Rows
inductive V where
  | non | bl (b : Bool) | int (i : Int) | str (x : Str) | byt (b : Array UInt8) | flt (b : UInt64) | ref (a : Addr) | ty (n : String)
  deriving DecidableEq
def RelV : V → Value → Prop
  | .non,u => u = Value.none
  | .bl b,u => u = Value.bool b
  | .int i,u => ∃ t,u = Value.int i t
  | .str x,u => ∃ t,u = Value.str x t
  | .byt b,u => ∃ t,u = Value.bytes b t
  | .flt b,u => ∃ t,u = Value.float b t
  | .ref a,u => u = Value.ref a
  | .ty n,u => u = Value.type n
abbrev Vals : List V → List Value → Prop := Paired RelV
theorem Vals.length {xs : List V} {us : List Value} (r : Vals xs us) : xs.length = us.length := Paired.length r
theorem Vals.get : ∀ {xs : List V} {us : List Value} {i : Nat} {x : V},Vals xs us → xs[i]? = some x → ∃ u,us[i]? = some u ∧ RelV x u
  | _,_,_,_,.nil,e => by simp at e
  | _,_,0,_,.cons r _,e => by simp at e; subst e; exact ⟨_,rfl,r⟩
  | _,_,i + 1,x,.cons _ t,e => by
    obtain ⟨u,h1,h2⟩ := Vals.get (i := i) (x := x) t (by simpa using e)
    exact ⟨u,by simpa using h1,h2⟩
theorem Vals.set {x : V} {u : Value} (r : RelV x u) : ∀ {xs : List V} {us : List Value} (i : Nat),Vals xs us → Vals (xs.set i x) (us.set i u)
  | _,_,_,.nil => .nil
  | _,_,0,.cons _ t => .cons r t
  | _,_,i + 1,.cons q t => .cons q (Vals.set r i t)
theorem Vals.append : ∀ {xs ys : List V} {us ws : List Value},Vals xs us → Vals ys ws → Vals (xs ++ ys) (us ++ ws)
  | _,_,_,_,.nil,s => s
  | _,_,_,_,.cons r t,s => .cons r (Vals.append t s)
theorem Vals.take : ∀ {xs : List V} {us : List Value} (n : Nat),Vals xs us → Vals (xs.take n) (us.take n)
  | _,_,0,_ => .nil
  | _,_,_ + 1,.nil => .nil
  | _,_,n + 1,.cons r t => .cons r (Vals.take n t)
theorem Vals.drop : ∀ {xs : List V} {us : List Value} (n : Nat),Vals xs us → Vals (xs.drop n) (us.drop n)
  | _,_,0,r => r
  | _,_,_ + 1,.nil => .nil
  | _,_,n + 1,.cons _ t => Vals.drop n t
def RelO : Option V → Option Value → Prop
  | some v,some u => RelV v u
  | none,none => True
  | _,_ => False
def KV {κ : Type} : List (κ × V) → List (κ × Value) → Prop := Paired fun (p : κ × V) (q : κ × Value) => p.1 = q.1 ∧ RelV p.2 q.2
def kV : Key → V
  | .inl i => .int i
  | .inr x => .str x
inductive HO where
  | lst (xs : List V)
  | tup (xs : List V)
  | dK (kvs : List (Key × V)) | dT (kvs : List (List Key × V))
  | set (S : Int → Bool) (n : Nat)
  | ins (C dx : Addr) (fs : List (Str × V))
  | own (x : Addr)
  | xd (fs : List (Str × V))
  | met (f x : Addr)
  | rng (lo hi : Int)
  | frz (o : Obj) (u : HO)
  | tbl (ps : Array Value)
  | ext (φ : Heap → Prop)
abbrev Hp := Addr → Option HO
def upd (H : Hp) (a : Addr) (o : HO) : Hp := fun b => if b = a then some o else H b
theorem upd_same {H : Hp} {a : Addr} {o : HO} : upd H a o a = some o := by unfold upd; rw [if_pos rfl]
theorem upd_ne {H : Hp} {a b : Addr} {o : HO} (h : b ≠ a) : upd H a o b = H b := by unfold upd; rw [if_neg h]
theorem ne_of {H : Hp} {a b : Addr} {o u : HO} (h : H a = some o) (h' : H b = some u) (d : o ≠ u) : a ≠ b := by
  intro e; subst e; rw [h] at h'; exact d (Option.some.inj h')
theorem ne_of_none {H : Hp} {a b : Addr} {o : HO} (h : H a = some o) (h' : H b = none) : a ≠ b := by
  intro e; subst e; rw [h] at h'; cases h'
section
variable (P : Program) (w : World)
def ObjOk (H : Hp) (h : Heap) (a : Addr) : HO → Prop
  | .lst xs => xs.length ≤ sizeLine ∧ ∃ (its : List Value) (n : Nat),Vals xs its ∧ h.get? a = some { cls := .type "list",data := .seq its.toArray n }
  | .tup xs => xs.length ≤ sizeLine ∧ ∃ its : List Value,Vals xs its ∧ IsTup h a its.toArray
  | .dK kvs => kvs.length ≤ sizeLine ∧ (a == sysModules) = false ∧ ∃ vs,KV kvs vs ∧ h.DictOf (mixKind P w) a vs
  | .dT kvs => kvs.length ≤ sizeLine ∧ (a == sysModules) = false ∧ ∃ xs : List (List Key × Addr × Value),
      Paired (fun (p : List Key × V) (q : List Key × Addr × Value) => p.1 = q.1 ∧ H q.2.1 = some (.tup (p.1.map kV)) ∧ RelV p.2 q.2.2) kvs xs ∧
      ∃ o es ep,h.get? a = some o ∧ o.ExactDict ∧ o.data = .dict es ep ∧ es.toList = xs.map (entryOfKey (tupleKind (mixKind P w))) ∧ (xs.map (·.1)).Nodup
  | .set S n => h.SetOf (intKind P w) a S n
  | .ins C dx fs => H dx = some (.own a) ∧ fs.length ≤ 1000 ∧ dx ≠ a ∧ h.get? a = some (PySem.W.instObj C dx) ∧
      ∃ mA,h.Ns1 dx mA ∧ (∀ f,RelO (fs.lookup f) (mA f)) ∧ PySem.Within mA (fs.map (·.1))
  | .own _ => ∃ o,h.get? a = some o
  | .xd fs => ∃ mA,h.Ns1 a mA ∧ ∀ f,RelO (fs.lookup f) (mA f)
  | .rng lo hi => ∃ t u v,h.get? a = some { cls := .type "range",data := .fields #[.int lo t,.int hi u,.int 1 v] }
  | .frz o u => h.get? a = some o ∧ ObjOk H h a u
  | .tbl ps => h.get? a = some { cls := .none,data := .fields ps }
  | .met f x => h.get? a = some (PySem.W.methodObj (.ref f) (.ref x))
  | .ext φ => φ h ∧ (∃ o,h.get? a = some o) ∧ ∀ h1 h2 : Heap,φ h1 → (∀ o,h1.get? a = some o → h2.get? a = some o) → φ h2
def HOk (H : Hp) (h : Heap) : Prop := ∀ a o,H a = some o → ObjOk P w H h a o
end
section
variable {P : Program} {w : World} {H H' : Hp} {h h' : Heap} {a : Addr} {o : HO}
theorem ObjOk.lt (x : ObjOk P w H h a o) : a < h.objs.size := by
  cases o with
  | lst xs => obtain ⟨_,_,_,_,e⟩ := x; exact Heap.lt_size e
  | tup xs => obtain ⟨_,_,_,p⟩ := x; exact p.lt
  | dK kvs => obtain ⟨_,_,_,_,o,_,_,e,_⟩ := x; exact Heap.lt_size e
  | dT kvs => obtain ⟨_,_,_,_,o,_,_,e,_⟩ := x; exact Heap.lt_size e
  | set S n => obtain ⟨o,_,_,_,e,_⟩ := x; exact Heap.lt_size e
  | ins C dx fs => obtain ⟨_,_,_,e,_⟩ := x; exact Heap.lt_size e
  | own y => obtain ⟨_,e⟩ := x; exact Heap.lt_size e
  | xd fs => obtain ⟨_,⟨_,_,_,e,_⟩,_⟩ := x; exact Heap.lt_size e
  | rng lo hi => obtain ⟨_,_,_,e⟩ := x; exact Heap.lt_size e
  | frz ob u => obtain ⟨e,_⟩ := x; exact Heap.lt_size e
  | tbl ps => exact Heap.lt_size (show h.get? a = some _ from x)
  | met f y => exact Heap.lt_size (show h.get? a = some _ from x)
  | ext φ => obtain ⟨_,⟨_,e⟩,_⟩ := x; exact Heap.lt_size e
theorem Paired.mapP {α β : Type} {F G : α → β → Prop} : ∀ {l₁ : List α} {l₂ : List β},Paired F l₁ l₂ → (∀ a b,F a b → G a b) → Paired G l₁ l₂
  | _,_,.nil,_ => .nil
  | _,_,.cons r t,f => .cons (f _ _ r) (Paired.mapP t f)
theorem ObjOk.stay (x : ObjOk P w H h a o) (k : ∀ b u,(b = a ∨ H b = some (.own a)) → h.get? b = some u → h'.get? b = some u)
    (ho : ∀ b,H b = some (.own a) → H' b = some (.own a)) (ht : ∀ b xs,H b = some (.tup xs) → H' b = some (.tup xs)) : ObjOk P w H' h' a o := by
  induction o with
  | lst xs => obtain ⟨z,its,n,r,e⟩ := x; exact ⟨z,its,n,r,k _ _ (.inl rfl) e⟩
  | tup xs => obtain ⟨z,its,r,ob,e,c⟩ := x; exact ⟨z,its,r,ob,k _ _ (.inl rfl) e,c⟩
  | dK kvs => obtain ⟨z,y,vs,r,ob,es,ep,e,c⟩ := x; exact ⟨z,y,vs,r,ob,es,ep,k _ _ (.inl rfl) e,c⟩
  | dT kvs =>
    obtain ⟨z,y,xs,r,ob,es,ep,e,c⟩ := x
    exact ⟨z,y,xs,Paired.mapP r fun p q z => ⟨z.1,ht _ _ z.2.1,z.2.2⟩,ob,es,ep,k _ _ (.inl rfl) e,c⟩
  | set S n => obtain ⟨ob,es,ep,t,e,c⟩ := x; exact ⟨ob,es,ep,t,k _ _ (.inl rfl) e,c⟩
  | ins C dx fs =>
    obtain ⟨d,z,ne,e,mA,⟨od,es,ep,e2,c⟩,r⟩ := x
    exact ⟨ho _ d,z,ne,k _ _ (.inl rfl) e,mA,⟨od,es,ep,k _ _ (.inr d) e2,c⟩,r⟩
  | own y => obtain ⟨ob,e⟩ := x; exact ⟨ob,k _ _ (.inl rfl) e⟩
  | xd fs => obtain ⟨mA,⟨od,es,ep,e,c⟩,r⟩ := x; exact ⟨mA,⟨od,es,ep,k _ _ (.inl rfl) e,c⟩,r⟩
  | rng lo hi => obtain ⟨t,u,v,e⟩ := x; exact ⟨t,u,v,k _ _ (.inl rfl) e⟩
  | frz ob u ih => obtain ⟨e,q⟩ := x; exact ⟨k _ _ (.inl rfl) e,ih q⟩
  | tbl ps =>
    have e : h.get? a = some { cls := .none,data := .fields ps } := x
    show h'.get? a = some { cls := .none,data := .fields ps }
    exact k a _ (.inl rfl) e
  | met f y =>
    have e : h.get? a = some (PySem.W.methodObj (.ref f) (.ref y)) := x
    show h'.get? a = some (PySem.W.methodObj (.ref f) (.ref y))
    exact k a _ (.inl rfl) e
  | ext φ => obtain ⟨p,⟨o,e⟩,st⟩ := x; exact ⟨st _ _ p fun o q => k _ _ (.inl rfl) q,⟨o,k _ _ (.inl rfl) e⟩,st⟩
theorem HOk.lt (x : HOk P w H h) (e : H a = some o) : a < h.objs.size := (x a o e).lt
theorem HOk.fresh (x : HOk P w H h) (e : h.objs.size ≤ a) : H a = none := by
  cases q : H a with
  | none => rfl
  | some u => exact absurd (Nat.lt_of_lt_of_le (x.lt q) e) (Nat.lt_irrefl _)
theorem HOk.kept (x : HOk P w H h) (k : ∀ b u,h.get? b = some u → h'.get? b = some u) : HOk P w H h' := fun a o e =>
  (x a o e).stay (fun b u _ q => k b u q) (fun _ q => q) fun _ _ q => q
theorem HOk.laid (x : HOk P w H h) (k : ∀ b u,h.get? b = some u → h'.get? b = some u) (hp : h.objs.size ≤ a) (new : ObjOk P w (upd H a o) h' a o) : HOk P w (upd H a o) h' := fun b u e => by
  have hn := x.fresh hp
  by_cases hb : b = a
  · subst hb; rw [upd_same] at e; cases e; exact new
  · rw [upd_ne hb] at e
    exact (x b u e).stay (fun c v _ q => k c v q) (fun c q => by rw [upd_ne (ne_of_none q hn)]; exact q) fun c xs q => by rw [upd_ne (ne_of_none q hn)]; exact q
end
def Rd (H : Hp) (a : Addr) (u : HO) : Prop := H a = some u ∨ ∃ o,H a = some (.frz o u)
theorem Rd.ok {P : Program} {w : World} {H : Hp} {h : Heap} {a : Addr} {u : HO} (r : Rd H a u) (x : HOk P w H h) : ObjOk P w H h a u := by
  rcases r with r | ⟨o,r⟩
  · exact x a u r
  · obtain ⟨_,q⟩ := x a _ r
    exact q
def Mut : Option HO → Prop
  | some (.lst _) => True
  | some (.dK _) => True
  | some (.dT _) => True
  | some (.set _ _) => True
  | some (.ins _ _ _) => True
  | some (.ext _) => True
  | _ => False
section
variable {P : Program} {w : World} {H : Hp} {h h' : Heap} {x e : Addr} {o' : HO}
theorem HOk.write (ok : HOk P w H h) (mu : Mut (H x)) (he : e = x ∨ H e = some (.own x)) (k : ∀ b u,b ≠ e → h.get? b = some u → h'.get? b = some u) (heo : ∃ u,h'.get? e = some u)
    (new : ObjOk P w (upd H x o') h' x o') : HOk P w (upd H x o') h' := fun b u q => by
  have nown : ∀ c y,H c = some (.own y) → c ≠ x := fun c y r z => by subst z; rw [r] at mu; exact mu
  have ntup : ∀ c xs,H c = some (.tup xs) → c ≠ x := fun c xs r z => by subst z; rw [r] at mu; exact mu
  by_cases hb : b = x
  · subst hb; rw [upd_same] at q; cases q; exact new
  · rw [upd_ne hb] at q
    by_cases hbe : b = e
    · have q' : H b = some (.own x) := by
        rcases he with z | z
        · exact absurd (hbe.trans z) hb
        · rw [hbe]; exact z
      rw [q] at q'; cases q'
      obtain ⟨v,hv⟩ := heo
      exact ⟨v,by rw [hbe]; exact hv⟩
    · refine (ok b u q).stay (fun c v hc r => k c v ?_ r) (fun c r => by rw [upd_ne (nown c b r)]; exact r) fun c xs r => by rw [upd_ne (ntup c xs r)]; exact r
      rcases hc with rfl | hc
      · exact hbe
      · rintro rfl
        rcases he with z | z
        · exact nown c b hc z
        · rw [hc] at z; cases z; exact hb rfl
end
structure Un (fs ex : List Addr) (H H' : Hp) (h h' : Heap) : Prop where
  keep : ∀ b o,h.get? b = some o → H b = none → b ∉ fs → b ∉ ex → h'.get? b = some o
  slot : ∀ b o,h.get? b = some o → H b = none → b ∈ fs → b ∉ ex → ∃ sl,h'.get? b = some { o with slots := sl }
  free : ∀ b o,h.get? b = some o → H b = none → b ∉ ex → H' b = none
  there : ∀ b o,h.get? b = some o → b ∉ ex → ∃ o',h'.get? b = some o'
  tups : ∀ b xs,H b = some (.tup xs) → H' b = some (.tup xs)
  frzs : ∀ b o u,H b = some (.frz o u) → H' b = some (.frz o u)
  tbls : ∀ b ps,H b = some (.tbl ps) → ∃ more,H' b = some (.tbl (ps ++ more))
section
variable {fs fs' ex ex' : List Addr} {H H1 H2 : Hp} {h h1 h2 h' : Heap} {a x e : Addr} {o : HO}
theorem Un.any (u : Un fs ex H H1 h h1) {b : Addr} {ob : Obj} (q : h.get? b = some ob) (n : H b = none) (hx : b ∉ ex) : ∃ sl,h1.get? b = some { ob with slots := sl } := by
  by_cases hb : b ∈ fs
  · exact u.slot b ob q n hb hx
  · exact ⟨ob.slots,u.keep b ob q n hb hx⟩
theorem Un.kept (k : ∀ b u,h.get? b = some u → h'.get? b = some u) : Un fs ex H H h h' :=
  ⟨fun b ob q _ _ _ => k b ob q,fun b ob q _ _ _ => ⟨ob.slots,k b ob q⟩,fun _ _ _ n _ => n,fun b ob q _ => ⟨ob,k b ob q⟩,fun _ _ q => q,fun _ _ _ q => q,fun _ ps q => ⟨#[],by rw [q]; simp⟩⟩
theorem Un.refl : Un fs ex H H h h := Un.kept fun _ _ q => q
theorem Un.laid (k : ∀ b u,h.get? b = some u → h'.get? b = some u) (hp : h.objs.size ≤ a) (hn : H a = none) : Un fs ex H (upd H a o) h h' where
  keep := fun b u q _ _ _ => k b u q
  slot := fun b u q _ _ _ => ⟨u.slots,k b u q⟩
  free := fun b u q n _ => by rw [upd_ne (Nat.ne_of_lt (Nat.lt_of_lt_of_le (Heap.lt_size q) hp))]; exact n
  there := fun b u q _ => ⟨u,k b u q⟩
  tups := fun b xs q => by rw [upd_ne (ne_of_none q hn)]; exact q
  frzs := fun b u xs q => by rw [upd_ne (ne_of_none q hn)]; exact q
  tbls := fun b ps q => ⟨#[],by rw [upd_ne (ne_of_none q hn),q]; simp⟩
theorem Un.write (mu : Mut (H x)) (he : e = x ∨ H e = some (.own x)) (k : ∀ b u,b ≠ e → h.get? b = some u → h'.get? b = some u) (heo : ∃ u,h'.get? e = some u) : Un fs ex H (upd H x o) h h' := by
  have hx : ∀ b,H b = none → b ≠ x := fun b n z => by subst z; rw [n] at mu; exact mu
  have hb : ∀ b,H b = none → b ≠ e := fun b n z => by
    subst z
    rcases he with r | r
    · exact hx b n r
    · rw [n] at r; cases r
  have hm : ∀ b u,H b = some u → ¬ Mut (some u) → b ≠ x := fun b u q nm z => by subst z; rw [q] at mu; exact nm mu
  refine ⟨fun b u q n _ _ => k b u (hb b n) q,fun b u q n _ _ => ⟨u.slots,k b u (hb b n) q⟩,fun b u q n _ => by rw [upd_ne (hx b n)]; exact n,fun b u q _ => ?_,
    fun b xs q => by rw [upd_ne (hm b _ q fun z => z)]; exact q,fun b u xs q => by rw [upd_ne (hm b _ q fun z => z)]; exact q,fun b ps q => ⟨#[],by rw [upd_ne (hm b _ q fun z => z),q]; simp⟩⟩
  by_cases hbe : b = e
  · subst hbe; exact heo
  · exact ⟨u,k b u hbe q⟩
end
def trk (h : Heap) (H : Hp) : List Addr := (List.range h.objs.size).filter fun a => (H a).isSome
def hidT (h : Heap) (H : Hp) : Heap := PySem.W.hideAll h (trk h H)
theorem hidT_size (h : Heap) (H : Hp) : (hidT h H).objs.size = h.objs.size := PySem.W.hideAll_size _ _
theorem hidT_get {h : Heap} {H : Hp} {b : Addr} {o : Obj} (e : h.get? b = some o) (n : H b = none) : (hidT h H).get? b = some o :=
  PySem.W.hideAll_get _ e fun hm => by
    have q : (H b).isSome = true := (List.mem_filter.mp hm).2
    rw [n] at q; simp at q
theorem of_hidT {h : Heap} {H : Hp} {b : Addr} {o : Obj} (e : (hidT h H).get? b = some o) : h.get? b = some o ∧ H b = none := by
  have e' : h.get? b = some o := PySem.W.of_hideAll (trk h H) e
  refine ⟨e',?_⟩
  cases q : H b with
  | none => rfl
  | some x =>
    have hm : b ∈ trk h H := List.mem_filter.mpr ⟨List.mem_range.mpr (Heap.lt_size e'),by simp [q]⟩
    have z : (hidT h H).get? b = none := PySem.W.hideAll_none (trk h H) hm
    rw [z] at e; cases e
def allNews (g h : Heap) (L : Addr) : List (Addr × Obj) := (List.range h.objs.size).filterMap fun a => if a = L ∨ (g.get? a).isSome = true then none else (h.get? a).map fun o => (a,o)
def rest (g h : Heap) (L d : Addr) : List (Addr × Obj) := (allNews g h L).filter fun p => decide (p.1 ≠ d)
end L2
namespace L2
open PySem PySem.Spec PyProof.Rows
structure Mod (K : PySem.W.Frag) (mg : Str → Option Value) (base : Heap) : Prop where
  kin : K.In base
  glob : base.Ns mainGlobals mg
  blt : ∃ mb,base.Ns builtinsNs mb ∧ ∀ x : Str,x ≠ "__name__" → mb x = bootBuiltins x
  nolimit : base.NoLimit
/-- the context: a def's body (or a comprehension's block) running. base: fixed through the whole law; s₀,H₀: the entry; outer: the frames whose slots others may change (a def's callers); stack: all frames that run;
   ex: iterators that were made ahead of the entry and are walked here (a comprehension's); fn: the names whose cells were made at the entry (a def: all; a comprehension's block: its own); calm: not within an except suite; pn: pins that every state bears; xe: what is wanted of an exception that leaves the code -/
structure Cx where
  prog : Program
  w : World
  K : PySem.W.Frag
  mg : Str → Option Value
  base : Heap
  A : Around
  N : List Str
  s₀ : Shared
  H₀ : Hp
  env : Env
  outer : List Env
  stack : List Env
  ex : List Addr
  fn : Str → Bool
  calm : Bool
  pn : List (Addr × Obj)
  xe : Value → Shared → Prop
def frs (l : List Env) : List Addr := l.filterMap (·.frame)
abbrev Cx.fs (X : Cx) : List Addr := frs X.outer
def Vis (sc : Scope) (x : Str) : Prop := sc.names.lookup x = some .local ∨ sc.names.lookup x = some .cell ∨ sc.names.lookup x = some .free
def Loc (sc : Scope) (x : Str) : Prop := sc.names.lookup x = some .local ∨ sc.names.lookup x = some .cell
def Look (env : Env) (h : Heap) (m : Str → Option Value) (x : Str) (u : Value) : Prop :=
  (env.kindOf x = some .local ∧ m x = some u) ∨ ((env.kindOf x = some .cell ∨ env.kindOf x = some .free) ∧ ∃ c,env.cells.lookup x = some c ∧ h.IsCell c (some u))
structure Cx.Ok (X : Cx) : Prop where
  mod : Mod X.K X.mg X.base
  kind : X.env.scope.kind = .function
  glob : X.env.globals = mainGlobals
  blt : X.env.builtins = builtinsNs
  above : X.s₀.heap.objs.size ≤ X.env.locals
  inj : ∀ x y c,X.env.cells.lookup x = some c → X.env.cells.lookup y = some c → x = y
  has : ∀ x,(X.env.kindOf x = some .cell ∨ X.env.kindOf x = some .free) → ∃ c,X.env.cells.lookup x = some c
  cab : ∀ x c,X.fn x = true → X.env.cells.lookup x = some c → X.s₀.heap.objs.size ≤ c
  hd : X.calm = true → X.A.handled = none
  frames : X.A.frames = some X.stack
  stk : X.stack = X.outer ∨ (X.stack = X.env :: X.outer ∧ X.env.frame = some X.env.locals)
  exf : ∀ b ∈ X.ex,b ≠ X.env.locals ∧ ∀ x c,X.env.cells.lookup x = some c → c ≠ b
  bs : ∀ b o,X.base.get? b = some o → X.s₀.heap.get? b = some o ∧ X.H₀ b = none
  bsz : X.base.objs.size ≤ X.s₀.heap.objs.size
  noex : ∀ b o,X.base.get? b = some o → b ∉ X.ex
  exfs : ∀ b ∈ X.ex,b ∉ X.fs
  funs : X.s₀.heap.FunFrames X.base X.outer
  frf : ∀ b ∈ X.fs,X.H₀ b = none
structure Inv (X : Cx) (pins : List (Addr × Obj)) (σ : List (Option V)) (H : Hp) (s : Shared) : Prop where
  ok : X.Ok
  os : s.os = X.s₀.os
  bare : AllBare s.gens
  base : Un X.fs X.ex X.H₀ H X.s₀.heap s.heap
  loc : ∃ m,s.heap.Ns X.env.locals m ∧ ∀ (i : Nat) (x : Str) (v : V),X.N[i]? = some x → σ[i]? = some (some v) → Vis X.env.scope x → ∃ u,RelV v u ∧ Look X.env s.heap m x u
  cell : ∀ x c,X.env.cells.lookup x = some c → ∃ v,s.heap.IsCell c v
  free : H X.env.locals = none
  freeC : ∀ x c,X.env.cells.lookup x = some c → H c = none
  pin : ∀ p ∈ X.pn ++ pins,s.heap.get? p.1 = some p.2 ∧ H p.1 = none ∧ p.1 ≠ X.env.locals ∧ p.1 ∉ X.fs ∧ ∀ v,p.2.data ≠ .cell v
  hok : HOk X.prog X.w H s.heap
  len : σ.length = X.N.length
section
variable {X : Cx} {pins : List (Addr × Obj)} {σ : List (Option V)} {H H' : Hp} {s : Shared} {h' : Heap}
theorem Cx.Ok.nofr (ok : X.Ok) {b : Addr} {o : Obj} (e : X.base.get? b = some o) : b ∉ X.fs := fun hb => by
  have := (ok.funs.mem hb).1
  rw [e] at this; cases this
theorem Inv.bs (I : Inv X pins σ H s) : ∀ b o,X.base.get? b = some o → s.heap.get? b = some o ∧ H b = none := fun b o e =>
  ⟨I.base.keep b o (I.ok.bs b o e).1 (I.ok.bs b o e).2 (I.ok.nofr e) (I.ok.noex b o e),I.base.free b o (I.ok.bs b o e).1 (I.ok.bs b o e).2 (I.ok.noex b o e)⟩
theorem Inv.bk (I : Inv X pins σ H s) : ∀ b o,X.base.get? b = some o → s.heap.get? b = some o := fun b o e => (I.bs b o e).1
theorem Inv.mod (I : Inv X pins σ H s) : Mod X.K X.mg X.base := I.ok.mod
theorem Inv.kIn (I : Inv X pins σ H s) : X.K.In s.heap := I.ok.mod.kin.keeps I.bk
theorem Inv.fr (I : Inv X pins σ H s) : ∃ m,Fr X.base X.env.locals s.heap m :=
  let ⟨m,hn,_⟩ := I.loc
  ⟨m,hn,I.bk,Nat.le_trans I.ok.bsz I.ok.above⟩
theorem Inv.lt (I : Inv X pins σ H s) : X.env.locals < s.heap.objs.size := let ⟨_,hn,_⟩ := I.loc; hn.lt
theorem Inv.sz (I : Inv X pins σ H s) : X.s₀.heap.objs.size ≤ s.heap.objs.size := Nat.le_trans I.ok.above (Nat.le_of_lt I.lt)
theorem Inv.nofs (I : Inv X pins σ H s) {a : Addr} (h : s.heap.objs.size ≤ a) : a ∉ X.fs := fun hb => by
  obtain ⟨_,o,ho,_⟩ := I.ok.funs.mem hb
  exact absurd (Nat.lt_of_lt_of_le (Heap.lt_size ho) (Nat.le_trans I.sz h)) (Nat.lt_irrefl _)
theorem Inv.cne (I : Inv X pins σ H s) : ∀ x c,X.env.cells.lookup x = some c → c ≠ X.env.locals := fun x c e z => by
  obtain ⟨v,o,ho,hd⟩ := I.cell x c e
  obtain ⟨m,⟨o',es,ep,ho',hd',_⟩,_⟩ := I.loc
  rw [z,ho'] at ho; cases ho; rw [hd'] at hd; cases hd
theorem Inv.funs (I : Inv X pins σ H s) : s.heap.FunFrames X.base X.outer := by
  have all : ∀ (l : List Env),(∀ b ∈ frs l,b ∈ X.fs) → X.s₀.heap.FunFrames X.base l → s.heap.FunFrames X.base l := by
    intro l
    induction l with
    | nil => intro _ _; trivial
    | cons env r ih =>
      intro hs hl
      obtain ⟨hk,⟨L,o,hf,hn,ho,hd⟩,hr⟩ := hl
      have hL : L ∈ X.fs := hs L (by unfold frs; rw [List.filterMap_cons,hf]; exact List.mem_cons_self)
      obtain ⟨sl,e⟩ := I.base.slot L o ho (I.ok.frf L hL) hL fun z => I.ok.exfs L z hL
      exact ⟨hk,⟨L,_,hf,hn,e,hd⟩,ih (fun b hb => hs b (by unfold frs; rw [List.filterMap_cons,hf]; exact List.mem_cons_of_mem _ hb)) hr⟩
  exact all X.outer (fun _ hb => hb) I.ok.funs
theorem Inv.stack (I : Inv X pins σ H s) : s.heap.FunFrames X.base X.stack := by
  rcases I.ok.stk with e | ⟨e,hf⟩
  · rw [e]; exact I.funs
  · rw [e]
    obtain ⟨m,hn,_⟩ := I.loc
    refine .cons (by rw [I.ok.kind]; decide) hf hn ?_ I.funs
    exact Heap.get?_none_of_le (Nat.le_trans I.ok.bsz I.ok.above)
theorem Inv.stkSub (I : Inv X pins σ H s) : ∀ b ∈ frs X.stack,b ∈ X.env.locals :: X.fs := fun b hb => by
  rcases I.ok.stk with e | ⟨e,hf⟩
  · rw [e] at hb; exact List.mem_cons_of_mem _ hb
  · rw [e] at hb
    unfold frs at hb
    rw [List.filterMap_cons,hf] at hb
    exact hb
theorem Inv.stkFree (I : Inv X pins σ H s) : ∀ b ∈ frs X.stack,H b = none := fun b hb => by
  rcases List.mem_cons.mp (I.stkSub b hb) with e | hb
  · rw [e]; exact I.free
  · obtain ⟨_,o,ho,_⟩ := I.ok.funs.mem hb
    exact I.base.free b o ho (I.ok.frf b hb) fun z => I.ok.exfs b z hb
theorem Inv.step {g' : Array GenState} {t' : Nat} {d' : Drawn} {ch : List Addr} (I : Inv X pins σ H s)
    (hch : ∀ b ∈ ch,(b ∈ X.ex ∨ X.s₀.heap.objs.size ≤ b) ∧ b ≠ X.env.locals ∧ (∀ x c,X.env.cells.lookup x = some c → c ≠ b) ∧ ∀ p ∈ X.pn ++ pins,p.1 ≠ b)
    (keep : ∀ b o,b ≠ X.env.locals → b ∉ X.fs → b ∉ ch → s.heap.get? b = some o → H b = none → h'.get? b = some o)
    (slot : ∀ b o,b ≠ X.env.locals → b ∈ X.fs → b ∉ ch → s.heap.get? b = some o → H b = none → ∃ sl,h'.get? b = some { o with slots := sl }) (free : ∀ b o,b ∉ ch → s.heap.get? b = some o → H b = none → H' b = none)
    (there : ∀ b o,b ∉ ch → s.heap.get? b = some o → ∃ o',h'.get? b = some o')
    (tups : ∀ b xs,H b = some (.tup xs) → H' b = some (.tup xs)) (frzs : ∀ b o u,H b = some (.frz o u) → H' b = some (.frz o u)) (tbls : ∀ b ps,H b = some (.tbl ps) → ∃ more,H' b = some (.tbl (ps ++ more)))
    (ns : ∀ m,s.heap.Ns X.env.locals m → h'.Ns X.env.locals m) (hok : HOk X.prog X.w H' h') (hg : AllBare g') :
    Inv X pins σ H' { s with heap := h',gens := g',drawn := d',toks := t' } := by
  have neL : ∀ b o,X.s₀.heap.get? b = some o → b ≠ X.env.locals := fun b o e => Nat.ne_of_lt (Nat.lt_of_lt_of_le (Heap.lt_size e) I.ok.above)
  have neC : ∀ b o,X.s₀.heap.get? b = some o → b ∉ X.ex → b ∉ ch := fun b o e hx hb => by
    rcases (hch b hb).1 with z | z
    · exact hx z
    · exact absurd (Nat.lt_of_lt_of_le (Heap.lt_size e) z) (Nat.lt_irrefl _)
  have cellK : ∀ x c,X.env.cells.lookup x = some c → ∀ v,s.heap.IsCell c v → h'.IsCell c v := fun x c e v ⟨o,ho,hd⟩ => by
    have nch : c ∉ ch := fun z => (hch c z).2.2.1 x c e rfl
    by_cases hc : c ∈ X.fs
    · obtain ⟨sl,q⟩ := slot c o (I.cne x c e) hc nch ho (I.freeC x c e)
      exact ⟨_,q,hd⟩
    · exact ⟨o,keep c o (I.cne x c e) hc nch ho (I.freeC x c e),hd⟩
  refine ⟨I.ok,I.os,hg,⟨fun b o e n hb hx => ?_,fun b o e n hb hx => ?_,fun b o e n hx => ?_,fun b o e hx => ?_,fun b xs e => tups b xs (I.base.tups b xs e),fun b o xs e => frzs b o xs (I.base.frzs b o xs e),fun b ps e => ?_⟩,?_,fun x c e => ?_,?_,fun x c e => ?_,fun p hp => ?_,hok,I.len⟩
  · exact keep b o (neL b o e) hb (neC b o e hx) (I.base.keep b o e n hb hx) (I.base.free b o e n hx)
  · obtain ⟨sl,e1⟩ := I.base.slot b o e n hb hx
    obtain ⟨sl',e2⟩ := slot b _ (neL b o e) hb (neC b o e hx) e1 (I.base.free b o e n hx)
    exact ⟨sl',e2⟩
  · obtain ⟨o',e1⟩ := I.base.there b o e hx
    exact free b o' (neC b o e hx) e1 (I.base.free b o e n hx)
  · obtain ⟨o',e1⟩ := I.base.there b o e hx
    exact there b o' (neC b o e hx) e1
  · obtain ⟨m1,e1⟩ := I.base.tbls b ps e
    obtain ⟨m2,e2⟩ := tbls b _ e1
    exact ⟨m1 ++ m2,by rw [e2,Array.append_assoc]⟩
  · obtain ⟨m,hn,hl⟩ := I.loc
    refine ⟨m,ns m hn,fun i x v e1 e2 e3 => ?_⟩
    obtain ⟨u,r,l⟩ := hl i x v e1 e2 e3
    refine ⟨u,r,?_⟩
    rcases l with l | ⟨k,c,e,z⟩
    · exact .inl l
    · exact .inr ⟨k,c,e,cellK x c e _ z⟩
  · obtain ⟨v,z⟩ := I.cell x c e
    exact ⟨v,cellK x c e v z⟩
  · obtain ⟨m,⟨o,_,_,ho,_⟩,_⟩ := I.loc
    exact free _ o (fun z => (hch _ z).2.1 rfl) ho I.free
  · obtain ⟨v,o,ho,hd⟩ := I.cell x c e
    exact free c o (fun z => (hch c z).2.2.1 x c e rfl) ho (I.freeC x c e)
  · obtain ⟨e,n,ne,nf,d⟩ := I.pin p hp
    have nch : p.1 ∉ ch := fun z => (hch p.1 z).2.2.2 p hp rfl
    exact ⟨keep p.1 p.2 ne nf nch e n,free p.1 p.2 nch e n,ne,nf,d⟩
theorem Inv.un {t' : Nat} (I : Inv X pins σ H s) (u : Un X.fs [] H H' s.heap h') (hok : HOk X.prog X.w H' h') : Inv X pins σ H' { s with heap := h',toks := t' } := by
  obtain ⟨m,⟨o,es,ep,ho,r⟩,_⟩ := id I.loc
  obtain ⟨sl,hL⟩ := u.any ho I.free (by simp)
  exact I.step (g' := s.gens) (d' := s.drawn) (ch := []) (fun _ z => nomatch z) (fun b o _ hb _ e n => u.keep b o e n hb (by simp)) (fun b o _ hb _ e n => u.slot b o e n hb (by simp)) (fun b o _ e n => u.free b o e n (by simp)) (fun b o _ e => u.there b o e (by simp)) u.tups u.frzs u.tbls (fun m' hm => by
    obtain ⟨o',es',ep',ho',r'⟩ := hm
    rw [ho] at ho'; cases ho'
    exact ⟨_,es',ep',hL,r'⟩) hok I.bare
theorem Inv.call {g' : Array GenState} {t' : Nat} {d' : Drawn} {ch : List Addr} (I : Inv X pins σ H s) (u : Un (frs X.stack) ch H H' s.heap h') (hok : HOk X.prog X.w H' h') (hg : AllBare g')
    (hch : ∀ b ∈ ch,(b ∈ X.ex ∨ X.s₀.heap.objs.size ≤ b) ∧ b ≠ X.env.locals ∧ (∀ x c,X.env.cells.lookup x = some c → c ≠ b) ∧ ∀ p ∈ X.pn ++ pins,p.1 ≠ b) :
    Inv X pins σ H' { s with heap := h',gens := g',drawn := d',toks := t' } := by
  obtain ⟨m,⟨o,es,ep,ho,r⟩,_⟩ := id I.loc
  obtain ⟨sl,hL⟩ := u.any ho I.free fun z => (hch _ z).2.1 rfl
  exact I.step (ch := ch) hch (fun b o hL hb hc e n => u.keep b o e n (fun z => (List.mem_cons.mp (I.stkSub b z)).elim hL hb) hc) (fun b o _ _ hc e n => u.any e n hc) (fun b o hc e n => u.free b o e n hc) (fun b o hc e => u.there b o e hc) u.tups u.frzs u.tbls (fun m' hm => by
    obtain ⟨o',es',ep',ho',r'⟩ := hm
    rw [ho] at ho'; cases ho'
    exact ⟨_,es',ep',hL,r'⟩) hok hg
theorem Inv.turned {t' : Nat} {it : Addr} (I : Inv X pins σ H s) (k : ∀ b o,b ≠ it → s.heap.get? b = some o → h'.get? b = some o) (hn : H it = none) (hL : it ≠ X.env.locals)
    (h1 : it ∈ X.ex ∨ X.s₀.heap.objs.size ≤ it) (h2 : ∀ x c,X.env.cells.lookup x = some c → c ≠ it) (h3 : ∀ p ∈ X.pn ++ pins,p.1 ≠ it) : Inv X pins σ H { s with heap := h',toks := t' } := by
  have nit : ∀ b u,H b = some u → b ≠ it := fun b u e z => by rw [z,hn] at e; cases e
  refine I.step (g' := s.gens) (d' := s.drawn) (ch := [it]) (fun b hb => ?_) (fun b o _ _ hc e _ => k b o (fun z => hc (by simp [z])) e) (fun b o _ _ hc e _ => ⟨o.slots,k b o (fun z => hc (by simp [z])) e⟩) (fun _ _ _ _ n => n)
    (fun b o hc e => ⟨o,k b o (fun z => hc (by simp [z])) e⟩) (fun _ _ e => e) (fun _ _ _ e => e) (fun b ps e => ⟨#[],by rw [e]; simp⟩) (fun m hm => ?_) (fun b u e => ?_) I.bare
  · have e : b = it := by simpa using hb
    subst e
    exact ⟨h1,hL,h2,h3⟩
  · obtain ⟨o,es,ep,ho,r⟩ := hm
    exact ⟨o,es,ep,k _ o (Ne.symm hL) ho,r⟩
  · refine (I.hok b u e).stay (fun c v hc q => k c v ?_ q) (fun _ q => q) fun _ _ q => q
    rcases hc with z | z
    · rw [z]; exact nit b u e
    · exact nit c _ z
theorem Inv.tok (I : Inv X pins σ H s) (t : Nat) : Inv X pins σ H { s with toks := t } := I.un (h' := s.heap) (t' := t) Un.refl I.hok
theorem Inv.kept {t' : Nat} (I : Inv X pins σ H s) (k : ∀ b u,s.heap.get? b = some u → h'.get? b = some u) : Inv X pins σ H { s with heap := h',toks := t' } := I.un (Un.kept k) (I.hok.kept k)
theorem Inv.laid {a : Addr} {o : HO} {t' : Nat} (I : Inv X pins σ H s) (k : ∀ b u,s.heap.get? b = some u → h'.get? b = some u) (hp : s.heap.objs.size ≤ a) (new : ObjOk X.prog X.w (upd H a o) h' a o) :
    Inv X pins σ (upd H a o) { s with heap := h',toks := t' } := I.un (Un.laid k hp (I.hok.fresh hp)) (I.hok.laid k hp new)
theorem Inv.write {x e : Addr} {o : HO} {t' : Nat} (I : Inv X pins σ H s) (mu : Mut (H x)) (he : e = x ∨ H e = some (.own x)) (k : ∀ b u,b ≠ e → s.heap.get? b = some u → h'.get? b = some u) (heo : ∃ u,h'.get? e = some u)
    (new : ObjOk X.prog X.w (upd H x o) h' x o) : Inv X pins σ (upd H x o) { s with heap := h',toks := t' } := I.un (Un.write mu he k heo) (I.hok.write mu he k heo new)
theorem Inv.weak {σ' : List (Option V)} (I : Inv X pins σ H s) (hl : σ'.length = σ.length) (w : ∀ (i : Nat) v,σ'[i]? = some (some v) → σ[i]? = some (some v)) : Inv X pins σ' H s :=
  ⟨I.ok,I.os,I.bare,I.base,let ⟨m,hn,hl'⟩ := I.loc; ⟨m,hn,fun i x v e1 e2 e3 => hl' i x v e1 (w i v e2) e3⟩,I.cell,I.free,I.freeC,I.pin,I.hok,hl.trans I.len⟩
theorem Inv.pins_of {pins' : List (Addr × Obj)} (I : Inv X pins σ H s) (h : ∀ p ∈ pins',s.heap.get? p.1 = some p.2 ∧ H p.1 = none ∧ p.1 ≠ X.env.locals ∧ p.1 ∉ X.fs ∧ ∀ v,p.2.data ≠ .cell v) : Inv X pins' σ H s :=
  ⟨I.ok,I.os,I.bare,I.base,I.loc,I.cell,I.free,I.freeC,fun p hp => (List.mem_append.mp hp).elim (fun z => I.pin p (List.mem_append_left _ z)) (h p),I.hok,I.len⟩
theorem nodup_ix {N : List Str} (hN : N.Nodup) {i j : Nat} {x : Str} (a : N[i]? = some x) (b : N[j]? = some x) : i = j := by
  obtain ⟨h1,e1⟩ := List.getElem?_eq_some_iff.mp a
  obtain ⟨h2,e2⟩ := List.getElem?_eq_some_iff.mp b
  exact (List.getElem_inj hN).mp (e1.trans e2.symm)
theorem store_ok2 {M : Model} {A : Around} {E : Value → Shared → Prop} {i : Nat} {x : Str} {v : V} {u : Value} {Q : Unit → Shared → Prop} (I : Inv X pins σ H s) (hN : X.N.Nodup) (hi : X.N[i]? = some x) (hx : Loc X.env.scope x) (r : RelV v u)
    (h : ∀ s',Inv X pins (σ.set i (some v)) H s' → (∃ a,Heap.SameBut a s.heap s'.heap ∧ (a = X.env.locals ∨ X.env.cells.lookup x = some a)) → Q () s') (hf : X.fn x = true ∨ X.env.scope.names.lookup x = some .local := by first | exact .inl rfl | exact .inr rfl | assumption) : wpAny M A (storeName X.env x u) Q E s := by
  obtain ⟨m,hn,hl⟩ := id I.loc
  have hcls : (X.env.scope.kind == .class || (X.env.scope.kind == .module && X.env.locals != X.env.globals)) = false := by rw [I.ok.kind]; rfl
  have hiσ : i < σ.length := by rw [I.len]; exact (List.getElem?_eq_some_iff.mp hi).1
  have cne := I.cne
  have tracked : ∀ {a : Addr} {h' : Heap},(∃ o,s.heap.get? a = some o ∧ H a = none) → Heap.SameBut a s.heap h' → HOk X.prog X.w H h' := fun {a h'} ha hs b ob e => by
    obtain ⟨_,_,hfree⟩ := ha
    refine (I.hok b ob e).stay (fun c w' hc q => (hs.2 c ?_).trans q) (fun _ q => q) fun _ _ q => q
    rintro rfl
    rcases hc with rfl | hc
    · rw [hfree] at e; cases e
    · rw [hfree] at hc; cases hc
  rcases hx with hk | hk
  · refine wpAny_storeName_local hk hn (fun h' hn' hs => ?_) hcls
    obtain ⟨oL,_,_,hoL,_⟩ := id hn
    refine h _ ⟨I.ok,I.os,I.bare,⟨fun b o e n hb hx => ?_,fun b o e n hb hx => ?_,I.base.free,fun b o e hx => ?_,I.base.tups,I.base.frzs,I.base.tbls⟩,⟨_,hn',fun j y v' e1 e2 e3 => ?_⟩,fun y c e => ?_,I.free,I.freeC,fun p hp => ?_,tracked ⟨oL,hoL,I.free⟩ hs,by simpa using I.len⟩ ⟨_,hs,.inl rfl⟩
    · exact (hs.2 b (Nat.ne_of_lt (Nat.lt_of_lt_of_le (Heap.lt_size e) I.ok.above))).trans (I.base.keep b o e n hb hx)
    · obtain ⟨sl,e1⟩ := I.base.slot b o e n hb hx
      exact ⟨sl,(hs.2 b (Nat.ne_of_lt (Nat.lt_of_lt_of_le (Heap.lt_size e) I.ok.above))).trans e1⟩
    · obtain ⟨o',e1⟩ := I.base.there b o e hx
      exact ⟨o',(hs.2 b (Nat.ne_of_lt (Nat.lt_of_lt_of_le (Heap.lt_size e) I.ok.above))).trans e1⟩
    · by_cases hj : j = i
      · subst hj
        rw [hi] at e1; cases e1
        rw [List.getElem?_set_self hiσ] at e2
        cases e2
        exact ⟨u,r,.inl ⟨hk,by simp⟩⟩
      · rw [List.getElem?_set_ne (Ne.symm hj)] at e2
        obtain ⟨u',r',q⟩ := hl j y v' e1 e2 e3
        refine ⟨u',r',?_⟩
        rcases q with ⟨k,e⟩ | ⟨k,c,e,z⟩
        · refine .inl ⟨k,?_⟩
          have : y ≠ x := fun e => hj (nodup_ix hN e1 (e ▸ hi))
          simp [this,e]
        · exact .inr ⟨k,c,e,z.sameBut hs (cne y c e)⟩
    · obtain ⟨w',z⟩ := I.cell y c e
      exact ⟨w',z.sameBut hs (cne y c e)⟩
    · obtain ⟨e,n,ne,nf,d⟩ := I.pin p hp
      exact ⟨(hs.2 p.1 ne).trans e,n,ne,nf,d⟩
  · have hfn : X.fn x = true := by
      rcases hf with z | z
      · exact z
      · rw [z] at hk; cases hk
    obtain ⟨c,hc⟩ := I.ok.has x (.inl hk)
    obtain ⟨w',z⟩ := I.cell x c hc
    refine wpAny_storeName_cell I.ok.kind hk hc z (fun h' hc' hs => ?_)
    obtain ⟨oc,hoc,hocd⟩ := id z
    refine h { s with heap := h' } ⟨I.ok,I.os,I.bare,⟨fun b o e n hb hx => ?_,fun b o e n hb hx => ?_,I.base.free,fun b o e hx => ?_,I.base.tups,I.base.frzs,I.base.tbls⟩,⟨m,hn.sameBut hs (Ne.symm (cne x c hc)),fun j y v' e1 e2 e3 => ?_⟩,fun y c' e => ?_,I.free,I.freeC,fun p hp => ?_,tracked ⟨oc,hoc,I.freeC x c hc⟩ hs,by simpa using I.len⟩ ⟨c,hs,.inr hc⟩
    · exact (hs.2 b (Nat.ne_of_lt (Nat.lt_of_lt_of_le (Heap.lt_size e) (I.ok.cab x c hfn hc)))).trans (I.base.keep b o e n hb hx)
    · obtain ⟨sl,e1⟩ := I.base.slot b o e n hb hx
      exact ⟨sl,(hs.2 b (Nat.ne_of_lt (Nat.lt_of_lt_of_le (Heap.lt_size e) (I.ok.cab x c hfn hc)))).trans e1⟩
    · obtain ⟨o',e1⟩ := I.base.there b o e hx
      exact ⟨o',(hs.2 b (Nat.ne_of_lt (Nat.lt_of_lt_of_le (Heap.lt_size e) (I.ok.cab x c hfn hc)))).trans e1⟩
    · by_cases hj : j = i
      · subst hj
        rw [hi] at e1; cases e1
        rw [List.getElem?_set_self hiσ] at e2
        cases e2
        exact ⟨u,r,.inr ⟨.inl hk,c,hc,hc'⟩⟩
      · rw [List.getElem?_set_ne (Ne.symm hj)] at e2
        obtain ⟨u',r',q⟩ := hl j y v' e1 e2 e3
        refine ⟨u',r',?_⟩
        rcases q with q | ⟨k,c',e,z'⟩
        · exact .inl q
        · refine .inr ⟨k,c',e,z'.sameBut hs ?_⟩
          rintro rfl
          exact hj (nodup_ix hN e1 (I.ok.inj _ _ _ e hc ▸ hi))
    · by_cases hcc : c' = c
      · subst hcc; exact ⟨_,hc'⟩
      · obtain ⟨w2,z2⟩ := I.cell y c' e
        exact ⟨w2,z2.sameBut hs hcc⟩
    · obtain ⟨e,n,ne,nf,d⟩ := I.pin p hp
      refine ⟨(hs.2 p.1 ?_).trans e,n,ne,nf,d⟩
      intro q
      rw [q,hoc] at e
      have q' : oc = p.2 := Option.some.inj e
      exact d w' (by rw [← q']; exact hocd)
theorem store_ok {M : Model} {A : Around} {E : Value → Shared → Prop} {i : Nat} {x : Str} {v : V} {u : Value} {Q : Unit → Shared → Prop} (I : Inv X pins σ H s) (hN : X.N.Nodup) (hi : X.N[i]? = some x) (hx : Loc X.env.scope x) (r : RelV v u)
    (h : ∀ s',Inv X pins (σ.set i (some v)) H s' → Q () s') (hf : X.fn x = true ∨ X.env.scope.names.lookup x = some .local := by first | exact .inl rfl | exact .inr rfl | assumption) : wpAny M A (storeName X.env x u) Q E s :=
  store_ok2 I hN hi hx r (fun s' I' _ => h s' I') hf
theorem Inv.call' {s' : Shared} {ch : List Addr} (I : Inv X pins σ H s) (ho : s'.os = s.os) (u : Un (frs X.stack) ch H H' s.heap s'.heap) (hok : HOk X.prog X.w H' s'.heap) (hg : AllBare s'.gens)
    (hch : ∀ b ∈ ch,(b ∈ X.ex ∨ X.s₀.heap.objs.size ≤ b) ∧ b ≠ X.env.locals ∧ (∀ x c,X.env.cells.lookup x = some c → c ≠ b) ∧ ∀ p ∈ X.pn ++ pins,p.1 ≠ b) : Inv X pins σ H' s' := by
  obtain ⟨h',g',d',t',o'⟩ := s'
  have e : o' = s.os := ho
  subst e
  exact I.call (g' := g') (t' := t') (d' := d') u hok hg hch
end
abbrev XK := Value → Option Addr → Hp → Prop
abbrev St := List (Option V)
abbrev VK := V → Hp → Prop
abbrev TE := St → Hp → VK → Prop
abbrev TT := St → Hp → (Bool → Hp → Prop) → Prop
abbrev TA := St → Hp → (List V → Hp → Prop) → Prop
structure Ends where
  nx : St → Hp → Prop
  rt : VK
  bk : St → Hp → Prop := fun _ _ => False
  ct : St → Hp → Prop := fun _ _ => False
abbrev TS := Ends → St → Hp → Prop
def EP (X : Cx) (pins : List (Addr × Obj)) (σ : St) (Q : VK) (u : Value) (s' : Shared) : Prop := ∃ v H',Inv X pins σ H' s' ∧ RelV v u ∧ Q v H'
def TP (X : Cx) (pins : List (Addr × Obj)) (σ : St) (Q : Bool → Hp → Prop) (b : Bool) (s' : Shared) : Prop := ∃ H',Inv X pins σ H' s' ∧ Q b H'
def AP (X : Cx) (pins : List (Addr × Obj)) (σ : St) (Q : List V → Hp → Prop) (us : List Value) (s' : Shared) : Prop := ∃ vs H',Inv X pins σ H' s' ∧ Vals vs us ∧ Q vs H'
def SP (X : Cx) (pins : List (Addr × Obj)) (D : Ends) (f : Flow) (s' : Shared) : Prop :=
  match f with
  | .next => ∃ σ' H',Inv X pins σ' H' s' ∧ D.nx σ' H'
  | .brk => ∃ σ' H',Inv X pins σ' H' s' ∧ D.bk σ' H'
  | .cont => ∃ σ' H',Inv X pins σ' H' s' ∧ D.ct σ' H'
  | .ret u => ∃ v σ' H',Inv X pins σ' H' s' ∧ RelV v u ∧ D.rt v H'
def PE (X : Cx) (e : Expr) (t : TE) : Prop :=
  ∀ (pins : List (Addr × Obj)) (s : Shared) (σ : St) (H : Hp) (Q : VK),Inv X pins σ H s → t σ H Q → wpAny (model X.prog X.w) X.A (eval e X.env) (EP X pins σ Q) X.xe s
def PT (X : Cx) (e : Expr) (t : TT) : Prop :=
  ∀ (pins : List (Addr × Obj)) (s : Shared) (σ : St) (H : Hp) (Q : Bool → Hp → Prop),Inv X pins σ H s → t σ H Q → wpAny (model X.prog X.w) X.A (isTrue e X.env (eval e X.env)) (TP X pins σ Q) X.xe s
def PW (X : Cx) (e : Expr) (t : TT) : Prop :=
  ∀ (whole : Sem Value) (pins : List (Addr × Obj)) (s : Shared) (σ : St) (H : Hp) (Q : Bool → Hp → Prop),Inv X pins σ H s → t σ H Q → wpAny (model X.prog X.w) X.A (isTrue e X.env whole) (TP X pins σ Q) X.xe s
theorem PW.pt {X : Cx} {e : Expr} {t : TT} (h : PW X e t) : PT X e t := h _
def PA (X : Cx) (es : List Expr) (t : TA) : Prop :=
  ∀ (pos : Pos) (pins : List (Addr × Obj)) (s : Shared) (σ : St) (H : Hp) (Q : List V → Hp → Prop),Inv X pins σ H s → t σ H Q → wpAny (model X.prog X.w) X.A (spliced (backTo pos (starEach es X.env))) (AP X pins σ Q) X.xe s
def PS (X : Cx) (st : Stmt) (t : TS) : Prop :=
  ∀ (pins : List (Addr × Obj)) (s : Shared) (σ : St) (H : Hp) (D : Ends),Inv X pins σ H s → t D σ H → wpAny (model X.prog X.w) X.A (exec st X.env) (SP X pins D) X.xe s
def PSs (X : Cx) (st : List Stmt) (t : TS) : Prop :=
  ∀ (pins : List (Addr × Obj)) (s : Shared) (σ : St) (H : Hp) (D : Ends),Inv X pins σ H s → t D σ H → wpAny (model X.prog X.w) X.A (execs st X.env) (SP X pins D) X.xe s
theorem thn {α : Type} {t : Sem α} {Q Q' : α → Shared → Prop} {M : Model} {A : Around} {E : Value → Shared → Prop} {s : Shared} (h : wpAny M A t Q E s) (hQ : ∀ a s,Q a s → Q' a s) : wpAny M A t Q' E s := wpAny_mono h hQ fun _ _ x => x
end L2
namespace L2
open PySem PySem.Spec PyProof.Rows
section
variable {X : Cx}
theorem bin {a b : Expr} {ta tb : TE} (ha : PE X a ta) (hb : PE X b tb) {pins : List (Addr × Obj)} {s : Shared} {σ : St} {H : Hp} {R : V → V → Hp → Prop} (I : Inv X pins σ H s) (h : ta σ H fun x H1 => tb σ H1 fun y H2 => R x y H2)
    {α : Type} {Q : α → Shared → Prop} {f : Value → Value → Sem α}
    (hf : ∀ v u s2 x y H2,Inv X pins σ H2 s2 → RelV x v → RelV y u → R x y H2 → wpAny (model X.prog X.w) X.A (f v u) Q X.xe s2) :
    wpAny (model X.prog X.w) X.A (eval a X.env) (fun v s₁ => wpAny (model X.prog X.w) X.A (eval b X.env) (fun u s₂ => wpAny (model X.prog X.w) X.A (f v u) Q X.xe s₂) X.xe s₁) X.xe s := by
  refine thn (ha pins s σ H _ I h) fun v s1 ⟨x,H1,I1,r1,q1⟩ => ?_
  refine thn (hb pins s1 σ H1 _ I1 q1) fun u s2 ⟨y,H2,I2,r2,q2⟩ => ?_
  exact hf v u s2 x y H2 I2 r1 r2 q2
def tVar (i : Nat) : TE := fun σ H Q => ∃ v,σ[i]? = some (some v) ∧ Q v H
def tC (v : V) : TE := fun _ H Q => Q v H
theorem pe_var {i : Nat} {x : Str} {pos : Pos} (hN : X.N[i]? = some x) (hv : Vis X.env.scope x) (hd : (x == ("__debug__" : Str)) = false := by decide) (hcd : (x == ("__classdict__" : Str)) = false := by decide) : PE X (.Name x pos) (tVar i) := by
  intro pins s σ H Q I h
  obtain ⟨v,e,h⟩ := h
  obtain ⟨m,hn,hl⟩ := I.loc
  obtain ⟨u,r,l⟩ := hl i x v hN e hv
  have fin : EP X pins σ Q u s := ⟨v,H,I,r,h⟩
  rcases l with ⟨hk,hm⟩ | ⟨hk,c,hc,hcell⟩
  · exact wpAny_Name (wpAny_loadName_local I.ok.kind hk hn hm fin) hd
  · rcases hk with hk | hk
    · exact wpAny_Name (wpAny_loadName_cell I.ok.kind hk hc hcell fin) hd
    · exact wpAny_Name (wpAny_loadName_free I.ok.kind hk hc hcell fin hcd) hd
theorem pe_int {i j pos} : PE X (.Constant (.int i) j pos) (tC (.int i)) := fun _ _ _ H _ I h => wpAny_Constant_int ⟨.int i,H,I.tok _,⟨_,rfl⟩,h⟩
theorem pe_bl {b j pos} : PE X (.Constant (.bool b) j pos) (tC (.bl b)) := fun _ _ _ H _ I h => Constant_bool ⟨.bl b,H,I,rfl,h⟩
theorem pe_non {j pos} : PE X (.Constant .none j pos) (tC .non) := fun _ _ _ H _ I h => Constant_none ⟨.non,H,I,rfl,h⟩
theorem pe_str {x j pos} : PE X (.Constant (.str x) j pos) (tC (.str x)) := fun _ _ _ H _ I h => Calls.Constant_str ⟨.str x,H,I.tok _,⟨_,rfl⟩,h⟩
def Gl (X : Cx) (x : Str) : Prop := X.env.kindOf x = some .globalImplicit
theorem ld_glob {E : Value → Shared → Prop} {pins : List (Addr × Obj)} {s : Shared} {σ : St} {H : Hp} {x : Str} {u : Value} {pos : Pos} {Q : Value → Shared → Prop} (I : Inv X pins σ H s) (hg : Gl X x) (hm : X.mg x = some u) (h : Q u s)
    (hd : (x == ("__debug__" : Str)) = false := by decide) : wpAny (model X.prog X.w) X.A (eval (.Name x pos) X.env) Q E s :=
  Calls.Name_function_global I.ok.kind hg (Calls.loadGlobal_global (by rw [I.ok.glob]; exact I.mod.glob.keeps I.bk) hm h) hd
theorem ld_blt {E : Value → Shared → Prop} {pins : List (Addr × Obj)} {s : Shared} {σ : St} {H : Hp} {x : Str} {u : Value} {pos : Pos} {Q : Value → Shared → Prop} (I : Inv X pins σ H s) (hg : Gl X x) (hm : X.mg x = none) (hv : bootBuiltins x = some u) (h : Q u s)
    (hn : x ≠ "__name__" := by decide) (hd : (x == ("__debug__" : Str)) = false := by decide) : wpAny (model X.prog X.w) X.A (eval (.Name x pos) X.env) Q E s := by
  obtain ⟨mb,h1,h2⟩ := I.mod.blt
  exact Calls.Name_function_global I.ok.kind hg (Calls.loadGlobal_builtin (by rw [I.ok.glob]; exact I.mod.glob.keeps I.bk) hm (by rw [I.ok.blt]; exact h1.keeps I.bk) ((h2 x hn).trans hv) h) hd
theorem pe_glob {x : Str} {v : V} {u : Value} {pos : Pos} (hg : Gl X x) (hm : X.mg x = some u) (r : RelV v u) (hd : (x == ("__debug__" : Str)) = false := by decide) : PE X (.Name x pos) (tC v) :=
  fun _ _ _ H _ I h => ld_glob I hg hm ⟨v,H,I,r,h⟩ hd
theorem pe_bltn {x : Str} {v : V} {u : Value} {pos : Pos} (hg : Gl X x) (hm : X.mg x = none) (hv : bootBuiltins x = some u) (r : RelV v u) (hn : x ≠ "__name__" := by decide) (hd : (x == ("__debug__" : Str)) = false := by decide) : PE X (.Name x pos) (tC v) :=
  fun _ _ _ H _ I h => ld_blt I hg hm hv ⟨v,H,I,r,h⟩ hn hd
variable {a b : Expr} {ta tb : TE} {pos : Pos}
def PC (X : Cx) (op : CmpOp) (a b : Expr) (t : TE) : Prop :=
  ∀ (pins : List (Addr × Obj)) (s : Shared) (σ : St) (H : Hp) (Q : VK),Inv X pins σ H s → t σ H Q →
    wpAny (model X.prog X.w) X.A (eval a X.env) (fun v s₁ => wpAny (model X.prog X.w) X.A (eval b X.env) (fun u s₂ => wpAny (model X.prog X.w) X.A (compareOp op v u) (EP X pins σ Q) X.xe s₂) X.xe s₁) X.xe s
def tB (t : TE) : TT := fun σ H Q => t σ H fun x H1 => ∃ c,x = .bl c ∧ Q c H1
theorem pt_cmp {op : CmpOp} {t : TE} (h : PC X op a b t) (h1 : behindInMarks op b = false := by first | exact nobehind _ (by decide) (by decide) | rfl) : PT X (.Compare a [op] [b] pos) (tB t) := by
  intro pins s σ H Q I hw
  refine wpAny_isTrue_Compare1 (thn (h pins s σ H _ I hw) fun v s1 h1 => thn h1 fun u s2 h2 => thn h2 fun c s3 ⟨x,H1,I1,r1,q1⟩ => ?_) h1
  obtain ⟨d,rfl,q⟩ := q1
  cases r1
  exact wpAny_truthy_bool ⟨H1,I1,q⟩
theorem pt_val {e : Expr} {t : TE} (h : PE X e t) (he : ∀ whole,isTrue e X.env whole = (do let v ← whole; standAt e.pos; holding [v] (truthy v)) := by intro _; rfl) : PT X e (tB t) := by
  intro pins s σ H Q I hw
  refine isTrue_plain (thn (h pins s σ H _ I hw) fun v s1 ⟨x,H1,I1,r1,q1⟩ => ?_) (he _)
  obtain ⟨d,rfl,q⟩ := q1
  cases r1
  exact wpAny_truthy_bool ⟨H1,I1,q⟩
variable {tA tB' : TT} {rest : List Expr}
def tAnd (t u : TT) : TT := fun σ H Q => t σ H fun c H1 => if c = true then u σ H1 Q else Q false H1
def tOr (t u : TT) : TT := fun σ H Q => t σ H fun c H1 => if c = true then Q true H1 else u σ H1 Q
def tNot (t : TT) : TT := fun σ H Q => t σ H fun c H1 => Q (!c) H1
theorem pw_and1 (ha : PT X a tA) : PW X (.BoolOp .And [a] pos) tA := by
  intro wh pins s σ H Q I h
  refine isTrue_and (thn (ha pins s σ H Q I h) fun c s1 e => ?_)
  cases c with
  | true => exact isTrue_and_nil e
  | false => exact e
theorem pw_or1 (ha : PT X a tA) : PW X (.BoolOp .Or [a] pos) tA := by
  intro wh pins s σ H Q I h
  refine isTrue_or (thn (ha pins s σ H Q I h) fun c s1 e => ?_)
  cases c with
  | false => exact isTrue_or_nil e
  | true => exact e
theorem pw_and (ha : PT X a tA) (hb : PW X (.BoolOp .And (b :: rest) pos) tB') : PW X (.BoolOp .And (a :: b :: rest) pos) (tAnd tA tB') := by
  intro wh pins s σ H Q I h
  refine isTrue_and (thn (ha pins s σ H _ I h) fun c s1 ⟨H1,I1,q1⟩ => ?_)
  cases c with
  | true => exact hb wh pins s1 σ H1 Q I1 q1
  | false => exact ⟨H1,I1,q1⟩
theorem pw_or (ha : PT X a tA) (hb : PW X (.BoolOp .Or (b :: rest) pos) tB') : PW X (.BoolOp .Or (a :: b :: rest) pos) (tOr tA tB') := by
  intro wh pins s σ H Q I h
  refine isTrue_or (thn (ha pins s σ H _ I h) fun c s1 ⟨H1,I1,q1⟩ => ?_)
  cases c with
  | true => exact ⟨H1,I1,q1⟩
  | false => exact hb wh pins s1 σ H1 Q I1 q1
theorem pt_not (ha : PT X a tA) : PT X (.UnaryOp .Not a pos) (tNot tA) := by
  intro pins s σ H Q I h
  exact isTrue_not (ha pins s σ H (fun c H1 => Q (!c) H1) I h)
def tAndV (ta tb : TE) : TE := fun σ H Q => ta σ H fun x H1 => ∃ c,x = .bl c ∧ if c = true then tb σ H1 Q else Q (.bl false) H1
def tOrV (ta tb : TE) : TE := fun σ H Q => ta σ H fun x H1 => ∃ c,x = .bl c ∧ if c = true then Q (.bl true) H1 else tb σ H1 Q
def tNotV (ta : TE) : TE := fun σ H Q => ta σ H fun x H1 => ∃ c,x = .bl c ∧ Q (.bl (!c)) H1
theorem pe_one {op} {t : TE} (h : PE X a t) : PE X (.BoolOp op [a] pos) t := fun pins s σ H Q I hw => BoolOp_one (h pins s σ H Q I hw)
theorem pe_and (ha : PE X a ta) (hb : PE X (.BoolOp .And (b :: rest) pos) tb) : PE X (.BoolOp .And (a :: b :: rest) pos) (tAndV ta tb) := by
  intro pins s σ H Q I h
  refine BoolOp_and (thn (ha pins s σ H _ I h) fun v s1 ⟨x,H1,I1,r1,q1⟩ => ?_)
  obtain ⟨c,rfl,q1⟩ := q1
  cases r1
  refine wpAny_truthy_bool ?_
  cases c with
  | true => exact hb pins s1 σ H1 Q I1 q1
  | false => exact ⟨.bl false,H1,I1,rfl,q1⟩
theorem pe_or (ha : PE X a ta) (hb : PE X (.BoolOp .Or (b :: rest) pos) tb) : PE X (.BoolOp .Or (a :: b :: rest) pos) (tOrV ta tb) := by
  intro pins s σ H Q I h
  refine BoolOp_or (thn (ha pins s σ H _ I h) fun v s1 ⟨x,H1,I1,r1,q1⟩ => ?_)
  obtain ⟨c,rfl,q1⟩ := q1
  cases r1
  refine wpAny_truthy_bool ?_
  cases c with
  | false => exact hb pins s1 σ H1 Q I1 q1
  | true => exact ⟨.bl true,H1,I1,rfl,q1⟩
theorem pe_not (ha : PE X a ta) : PE X (.UnaryOp .Not a pos) (tNotV ta) := by
  intro pins s σ H Q I h
  refine UnaryOp_ (thn (ha pins s σ H _ I h) fun v s1 ⟨x,H1,I1,r1,q1⟩ => ?_)
  obtain ⟨c,rfl,q1⟩ := q1
  cases r1
  exact not_of (wpAny_truthy_bool ⟨.bl (!c),H1,I1,rfl,q1⟩)
def tIf (t : TT) (ta tb : TE) : TE := fun σ H Q => t σ H fun c H1 => if c = true then ta σ H1 Q else tb σ H1 Q
theorem pe_ifExp {c : Expr} (hc : PT X c tA) (ha : PE X a ta) (hb : PE X b tb) : PE X (.IfExp c a b pos) (tIf tA ta tb) := by
  intro pins s σ H Q I h
  refine wpAny_IfExp (thn (hc pins s σ H _ I h) fun d s1 ⟨H1,I1,q1⟩ => ?_)
  cases d with
  | true => exact ha pins s1 σ H1 Q I1 q1
  | false => exact hb pins s1 σ H1 Q I1 q1
end
end L2
namespace L2
open PySem PySem.Spec PyProof.Rows
def SqL (K : PySem.W.Frag) (H : Hp) (a : Addr) (xs : List V) : Prop :=
  Rd H a (.lst xs) ∨
    ∃ (o : Obj) (its : Array Value) (n : Nat),K.lookup a = some o ∧ o.cls = .type "list" ∧ o.dict = none ∧ o.data = .seq its n ∧ its.size ≤ sizeLine ∧ Vals xs its.toList
def SqT (K : PySem.W.Frag) (H : Hp) (a : Addr) (xs : List V) : Prop :=
  Rd H a (.tup xs) ∨
    ∃ (o : Obj) (its : Array Value) (n : Nat),K.lookup a = some o ∧ o.cls = .type "tuple" ∧ o.data = .seq its n ∧ its.size ≤ sizeLine ∧ Vals xs its.toList
def absV : Value → Option V
  | .none => some .non
  | .bool b => some (.bl b)
  | .int i _ => some (.int i)
  | .str x _ => some (.str x)
  | .bytes b _ => some (.byt b)
  | .float b _ => some (.flt b)
  | .ref a => some (.ref a)
  | .type n => some (.ty n)
  | _ => none
theorem RelV.abs {x : V} {u : Value} (r : RelV x u) : absV u = some x := by
  cases x with
  | non => cases r; rfl
  | bl _ => cases r; rfl
  | int _ => obtain ⟨t,rfl⟩ := r; rfl
  | str _ => obtain ⟨t,rfl⟩ := r; rfl
  | byt _ => obtain ⟨t,rfl⟩ := r; rfl
  | flt _ => obtain ⟨t,rfl⟩ := r; rfl
  | ref _ => cases r; rfl
  | ty _ => cases r; rfl
theorem RelV.inj {x y : V} {u : Value} (r : RelV x u) (q : RelV y u) : x = y := Option.some.inj (r.abs.symm.trans q.abs)
theorem Vals.inj : ∀ {xs ys : List V} {us : List Value},Vals xs us → Vals ys us → xs = ys
  | _,_,_,.nil,.nil => rfl
  | _,_,_,.cons r t,.cons r' t' => by rw [r.inj r',Vals.inj t t']
section
variable {X : Cx} {pins : List (Addr × Obj)} {σ : St} {H : Hp} {s : Shared} {a : Addr} {xs ys : List V}
theorem SqL.of {K : PySem.W.Frag} (h : H a = some (.lst xs)) : SqL K H a xs := .inl (.inl h)
theorem SqT.of {K : PySem.W.Frag} (h : H a = some (.tup xs)) : SqT K H a xs := .inl (.inl h)
theorem Inv.list (I : Inv X pins σ H s) (h : SqL X.K H a xs) : ∃ its : List Value,Vals xs its ∧ PlainL s.heap a its.toArray ∧ xs.length ≤ sizeLine := by
  rcases h with h | ⟨o,its,n,hk,hc,hd,hs,hz,r⟩
  · obtain ⟨z,its,n,r,e⟩ := h.ok I.hok
    exact ⟨its,r,⟨_,n,e,rfl,rfl,rfl⟩,z⟩
  · refine ⟨its.toList,r,⟨o,n,I.kIn a o hk,hc,hd,by simpa using hs⟩,?_⟩
    have e := r.length
    simp only [Array.length_toList] at e
    omega
theorem Inv.tuple (I : Inv X pins σ H s) (h : SqT X.K H a xs) : ∃ its : List Value,Vals xs its ∧ IsTup s.heap a its.toArray ∧ xs.length ≤ sizeLine := by
  rcases h with h | ⟨o,its,n,hk,hc,hs,hz,r⟩
  · obtain ⟨z,its,r,p⟩ := h.ok I.hok
    exact ⟨its,r,p,z⟩
  · refine ⟨its.toList,r,⟨o,I.kIn a o hk,hc,n,by simpa using hs⟩,?_⟩
    have e := r.length
    simp only [Array.length_toList] at e
    omega
theorem Inv.list_inj (I : Inv X pins σ H s) (h : SqL X.K H a xs) (h' : SqL X.K H a ys) : xs = ys := by
  obtain ⟨its,r,⟨o,n,e,_,_,d⟩,_⟩ := I.list h
  obtain ⟨its',r',⟨o',n',e',_,_,d'⟩,_⟩ := I.list h'
  rw [e] at e'; cases e'
  rw [d] at d'
  injection d' with d1 _
  have : its = its' := by simpa using congrArg Array.toList d1
  subst this
  exact r.inj r'
theorem Inv.tuple_inj (I : Inv X pins σ H s) (h : SqT X.K H a xs) (h' : SqT X.K H a ys) : xs = ys := by
  obtain ⟨its,r,⟨o,e,_,n,d⟩,_⟩ := I.tuple h
  obtain ⟨its',r',⟨o',e',_,n',d'⟩,_⟩ := I.tuple h'
  rw [e] at e'; cases e'
  rw [d] at d'
  injection d' with d1 _
  have : its = its' := by simpa using congrArg Array.toList d1
  subst this
  exact r.inj r'
end
abbrev Cx.wish (X : Cx) (E : Value → Shared → Prop) : Cx := { X with xe := E }
abbrev Cx.nox (X : Cx) : Cx := X.wish fun _ _ => False
theorem Cx.Ok.wish {X : Cx} (ok : X.Ok) (E : Value → Shared → Prop) : (X.wish E).Ok :=
  ⟨ok.mod,ok.kind,ok.glob,ok.blt,ok.above,ok.inj,ok.has,ok.cab,ok.hd,ok.frames,ok.stk,ok.exf,ok.bs,ok.bsz,ok.noex,ok.exfs,ok.funs,ok.frf⟩
theorem Cx.Ok.unwish {X : Cx} {E : Value → Shared → Prop} (ok : (X.wish E).Ok) : X.Ok :=
  ⟨ok.mod,ok.kind,ok.glob,ok.blt,ok.above,ok.inj,ok.has,ok.cab,ok.hd,ok.frames,ok.stk,ok.exf,ok.bs,ok.bsz,ok.noex,ok.exfs,ok.funs,ok.frf⟩
section
variable {X : Cx} {pins : List (Addr × Obj)} {σ : St} {H : Hp} {s : Shared} {E : Value → Shared → Prop}
theorem Inv.wish (I : Inv X pins σ H s) (E : Value → Shared → Prop) : Inv (X.wish E) pins σ H s := ⟨I.ok.wish E,I.os,I.bare,I.base,I.loc,I.cell,I.free,I.freeC,I.pin,I.hok,I.len⟩
theorem Inv.unwish (I : Inv (X.wish E) pins σ H s) : Inv X pins σ H s := ⟨I.ok.unwish,I.os,I.bare,I.base,I.loc,I.cell,I.free,I.freeC,I.pin,I.hok,I.len⟩
theorem SP.unwish {D : Ends} {f : Flow} {s' : Shared} (h : SP (X.wish E) pins D f s') : SP X pins D f s' := by
  cases f with
  | next => obtain ⟨σ',H',I,q⟩ := h; exact ⟨σ',H',I.unwish,q⟩
  | brk => obtain ⟨σ',H',I,q⟩ := h; exact ⟨σ',H',I.unwish,q⟩
  | cont => obtain ⟨σ',H',I,q⟩ := h; exact ⟨σ',H',I.unwish,q⟩
  | ret u => obtain ⟨v,σ',H',I,r,q⟩ := h; exact ⟨v,σ',H',I.unwish,r,q⟩
theorem PSs.nox {st : List Stmt} {t : TS} (h : PSs X.nox st t) : PSs X st t := fun pins s σ H D I hw =>
  wpAny_mono (h pins s σ H D (I.wish _) hw) (fun _ _ q => q.unwish) fun _ _ z => False.elim z
end
section
variable {X : Cx} {st : Stmt} {rest : List Stmt} {t u : TS} {e : Expr} {te : TE} {pos : Pos}
def tNext : TS := fun D σ H => D.nx σ H
def tSeq (t u : TS) : TS := fun D σ H => t { D with nx := u D } σ H
theorem pss_nil : PSs X [] tNext := fun _ _ σ H _ I h => wpAny_execs_nil ⟨σ,H,I,h⟩
theorem pss_cons (h1 : PS X st t) (h2 : PSs X rest u) : PSs X (st :: rest) (tSeq t u) := by
  intro pins s σ H D I h
  refine wpAny_execs_cons (thn (h1 pins s σ H { D with nx := u D } I h) fun f s1 q => ?_)
  cases f with
  | next =>
    obtain ⟨σ',H',I',q⟩ := q
    exact h2 pins s1 σ' H' D I' q
  | ret v => exact q
  | brk => exact q
  | cont => exact q
theorem pss_one (h1 : PS X st t) : PSs X [st] t := by
  intro pins s σ H D I h
  refine wpAny_execs_cons (thn (h1 pins s σ H D I h) fun f s1 q => ?_)
  cases f with
  | next => exact wpAny_execs_nil q
  | ret v => exact q
  | brk => exact q
  | cont => exact q
theorem Inv.quiet {pins : List (Addr × Obj)} {σ : St} {H : Hp} {s : Shared} (I : Inv X pins σ H s) : interactive X.env = false := by simp [interactive,I.ok.kind]
def tDrop (te : TE) : TS := fun D σ H => te σ H fun _ H1 => D.nx σ H1
theorem ps_expr (he : PE X e te) (hs : swapsWith e none pos.line X.env = pure false := by rfl) : PS X (.Expr e pos) (tDrop te) := by
  intro pins s σ H D I h
  exact wpAny_Expr_any (thn (he pins s σ H _ I h) fun v s1 ⟨x,H1,I1,r1,q1⟩ => ⟨σ,H1,I1,q1⟩) I.quiet hs
def tRet (te : TE) : TS := fun D σ H => te σ H D.rt
theorem ps_ret (he : PE X e te) : PS X (.Return (some e) pos) (tRet te) := by
  intro pins s σ H D I h
  exact wpAny_Return_some (thn (he pins s σ H _ I h) fun v s1 ⟨x,H1,I1,r1,q1⟩ => ⟨x,σ,H1,I1,r1,q1⟩)
def tIfS (c : TT) (t u : TS) : TS := fun D σ H => c σ H fun b H1 => if b = true then t D σ H1 else u D σ H1
theorem ps_if {c : Expr} {a b : List Stmt} {tc : TT} (hc : PT X c tc) (ha : PSs X a t) (hb : PSs X b u) : PS X (.If c a b pos) (tIfS tc t u) := by
  intro pins s σ H D I h
  refine wpAny_If (thn (hc pins s σ H _ I h) fun d s1 ⟨H1,I1,q1⟩ => ?_)
  cases d with
  | true => exact ha pins s1 σ H1 D I1 q1
  | false => exact hb pins s1 σ H1 D I1 q1
def tNever : TS := fun _ _ _ => False
theorem ps_never : PS X st tNever := fun _ _ _ _ _ _ h => h.elim
theorem pss_never {sts : List Stmt} : PSs X sts tNever := fun _ _ _ _ _ _ h => h.elim
end
abbrev TG := V → St → Hp → (St → Hp → Prop) → Prop
abbrev TGs := List V → St → Hp → (St → Hp → Prop) → Prop
def PG (X : Cx) (target : Expr) (t : TG) : Prop :=
  ∀ (pins : List (Addr × Obj)) (s : Shared) (σ : St) (H : Hp) (v : V) (u : Value) (Q : St → Hp → Prop),Inv X pins σ H s → RelV v u → t v σ H Q →
    wpAny (model X.prog X.w) X.A (assign target X.env u) (fun _ s' => ∃ σ' H',Inv X pins σ' H' s' ∧ Q σ' H') X.xe s
def PGs (X : Cx) (ts : List Expr) (t : TGs) : Prop :=
  ∀ (pins : List (Addr × Obj)) (s : Shared) (σ : St) (H : Hp) (vs : List V) (us : List Value) (Q : St → Hp → Prop),Inv X pins σ H s → Vals vs us → t vs σ H Q →
    wpAny (model X.prog X.w) X.A (assignInOrder ((assignEach ts X.env).map (·.2)) us) (fun _ s' => ∃ σ' H',Inv X pins σ' H' s' ∧ Q σ' H') X.xe s
abbrev TSet := V → V → V → Hp → (Hp → Prop) → Prop
def PSet (X : Cx) (t : TSet) : Prop :=
  ∀ (pins : List (Addr × Obj)) (s : Shared) (σ : St) (H : Hp) (o i v : V) (ov iv u : Value) (Q : Hp → Prop),Inv X pins σ H s → RelV o ov → RelV i iv → RelV v u → t o i v H Q →
    wpAny (model X.prog X.w) X.A (setItem ov iv u) (fun _ s' => ∃ H',Inv X pins σ H' s' ∧ Q H') X.xe s
section
variable {X : Cx} {pos : Pos}
def gName (i : Nat) : TG := fun v σ H Q => Q (σ.set i (some v)) H
theorem pg_name {i : Nat} {x : Str} (hN : X.N.Nodup) (hi : X.N[i]? = some x) (hx : Loc X.env.scope x) (hf : X.fn x = true ∨ X.env.scope.names.lookup x = some .local := by first | exact .inl rfl | exact .inr rfl | assumption) : PG X (.Name x pos) (gName i) := by
  intro pins s σ H v u Q I r h
  exact wpAny_assign_Name (store_ok I hN hi hx r (fun s' I' => ⟨_,H,I',h⟩) hf)
def gNil : TGs := fun vs σ H Q => vs = [] ∧ Q σ H
def gCons (t : TG) (u : TGs) : TGs := fun vs σ H Q => ∃ v r,vs = v :: r ∧ t v σ H fun σ' H' => u r σ' H' Q
theorem pgs_nil : PGs X [] gNil := by
  intro pins s σ H vs us Q I r h
  obtain ⟨e,h⟩ := h
  subst e
  cases r
  exact assignInOrder_nil ⟨σ,H,I,h⟩
theorem pgs_cons {e : Expr} {es : List Expr} {t : TG} {u : TGs} (h1 : PG X e t) (h2 : PGs X es u)
    (hs : (assignEach (e :: es) X.env).map (·.2) = assign e X.env :: (assignEach es X.env).map (·.2) := by rfl) : PGs X (e :: es) (gCons t u) := by
  intro pins s σ H vs us Q I r h
  obtain ⟨v,vr,e1,h⟩ := h
  subst e1
  cases r with
  | cons r rr =>
    rw [hs]
    refine assignInOrder_cons (thn (h1 pins s σ H _ _ _ I r h) fun _ s1 ⟨σ1,H1,I1,q1⟩ => ?_)
    exact h2 pins s1 σ1 H1 _ _ Q I1 rr q1
def gTup (K : PySem.W.Frag) (n : Nat) (t : TGs) : TG := fun v σ H Q => ∃ a xs,v = .ref a ∧ SqT K H a xs ∧ xs.length = n ∧ t xs σ H Q
theorem pg_tup {es : List Expr} {k : Nat} {t : TGs} {n : Nat} (hc : X.calm = true) (h : PGs X es t)
    (hn : (assignEach es X.env).length = n := by rfl) (hst : (assignEach es X.env).findIdx? (·.1) = none := by rfl) : PG X (.Tuple es k pos) (gTup X.K n t) := by
  intro pins s σ H v u Q I r hw
  obtain ⟨a,xs,e1,hq,hl,hw⟩ := hw
  subst e1
  cases r
  obtain ⟨its,rv,ht,hz⟩ := I.tuple hq
  refine assign_Tuple_tuple (I.ok.hd hc) ht (by simp [hn,← hl,rv.length]) hst fun h' hx => ?_
  have I1 : Inv X pins σ H { s with heap := h' } := I.kept (t' := s.toks) fun b o e => hx b o (Nat.ne_of_lt (Heap.lt_size e)) e
  exact h pins _ σ H xs _ Q I1 (by simpa using rv) hw
def gSub (to ti : TE) (t : TSet) : TG := fun v σ H Q => to σ H fun o H1 => ti σ H1 fun i H2 => t o i v H2 fun H3 => Q σ H3
theorem pg_sub {o i : Expr} {to ti : TE} {t : TSet} (ho : PE X o to) (hi : PE X i ti) (hs : PSet X t)
    (ha : ∀ v,assign (.Subscript o i pos) X.env v = (do
      let ov ← holding [v] (eval o X.env)
      let iv ← holding [v,ov] (eval i X.env)
      standAt pos
      holding [v,ov,iv] (setItem ov iv v)
      release [v,ov,iv] []) := by intro _; rfl) : PG X (.Subscript o i pos) (gSub to ti t) := by
  intro pins s σ H v u Q I r h
  rw [ha]
  refine wpAny_bind (wpAny_holding (thn (ho pins s σ H _ I h) fun ov s1 ⟨x,H1,I1,r1,q1⟩ => ?_))
  refine wpAny_bind (wpAny_holding (thn (hi pins s1 σ H1 _ I1 q1) fun iv s2 ⟨y,H2,I2,r2,q2⟩ => ?_))
  refine wpAny_bind (wpAny_standAt (wpAny_bind (wpAny_holding (thn (hs pins s2 σ H2 x y v ov iv u _ I2 r1 r2 r q2) fun _ s3 ⟨H3,I3,q3⟩ => ?_))))
  exact wpAny_release ⟨σ,H3,I3,q3⟩
def tAsg (te : TE) (g : TG) : TS := fun D σ H => te σ H fun x H1 => g x σ H1 D.nx
theorem ps_asg {tg e : Expr} {te : TE} {g : TG} (he : PE X e te) (hg : PG X tg g) (hs : swapsWithSole [tg] e pos.line X.env = pure false := by rfl) (hw : swappedStores [tg] e X.env = pure none := by rfl)
    (h1 : (assignEach [tg] X.env).map (·.2) = [assign tg X.env] := by rfl) : PS X (.Assign [tg] e pos) (tAsg te g) := by
  intro pins s σ H D I h
  refine wpAny_Assign_stores (thn (he pins s σ H _ I h) fun v s1 ⟨x,H1,I1,r1,q1⟩ => ?_) hs hw
  rw [h1]
  exact thn (hg pins s1 σ H1 x v _ I1 r1 q1) fun _ s2 q => q
theorem ps_set {i : Nat} {x : Str} {e : Expr} {te : TE} {pos' : Pos} (hN : X.N.Nodup) (hi : X.N[i]? = some x) (hx : Loc X.env.scope x) (he : PE X e te) (hs : swapsWith e (some (.Name x pos')) pos.line X.env = pure false := by rfl) (hf : X.fn x = true ∨ X.env.scope.names.lookup x = some .local := by first | exact .inl rfl | exact .inr rfl | assumption) :
    PS X (.Assign [.Name x pos'] e pos) (tAsg te (gName i)) := by
  intro pins s σ H D I h
  refine wpAny_Assign_Name (thn (he pins s σ H _ I h) fun v s1 ⟨y,H1,I1,r1,q1⟩ => ?_) hs
  exact store_ok I1 hN hi hx r1 (fun s2 I2 => ⟨_,H1,I2,q1⟩) hf
def tPar (i j : Nat) (ta : TA) : TS := fun D σ H => ta σ H fun vs H1 => ∃ v w,vs = [v,w] ∧ D.nx ((σ.set i (some v)).set j (some w)) H1
theorem ps_par {i j : Nat} {x y : Str} {a b : Expr} {ta : TA} {px py pt : Pos} {kt k2 pt2} (hc : X.calm = true) (hN : X.N.Nodup) (hi : X.N[i]? = some x) (hj : X.N[j]? = some y) (hij : i ≠ j)
    (hx : X.env.scope.names.lookup x = some .local) (hy : X.env.scope.names.lookup y = some .local) (ha : PA X [a,b] ta)
    (hw : swappedStores [.Tuple [.Name x px,.Name y py] kt pt] (.Tuple [a,b] k2 pt2) X.env = pure (some [x,y]))
    (hs : swapsWithSole [.Tuple [.Name x px,.Name y py] kt pt] (.Tuple [a,b] k2 pt2) pos.line X.env = pure false := by rfl) :
    PS X (.Assign [.Tuple [.Name x px,.Name y py] kt pt] (.Tuple [a,b] k2 pt2) pos) (tPar i j ta) := by
  intro pins s σ H D I h
  rw [exec_Assign_arm]
  refine wpAny_bind (wpAny_standAt ?_)
  rw [hs]
  refine wpAny_bind (wpAny_pure ?_)
  rw [if_neg (by decide)]
  refine wpAny_bind (Tuple_ (thn (ha _ pins s σ H _ I h) fun us s1 ⟨vs,H1,I1,r1,q1⟩ => ?_))
  obtain ⟨v,w,e1,q1⟩ := q1
  subst e1
  obtain ⟨u1,u2,rfl,rv,rw'⟩ : ∃ u1 u2,us = [u1,u2] ∧ RelV v u1 ∧ RelV w u2 := by
    cases r1 with
    | cons p q =>
      cases q with
      | cons p' q' =>
        cases q'
        exact ⟨_,_,rfl,p,p'⟩
  refine wpAny_newObj_type ?_ (by show 2 ≤ sizeLine; decide)
  have I2 : Inv X pins σ H1 { s1 with heap := s1.heap.push { cls := .type "tuple", data := .seq [u1, u2].toArray } } := I1.kept (t' := s1.toks) fun b o e => Heap.get?_push_of_some _ e
  rw [hw]
  refine wpAny_bind (wpAny_pure ?_)
  show wpAny (model X.prog X.w) X.A (do rule "assign.swapped-stores"; let items ← unpackItems (.ref s1.heap.objs.size) 2 none; assignInOrder [fun v => bindName X.env y v,fun v => bindName X.env x v] items.reverse; pure Flow.next) _ _ _
  refine wpAny_bind (wpAny_rule (wpAny_bind (unpackItems_tuple (items := #[u1,u2]) (I.ok.hd hc) (IsTup.new s1.heap _) fun h' hx' => ?_)))
  have I3 := I2.kept (h' := h') (t' := s1.toks) fun b o e => hx' b o (Nat.ne_of_lt (Heap.lt_size e)) e
  show wpAny _ _ (assignInOrder [fun v => bindName X.env y v,fun v => bindName X.env x v] [u2,u1] >>= fun _ => pure Flow.next) _ _ _
  refine wpAny_bind (assignInOrder_cons (wpAny_bindName (store_ok I3 hN hj (.inl hy) rw' (fun s2 I4 => ?_) (.inr hy))))
  refine assignInOrder_cons (wpAny_bindName (store_ok I4 hN hi (.inl hx) rv (fun s3 I5 => assignInOrder_nil (wpAny_pure ?_)) (.inr hx)))
  rw [List.set_comm _ _ (Ne.symm hij)] at I5
  exact ⟨_,H1,I5,q1⟩
end
section
variable {X : Cx} {pos : Pos}
end
structure It where
  go : Nat → Hp → Prop
  yld : Nat → Hp → V → Hp → Prop
  stop : Nat → Hp → Prop
def FpOk (X : Cx) (pins : List (Addr × Obj)) (H : Hp) (b : Addr) : Prop :=
  H b = none ∧ b ≠ X.env.locals ∧ b ∉ X.fs ∧ (b ∈ X.ex ∨ X.s₀.heap.objs.size ≤ b) ∧ (∀ x c,X.env.cells.lookup x = some c → c ≠ b) ∧ ∀ p ∈ X.pn ++ pins,p.1 ≠ b
theorem Inv.fpOk {X : Cx} {pins : List (Addr × Obj)} {σ : St} {H H' : Hp} {s : Shared} {b : Addr} (I : Inv X pins σ H s) (hb : s.heap.objs.size ≤ b) (hn : H' b = none) : FpOk X pins H' b := by
  refine ⟨hn,Nat.ne_of_gt (Nat.lt_of_lt_of_le I.lt hb),I.nofs hb,.inr (Nat.le_trans I.sz hb),fun x c e z => ?_,fun p hp z => ?_⟩
  · obtain ⟨v,q⟩ := I.cell x c e
    exact absurd (Nat.lt_of_lt_of_le q.lt (by rw [z]; exact hb)) (Nat.lt_irrefl _)
  · exact absurd (Nat.lt_of_lt_of_le (Heap.lt_size (I.pin p hp).1) (by rw [z]; exact hb)) (Nat.lt_irrefl _)
structure Turn (P : Program) (w : World) (K : PySem.W.Frag) (tg : Expr) (J : It) (fp : List Addr) (it : Addr) (tn : Nat → Heap → Prop) : Prop where
  mem : it ∈ fp
  obj : ∀ i h,tn i h → ∀ b ∈ fp,∃ o,h.get? b = some o ∧ ∀ v,o.data ≠ .cell v
  keep : ∀ i h h',tn i h → (∀ b ∈ fp,∀ o,h.get? b = some o → h'.get? b = some o) → tn i h'
  item : ∀ (X : Cx),X.prog = P → X.w = w → X.K = K → X.calm = true → ∀ (i : Nat) (pins : List (Addr × Obj)) (s : Shared) (σ : St) (H : Hp) (E : Value → Shared → Prop),Inv X pins σ H s → (∀ b ∈ fp,FpOk X pins H b) → tn i s.heap → J.go i H →
    wpAny (model P w) X.A (pyNext (.ref it)) (fun r s1 => ∃ u,r = some u ∧
      wpAny (model P w) X.A (letOwnedTupleGo tg (.ref it) u) (fun _ s2 => ∃ x H',Inv X pins σ H' s2 ∧ RelV x u ∧ J.yld i H x H' ∧ tn (i + 1) s2.heap ∧ ∀ b ∈ fp,H' b = none) E s1) E s
  done : ∀ (X : Cx),X.prog = P → X.w = w → X.K = K → X.calm = true → ∀ (i : Nat) (pins : List (Addr × Obj)) (s : Shared) (σ : St) (H : Hp) (E : Value → Shared → Prop),Inv X pins σ H s → (∀ b ∈ fp,FpOk X pins H b) → tn i s.heap → J.stop i H →
    wpAny (model P w) X.A (pyNext (.ref it)) (fun r s1 => r = none ∧ Inv X pins σ H s1) E s
  self : ∀ (A : Around) (i : Nat) (s : Shared) (Q : Value → Shared → Prop) (E : Value → Shared → Prop),tn i s.heap → Q (.ref it) s → wpAny (model P w) A (pyIter (.ref it)) Q E s
abbrev TI := St → Hp → (It → Hp → Prop) → Prop
def PIE (X : Cx) (pins : List (Addr × Obj)) (σ : St) (tg : Expr) (R : It → Hp → Prop) (itv : Value) (s2 : Shared) : Prop :=
  ∃ (it : Addr) (fp : List Addr) (tn : Nat → Heap → Prop) (J : It) (H' : Hp),itv = .ref it ∧ Inv X pins σ H' s2 ∧ Turn X.prog X.w X.K tg J fp it tn ∧ tn 0 s2.heap ∧ (∀ b ∈ fp,FpOk X pins H' b) ∧ R J H'
def PI (X : Cx) (tg iter : Expr) (wi : TI) : Prop :=
  ∀ (pins : List (Addr × Obj)) (s : Shared) (σ : St) (H : Hp) (R : It → Hp → Prop),Inv X pins σ H s → wi σ H R →
    wpAny (model X.prog X.w) X.A (eval iter X.env) (fun v s1 => wpAny (model X.prog X.w) X.A (pyIter v) (PIE X pins σ tg R) X.xe s1) X.xe s
theorem go_of {M : Model} {A : Around} {E : Value → Shared → Prop} {s : Shared} {tg : Expr} {it : Addr} {u : Value} {o : Obj} {n : String} {vs : Array Value} {Q : Unit → Shared → Prop} (ho : s.heap.get? it = some o) (hc : o.cls = .type n) (hd : o.data = .fields vs)
    (hn : ["enumerate","zip","dict_itemiterator","dict_reverseitemiterator","odict_iterator","itertools.zip_longest","itertools.pairwise"].contains n = false) (hQ : Q () s) : wpAny M A (letOwnedTupleGo tg (.ref it) u) Q E s := by
  unfold letOwnedTupleGo
  cases tg <;> first
    | exact wpAny_pure hQ
    | (cases u <;> first
        | exact wpAny_pure hQ
        | (refine wpAny_bind (wpAny_load ho ?_)
           rw [hc,hd]
           show wpAny M A (if (["enumerate","zip","dict_itemiterator","dict_reverseitemiterator","odict_iterator","itertools.zip_longest","itertools.pairwise"].contains n && vs[0]? == some (rawInt _)) = true then _ else _) Q E s
           rw [if_neg (by intro h; rw [hn,Bool.false_and] at h; cases h)]
           exact wpAny_pure hQ))
def Itl (K : PySem.W.Frag) (a : Addr) : It :=
  ⟨fun i H => ∃ xs x,SqL K H a xs ∧ xs[i]? = some x,fun i H x H' => H' = H ∧ ∀ xs,SqL K H a xs → xs[i]? = some x,fun i H => ∃ xs,SqL K H a xs ∧ xs.length ≤ i⟩
def Itt (K : PySem.W.Frag) (a : Addr) : It :=
  ⟨fun i H => ∃ xs x,SqT K H a xs ∧ xs[i]? = some x,fun i H x H' => H' = H ∧ ∀ xs,SqT K H a xs → xs[i]? = some x,fun i H => ∃ xs,SqT K H a xs ∧ xs.length ≤ i⟩
def Itr (lo : Int) (n : Nat) : It := ⟨fun i _ => i < n,fun i H x H' => H' = H ∧ x = .int (lo + i),fun i _ => n ≤ i⟩
theorem turn_list {P : Program} {w : World} {K : PySem.W.Frag} {tg : Expr} (a it : Addr) : Turn P w K tg (Itl K a) [it] it (fun i h => h.IsListIter it a i) where
  mem := by simp
  obj := fun i h st b hb => by
    have e : b = it := by simpa using hb
    subst e
    obtain ⟨o,e,c,d⟩ := st
    exact ⟨o,e,fun v z => by rw [d] at z; cases z⟩
  keep := fun i h h' st k => st.at fun o e => k it (by simp) o e
  item := by
    intro X hP hw hK hc i pins s σ H E I hf st hg
    subst hP hw hK
    obtain ⟨xs,x,hq,hx⟩ := hg
    obtain ⟨its,rv,p,hz⟩ := I.list hq
    obtain ⟨u,hu,ru⟩ := rv.get hx
    obtain ⟨f0,f1,f2,f3,f4,f5⟩ := hf it (by simp)
    refine wpAny_pyNext_list_item st p.isList (x := u) (by simpa using hu) fun h' st' sb => ?_
    have I1 : Inv X pins σ H { s with heap := h' } := I.turned (t' := s.toks) (fun b o hb e => (sb.2 b hb).trans e) f0 f1 f3 f4 f5
    obtain ⟨o,e,c,d⟩ := id st'
    exact ⟨u,rfl,go_of (s := { s with heap := h' }) e c d (by decide) ⟨x,H,I1,ru,⟨rfl,fun ys hy => by rw [I.list_inj hy hq]; exact hx⟩,st',fun b hb => (hf b hb).1⟩⟩
  done := by
    intro X hP hw hK hc i pins s σ H E I hf st hg
    subst hP hw hK
    obtain ⟨xs,hq,hx⟩ := hg
    obtain ⟨its,rv,p,hz⟩ := I.list hq
    obtain ⟨f0,f1,f2,f3,f4,f5⟩ := hf it (by simp)
    have hl := rv.length
    exact wpAny_pyNext_list_end (I.ok.hd hc) st p.isList (by simp; omega) fun h' eb => ⟨rfl,I.turned (t' := s.toks) (fun b o hb e => eb b o hb e) f0 f1 f3 f4 f5⟩
  self := fun _ _ _ _ _ st h => wpAny_pyIter_listiter st h
theorem turn_tuple {P : Program} {w : World} {K : PySem.W.Frag} {tg : Expr} (a it : Addr) : Turn P w K tg (Itt K a) [it] it (fun i h => h.IsTupleIter it a i) where
  mem := by simp
  obj := fun i h st b hb => by
    have e : b = it := by simpa using hb
    subst e
    obtain ⟨o,e,c,d⟩ := st
    exact ⟨o,e,fun v z => by rw [d] at z; cases z⟩
  keep := fun i h h' st k => st.at fun o e => k it (by simp) o e
  item := by
    intro X hP hw hK hc i pins s σ H E I hf st hg
    subst hP hw hK
    obtain ⟨xs,x,hq,hx⟩ := hg
    obtain ⟨its,rv,p,hz⟩ := I.tuple hq
    obtain ⟨u,hu,ru⟩ := rv.get hx
    obtain ⟨f0,f1,f2,f3,f4,f5⟩ := hf it (by simp)
    refine wpAny_pyNext_tuple_item st (show s.heap.IsTuple a its.toArray from p) (x := u) (by simpa using hu) fun h' st' sb => ?_
    have I1 : Inv X pins σ H { s with heap := h' } := I.turned (t' := s.toks) (fun b o hb e => (sb.2 b hb).trans e) f0 f1 f3 f4 f5
    obtain ⟨o,e,c,d⟩ := id st'
    exact ⟨u,rfl,go_of (s := { s with heap := h' }) e c d (by decide) ⟨x,H,I1,ru,⟨rfl,fun ys hy => by rw [I.tuple_inj hy hq]; exact hx⟩,st',fun b hb => (hf b hb).1⟩⟩
  done := by
    intro X hP hw hK hc i pins s σ H E I hf st hg
    subst hP hw hK
    obtain ⟨xs,hq,hx⟩ := hg
    obtain ⟨its,rv,p,hz⟩ := I.tuple hq
    obtain ⟨f0,f1,f2,f3,f4,f5⟩ := hf it (by simp)
    have hl := rv.length
    exact wpAny_pyNext_tuple_end (I.ok.hd hc) st (show s.heap.IsTuple a its.toArray from p) (by simp; omega) fun h' eb => ⟨rfl,I.turned (t' := s.toks) (fun b o hb e => eb b o hb e) f0 f1 f3 f4 f5⟩
  self := fun _ _ _ _ _ st h => wpAny_pyIter_tupleiter st h
theorem turn_range {P : Program} {w : World} {K : PySem.W.Frag} {tg : Expr} (it : Addr) (lo : Int) (n : Nat) : Turn P w K tg (Itr lo n) [it] it (fun i h => IsRangeIter h it (lo + (i : Nat) * 1) ((n : Int) - (i : Nat)) 1) where
  mem := by simp
  obj := fun i h st b hb => by
    have e : b = it := by simpa using hb
    subst e
    exact ⟨_,st,fun v z => by
      have z' : Data.fields _ = Data.cell v := z
      cases z'⟩
  keep := fun i h h' st k => k it (by simp) _ st
  item := by
    intro X hP hw hK hc i pins s σ H E I hf st hg
    subst hP hw hK
    obtain ⟨f0,f1,f2,f3,f4,f5⟩ := hf it (by simp)
    have W := Walks.range (prog := X.prog) (w := X.w) (I.ok.hd hc) it lo 1 n
    refine W.item i s _ _ hg st fun v h' tk hv st' kk => ?_
    obtain ⟨t,rfl⟩ := hv
    have I1 : Inv X pins σ H { s with heap := h',toks := tk } := I.turned (fun b o hb e => kk b o (by simpa using hb) e) f0 f1 f3 f4 f5
    refine ⟨_, rfl, go_of (s := { s with heap := h', toks := tk }) (n := "range_iterator") st' rfl rfl (by decide) ⟨.int (lo + i), H, I1, ⟨t, ?_⟩, ⟨rfl, rfl⟩, st', fun b hb => (hf b hb).1⟩⟩
    rw [Int.mul_one]
  done := by
    intro X hP hw hK hc i pins s σ H E I hf st hg
    subst hP hw hK
    obtain ⟨f0,f1,f2,f3,f4,f5⟩ := hf it (by simp)
    exact wpAny_pyNext_range_end (I.ok.hd hc) st (by have : n ≤ i := hg; omega) fun h' eb => ⟨rfl,I.turned (t' := s.toks) (fun b o hb e => eb b o hb e) f0 f1 f3 f4 f5⟩
  self := fun _ _ _ _ _ st h => wpAny_pyIter_rangeiter st h
end L2
namespace L2
open PySem PySem.Spec PyProof.Rows
section
variable {X : Cx} {tg : Expr}
def iList (K : PySem.W.Frag) (tl : TE) : TI := fun σ H R => tl σ H fun x H1 => ∃ a,x = .ref a ∧ (∃ xs,SqL K H1 a xs) ∧ R (Itl K a) H1
def iTup (K : PySem.W.Frag) (tl : TE) : TI := fun σ H R => tl σ H fun x H1 => ∃ a,x = .ref a ∧ (∃ xs,SqT K H1 a xs) ∧ R (Itt K a) H1
theorem pi_list {l : Expr} {tl : TE} (hl : PE X l tl) : PI X tg l (iList X.K tl) := by
  intro pins s σ H R I h
  refine thn (hl pins s σ H _ I h) fun v s1 ⟨x,H1,I1,r1,q1⟩ => ?_
  obtain ⟨a,e,⟨xs,hq⟩,q⟩ := q1
  subst e
  cases r1
  obtain ⟨its,rv,p,hz⟩ := I1.list hq
  refine wpAny_pyIter_list p.isList ?_
  refine ⟨s1.heap.objs.size,[s1.heap.objs.size],_,_,H1,rfl,I1.kept (t' := s1.toks) fun b o e => Heap.get?_push_of_some _ e,turn_list a _,⟨_,Heap.get?_push_size _ rfl,rfl,rfl⟩,fun b hb => ?_,q⟩
  have e : b = s1.heap.objs.size := by simpa using hb
  subst e
  exact I1.fpOk (Nat.le_refl _) (I1.hok.fresh (Nat.le_refl _))
theorem pi_tup {l : Expr} {tl : TE} (hl : PE X l tl) : PI X tg l (iTup X.K tl) := by
  intro pins s σ H R I h
  refine thn (hl pins s σ H _ I h) fun v s1 ⟨x,H1,I1,r1,q1⟩ => ?_
  obtain ⟨a,e,⟨xs,hq⟩,q⟩ := q1
  subst e
  cases r1
  obtain ⟨its,rv,p,hz⟩ := I1.tuple hq
  refine wpAny_pyIter_tuple (show s1.heap.IsTuple a its.toArray from p) ?_
  refine ⟨s1.heap.objs.size,[s1.heap.objs.size],_,_,H1,rfl,I1.kept (t' := s1.toks) fun b o e => Heap.get?_push_of_some _ e,turn_tuple a _,⟨_,Heap.get?_push_size _ rfl,rfl,rfl⟩,fun b hb => ?_,q⟩
  have e : b = s1.heap.objs.size := by simpa using hb
  subst e
  exact I1.fpOk (Nat.le_refl _) (I1.hok.fresh (Nat.le_refl _))
theorem range_it {pins : List (Addr × Obj)} {σ : St} {H : Hp} {s : Shared} {R : It → Hp → Prop} {E : Value → Shared → Prop} {lo hi : Int} {t u v : Tok} {tk : Nat} (I : Inv X pins σ H s) (h1 : -(2 ^ 62) ≤ lo) (h2 : lo < 2 ^ 62) (h3 : -(2 ^ 62) ≤ hi) (h4 : hi < 2 ^ 62)
    (q : R (Itr lo (hi - lo).toNat) H) : wpAny (model X.prog X.w) X.A (pyIter (.ref s.heap.objs.size)) (PIE X pins σ tg R) E { s with heap := s.heap.push { cls := .type "range",data := .fields #[.int lo t,.int hi u,.int 1 v] },toks := tk } := by
  refine wpAny_pyIter_range (IsRange.new ..) (small_one h1 h2 h3 h4) ?_
  have I1 : Inv X pins σ H { s with heap := s.heap.push { cls := .type "range",data := .fields #[.int lo t,.int hi u,.int 1 v] },toks := tk } := I.kept fun b o e => Heap.get?_push_of_some _ e
  refine ⟨(s.heap.push { cls := .type "range",data := .fields #[.int lo t,.int hi u,.int 1 v] }).objs.size,[(s.heap.push { cls := .type "range",data := .fields #[.int lo t,.int hi u,.int 1 v] }).objs.size],_,_,H,rfl,
    I1.kept (t' := tk) fun b o e => Heap.get?_push_of_some _ e,turn_range _ lo (hi - lo).toNat,?_,fun b hb => ?_,q⟩
  · have e1 : lo + ((0 : Nat) : Int) * 1 = lo := by simp
    have e2 : (((hi - lo).toNat : Nat) : Int) - ((0 : Nat) : Int) = Builtin.Range.rangeSize lo hi 1 := by rw [rangeSize_one]; split <;> omega
    show IsRangeIter _ _ (lo + ((0 : Nat) : Int) * 1) ((((hi - lo).toNat : Nat) : Int) - ((0 : Nat) : Int)) 1
    rw [e1,e2]
    exact Heap.get?_push_size _ rfl
  · have e : b = (s.heap.push { cls := .type "range",data := .fields #[.int lo t,.int hi u,.int 1 v] }).objs.size := by simpa using hb
    subst e
    exact I1.fpOk (Nat.le_refl _) (I1.hok.fresh (Nat.le_refl _))
def iRng1 (ta : TA) : TI := fun σ H R => ta σ H fun vs H1 => ∃ j : Int,vs = [.int j] ∧ -(2 ^ 62) ≤ j ∧ j < 2 ^ 62 ∧ R (Itr 0 j.toNat) H1
def iRng2 (ta : TA) : TI := fun σ H R => ta σ H fun vs H1 => ∃ i j : Int,vs = [.int i,.int j] ∧ (-(2 ^ 62) ≤ i ∧ i < 2 ^ 62 ∧ -(2 ^ 62) ≤ j ∧ j < 2 ^ 62) ∧ R (Itr i (j - i).toNat) H1
theorem pi_range1 {a : Expr} {ta : TA} {p pos : Pos} (hg : Gl X "range") (hm : X.mg "range" = none) (ha : PA X [a] ta) (hs : starEach [a] X.env = [(false,eval a X.env)] := by rfl) : PI X tg (.Call (.Name "range" p) [a] [] pos) (iRng1 ta) := by
  intro pins s σ H R I h
  refine Call_ (ld_blt I hg hm boot_range (PyProof.Rows.callWith_type1 (thn (ha pos pins s σ H _ I h) fun us s1 ⟨vs,H1,I1,r1,q1⟩ => ?_) hs rfl))
  obtain ⟨j,e,q1,q2,q⟩ := q1
  subst e
  cases r1 with
  | cons r rr =>
    cases rr
    obtain ⟨t,rfl⟩ := r
    exact call_range_1 (range_it I1 (by omega) (by omega) q1 q2 (by simpa using q))
theorem pi_range2 {a b : Expr} {ta : TA} {p pos : Pos} (hg : Gl X "range") (hm : X.mg "range" = none) (ha : PA X [a,b] ta) (hs : starEach [a,b] X.env = [(false,eval a X.env),(false,eval b X.env)] := by rfl) (hs2 : starEach [b] X.env = [(false,eval b X.env)] := by rfl) :
    PI X tg (.Call (.Name "range" p) [a,b] [] pos) (iRng2 ta) := by
  intro pins s σ H R I h
  refine Call_ (ld_blt I hg hm boot_range (PyProof.Rows.callWith_type1 (thn (ha pos pins s σ H _ I h) fun us s1 ⟨vs,H1,I1,r1,q1⟩ => ?_) (by rw [hs,hs2]) (by rw [hs2]; rfl)))
  obtain ⟨i,j,e,⟨q1,q2,q3,q4⟩,q⟩ := q1
  subst e
  cases r1 with
  | cons r rr =>
    cases rr with
    | cons r' rr =>
      cases rr
      obtain ⟨t,rfl⟩ := r
      obtain ⟨t',rfl⟩ := r'
      exact call_range_2 (range_it I1 q1 q2 q3 q4 q)
def tFor (wi : TI) (g : TG) (tb : TS) : TS := fun D σ H => wi σ H fun J H1 => ∃ W : Nat → Nat → St → Hp → Prop,(∃ m,W 0 m σ H1) ∧ ∀ i m σ H,W i m σ H →
  (J.stop i H ∧ D.nx σ H) ∨ (J.go i H ∧ ∃ N : St → Hp → Prop,(∀ σ' H',N σ' H' → ∃ m',m' < m ∧ W (i + 1) m' σ' H') ∧ ∀ x H',J.yld i H x H' → g x σ H' fun σ2 H2 => tb { D with nx := N,ct := N,bk := D.nx } σ2 H2)
def pinsAt (fp : List Addr) (h : Heap) : List (Addr × Obj) := fp.filterMap fun b => (h.get? b).map fun o => (b,o)
theorem mem_pinsAt {fp : List Addr} {h : Heap} {b : Addr} {o : Obj} (hb : b ∈ fp) (e : h.get? b = some o) : (b,o) ∈ pinsAt fp h := List.mem_filterMap.mpr ⟨b,hb,by rw [e]; rfl⟩
theorem of_pinsAt {fp : List Addr} {h : Heap} {p : Addr × Obj} (hp : p ∈ pinsAt fp h) : p.1 ∈ fp ∧ h.get? p.1 = some p.2 := by
  obtain ⟨b,hb,e⟩ := List.mem_filterMap.mp hp
  cases q : h.get? b with
  | none => rw [q] at e; cases e
  | some o =>
    rw [q] at e
    have e' : (b,o) = p := Option.some.inj e
    subst e'
    exact ⟨hb,q⟩
theorem Inv.pinned {pins : List (Addr × Obj)} {σ : St} {H : Hp} {s : Shared} {fp : List Addr} (I : Inv X pins σ H s) (hf : ∀ b ∈ fp,FpOk X pins H b) (ho : ∀ b ∈ fp,∃ o,s.heap.get? b = some o ∧ ∀ v,o.data ≠ .cell v) : Inv X (pins ++ pinsAt fp s.heap) σ H s :=
  I.pins_of fun p hp => (List.mem_append.mp hp).elim (fun z => I.pin p (List.mem_append_right _ z)) fun z => by
    obtain ⟨hb,e⟩ := of_pinsAt z
    obtain ⟨f0,f1,f2,_⟩ := hf p.1 hb
    obtain ⟨o,e',d⟩ := ho p.1 hb
    rw [e] at e'; cases e'
    exact ⟨e,f0,f1,f2,d⟩
theorem Inv.unpinned {pins pl : List (Addr × Obj)} {σ : St} {H : Hp} {s : Shared} (I : Inv X (pins ++ pl) σ H s) : Inv X pins σ H s := I.pins_of fun p hp => I.pin p (List.mem_append_right _ (List.mem_append_left _ hp))
theorem ps_for {iter : Expr} {body : List Stmt} {wi : TI} {g : TG} {tb : TS} {pos : Pos} (hp : PassesOwn (model X.prog X.w) X.A X.env X.xe) (hc : X.calm = true) (hi : PI X tg iter wi) (hg : PG X tg g) (hb : PSs X body tb)
    (hs : ∀ x,foldedSetIterable iter X.env x = pure x := by intro _; rfl) : PS X (.For tg iter body [] pos) (tFor wi g tb) := by
  intro pins s σ H D I h
  refine wpAny_For (thn (hi pins s σ H _ I h) fun v s1 h1 => thn h1 fun itv s2 h2 => ?_) hs
  obtain ⟨it,fp,tn,J,H2,e,I2,T,st2,f2,W,⟨m0,w0⟩,turn⟩ := h2
  subst e
  have stat : ∀ {H' : Hp},(∀ b ∈ fp,H' b = none) → ∀ b ∈ fp,FpOk X pins H' b := fun hn b hb => ⟨hn b hb,(f2 b hb).2⟩
  refine codeAny_forLoop_any (fun n s' => ∃ i σ' H',Inv X pins σ' H' s' ∧ tn i s'.heap ∧ (∀ b ∈ fp,H' b = none) ∧ W i n σ' H') ?_ m0 ⟨0,σ,H2,I2,st2,fun b hb => (f2 b hb).1,w0⟩
  rintro n s3 ⟨i,σ3,H3,I3,st3,fr3,w3⟩
  rcases turn i n σ3 H3 w3 with ⟨stop,qn⟩ | ⟨go,N,hN,step⟩
  · refine wpAny_passesOwn hp (thn (T.done X rfl rfl rfl hc i pins s3 σ3 H3 X.xe I3 (stat fr3) st3 stop) fun r s4 ⟨hr,I4⟩ => ?_)
    subst hr
    exact wpAny_execs_nil ⟨σ3,H3,I4,qn⟩
  · refine wpAny_passesOwn hp (thn (T.item X rfl rfl rfl hc i pins s3 σ3 H3 X.xe I3 (stat fr3) st3 go) fun r s4 ⟨u,hr,h4⟩ => ?_)
    subst hr
    refine wpAny_passesOwn hp (thn h4 fun _ s5 ⟨x,H5,I5,r5,y5,st5,fr5⟩ => ?_)
    have I5' := I5.pinned (stat fr5) (T.obj _ _ st5)
    refine wpAny_passesOwn hp (thn (hg _ s5 σ3 H5 x u _ I5' r5 (step x H5 y5)) fun _ s6 ⟨σ6,H6,I6,q6⟩ => ?_)
    refine wpAny_passesOwn hp (thn (hb _ s6 σ6 H6 _ I6 q6) fun f s7 q7 => ?_)
    have again : ∀ {σ7 : St} {H7 : Hp},Inv X (pins ++ pinsAt fp s5.heap) σ7 H7 s7 → N σ7 H7 → ∃ m,m < n ∧ ∃ i σ' H',Inv X pins σ' H' s7 ∧ tn i s7.heap ∧ (∀ b ∈ fp,H' b = none) ∧ W i m σ' H' := fun {σ7 H7} I7 n7 => by
      obtain ⟨m',hm,w7⟩ := hN σ7 H7 n7
      refine ⟨m',hm,i + 1,σ7,H7,I7.unpinned,T.keep _ _ _ st5 fun b hb o e => (I7.pin (b,o) (List.mem_append_right _ (List.mem_append_right _ (mem_pinsAt hb e)))).1,fun b hb => ?_,w7⟩
      obtain ⟨o,e,d⟩ := T.obj _ _ st5 b hb
      exact (I7.pin (b,o) (List.mem_append_right _ (List.mem_append_right _ (mem_pinsAt hb e)))).2.1
    cases f with
    | next => obtain ⟨σ7,H7,I7,n7⟩ := q7; exact again I7 n7
    | cont => obtain ⟨σ7,H7,I7,n7⟩ := q7; exact again I7 n7
    | brk => obtain ⟨σ7,H7,I7,q7⟩ := q7; exact ⟨σ7,H7,I7.unpinned,q7⟩
    | ret v => obtain ⟨x7,σ7,H7,I7,r7,q7⟩ := q7; exact ⟨x7,σ7,H7,I7.unpinned,r7,q7⟩
end
theorem for_list {K : PySem.W.Frag} {a : Addr} {xs : List V} {g : TG} {tb : TS} {D : Ends} {σ : St} {H : Hp} (Pv : Nat → St → Hp → Prop) (h0 : Pv 0 σ H) (hl : ∀ i σ H,i ≤ xs.length → Pv i σ H → SqL K H a xs)
    (hs : ∀ i x σ H,xs[i]? = some x → Pv i σ H → g x σ H fun σ2 H2 => tb { D with nx := Pv (i + 1),ct := Pv (i + 1),bk := D.nx } σ2 H2) (hd : ∀ σ H,Pv xs.length σ H → D.nx σ H) :
    ∃ W : Nat → Nat → St → Hp → Prop,(∃ m,W 0 m σ H) ∧ ∀ i m σ H,W i m σ H →
      ((Itl K a).stop i H ∧ D.nx σ H) ∨ ((Itl K a).go i H ∧ ∃ N : St → Hp → Prop,(∀ σ' H',N σ' H' → ∃ m',m' < m ∧ W (i + 1) m' σ' H') ∧ ∀ x H',(Itl K a).yld i H x H' → g x σ H' fun σ2 H2 => tb { D with nx := N,ct := N,bk := D.nx } σ2 H2) := by
  refine ⟨fun i m σ H => m = xs.length - i ∧ i ≤ xs.length ∧ Pv i σ H,⟨xs.length,by simp,Nat.zero_le _,h0⟩,?_⟩
  rintro i m σ H ⟨rfl,hi,p⟩
  have q := hl i σ H hi p
  by_cases hlt : i < xs.length
  · refine .inr ⟨⟨xs,xs[i],q,by simp [hlt]⟩,Pv (i + 1),fun σ' H' p' => ⟨xs.length - (i + 1),by omega,rfl,hlt,p'⟩,fun x H' y => ?_⟩
    obtain ⟨e,y⟩ := y
    subst e
    exact hs i x σ _ (y xs q) p
  · have e : i = xs.length := by omega
    subst e
    exact .inl ⟨⟨xs,q,Nat.le_refl _⟩,hd σ H p⟩
theorem for_tup {K : PySem.W.Frag} {a : Addr} {xs : List V} {g : TG} {tb : TS} {D : Ends} {σ : St} {H : Hp} (Pv : Nat → St → Hp → Prop) (h0 : Pv 0 σ H) (hl : ∀ i σ H,i ≤ xs.length → Pv i σ H → SqT K H a xs)
    (hs : ∀ i x σ H,xs[i]? = some x → Pv i σ H → g x σ H fun σ2 H2 => tb { D with nx := Pv (i + 1),ct := Pv (i + 1),bk := D.nx } σ2 H2) (hd : ∀ σ H,Pv xs.length σ H → D.nx σ H) :
    ∃ W : Nat → Nat → St → Hp → Prop,(∃ m,W 0 m σ H) ∧ ∀ i m σ H,W i m σ H →
      ((Itt K a).stop i H ∧ D.nx σ H) ∨ ((Itt K a).go i H ∧ ∃ N : St → Hp → Prop,(∀ σ' H',N σ' H' → ∃ m',m' < m ∧ W (i + 1) m' σ' H') ∧ ∀ x H',(Itt K a).yld i H x H' → g x σ H' fun σ2 H2 => tb { D with nx := N,ct := N,bk := D.nx } σ2 H2) := by
  refine ⟨fun i m σ H => m = xs.length - i ∧ i ≤ xs.length ∧ Pv i σ H,⟨xs.length,by simp,Nat.zero_le _,h0⟩,?_⟩
  rintro i m σ H ⟨rfl,hi,p⟩
  have q := hl i σ H hi p
  by_cases hlt : i < xs.length
  · refine .inr ⟨⟨xs,xs[i],q,by simp [hlt]⟩,Pv (i + 1),fun σ' H' p' => ⟨xs.length - (i + 1),by omega,rfl,hlt,p'⟩,fun x H' y => ?_⟩
    obtain ⟨e,y⟩ := y
    subst e
    exact hs i x σ _ (y xs q) p
  · have e : i = xs.length := by omega
    subst e
    exact .inl ⟨⟨xs,q,Nat.le_refl _⟩,hd σ H p⟩
theorem for_range {lo : Int} {n : Nat} {g : TG} {tb : TS} {D : Ends} {σ : St} {H : Hp} (Pv : Nat → St → Hp → Prop) (h0 : Pv 0 σ H)
    (hs : ∀ i σ H,i < n → Pv i σ H → g (.int (lo + i)) σ H fun σ2 H2 => tb { D with nx := Pv (i + 1),ct := Pv (i + 1),bk := D.nx } σ2 H2) (hd : ∀ σ H,Pv n σ H → D.nx σ H) :
    ∃ W : Nat → Nat → St → Hp → Prop,(∃ m,W 0 m σ H) ∧ ∀ i m σ H,W i m σ H →
      ((Itr lo n).stop i H ∧ D.nx σ H) ∨ ((Itr lo n).go i H ∧ ∃ N : St → Hp → Prop,(∀ σ' H',N σ' H' → ∃ m',m' < m ∧ W (i + 1) m' σ' H') ∧ ∀ x H',(Itr lo n).yld i H x H' → g x σ H' fun σ2 H2 => tb { D with nx := N,ct := N,bk := D.nx } σ2 H2) := by
  refine ⟨fun i m σ H => m = n - i ∧ i ≤ n ∧ Pv i σ H,⟨n,by simp,Nat.zero_le _,h0⟩,?_⟩
  rintro i m σ H ⟨rfl,hi,p⟩
  by_cases hlt : i < n
  · refine .inr ⟨hlt,Pv (i + 1),fun σ' H' p' => ⟨n - (i + 1),by omega,rfl,hlt,p'⟩,fun x H' y => ?_⟩
    obtain ⟨e,y⟩ := y
    subst e y
    exact hs i σ _ hlt p
  · have e : i = n := by omega
    subst e
    exact .inl ⟨Nat.le_refl _,hd σ H p⟩
end L2
namespace L2
open PySem PySem.Spec PyProof.Rows
abbrev R2 := V → V → Hp → VK → Prop
def OpR (X : Cx) (f : Value → Value → Sem Value) (r : R2) : Prop :=
  ∀ (pins : List (Addr × Obj)) (s : Shared) (σ : St) (H : Hp) (x y : V) (v u : Value) (Q : VK),Inv X pins σ H s → RelV x v → RelV y u → r x y H Q →
    wpAny (model X.prog X.w) X.A (f v u) (EP X pins σ Q) X.xe s
def UnR (X : Cx) (f : Value → Sem Value) (r : V → Hp → VK → Prop) : Prop :=
  ∀ (pins : List (Addr × Obj)) (s : Shared) (σ : St) (H : Hp) (x : V) (v : Value) (Q : VK),Inv X pins σ H s → RelV x v → r x H Q →
    wpAny (model X.prog X.w) X.A (f v) (EP X pins σ Q) X.xe s
def CallR (X : Cx) (f : Value) (r : List V → Hp → VK → Prop) : Prop :=
  ∀ (pins : List (Addr × Obj)) (s : Shared) (σ : St) (H : Hp) (xs : List V) (us : List Value) (Q : VK),Inv X pins σ H s → Vals xs us → r xs H Q →
    wpAny (model X.prog X.w) X.A (call f us) (EP X pins σ Q) X.xe s
def tOp (r : R2) (ta tb : TE) : TE := fun σ H Q => ta σ H fun x H1 => tb σ H1 fun y H2 => r x y H2 Q
def tUn (r : V → Hp → VK → Prop) (ta : TE) : TE := fun σ H Q => ta σ H fun x H1 => r x H1 Q
def rI (C : Int → Int → Prop) (g : Int → Int → V) : R2 := fun x y H Q => ∃ i j,x = .int i ∧ y = .int j ∧ C i j ∧ Q (g i j) H
def rI0 (g : Int → Int → V) : R2 := fun x y H Q => ∃ i j,x = .int i ∧ y = .int j ∧ Q (g i j) H
def rU (g : Int → V) : V → Hp → VK → Prop := fun x H Q => ∃ i,x = .int i ∧ Q (g i) H
section
variable {X : Cx} {a b c : Expr} {ta tb tc : TE} {pos : Pos}
theorem binT (ha : PE X a ta) (hb : PE X b tb) {pins : List (Addr × Obj)} {s : Shared} {σ : St} {H : Hp} {R : V → V → Hp → Prop} (I : Inv X pins σ H s)
    (h : ta σ H fun x H1 => tb σ H1 fun y H2 => R x y H2) {Q : Value → Shared → Prop} {f : Value → Value → Sem Value}
    (hf : ∀ v u s2 x y H2,Inv X pins σ H2 s2 → RelV x v → RelV y u → R x y H2 → wpAny (model X.prog X.w) X.A (f v u) Q X.xe s2) :
    wpAny (model X.prog X.w) X.A (eval a X.env) (fun v s₁ => wpAny (model X.prog X.w) X.A (eval b X.env) (fun u s₂ => wpAny (model X.prog X.w) X.A (f v u) Q X.xe s₂) X.xe s₁) X.xe s := by
  refine thn (ha pins s σ H _ I h) fun v s1 ⟨x,H1,I1,r1,q1⟩ => ?_
  refine thn (hb pins s1 σ H1 _ I1 q1) fun u s2 ⟨y,H2,I2,r2,q2⟩ => ?_
  exact hf v u s2 x y H2 I2 r1 r2 q2
theorem pe_op {op : Operator} {r : R2} (ho : OpR X (binaryOp op) r) (ha : PE X a ta) (hb : PE X b tb) : PE X (.BinOp a op b pos) (tOp r ta tb) := by
  intro pins s σ H Q I h
  exact wpAny_BinOp (binT ha hb I h fun v u s2 x y H2 I2 rx ry q => ho pins s2 σ H2 x y v u Q I2 rx ry q)
theorem pe_un {op : UnaryOp} {r : V → Hp → VK → Prop} (ho : UnR X (unaryOp op) r) (ha : PE X a ta) : PE X (.UnaryOp op a pos) (tUn r ta) := by
  intro pins s σ H Q I h
  exact UnaryOp_ (thn (ha pins s σ H _ I h) fun v s1 ⟨x,H1,I1,r1,q1⟩ => ho pins s1 σ H1 x v Q I1 r1 q1)
theorem opI {f : Value → Value → Sem Value} {C : Int → Int → Prop} {g : Int → Int → Int}
    (rule : ∀ (i j : Int) (t u : Tok) (s : Shared) (Q : Value → Shared → Prop) (E : Value → Shared → Prop),C i j → Q (.int (g i j) s.toks) { s with toks := s.toks + 1 } → wpAny (model X.prog X.w) X.A (f (.int i t) (.int j u)) Q E s) :
    OpR X f (rI C fun i j => .int (g i j)) := by
  intro pins s σ H x y v u Q I rx ry h
  obtain ⟨i,j,rfl,rfl,hc,q⟩ := h
  obtain ⟨t,rfl⟩ := rx
  obtain ⟨t',rfl⟩ := ry
  exact rule i j t t' s _ _ hc ⟨.int (g i j),H,I.tok _,⟨_,rfl⟩,q⟩
theorem opI0 {f : Value → Value → Sem Value} {g : Int → Int → Int}
    (rule : ∀ (i j : Int) (t u : Tok) (s : Shared) (Q : Value → Shared → Prop) (E : Value → Shared → Prop),Q (.int (g i j) s.toks) { s with toks := s.toks + 1 } → wpAny (model X.prog X.w) X.A (f (.int i t) (.int j u)) Q E s) :
    OpR X f (rI0 fun i j => .int (g i j)) := by
  intro pins s σ H x y v u Q I rx ry h
  obtain ⟨i,j,rfl,rfl,q⟩ := h
  obtain ⟨t,rfl⟩ := rx
  obtain ⟨t',rfl⟩ := ry
  exact rule i j t t' s _ _ ⟨.int (g i j),H,I.tok _,⟨_,rfl⟩,q⟩
theorem opB0 {f : Value → Value → Sem Value} {g : Int → Int → Bool}
    (rule : ∀ (i j : Int) (t u : Tok) (s : Shared) (Q : Value → Shared → Prop) (E : Value → Shared → Prop),Q (.bool (g i j)) s → wpAny (model X.prog X.w) X.A (f (.int i t) (.int j u)) Q E s) :
    OpR X f (rI0 fun i j => .bl (g i j)) := by
  intro pins s σ H x y v u Q I rx ry h
  obtain ⟨i,j,rfl,rfl,q⟩ := h
  obtain ⟨t,rfl⟩ := rx
  obtain ⟨t',rfl⟩ := ry
  exact rule i j t t' s _ _ ⟨.bl (g i j),H,I,rfl,q⟩
def CPow (i j : Int) : Prop := 0 ≤ j ∧ j ≤ 1000000 ∧ i.natAbs < 2 ^ 64
def CMul (i j : Int) : Prop := (-(2 ^ 64) < i ∧ i < 2 ^ 64) ∨ (-(2 ^ 64) < j ∧ j < 2 ^ 64)
theorem CMul.ok {i j : Int} (h : CMul i j) : IntMulOk i j := by
  rcases h with ⟨h1,h2⟩ | ⟨h1,h2⟩
  · exact .of_left (intBits_le_64 h1 h2)
  · exact .of_right (intBits_le_64 h1 h2)
theorem op_add : OpR X (binaryOp .Add) (rI0 fun i j => .int (i + j)) := opI0 fun _ _ _ _ _ _ _ q => add_int q
theorem op_sub : OpR X (binaryOp .Sub) (rI0 fun i j => .int (i - j)) := opI0 fun _ _ _ _ _ _ _ q => sub_int q
theorem op_mul : OpR X (binaryOp .Mult) (rI CMul fun i j => .int (i * j)) := opI fun _ _ _ _ _ _ _ hc q => mul_int q hc.ok
theorem op_mod : OpR X (binaryOp .Mod) (rI (fun _ j => 0 < j) fun i j => .int (i % j)) := opI fun i j _ _ _ _ _ hc q => by
  have h1 : (0 : Int) < j := hc
  exact mod_int' (by omega) (by rw [Int.fmod_eq_emod_of_nonneg i (by omega)]; exact q)
theorem op_pow : OpR X (binaryOp .Pow) (rI CPow fun i j => .int (i ^ j.toNat)) := opI fun _ _ _ _ _ _ _ hc q => pow_int_small hc.1 hc.2.1 hc.2.2 q
theorem unI {f : Value → Sem Value} {g : Int → Int}
    (rule : ∀ (i : Int) (t : Tok) (s : Shared) (Q : Value → Shared → Prop) (E : Value → Shared → Prop),Q (.int (g i) s.toks) { s with toks := s.toks + 1 } → wpAny (model X.prog X.w) X.A (f (.int i t)) Q E s) :
    UnR X f (rU fun i => .int (g i)) := by
  intro pins s σ H x v Q I rx h
  obtain ⟨i,rfl,q⟩ := h
  obtain ⟨t,rfl⟩ := rx
  exact rule i t s _ _ ⟨.int (g i),H,I.tok _,⟨_,rfl⟩,q⟩
theorem un_neg : UnR X (unaryOp .USub) (rU fun i => .int (-i)) := unI fun _ _ _ _ _ q => neg_int q
end
def scal : V → V → Bool
  | .non,.non => true | .non,.int _ => true | .int _,.non => true | .non,.bl _ => true | .bl _,.non => true | .non,.str _ => true | .str _,.non => true
  | .int _,.int _ => true | .bl _,.bl _ => true | .str _,.str _ => true | .byt _,.byt _ => true
  | .int _,.str _ => true | .str _,.int _ => true | .bl _,.str _ => true | .str _,.bl _ => true
  | _,_ => false
def rEq : R2 := fun x y H Q => scal x y = true ∧ Q (.bl (decide (x = y))) H
def rNe : R2 := fun x y H Q => scal x y = true ∧ Q (.bl (!decide (x = y))) H
theorem dec_int {i j : Int} : decide (V.int i = V.int j) = (i == j) := by
  rw [Bool.eq_iff_iff]
  simp
theorem dec_bl {i j : Bool} : decide (V.bl i = V.bl j) = (i == j) := by
  rw [Bool.eq_iff_iff]
  simp
theorem dec_str {i j : Str} : decide (V.str i = V.str j) = (i == j) := by
  rw [Bool.eq_iff_iff]
  simp
theorem dec_byt {i j : Array UInt8} : decide (V.byt i = V.byt j) = (i.toList == j.toList) := by
  rw [Bool.eq_iff_iff]
  cases i
  cases j
  simp
section
variable {X : Cx} {a b c : Expr} {ta tb tc : TE} {pos : Pos}
theorem fin_bl {pins : List (Addr × Obj)} {σ : St} {H : Hp} {s : Shared} {Q : VK} {k k' : Bool} (I : Inv X pins σ H s) (q : Q (.bl k) H) (e : k = k') : EP X pins σ Q (.bool k') s := by
  subst e
  exact ⟨.bl k,H,I,rfl,q⟩
theorem op_eq : OpR X (compareOp .Eq) rEq := by
  intro pins s σ H x y v u Q I rx ry h
  obtain ⟨hs,q⟩ := h
  cases x with
  | non =>
    cases rx
    cases y with
    | non => cases ry; exact PySem.EqNone.eq_none_none (fin_bl I q (by simp))
    | bl j => cases ry; exact PySem.EqNone.eq_none_bool (fin_bl I q (by simp))
    | int j => obtain ⟨t',rfl⟩ := ry; exact PySem.EqNone.eq_none_int (fin_bl I q (by simp))
    | str j => obtain ⟨t',rfl⟩ := ry; exact PySem.EqNone.eq_none_str (fin_bl I q (by simp))
    | _ => exact absurd (show false = true from hs) Bool.false_ne_true
  | bl i =>
    cases rx
    cases y with
    | non => cases ry; exact PySem.EqNone.eq_bool_none (fin_bl I q (by simp))
    | bl j => cases ry; exact eq_bool (fin_bl I q dec_bl)
    | str j => obtain ⟨t',rfl⟩ := ry; exact PySem.EqMixed.eq_bool_str (fin_bl I q (by simp))
    | _ => exact absurd (show false = true from hs) Bool.false_ne_true
  | int i =>
    obtain ⟨t,rfl⟩ := rx
    cases y with
    | non => cases ry; exact PySem.EqNone.eq_int_none (fin_bl I q (by simp))
    | int j => obtain ⟨t',rfl⟩ := ry; exact eq_int (fin_bl I q dec_int)
    | str j => obtain ⟨t',rfl⟩ := ry; exact PySem.EqMixed.eq_int_str (fin_bl I q (by simp))
    | _ => exact absurd (show false = true from hs) Bool.false_ne_true
  | str i =>
    obtain ⟨t,rfl⟩ := rx
    cases y with
    | non => cases ry; exact PySem.EqNone.eq_str_none (fin_bl I q (by simp))
    | bl j => cases ry; exact PySem.EqMixed.eq_str_bool (fin_bl I q (by simp))
    | int j => obtain ⟨t',rfl⟩ := ry; exact PySem.EqMixed.eq_str_int (fin_bl I q (by simp))
    | str j => obtain ⟨t',rfl⟩ := ry; exact eq_str (fin_bl I q dec_str)
    | _ => exact absurd (show false = true from hs) Bool.false_ne_true
  | byt i =>
    obtain ⟨t,rfl⟩ := rx
    cases y with
    | byt j => obtain ⟨t',rfl⟩ := ry; exact PySem.W.eq_bytes (fin_bl I q dec_byt)
    | _ => exact absurd (show false = true from hs) Bool.false_ne_true
  | _ => cases y <;> exact absurd (show false = true from hs) Bool.false_ne_true
theorem op_ne : OpR X (compareOp .NotEq) rNe := by
  intro pins s σ H x y v u Q I rx ry h
  obtain ⟨hs,q⟩ := h
  cases x with
  | non =>
    cases rx
    cases y with
    | non => cases ry; exact PySem.EqNone.ne_none_none (fin_bl I q (by simp))
    | bl j => cases ry; exact PySem.EqNone.ne_none_bool (fin_bl I q (by simp))
    | int j => obtain ⟨t',rfl⟩ := ry; exact PySem.EqNone.ne_none_int (fin_bl I q (by simp))
    | str j => obtain ⟨t',rfl⟩ := ry; exact PySem.EqNone.ne_none_str (fin_bl I q (by simp))
    | _ => exact absurd (show false = true from hs) Bool.false_ne_true
  | bl i =>
    cases rx
    cases y with
    | non => cases ry; exact PySem.EqNone.ne_bool_none (fin_bl I q (by simp))
    | bl j => cases ry; exact ne_bool (fin_bl I q (congrArg not dec_bl))
    | str j => obtain ⟨t',rfl⟩ := ry; exact PySem.EqMixed.ne_bool_str (fin_bl I q (by simp))
    | _ => exact absurd (show false = true from hs) Bool.false_ne_true
  | int i =>
    obtain ⟨t,rfl⟩ := rx
    cases y with
    | non => cases ry; exact PySem.EqNone.ne_int_none (fin_bl I q (by simp))
    | int j => obtain ⟨t',rfl⟩ := ry; exact ne_int (fin_bl I q (congrArg not dec_int))
    | str j => obtain ⟨t',rfl⟩ := ry; exact PySem.EqMixed.ne_int_str (fin_bl I q (by simp))
    | _ => exact absurd (show false = true from hs) Bool.false_ne_true
  | str i =>
    obtain ⟨t,rfl⟩ := rx
    cases y with
    | non => cases ry; exact PySem.EqNone.ne_str_none (fin_bl I q (by simp))
    | bl j => cases ry; exact PySem.EqMixed.ne_str_bool (fin_bl I q (by simp))
    | int j => obtain ⟨t',rfl⟩ := ry; exact PySem.EqMixed.ne_str_int (fin_bl I q (by simp))
    | str j => obtain ⟨t',rfl⟩ := ry; exact ne_str (fin_bl I q (congrArg not dec_str))
    | _ => exact absurd (show false = true from hs) Bool.false_ne_true
  | byt i =>
    obtain ⟨t,rfl⟩ := rx
    cases y with
    | byt j => obtain ⟨t',rfl⟩ := ry; exact PySem.W.ne_bytes (fin_bl I q (congrArg not dec_byt))
    | _ => exact absurd (show false = true from hs) Bool.false_ne_true
  | _ => cases y <;> exact absurd (show false = true from hs) Bool.false_ne_true
theorem op_lt : OpR X (compareOp .Lt) (rI0 fun i j => .bl (decide (i < j))) := opB0 fun _ _ _ _ _ _ _ q => lt_int q
theorem op_le : OpR X (compareOp .LtE) (rI0 fun i j => .bl (decide (i ≤ j))) := opB0 fun _ _ _ _ _ _ _ q => le_int q
theorem op_gt : OpR X (compareOp .Gt) (rI0 fun i j => .bl (decide (j < i))) := opB0 fun _ _ _ _ _ _ _ q => gt_int q
theorem op_ge : OpR X (compareOp .GtE) (rI0 fun i j => .bl (decide (j ≤ i))) := opB0 fun _ _ _ _ _ _ _ q => ge_int q
theorem op_notN : OpR X (compareOp .IsNot) (fun x y H Q => y = .non ∧ Q (.bl (!decide (x = .non))) H) := by
  intro pins s σ H x y v u Q I rx ry h
  obtain ⟨rfl,q⟩ := h
  cases ry
  refine isnot_none_gen (fin_bl I q ?_)
  cases x <;> first
    | (cases rx; rfl)
    | (obtain ⟨t,rfl⟩ := rx; rfl)
theorem nomark (b : Expr) {op : CmpOp} (h : op ≠ .In := by decide) (h2 : op ≠ .NotIn := by decide) : behindInMarks op b = false := by
  have e1 : (op == CmpOp.In) = false := by cases op <;> first | rfl | exact absurd rfl h
  have e2 : (op == CmpOp.NotIn) = false := by cases op <;> first | rfl | exact absurd rfl h2
  cases b <;> simp [behindInMarks,e1,e2]
theorem pe_cmpR {op : CmpOp} {r : R2} (ho : OpR X (compareOp op) r) (ha : PE X a ta) (hb : PE X b tb) (hm : behindInMarks op b = false) : PE X (.Compare a [op] [b] pos) (tOp r ta tb) := by
  intro pins s σ H Q I h
  exact wpAny_Compare1 (binT ha hb I h fun v u s2 x y H2 I2 rx ry q => ho pins s2 σ H2 x y v u Q I2 rx ry q) hm
def tTest (t : TE) : TT := fun σ H Q => t σ H fun x H' => ∃ k,x = .bl k ∧ Q k H'
theorem pt_cmpR {op : CmpOp} {r : R2} (ho : OpR X (compareOp op) r) (ha : PE X a ta) (hb : PE X b tb) (hm : behindInMarks op b = false) : PT X (.Compare a [op] [b] pos) (tTest (tOp r ta tb)) := by
  intro pins s σ H Q I h
  refine wpAny_isTrue_Compare1 (thn (ha pins s σ H _ I h) fun v s1 ⟨x,H1,I1,r1,q1⟩ => thn (hb pins s1 σ H1 _ I1 q1) fun u s2 ⟨y,H2,I2,r2,q2⟩ =>
    thn (ho pins s2 σ H2 x y v u _ I2 r1 r2 q2) fun c s3 ⟨z,H3,I3,r3,k,e,q3⟩ => ?_) hm
  subst e
  cases r3
  exact wpAny_truthy_bool ⟨H3,I3,q3⟩
def tChain (r r' : R2) (ta tb tc : TE) : TE := fun σ H Q => ta σ H fun x H1 => tb σ H1 fun y H2 => r x y H2 fun z H3 => ∃ k,z = .bl k ∧
  (if k = true then tc σ H3 fun w' H4 => r' y w' H4 Q else Q (.bl false) H3)
theorem pt_chain {op op' : CmpOp} {r r' : R2} (ho : OpR X (compareOp op) r) (ho' : OpR X (compareOp op') r') (ha : PE X a ta) (hb : PE X b tb) (hc : PE X c tc)
    (hm : lastMarks [op,op'] [b,c] = false := by with_unfolding_all rfl) : PT X (.Compare a [op,op'] [b,c] pos) (tTest (tChain r r' ta tb tc)) := by
  intro pins s σ H Q I h
  refine isTrue_chain (thn (ha pins s σ H _ I h) fun v s1 ⟨x,H1,I1,r1,q1⟩ => test_link (thn (hb pins s1 σ H1 _ I1 q1) fun u s2 ⟨y,H2,I2,r2,q2⟩ =>
    thn (ho pins s2 σ H2 x y v u _ I2 r1 r2 q2) fun d s3 ⟨z,H3,I3,r3,k,e,q3⟩ => ?_)) hm
  subst e
  cases r3
  refine wpAny_truthy_bool ?_
  cases k with
  | false =>
    obtain ⟨k',e',q'⟩ := q3
    cases e'
    exact ite_ff ⟨H3,I3,q'⟩
  | true =>
    refine ite_tt (test_last (thn (hc pins s3 σ H3 _ I3 q3) fun w' s4 ⟨z',H4,I4,r4,q4⟩ => thn (ho' pins s4 σ H4 y z' u w' _ I4 r2 r4 q4) fun d' s5 ⟨z2,H5,I5,r5,k2,e2,q5⟩ => ?_))
    subst e2
    cases r5
    exact wpAny_truthy_bool ⟨H5,I5,q5⟩
theorem line63 : (sizeLine : Nat) < 2 ^ 63 := by rw [sizeLine_eq]; decide
theorem vals1 {x : V} {us : List Value} (r : Vals [x] us) : ∃ u,us = [u] ∧ RelV x u := by
  cases r with
  | cons r1 r2 => cases r2; exact ⟨_,rfl,r1⟩
theorem vals2 {x y : V} {us : List Value} (r : Vals [x,y] us) : ∃ u w',us = [u,w'] ∧ RelV x u ∧ RelV y w' := by
  cases r with
  | cons r1 r2 =>
    cases r2 with
    | cons r3 r4 => cases r4; exact ⟨_,_,rfl,r1,r3⟩
theorem call_abs : CallR X (.builtin "abs") (fun xs H Q => ∃ i,xs = [.int i] ∧ Q (.int (if i < 0 then -i else i)) H) := by
  intro pins s σ H xs us Q I r h
  obtain ⟨i,rfl,q⟩ := h
  obtain ⟨u,rfl,t,rfl⟩ := vals1 r
  exact call_abs_int fun u tk => ⟨.int (if i < 0 then -i else i),H,I.tok _,⟨_,rfl⟩,q⟩
theorem call_max2 (hc : X.calm = true) : CallR X (.builtin "max") (fun xs H Q => ∃ i j,xs = [.int i,.int j] ∧ Q (.int (if j > i then j else i)) H) := by
  intro pins s σ H xs us Q I r h
  obtain ⟨i,j,rfl,q⟩ := h
  obtain ⟨u,w',rfl,⟨t,rfl⟩,⟨t',rfl⟩⟩ := vals2 r
  refine max_two_ints (I.ok.hd hc) fun h' tk k => ⟨_,H,I.kept k,?_,q⟩
  by_cases hj : j > i
  · rw [if_pos hj,if_pos hj]; exact ⟨_,rfl⟩
  · rw [if_neg hj,if_neg hj]; exact ⟨_,rfl⟩
theorem call_int1 : CallR X (.type "int") (fun xs H Q => (∃ i,xs = [.int i] ∧ Q (.int i) H) ∨ ∃ k,xs = [.bl k] ∧ Q (.int (if k then 1 else 0)) H) := by
  intro pins s σ H xs us Q I r h
  rcases h with ⟨i,rfl,q⟩ | ⟨k,rfl,q⟩
  · obtain ⟨u,rfl,t,rfl⟩ := vals1 r
    exact call_int_int ⟨.int i,H,I,⟨_,rfl⟩,q⟩
  · obtain ⟨u,rfl,r1⟩ := vals1 r
    cases r1
    exact call_int_bool ⟨.int (if k then 1 else 0),H,I.tok _,⟨_,rfl⟩,q⟩
end
end L2
namespace L2
open PySem PySem.Spec PyProof.Rows
structure ObjM (h : Heap) (x dx C : Addr) (mA : Str → Option Value) : Prop where
  obj : h.get? x = some (PySem.W.instObj C dx)
  ns : h.Ns1 dx mA
  ne : dx ≠ x
theorem lookIn_ns {h : Heap} {dx : Addr} {mA : Str → Option Value} (n : h.Ns1 dx mA) : ∃ od,h.get? dx = some od ∧ ∀ name,PySem.W.lookIn name od = some (mA name) := by
  obtain ⟨o,es,ep,ho,hd,hk,_,hm⟩ := n
  refine ⟨o,ho,fun name => ?_⟩
  have e := hm name
  unfold nsFind findBy at e
  rw [← Array.find?_toList] at e
  unfold PySem.W.lookIn
  rw [hd]
  dsimp only
  split
  · rename_i y q
    rw [q] at e
    exact congrArg some e
  · rename_i q
    rw [q] at e
    have a : es.toList.any (·.refKey) = false := by
      rw [List.any_eq_false]
      intro y hy
      obtain ⟨z,t,hkey⟩ := hk y (Array.mem_toList_iff.mp hy)
      simp [DictEntry.refKey,hkey]
    have a' : ¬ es.toList.any (·.refKey) = true := by rw [a]; exact Bool.false_ne_true
    rw [if_neg a']
    exact congrArg some e
theorem ObjM.look {h : Heap} {x dx C : Addr} {mA : Str → Option Value} (I : ObjM h x dx C mA) : ∃ od,PySem.W.InstAt h x (PySem.W.instObj C dx) C (some od) ∧ ∀ name,PySem.W.lookIn name od = some (mA name) :=
  let ⟨od,ho,hl⟩ := lookIn_ns I.ns
  ⟨od,⟨I.obj,rfl,rfl,ho⟩,hl⟩
section
variable {prog : Program} {w : World} {A : Around} {E : Value → Shared → Prop} {s : Shared} {K : PySem.W.Frag} {x dx C f : Addr} {mA : Str → Option Value} {name : Str} {v : Value}
theorem get_map {expr : Bool} {Q : Value → Shared → Prop} (X : K.In s.heap) (I : ObjM s.heap x dx C mA) (hg : PySem.W.plainGet K C name = true) (hh : PySem.W.hasDictIn K C = true)
    (ha : PySem.W.findIn K (.ref C) name = some none) (hv : mA name = some v) (hv' : PySem.W.handedIn v = true) (h : Q v { s with toks := s.toks + 1 }) :
    wpAny (model prog w) A (getAttr (.ref x) name expr) Q E s := by
  obtain ⟨od,J,hl⟩ := I.look
  exact PySem.W.get_value X J (PySem.W.plainGet_of hg).1 (PySem.W.findObj_own hh ha rfl (by rw [hl,hv])) hv' h
theorem get_meth {pl : Sem Bool} {Q : Value × List Value → Shared → Prop} (X : K.In s.heap) (I : ObjM s.heap x dx C mA) (hg : PySem.W.plainGet K C name = true)
    (hf : PySem.W.findIn K (.ref C) name = some (some (.ref f))) (ht : PySem.W.isFn K (.ref f) = true) (hv : mA name = none) (h : Q (.ref f,[.ref x]) s) :
    wpAny (model prog w) A (getMethod (.ref x) name pl) Q E s := by
  obtain ⟨od,J,hl⟩ := I.look
  exact PySem.W.method_fn X J (PySem.W.plainGet_of hg).1 (PySem.W.plainGet_of hg).2 hf (beq_iff_eq.mp ht) (by show (PySem.W.lookIn name od).map (·.isSome) = some false; rw [hl,hv]; rfl) h
theorem set_map {ns : List Str} {Q : Unit → Shared → Prop} (X : K.In s.heap) (I : ObjM s.heap x dx C mA)
    (hs : PySem.W.findIn K (.ref C) "__setattr__" = some (some (.builtin "object.__setattr__"))) (hp : PySem.W.plainOver K C = true) (ht : PySem.W.takerIn K C name = some none) (hh : PySem.W.hasDictIn K C = true)
    (hw : PySem.Within mA ns) (hsz : ns.length ≤ sizeLine)
    (h : ∀ h',ObjM h' x dx C (fun y => if y = name then some v else mA y) → Heap.SameBut dx s.heap h' → Q () { s with heap := h',toks := s.toks + 2 }) :
    wpAny (model prog w) A (setAttr (.ref x) name v) Q E s := by
  obtain ⟨od,J,hl⟩ := I.look
  refine PySem.W.set_plain X J hs (PySem.W.osa_open (s := { s with toks := s.toks + 1 }) (r := none) X J hp ht fun b => ?_)
  obtain ⟨cd,hc,hd'⟩ := PySem.W.any_some hh
  have hx : s.heap.get? x = some ⟨.ref C,some dx,.plain,#[]⟩ := I.obj
  refine wpAny_bind (wpAny_pure (wpAny_bind (wpAny_bind (wpAny_loadPart hx (wpAny_bind (PySem.W.Looks.here (s := { s with toks := s.toks + 1 }) (PySem.W.looks_clsIn X hc) ?_))))))
  rw [hd']
  refine wpAny_pure (a := some dx) (wpAny_bind (wpAny_pure (wpAny_bind ?_)))
  refine wpAny_nsSet1 (s := { s with toks := s.toks + 1 }) I.ns fun h' hn2 hs2 => ?_
  obtain ⟨oD,esD,epD,hoD,hdD,hcD⟩ := hn2.count (PySem.Within.cons name v hw)
  refine wpAny_bind (wpAny_lookBehind hoD (by rw [hdD]; exact pastItsLine_dict (Nat.le_trans hcD (by rw [List.length_cons]; omega))) ?_)
  exact wpAny_pure (h _ ⟨(hs2.2 _ (Ne.symm I.ne)).trans I.obj,hn2,I.ne⟩ hs2)
theorem make_map {R : Result → Shared → Prop} {vs : List Value} {kw : List (Str × Value)} (X : K.In s.heap) (hm : PySem.W.makesIn K C = true)
    (hi : PySem.W.findIn K (.ref C) "__init__" = some (some (.ref f))) (hf : PySem.W.typeIn K (.ref f) = some (.type "function"))
    (h : codeAny (model prog w) (A.under (.builtin "type.__call__" ⟨.ref C :: vs,kw⟩)) (.call (.ref f) ⟨.ref (s.heap.objs.size + 1) :: vs,kw⟩) (PySem.W.InitBack (s.heap.objs.size + 1) R)
      { s with heap := (s.heap.push PySem.W.emptyDict).push (PySem.W.instObj C s.heap.objs.size) }) :
    codeAny (model prog w) A (.call (.ref C) ⟨vs,kw⟩) R s := by
  obtain ⟨hh,g,d,t,os⟩ := s
  exact PySem.W.make_core (PySem.W.makes_of X hm) (PySem.W.looks_findIn X hi) (fun self => PySem.W.bind_fn X self hf) (.inl rfl) h
end
def putF (f : Str) (v : V) : List (Str × V) → List (Str × V)
  | [] => [(f,v)]
  | (g,x) :: r => if g = f then (g,v) :: r else (g,x) :: putF f v r
theorem lookup_putF (f g : Str) (v : V) : ∀ fs : List (Str × V),(putF f v fs).lookup g = if g = f then some v else fs.lookup g
  | [] => by
    show List.lookup g [(f,v)] = _
    by_cases h : g = f
    · have hb : (g == f) = true := beq_iff_eq.mpr h
      simp only [List.lookup,hb,if_pos h]
    · have hb : (g == f) = false := beq_eq_false_iff_ne.mpr h
      simp only [List.lookup,hb,if_neg h]
  | (k,x) :: r => by
    have ih := lookup_putF f g v r
    rw [show putF f v ((k,x) :: r) = (if k = f then (k,v) :: r else (k,x) :: putF f v r) from rfl]
    by_cases hk : k = f
    · rw [if_pos hk]
      by_cases h : g = k
      · have hb : (g == k) = true := beq_iff_eq.mpr h
        simp only [List.lookup,hb,if_pos (h.trans hk)]
      · have hb : (g == k) = false := beq_eq_false_iff_ne.mpr h
        simp only [List.lookup,hb,if_neg (fun e : g = f => h (e.trans hk.symm))]
    · rw [if_neg hk]
      by_cases h : g = k
      · have hb : (g == k) = true := beq_iff_eq.mpr h
        simp only [List.lookup,hb,if_neg (fun e : g = f => hk (h.symm.trans e))]
      · have hb : (g == k) = false := beq_eq_false_iff_ne.mpr h
        simp only [List.lookup,hb]
        exact ih
theorem keys_putF (f : Str) (v : V) : ∀ fs : List (Str × V),f ∈ (putF f v fs).map (·.1) ∧ ∀ g,g ∈ fs.map (·.1) → g ∈ (putF f v fs).map (·.1)
  | [] => ⟨by simp [putF],fun g h => by simp at h⟩
  | (k,x) :: r => by
    obtain ⟨i1,i2⟩ := keys_putF f v r
    rw [show putF f v ((k,x) :: r) = (if k = f then (k,v) :: r else (k,x) :: putF f v r) from rfl]
    by_cases hk : k = f
    · rw [if_pos hk]
      subst hk
      exact ⟨by simp,fun g h => by simpa using h⟩
    · rw [if_neg hk]
      refine ⟨?_,fun g h => ?_⟩
      · rw [List.map_cons]
        exact List.mem_cons_of_mem _ i1
      · rw [List.map_cons] at h ⊢
        rcases List.mem_cons.mp h with e | e
        · exact List.mem_cons.mpr (.inl e)
        · exact List.mem_cons_of_mem _ (i2 g e)
theorem length_putF (f : Str) (v : V) : ∀ fs : List (Str × V),(putF f v fs).length ≤ fs.length + 1
  | [] => by simp [putF]
  | (k,x) :: r => by
    have ih := length_putF f v r
    rw [show putF f v ((k,x) :: r) = (if k = f then (k,v) :: r else (k,x) :: putF f v r) from rfl]
    by_cases hk : k = f
    · rw [if_pos hk,List.length_cons,List.length_cons]; omega
    · rw [if_neg hk,List.length_cons,List.length_cons]; omega
theorem RelO.some_of {v : V} {o : Option Value} (r : RelO (some v) o) : ∃ u,o = some u ∧ RelV v u := by
  cases o with
  | none => exact (show False from r).elim
  | some u => exact ⟨u,rfl,r⟩
theorem RelO.none_of {o : Option Value} (r : RelO none o) : o = none := by
  cases o with
  | none => rfl
  | some u => exact (show False from r).elim
theorem handed_of {v : V} {u : Value} (r : RelV v u) : PySem.W.handedIn u = true := by
  cases v with
  | non => cases (show u = Value.none from r); rfl
  | bl b => cases (show u = Value.bool b from r); rfl
  | int i => obtain ⟨t,e⟩ := (show ∃ t,u = Value.int i t from r); cases e; rfl
  | str x => obtain ⟨t,e⟩ := (show ∃ t,u = Value.str x t from r); cases e; rfl
  | byt b => obtain ⟨t,e⟩ := (show ∃ t,u = Value.bytes b t from r); cases e; rfl
  | flt b => obtain ⟨t,e⟩ := (show ∃ t,u = Value.float b t from r); cases e; rfl
  | ref a => cases (show u = Value.ref a from r); rfl
  | ty n => cases (show u = Value.type n from r); rfl
section
variable {P : Program} {w : World} {H H' : Hp} {h h' : Heap} {a C dx : Addr} {fs fs' : List (Str × V)}
theorem ins_get (hok : HOk P w H h) (e : H a = some (.ins C dx fs)) : ∃ mA,ObjM h a dx C mA ∧ (∀ f,RelO (fs.lookup f) (mA f)) ∧ PySem.Within mA (fs.map (·.1)) ∧ fs.length ≤ 1000 ∧ H dx = some (.own a) := by
  obtain ⟨d,z,ne,ob,mA,n,r,q⟩ := (show ObjOk P w H h a (.ins C dx fs) from hok a _ e)
  exact ⟨mA,⟨ob,n,ne⟩,r,q,z,d⟩
end
structure Cls (K : PySem.W.Frag) (C : Addr) : Prop where
  pg : PySem.W.plainGet K C Str.empty = true
  hd : PySem.W.hasDictIn K C = true
  po : PySem.W.plainOver K C = true
  sa : PySem.W.findIn K (.ref C) "__setattr__" = some (some (.builtin "object.__setattr__"))
theorem Cls.get {K : PySem.W.Frag} {C : Addr} (c : Cls K C) (f : Str) : PySem.W.plainGet K C f = true := c.pg
def NoAttr (K : PySem.W.Frag) (C : Addr) (f : Str) : Prop := PySem.W.findIn K (.ref C) f = some none
theorem NoAttr.taker {K : PySem.W.Frag} {C : Addr} {f : Str} (n : NoAttr K C f) : PySem.W.takerIn K C f = some none := by
  unfold PySem.W.takerIn
  rw [show PySem.W.findIn K (.ref C) f = some none from n]
  rfl
structure Con (K : PySem.W.Frag) (C : Addr) (f : Str) (v : V) (u : Value) : Prop where
  at_ : PySem.W.findIn K (.ref C) f = some (some u)
  rel : RelV v u
  get : PySem.W.specialIn K u "__get__" = some none
  cp : PySem.W.copiedNames.contains f = false
structure Meth (K : PySem.W.Frag) (C : Addr) (m : Str) (f : Addr) : Prop where
  at_ : PySem.W.findIn K (.ref C) m = some (some (.ref f))
  fn : PySem.W.isFn K (.ref f) = true
  kp : PySem.W.keepIn K (.ref f) = true
section
variable {X : Cx} {pins : List (Addr × Obj)} {σ : St} {H : Hp} {s : Shared} {a C dx : Addr} {fs : List (Str × V)} {f : Str} {v : V} {A : Around} {E : Value → Shared → Prop}
theorem getattr_ok {b : Bool} {Q : Value → Shared → Prop} (I : Inv X pins σ H s) (e : H a = some (.ins C dx fs)) (c : Cls X.K C) (n : NoAttr X.K C f) (l : fs.lookup f = some v)
    (h : ∀ u s',Inv X pins σ H s' → RelV v u → Q u s') : wpAny (model X.prog X.w) A (getAttr (.ref a) f b) Q E s := by
  obtain ⟨mA,O,r,_,_,_⟩ := ins_get I.hok e
  obtain ⟨u,hu,ru⟩ := RelO.some_of (v := v) (o := mA f) (by rw [← l]; exact r f)
  exact get_map I.kIn O (c.get f) c.hd n hu (handed_of ru) (h u _ (I.tok _) ru)
theorem getmeth_ok {m : Str} {g : Addr} {pl : Sem Bool} {Q : Value × List Value → Shared → Prop} (I : Inv X pins σ H s) (e : H a = some (.ins C dx fs)) (c : Cls X.K C) (k : Meth X.K C m g) (l : fs.lookup m = none)
    (h : Q (.ref g,[.ref a]) s) : wpAny (model X.prog X.w) A (getMethod (.ref a) m pl) Q E s := by
  obtain ⟨mA,O,r,_,_,_⟩ := ins_get I.hok e
  have hn : mA m = none := RelO.none_of (by rw [← l]; exact r m)
  exact get_meth I.kIn O (c.get m) k.at_ k.fn hn h
theorem setattr_ok {y : V} {u : Value} {Q : Unit → Shared → Prop} (I : Inv X pins σ H s) (e : H a = some (.ins C dx fs)) (c : Cls X.K C) (n : NoAttr X.K C f) (hl : fs.length < 1000) (ry : RelV y u)
    (h : ∀ s',Inv X pins σ (upd H a (.ins C dx (putF f y fs))) s' → Q () s') : wpAny (model X.prog X.w) A (setAttr (.ref a) f u) Q E s := by
  obtain ⟨mA,O,r,wi,_,ho⟩ := ins_get I.hok e
  have hz : (fs.map (·.1)).length ≤ sizeLine := by rw [List.length_map,sizeLine_eq]; omega
  refine set_map I.kIn O c.sa c.po n.taker c.hd wi hz fun h' O' sb => h _ ?_
  have hd : ∃ o,h'.get? dx = some o := let ⟨o,_,_,e',_⟩ := O'.ns; ⟨o,e'⟩
  refine I.write (x := a) (e := dx) (by rw [e]; exact True.intro) (.inr ho) (fun b q hb z => (sb.2 b hb).trans z) hd ?_
  refine ⟨by rw [upd_ne O.ne]; exact ho,?_,O.ne,O'.obj,_,O'.ns,fun g => ?_,fun g hg => ?_⟩
  · have := length_putF f y fs; omega
  · show RelO ((putF f y fs).lookup g) (if g = f then some u else mA g)
    rw [lookup_putF]
    by_cases q : g = f
    · rw [if_pos q,if_pos q]; exact ry
    · rw [if_neg q,if_neg q]; exact r g
  · by_cases q : g = f
    · rw [q]; exact (keys_putF f y fs).1
    · refine (keys_putF f y fs).2 g (wi g fun z => hg ?_)
      show (if g = f then some u else mA g) = none
      rw [if_neg q]; exact z
theorem Inv.made (I : Inv X pins σ H s) : Inv X pins σ (upd (upd H s.heap.objs.size (.own (s.heap.objs.size + 1))) (s.heap.objs.size + 1) (.ins C s.heap.objs.size []))
    { s with heap := (s.heap.push PySem.W.emptyDict).push (PySem.W.instObj C s.heap.objs.size) } := by
  have e1 : (s.heap.push PySem.W.emptyDict).get? s.heap.objs.size = some PySem.W.emptyDict := Heap.get?_push_size s.heap rfl
  have e2 : ((s.heap.push PySem.W.emptyDict).push (PySem.W.instObj C s.heap.objs.size)).get? (s.heap.objs.size + 1) = some (PySem.W.instObj C s.heap.objs.size) := by
    have := Heap.get?_push_size (s.heap.push PySem.W.emptyDict) (o := PySem.W.instObj C s.heap.objs.size) rfl
    rwa [Heap.size_push] at this
  have e3 : (s.heap.push PySem.W.emptyDict).Ns s.heap.objs.size (fun _ => none) := ⟨PySem.W.emptyDict,#[],_,e1,rfl,(fun e he => absurd he (by simp)),fun _ => rfl⟩
  have I1 := I.laid (a := s.heap.objs.size) (o := .own (s.heap.objs.size + 1)) (h' := s.heap.push PySem.W.emptyDict) (t' := s.toks) (fun b u q => Heap.get?_push_of_some _ q) (Nat.le_refl _) ⟨_,e1⟩
  refine I1.laid (a := s.heap.objs.size + 1) (o := .ins C s.heap.objs.size []) (t' := s.toks) (fun b u q => Heap.get?_push_of_some _ q) (Nat.le_of_eq (Heap.size_push _ _)) ?_
  have ne : s.heap.objs.size ≠ s.heap.objs.size + 1 := Nat.ne_of_lt (Nat.lt_succ_self _)
  refine ⟨by rw [upd_ne ne,upd_same],Nat.zero_le _,ne,e2,fun _ => none,(Heap.Ns1.of_empty e3).at fun o q => Heap.get?_push_of_some _ q,fun _ => True.intro,fun y hy => absurd rfl hy⟩
theorem attr_of {prog : Program} {w : World} {env : Env} {e : Expr} {f : Str} {pos : Pos} {s : Shared} {Q : Value → Shared → Prop} (hb : attributeBase e f env (eval e env) = eval e env)
    (h : wpAny (model prog w) A (eval e env) (fun o s₁ => wpAny (model prog w) A (getAttr o f true) Q E s₁) E s) : wpAny (model prog w) A (eval (.Attribute e f pos) env) Q E s :=
  Attribute_any_ h (by rw [arm_eval_Attribute,hb])
end
def tFld (K : PySem.W.Frag) (ta : TE) (f : Str) : TE := fun σ H Q => ta σ H fun x H1 => ∃ a C dx fs v,x = .ref a ∧ H1 a = some (.ins C dx fs) ∧ Cls K C ∧ NoAttr K C f ∧ fs.lookup f = some v ∧ Q v H1
def sFld (K : PySem.W.Frag) (ta tv : TE) (f : Str) : TS := fun D σ H => tv σ H fun y H1 => ta σ H1 fun x H2 => ∃ a C dx fs,x = .ref a ∧ H2 a = some (.ins C dx fs) ∧ Cls K C ∧ NoAttr K C f ∧ fs.length < 1000 ∧
  D.nx σ (upd H2 a (.ins C dx (putF f y fs)))
section
variable {X : Cx} {o e value : Expr} {f : Str} {pos pos' tpos : Pos} {ta tv : TE}
theorem pe_fld (he : PE X e ta) (hb : attributeBase e f X.env (eval e X.env) = eval e X.env) : PE X (.Attribute e f pos) (tFld X.K ta f) := by
  intro pins s σ H Q I h
  refine attr_of hb (thn (he pins s σ H _ I h) fun u s1 ⟨x,H1,I1,rx,a,C,dx,fs,v,ex,ea,c,n,l,q⟩ => ?_)
  subst ex
  obtain rfl : u = Value.ref a := rx
  exact getattr_ok I1 ea c n l fun u' s2 I2 ru => ⟨v,H1,I2,ru,q⟩
theorem ps_fld (ha : PE X o ta) (hv : PE X value tv) (hs : swapsWith value (some (.Attribute o f pos')) pos.line X.env = pure false) : PS X (.Assign [.Attribute o f pos'] value pos) (sFld X.K ta tv f) := by
  intro pins s σ H D I h
  refine plainObj_wpAny_Assign_Attribute (thn (hv pins s σ H _ I h) fun u s1 ⟨y,H1,I1,ry,q⟩ => thn (ha pins s1 σ H1 _ I1 q) fun ov s2 ⟨x,H2,I2,rx,a,C,dx,fs,ex,ea,c,n,l,q2⟩ => ?_) hs
  subst ex
  obtain rfl : ov = Value.ref a := rx
  exact setattr_ok I2 ea c n l ry fun s3 I3 => ⟨σ,_,I3,q2⟩
theorem methcall_of {pl : Sem Bool} {m : Str} {apos : Pos} {args : List Expr} {pins : List (Addr × Obj)} {s : Shared} {σ : St} {H : Hp} {Q : Value → Shared → Prop} {te : TE} (he : PE X e te) (I : Inv X pins σ H s)
    (h : te σ H fun x H1 => ∃ a C dx fs g,x = .ref a ∧ H1 a = some (.ins C dx fs) ∧ Cls X.K C ∧ Meth X.K C m g ∧ fs.lookup m = none ∧
      ∀ s1,Inv X pins σ H1 s1 → wpAny (model X.prog X.w) X.A (callWith pos (.ref g) [.ref a] (backTo pos (starEach args X.env)) (backToKw pos (keywordEach [] X.env))) Q X.xe s1)
    (ht : eval (.Call (.Attribute e m apos) args [] pos) X.env = (do
      let ov ← eval e X.env
      standAt apos.atName
      let (f,first) ← holding [ov] (getMethod ov m pl)
      callWith pos f first (backTo pos (starEach args X.env)) (backToKw pos (keywordEach [] X.env)))) :
    wpAny (model X.prog X.w) X.A (eval (.Call (.Attribute e m apos) args [] pos) X.env) Q X.xe s := by
  refine PySem.W.methodCall_KW (pl := pl) (thn (he pins s σ H _ I h) fun u s1 ⟨x,H1,I1,rx,a,C,dx,fs,g,ex,ea,c,k,l,q⟩ => ?_) ht
  subst ex
  obtain rfl : u = Value.ref a := rx
  exact getmeth_ok I1 ea c k l (q s1 I1)
end
section
variable {X : Cx} {pins : List (Addr × Obj)} {σ : St} {H : Hp} {s : Shared} {A : Around} {E : Value → Shared → Prop} {Q : Value → Shared → Prop} {c : Value} {b : Bool}
inductive TyOf (K : PySem.W.Frag) (H : Hp) : V → Value → Prop where
  | non : TyOf K H .non (.type "NoneType")
  | bl (x : Bool) : TyOf K H (.bl x) (.type "bool")
  | int (i : Int) : TyOf K H (.int i) (.type "int")
  | str (x : Str) : TyOf K H (.str x) (.type "str")
  | flt (x : UInt64) : TyOf K H (.flt x) (.type "float")
  | lst {a : Addr} {xs : List V} (e : H a = some (.lst xs)) : TyOf K H (.ref a) (.type "list")
  | frz {a : Addr} {o : Obj} {xs : List V} (e : H a = some (.frz o (.lst xs))) : TyOf K H (.ref a) (.type "list")
  | tup {a : Addr} {xs : List V} (e : H a = some (.tup xs)) : TyOf K H (.ref a) (.type "tuple")
  | dK {a : Addr} {kvs : List (Key × V)} (e : H a = some (.dK kvs)) : TyOf K H (.ref a) (.type "dict")
  | dT {a : Addr} {kvs : List (List Key × V)} (e : H a = some (.dT kvs)) : TyOf K H (.ref a) (.type "dict")
  | ins {a C dx : Addr} {fs : List (Str × V)} (e : H a = some (.ins C dx fs)) (cl : Cls K C) (ha : PySem.W.findIn K (.ref C) "__class__" = some (some (.builtin "object.__class__")))
      (hn : PySem.W.specialIn K (.builtin "object.__class__") "__get__" = some (some (.builtin "getset_descriptor.__get__"))) (htk : PySem.W.takesIn K (.builtin "object.__class__") = some true)
      (hm : PySem.W.mroIn K C (.type "object") = some true) : TyOf K H (.ref a) (.ref C)
theorem isinst_ok {x : V} {u t : Value} (I : Inv X pins σ H s) (rx : RelV x u) (ty : TyOf X.K H x t) (e : PySem.W.kitOne X.K t c = some b) (h : ∀ tk,Q (.bool b) { s with toks := tk }) :
    wpAny (model X.prog X.w) A (call (.builtin "isinstance") [u,c]) Q E s := by
  cases ty with
  | non => cases (show u = Value.none from rx); exact PySem.W.kia_one PySem.W.kitx_none I.kIn True.intro e (fun z => nomatch z) h
  | bl y => cases (show u = Value.bool y from rx); exact PySem.W.kia_one PySem.W.kitx_bool I.kIn True.intro e (fun z => nomatch z) h
  | int i => obtain ⟨t,q⟩ := (show ∃ t,u = Value.int i t from rx); cases q; exact PySem.W.kia_one PySem.W.kitx_int I.kIn True.intro e (fun z => nomatch z) h
  | str y => obtain ⟨t,q⟩ := (show ∃ t,u = Value.str y t from rx); cases q; exact PySem.W.kia_one PySem.W.kitx_str I.kIn True.intro e (fun z => nomatch z) h
  | flt y => obtain ⟨t,q⟩ := (show ∃ t,u = Value.float y t from rx); cases q; exact PySem.W.kia_one PySem.W.kitx_float I.kIn True.intro e (fun z => nomatch z) h
  | @lst a xs ea =>
    cases (show u = Value.ref a from rx)
    obtain ⟨_,_,n,_,h1⟩ := (show ObjOk X.prog X.w H s.heap a (.lst xs) from I.hok a _ ea)
    exact PySem.W.kia_one PySem.W.kitx_list I.kIn ⟨_,h1,rfl⟩ e (fun z => nomatch z) h
  | @frz a ob xs ea =>
    cases (show u = Value.ref a from rx)
    obtain ⟨_,_,_,n,_,h1⟩ := (show ObjOk X.prog X.w H s.heap a (.frz ob (.lst xs)) from I.hok a _ ea)
    exact PySem.W.kia_one PySem.W.kitx_list I.kIn ⟨_,h1,rfl⟩ e (fun z => nomatch z) h
  | @tup a xs ea =>
    cases (show u = Value.ref a from rx)
    obtain ⟨_,_,_,p⟩ := (show ObjOk X.prog X.w H s.heap a (.tup xs) from I.hok a _ ea)
    obtain ⟨o,h1,h2,_⟩ := p
    exact PySem.W.kia_one PySem.W.kitx_tuple I.kIn ⟨o,h1,h2⟩ e (fun z => nomatch z) h
  | @dK a kvs ea =>
    cases (show u = Value.ref a from rx)
    obtain ⟨_,_,vs,_,p⟩ := (show ObjOk X.prog X.w H s.heap a (.dK kvs) from I.hok a _ ea)
    obtain ⟨o,es,ep,h1,h2,_⟩ := p
    exact PySem.W.kia_one PySem.W.kitx_dict I.kIn ⟨o,h1,h2.1⟩ e (fun z => nomatch z) h
  | @dT a kvs ea =>
    cases (show u = Value.ref a from rx)
    obtain ⟨_,_,xs,_,o,es,ep,h1,h2,_⟩ := (show ObjOk X.prog X.w H s.heap a (.dT kvs) from I.hok a _ ea)
    exact PySem.W.kia_one PySem.W.kitx_dict I.kIn ⟨o,h1,h2.1⟩ e (fun z => nomatch z) h
  | @ins a C dx fs ea cl ha hn htk hm =>
    cases (show u = Value.ref a from rx)
    obtain ⟨mA,O,_⟩ := ins_get I.hok ea
    obtain ⟨od,J,_⟩ := O.look
    exact PySem.W.kia_one (PySem.W.kitx_own (cl.get _) cl.hd ha hn htk hm) I.kIn J e (fun z => nomatch z) h
end
end L2
namespace L2
open PySem PySem.Spec PyProof.Rows
structure Room (k : Nat) (A : Around) : Prop where
  hd : A.handled = none
  dp : A.depth + 3 * k + 5 < recursionLimit
  un : A.units + 16 * k + 200 < cLine
  gd : A.guards = some []
theorem Room.mono {j k : Nat} {A : Around} (r : Room k A) (h : j ≤ k) : Room j A := ⟨r.hd,by have := r.dp; omega,by have := r.un; omega,r.gd⟩
theorem Room.deeper {k : Nat} {A : Around} (r : Room (k + 1) A) (env : Env) : Room k (A.deeper env) :=
  ⟨r.hd,by have := r.dp; show A.depth + 1 + 3 * k + 5 < _; omega,by have := r.un; show A.units + 3 + 16 * k + 200 < _; omega,r.gd⟩
theorem make_depth {A : Around} {C : Addr} {us : List Value} {kw : List (Str × Value)} : (A.under (.builtin "type.__call__" ⟨.ref C :: us,kw⟩)).depth = A.depth + 1 := by
  first | rfl | simp [Around.under,Code.weight,Code.isCreation,Code.isGuard,Code.isCaller,Code.frames,Code.isFrame,guardIds]
theorem make_units {A : Around} {C : Addr} {us : List Value} {kw : List (Str × Value)} : (A.under (.builtin "type.__call__" ⟨.ref C :: us,kw⟩)).units = A.units + 1 := by
  first | rfl | simp [Around.under,Code.cUnits,Code.frames,Code.isFrame]
theorem make_guards {A : Around} {C : Addr} {us : List Value} {kw : List (Str × Value)} : (A.under (.builtin "type.__call__" ⟨.ref C :: us,kw⟩)).guards = A.guards := by
  have e : Code.guards (.builtin "type.__call__" ⟨.ref C :: us,kw⟩) = [] := by
    have : (Code.builtin "type.__call__" ⟨.ref C :: us,kw⟩).isGuard = false := by show guardIds.contains "type.__call__" = false; decide +kernel
    simp [Code.guards,this]
  unfold Around.under
  dsimp only
  rw [e]
  rfl
theorem Room.make {k : Nat} {A : Around} (r : Room (k + 1) A) (C : Addr) (us : List Value) (kw : List (Str × Value)) : Room k (A.under (.builtin "type.__call__" ⟨.ref C :: us,kw⟩)) :=
  ⟨r.hd,by have := r.dp; rw [make_depth]; omega,by have := r.un; rw [make_units]; omega,by rw [make_guards]; exact r.gd⟩
theorem Room.depth {k : Nat} {A : Around} (r : Room k A) : A.depth < recursionLimit := by have := r.dp; omega
theorem Room.units {k : Nat} {A : Around} (r : Room k A) : A.units + 64 < cLine := by have := r.un; omega
def tNil : TA := fun _ H Q => Q [] H
def tCons (ta : TE) (tr : TA) : TA := fun σ H Q => ta σ H fun x H1 => tr σ H1 fun xs H2 => Q (x :: xs) H2
section
variable {X : Cx} {e : Expr} {es : List Expr} {te : TE} {t : TA} {pos : Pos}
theorem pa_nil : PA X [] tNil := fun _ _ _ _ H Q I h => Calls.spliced_nil ⟨[],H,I,.nil,h⟩
theorem pa_cons (ha : PE X e te) (hr : PA X es t) (hs : starEach (e :: es) X.env = (false,eval e X.env) :: starEach es X.env := by rfl) : PA X (e :: es) (tCons te t) := by
  intro pos pins s σ H Q I h
  rw [hs]
  show wpAny _ _ (spliced ((false,eval e X.env) :: backTo pos (starEach es X.env))) _ _ s
  refine Calls.spliced_cons (thn (ha pins s σ H _ I h) fun u s1 ⟨x,H1,I1,r1,q1⟩ => ?_)
  exact thn (hr pos pins s1 σ H1 _ I1 q1) fun us s2 ⟨xs,H2,I2,r2,q2⟩ => ⟨x :: xs,H2,I2,.cons r1 r2,q2⟩
def tTup (t : TA) : TE := fun σ H Q => t σ H fun xs H1 => xs.length ≤ sizeLine ∧ ∀ p,H1 p = none → Q (.ref p) (upd H1 p (.tup xs))
def tLst (t : TA) : TE := fun σ H Q => t σ H fun xs H1 => xs.length ≤ sizeLine ∧ ∀ p,H1 p = none → Q (.ref p) (upd H1 p (.lst xs))
theorem pe_tup {x1} (h : PA X es t) : PE X (.Tuple es x1 pos) (tTup t) := by
  intro pins s σ H Q I hq
  refine wpAny_Tuple_spliced (thn (h pos pins s σ H _ I hq) fun us s1 ⟨xs,H1,I1,r,z,q⟩ => ⟨by rw [← r.length]; exact z,?_⟩)
  have hf : H1 s1.heap.objs.size = none := I1.hok.fresh (Nat.le_refl _)
  refine ⟨.ref s1.heap.objs.size,upd H1 s1.heap.objs.size (.tup xs),I1.laid (t' := s1.toks) (fun b u e => Heap.get?_push_of_some _ e) (Nat.le_refl _) ?_,rfl,q _ hf⟩
  exact ⟨z,us,r,⟨_,Heap.get?_push_size _ rfl,rfl,_,rfl⟩⟩
theorem pe_lst (h : PA X es t) : PE X (.List es pos) (tLst t) := by
  intro pins s σ H Q I hq
  refine wpAny_List_spliced (thn (h pos pins s σ H _ I hq) fun us s1 ⟨xs,H1,I1,r,z,q⟩ => ⟨by rw [← r.length]; exact z,?_⟩)
  have hf : H1 s1.heap.objs.size = none := I1.hok.fresh (Nat.le_refl _)
  refine ⟨.ref s1.heap.objs.size,upd H1 s1.heap.objs.size (.lst xs),I1.laid (t' := s1.toks) (fun b u e => Heap.get?_push_of_some _ e) (Nat.le_refl _) ?_,rfl,q _ hf⟩
  exact ⟨z,us,0,r,Heap.get?_push_size _ rfl⟩
end
abbrev Sp := List V → Hp → VK → XK → Prop
abbrev CXT := List Env → Hp → Shared → XK → Value → Shared → Prop
structure Env0 (P : Program) (w : World) (K : PySem.W.Frag) (mg : Str → Option Value) (base : Heap) (A : Around) (outer : List Env) (s : Shared) (H : Hp) : Prop where
  frames : A.frames = some outer
  mod : Mod K mg base
  bs : ∀ b o,base.get? b = some o → s.heap.get? b = some o ∧ H b = none
  bsz : base.objs.size ≤ s.heap.objs.size
  funs : s.heap.FunFrames base outer
  frf : ∀ b ∈ frs outer,H b = none
  hok : HOk P w H s.heap
  bare : AllBare s.gens
def CE (outer : List Env) (P : Program) (w : World) (H : Hp) (s : Shared) (Q : VK) (u : Value) (s' : Shared) : Prop :=
  ∃ v H',s'.os = s.os ∧ AllBare s'.gens ∧ Un (frs outer) [] H H' s.heap s'.heap ∧ HOk P w H' s'.heap ∧ RelV v u ∧ Q v H'
def CR (CX : CXT) (outer : List Env) (P : Program) (w : World) (H : Hp) (s : Shared) (Q : VK) (E : XK) (r : Result) (s' : Shared) : Prop :=
  match r with
  | .ok (.ret u) => CE outer P w H s Q u s'
  | .ok _ => False
  | .error e => CX outer H s E e s'
structure FnOk (P : Program) (w : World) (K : PySem.W.Frag) (mg : Str → Option Value) (base : Heap) (CX : CXT) (k : Nat) (f : Addr) (fd : FuncData) (ps : List Str) (sp : Sp) : Prop where
  len : ∀ vs H Q E,sp vs H Q E → vs.length = ps.length
  run : ∀ (A : Around) (outer : List Env) (s : Shared) (H : Hp) (args : Args) (us : List Value) (vs : List V) (Q : VK) (E : XK),Room k A → Env0 P w K mg base A outer s H → BindsTo s fd args (ps.zip us) → Vals vs us → sp vs H Q E →
    codeAny (model P w) A (.call (.ref f) args) (CR CX outer P w H s Q E) s
theorem Env0.make {P : Program} {w : World} {K : PySem.W.Frag} {mg : Str → Option Value} {base : Heap} {A : Around} {outer : List Env} {s : Shared} {H : Hp} (e : Env0 P w K mg base A outer s H) (C : Addr) (us : List Value) (kw : List (Str × Value)) :
    Env0 P w K mg base (A.under (.builtin "type.__call__" ⟨.ref C :: us,kw⟩)) outer s H := ⟨by first | exact e.frames | (simpa [Around.under,Code.envs,Code.isFrame,pushEnvs] using e.frames),e.mod,e.bs,e.bsz,e.funs,e.frf,e.hok,e.bare⟩
section
variable {X : Cx} {pins : List (Addr × Obj)} {σ : St} {H : Hp} {s s' : Shared}
theorem Inv.env0 (I : Inv X pins σ H s) : Env0 X.prog X.w X.K X.mg X.base X.A X.stack s H :=
  ⟨I.ok.frames,I.ok.mod,I.bs,Nat.le_trans I.ok.bsz I.sz,I.stack,I.stkFree,I.hok,I.bare⟩
theorem Inv.after {Q : VK} {u : Value} (I : Inv X pins σ H s) (h : CE X.stack X.prog X.w H s Q u s') : EP X pins σ Q u s' := by
  obtain ⟨v,H',os,bare,un,hok,r,q⟩ := h
  obtain ⟨hh,g,d,t,os'⟩ := s'
  obtain rfl : os' = s.os := os
  exact ⟨v,H',I.call (h' := hh) (g' := g) (d' := d) (t' := t) (ch := []) un hok bare (fun b z => absurd z (by simp)),r,q⟩
end
def tCall (sp : Sp) (dvs : List V) (E : XK) (t : TA) : TE := fun σ H Q => t σ H fun vs H1 => sp (vs ++ dvs) H1 Q E
def tMeth (C : Addr) (m : Str) (sp : Sp) (dvs : List V) (E : XK) (ta : TE) (t : TA) : TE := fun σ H Q => ta σ H fun x H1 => ∃ a dx fs,x = .ref a ∧ H1 a = some (.ins C dx fs) ∧ fs.lookup m = none ∧
  t σ H1 fun vs H2 => sp (x :: (vs ++ dvs)) H2 Q E
def tMake (C : Addr) (sp : Sp) (dvs : List V) (E : XK) (t : TA) : TE := fun σ H Q => t σ H fun vs H1 => ∀ x dx,H1 x = none → H1 dx = none → dx ≠ x →
  sp (.ref x :: (vs ++ dvs)) (upd (upd H1 dx (.own x)) x (.ins C dx [])) (fun v H2 => v = .non ∧ Q (.ref x) H2) E
def Binds (K : PySem.W.Frag) (fd : FuncData) (ps : List Str) (ds : List Value) : Prop :=
  ∀ (s : Shared) (us : List Value),K.In s.heap → (us ++ ds).length = ps.length → BindsTo s fd ⟨us,[]⟩ (ps.zip (us ++ ds))
theorem Binds.all {K : PySem.W.Frag} {fd : FuncData} {ps : List Str} (h : ∀ us : List Value,us.length = ps.length → bindArgs fd ⟨us,[]⟩ = pure (ps.zip us)) : Binds K fd ps [] := fun s us _ hl => by
  rw [List.append_nil] at hl ⊢
  exact .of_eq (h us hl)
def Passes (CX : CXT) (X : Cx) (E : XK) : Prop := ∀ (pins : List (Addr × Obj)) (σ : St) (H : Hp) (s : Shared) (e : Value) (s' : Shared),Inv X pins σ H s → CX X.stack H s E e s' → X.xe e s'
section
variable {X : Cx} {CX : CXT} {k : Nat} {f C : Addr} {fd : FuncData} {ps : List Str} {sp : Sp} {dvs : List V} {ds : List Value} {E : XK} {x m : Str} {p pos apos : Pos} {e o : Expr} {es : List Expr} {ta : TE} {t : TA}
theorem run_fn {pins : List (Addr × Obj)} {σ : St} {H : Hp} {s : Shared} {Q : VK} {us : List Value} {vs : List V} (F : FnOk X.prog X.w X.K X.mg X.base CX k f fd ps sp) (hr : Room k X.A) (hb : Binds X.K fd ps ds) (hd : Vals dvs ds) (hx : Passes CX X E)
    (I : Inv X pins σ H s) (r : Vals vs us) (h : sp (vs ++ dvs) H Q E) : wpAny (model X.prog X.w) X.A (call (.ref f) us) (EP X pins σ Q) X.xe s := by
  have r2 : Vals (vs ++ dvs) (us ++ ds) := r.append hd
  have hl : (us ++ ds).length = ps.length := by rw [← r2.length]; exact F.len _ _ _ _ h
  refine wpAny_call (codeAny_mono (F.run X.A X.stack s H ⟨us,[]⟩ (us ++ ds) (vs ++ dvs) Q E hr I.env0 (hb s us I.kIn hl) r2 h) fun r s' hq => ?_)
  cases r with
  | error e => exact hx pins σ H s e s' I hq
  | ok fl =>
    cases fl with
    | ret u => exact I.after hq
    | next => exact False.elim hq
    | brk => exact False.elim hq
    | cont => exact False.elim hq
theorem pe_call (F : FnOk X.prog X.w X.K X.mg X.base CX k f fd ps sp) (hr : Room k X.A) (hg : Gl X x) (hm : X.mg x = some (.ref f)) (hk : PySem.W.keepIn X.K (.ref f) = true) (hb : Binds X.K fd ps ds) (hd : Vals dvs ds) (hx : Passes CX X E)
    (ha : PA X (e :: es) t) (hdb : (x == ("__debug__" : Str)) = false := by decide) (he : starEach (e :: es) X.env = (false,eval e X.env) :: starEach es X.env := by rfl) (hpl : (backTo pos (starEach es X.env)).any (·.1) = false := by rfl) :
    PE X (.Call (.Name x p) (e :: es) [] pos) (tCall sp dvs E t) := by
  intro pins s σ H Q I h
  refine wpAny_Call_Name_kw (ld_glob I hg hm ?_ hdb)
  refine PySem.W.callWith_K (h₀ := X.base) I.ok.mod.kin hk (thn (ha pos pins s σ H _ I h) fun us s1 ⟨vs,H1,I1,r,q⟩ => ⟨I1.kIn,?_⟩) he hpl
  exact run_fn F hr hb hd hx I1 r q
theorem pe_meth {pl : Sem Bool} (he : PE X o ta) (c : Cls X.K C) (hm : Meth X.K C m f) (F : FnOk X.prog X.w X.K X.mg X.base CX k f fd ps sp) (hr : Room k X.A) (hb : Binds X.K fd ps ds) (hd : Vals dvs ds) (hx : Passes CX X E) (ha : PA X (e :: es) t)
    (hst : starEach (e :: es) X.env = (false,eval e X.env) :: starEach es X.env := by rfl) (hpl : (backTo pos (starEach es X.env)).any (·.1) = false := by rfl)
    (ht : eval (.Call (.Attribute o m apos) (e :: es) [] pos) X.env = (do
      let ov ← eval o X.env
      standAt apos.atName
      let (f,first) ← holding [ov] (getMethod ov m pl)
      callWith pos f first (backTo pos (starEach (e :: es) X.env)) (backToKw pos (keywordEach [] X.env))) := by rfl) :
    PE X (.Call (.Attribute o m apos) (e :: es) [] pos) (tMeth C m sp dvs E ta t) := by
  intro pins s σ H Q I h
  refine PySem.W.methodCall_KW (pl := pl) (thn (he pins s σ H _ I h) fun u s1 ⟨x,H1,I1,rx,a,dx,fs,ex,ea,l,q⟩ => ?_) ht
  subst ex
  obtain rfl : u = Value.ref a := rx
  refine getmeth_ok I1 ea c hm l ?_
  refine PySem.W.callWith_K (first := [.ref a]) (h₀ := X.base) I.ok.mod.kin hm.kp (thn (ha pos pins s1 σ H1 _ I1 q) fun us s2 ⟨vs,H2,I2,r,q2⟩ => ⟨I2.kIn,?_⟩) hst hpl
  exact run_fn (us := .ref a :: us) (vs := .ref a :: vs) F hr hb hd hx I2 (.cons rfl r) q2
theorem pe_meth0 {pl : Sem Bool} (he : PE X o ta) (c : Cls X.K C) (hm : Meth X.K C m f) (F : FnOk X.prog X.w X.K X.mg X.base CX k f fd ps sp) (hr : Room k X.A) (hb : Binds X.K fd ps ds) (hd : Vals dvs ds) (hx : Passes CX X E)
    (ht : eval (.Call (.Attribute o m apos) [] [] pos) X.env = (do
      let ov ← eval o X.env
      standAt apos.atName
      let (f,first) ← holding [ov] (getMethod ov m pl)
      callWith pos f first (backTo pos (starEach [] X.env)) (backToKw pos (keywordEach [] X.env))) := by rfl) :
    PE X (.Call (.Attribute o m apos) [] [] pos) (tMeth C m sp dvs E ta tNil) := by
  intro pins s σ H Q I h
  refine PySem.W.methodCall_KW (pl := pl) (thn (he pins s σ H _ I h) fun u s1 ⟨x,H1,I1,rx,a,dx,fs,ex,ea,l,q⟩ => ?_) ht
  subst ex
  obtain rfl : u = Value.ref a := rx
  refine getmeth_ok I1 ea c hm l ?_
  exact PySem.W.callWith_K0 (first := [.ref a]) I1.kIn hm.kp (run_fn (us := [.ref a]) (vs := [.ref a]) F hr hb hd hx I1 (.cons rfl .nil) q)
structure Mk (K : PySem.W.Frag) (C f : Addr) : Prop where
  makes : PySem.W.makesIn K C = true
  init : PySem.W.findIn K (.ref C) "__init__" = some (some (.ref f))
  fn : PySem.W.isFn K (.ref f) = true
  kp : PySem.W.keepIn K (.ref C) = true
theorem run_make {pins : List (Addr × Obj)} {σ : St} {H : Hp} {s : Shared} {Q : VK} {us : List Value} {vs : List V} (M : Mk X.K C f) (F : FnOk X.prog X.w X.K X.mg X.base CX k f fd ps sp) (hr : Room (k + 1) X.A) (hb : Binds X.K fd ps ds) (hd : Vals dvs ds)
    (hx : Passes CX X E) (I : Inv X pins σ H s) (r : Vals vs us)
    (h : ∀ x dx,H x = none → H dx = none → dx ≠ x → sp (.ref x :: (vs ++ dvs)) (upd (upd H dx (.own x)) x (.ins C dx [])) (fun v H2 => v = .non ∧ Q (.ref x) H2) E) :
    wpAny (model X.prog X.w) X.A (call (.ref C) us) (EP X pins σ Q) X.xe s := by
  have hq := h (s.heap.objs.size + 1) s.heap.objs.size (I.hok.fresh (Nat.le_succ _)) (I.hok.fresh (Nat.le_refl _)) (Nat.ne_of_lt (Nat.lt_succ_self _))
  have I2 := Inv.made (C := C) I
  have r2 : Vals (V.ref (s.heap.objs.size + 1) :: (vs ++ dvs)) (Value.ref (s.heap.objs.size + 1) :: (us ++ ds)) := .cons rfl (r.append hd)
  have hl : (Value.ref (s.heap.objs.size + 1) :: us ++ ds).length = ps.length := by
    have e := r2.length
    rw [F.len _ _ _ _ hq] at e
    exact e.symm
  refine wpAny_call (make_map (f := f) I.kIn M.makes M.init (beq_iff_eq.mp M.fn) (codeAny_mono (F.run _ X.stack _ _ ⟨Value.ref (s.heap.objs.size + 1) :: us,[]⟩ (Value.ref (s.heap.objs.size + 1) :: (us ++ ds)) _ _ E (hr.make C us [])
    (I2.env0.make C us []) (hb _ (Value.ref (s.heap.objs.size + 1) :: us) I2.kIn hl) r2 hq) fun r s' hq' => ?_))
  cases r with
  | error e => exact hx pins σ _ _ e s' I2 hq'
  | ok fl =>
    cases fl with
    | ret u =>
      obtain ⟨v,H',I3,rv,ev,q3⟩ := I2.after hq'
      subst ev
      exact ⟨rv,⟨V.ref (s.heap.objs.size + 1),H',I3,rfl,q3⟩⟩
    | next => exact False.elim hq'
    | brk => exact False.elim hq'
    | cont => exact False.elim hq'
theorem pe_make (M : Mk X.K C f) (F : FnOk X.prog X.w X.K X.mg X.base CX k f fd ps sp) (hr : Room (k + 1) X.A) (hg : Gl X x) (hm : X.mg x = some (.ref C)) (hb : Binds X.K fd ps ds) (hd : Vals dvs ds) (hx : Passes CX X E)
    (ha : PA X (e :: es) t) (hdb : (x == ("__debug__" : Str)) = false := by decide) (he : starEach (e :: es) X.env = (false,eval e X.env) :: starEach es X.env := by rfl) (hpl : (backTo pos (starEach es X.env)).any (·.1) = false := by rfl) :
    PE X (.Call (.Name x p) (e :: es) [] pos) (tMake C sp dvs E t) := by
  intro pins s σ H Q I h
  refine wpAny_Call_Name_kw (ld_glob I hg hm ?_ hdb)
  refine PySem.W.callWith_K (h₀ := X.base) I.ok.mod.kin M.kp (thn (ha pos pins s σ H _ I h) fun us s1 ⟨vs,H1,I1,r,q⟩ => ⟨I1.kIn,?_⟩) he hpl
  exact run_make M F hr hb hd hx I1 r q
end
section
variable {X : Cx} {CX : CXT} {k : Nat} {f C : Addr} {fd : FuncData} {ps ks : List Str} {sp : Sp} {E : XK} {x m : Str} {p pos apos kpos : Pos} {e o : Expr} {es : List Expr} {kws : List Keyword} {te ta : TE} {t tk : TA} {nm : Option Str}
structure KBinds (K : PySem.W.Frag) (fd : FuncData) (ps ks : List Str) (g : List Value → List Value → List Value) (gV : List V → List V → List V) : Prop where
  to : ∀ (s : Shared) (us ws : List Value),K.In s.heap → (g us ws).length = ps.length → BindsTo s fd ⟨us,ks.zip ws⟩ (ps.zip (g us ws))
  rel : ∀ {vs : List V} {us : List Value} {zs : List V} {ws : List Value},Vals vs us → Vals zs ws → Vals (gV vs zs) (g us ws)
variable {g : List Value → List Value → List Value} {gV : List V → List V → List V}
end
structure FnScope (N P : List Str) (sc : Scope) : Prop where
  kind : sc.kind = .function
  co : sc.isCoroutine = false
  gen : sc.isGenerator = false
  nd : N.Nodup
  pre : N.take P.length = P
  par : ∀ x ∈ P,sc.names.lookup x = some .local ∨ sc.names.lookup x = some .cell
  nofree : ∀ y ∈ sc.names,y.2 ≠ .free
theorem bindL_out {kindOf : Str → Option NameKind} {x : Str} : ∀ {binds : List (Str × Value)} {m : Str → Option Value},(∀ v,(x,v) ∉ binds) → bindL kindOf binds m x = m x
  | [],_,_ => rfl
  | (n,v) :: r,m,h => by
    unfold bindL
    rw [bindL_out fun w hw => h w (List.mem_cons_of_mem _ hw)]
    split
    · have : x ≠ n := by rintro rfl; exact h v List.mem_cons_self
      simp [this]
    · rfl
theorem bindC_out {kindOf : Str → Option NameKind} {x : Str} : ∀ {binds : List (Str × Value)} {m : Str → Option Value},(∀ v,(x,v) ∉ binds) → bindC kindOf binds m x = m x
  | [],_,_ => rfl
  | (n,v) :: r,m,h => by
    unfold bindC
    rw [bindC_out fun w hw => h w (List.mem_cons_of_mem _ hw)]
    split
    · rfl
    · have : x ≠ n := by rintro rfl; exact h v List.mem_cons_self
      simp [this]
theorem bindL_get {kindOf : Str → Option NameKind} {x : Str} {v : Value} : ∀ {P : List Str} {vs : List Value} {i : Nat} {m : Str → Option Value},P.Nodup → P[i]? = some x → vs[i]? = some v → kindOf x = some .local →
    bindL kindOf (P.zip vs) m x = some v
  | [],_,_,_,_,h,_,_ => by simp at h
  | _ :: _,[],_,_,_,_,h,_ => by simp at h
  | p :: P,w :: vs,0,m,nd,h1,h2,hk => by
    simp at h1 h2; subst h1; subst h2
    show bindL kindOf ((p,w) :: P.zip vs) m p = _
    unfold bindL
    rw [bindL_out fun v hv => (List.nodup_cons.mp nd).1 (List.of_mem_zip hv).1,if_pos hk]
    simp
  | p :: P,w :: vs,i + 1,m,nd,h1,h2,hk => by
    show bindL kindOf ((p,w) :: P.zip vs) m x = _
    unfold bindL
    exact bindL_get (i := i) (List.nodup_cons.mp nd).2 (by simpa using h1) (by simpa using h2) hk
theorem bindC_get {kindOf : Str → Option NameKind} {x : Str} {v : Value} : ∀ {P : List Str} {vs : List Value} {i : Nat} {m : Str → Option Value},P.Nodup → P[i]? = some x → vs[i]? = some v → kindOf x ≠ some .local →
    bindC kindOf (P.zip vs) m x = some v
  | [],_,_,_,_,h,_,_ => by simp at h
  | _ :: _,[],_,_,_,_,h,_ => by simp at h
  | p :: P,w :: vs,0,m,nd,h1,h2,hk => by
    simp at h1 h2; subst h1; subst h2
    show bindC kindOf ((p,w) :: P.zip vs) m p = _
    unfold bindC
    rw [bindC_out fun v hv => (List.nodup_cons.mp nd).1 (List.of_mem_zip hv).1,if_neg hk]
    simp
  | p :: P,w :: vs,i + 1,m,nd,h1,h2,hk => by
    show bindC kindOf ((p,w) :: P.zip vs) m x = _
    unfold bindC
    exact bindC_get (i := i) (List.nodup_cons.mp nd).2 (by simpa using h1) (by simpa using h2) hk
def start (N : List Str) (vs : List V) : St := vs.map some ++ List.replicate (N.length - vs.length) none
def cxOf (CX : CXT) (P : Program) (w : World) (K : PySem.W.Frag) (mg : Str → Option Value) (base : Heap) (N : List Str) (qual : Str) (scope : Scope) (f : Addr) (cd : Value) (A : Around) (outer : List Env) (s : Shared) (H : Hp) (E : XK) : Cx where
  prog := P
  w := w
  K := K
  mg := mg
  base := base
  A := A.deeper (envOfC qual scope s.heap.objs.size f cd)
  N := N
  s₀ := s
  H₀ := H
  env := envOfC qual scope s.heap.objs.size f cd
  outer := outer
  stack := envOfC qual scope s.heap.objs.size f cd :: outer
  ex := []
  calm := true
  fn := fun _ => true
  pn := []
  xe := fun e s' => wpAny (model P w) (A.deeper (envOfC qual scope s.heap.objs.size f cd)) (leaving (envOfC qual scope s.heap.objs.size f cd) e) (fun _ s'' => CX outer H s E e s'') (fun e' s'' => CX outer H s E e' s'') s'
theorem cell_has {sc : Scope} {n : Nat} {x : Str} (h : sc.names.lookup x = some .cell) : ∃ c,(cellsFrom n sc.names []).lookup x = some c := by
  have q := PySem.W.cellsFrom_some sc.names n [] (.inl h)
  exact Option.isSome_iff_exists.mp q
theorem inv_start {CX : CXT} {P : Program} {w : World} {K : PySem.W.Frag} {mg : Str → Option Value} {base : Heap} {N ps : List Str} {qual : Str} {scope : Scope} {f : Addr} {cd : Value} {A : Around} {outer : List Env} {s s1 : Shared} {H : Hp} {E : XK} {us : List Value} {vs : List V}
    (S : FnScope N ps scope) (hd : A.handled = none) (e0 : Env0 P w K mg base A outer s H) (hl : vs.length = ps.length) (r : Vals vs us)
    (x : InCallC s s.heap.objs.size (bindL (envOfC qual scope s.heap.objs.size f cd).kindOf (ps.zip us) fun _ => none) (cellsFrom (s.heap.objs.size + 1) scope.names []) (bindC (envOfC qual scope s.heap.objs.size f cd).kindOf (ps.zip us) fun _ => none) s1) :
    Inv (cxOf CX P w K mg base N qual scope f cd A outer s H E) [] (start N vs) H s1 := by
  have hpl : ps.length ≤ N.length := by have := congrArg List.length S.pre; rw [List.length_take] at this; omega
  obtain ⟨h1,tk,rfl,hk⟩ := x.done
  have noA : ∀ b : Addr,b ∉ (cxOf CX P w K mg base N qual scope f cd A outer s H E).ex := fun b z => absurd (show b ∈ ([] : List Addr) from z) (by simp)
  refine ⟨⟨e0.mod,S.kind,rfl,rfl,Nat.le_refl _,fun y z c h1 h2 => ?_,fun y hy => ?_,fun y c _ h => ?_,fun _ => hd,Around.frames_deeper e0.frames,.inr ⟨rfl,rfl⟩,fun b z => absurd z (noA b),e0.bs,e0.bsz,fun b _ _ => noA b,fun b z => absurd z (noA b),e0.funs,e0.frf⟩,
    rfl,e0.bare,Un.kept hk,⟨_,x.toInCall.ns,fun i y v h1 h2 h3 => ?_⟩,fun y c h => ⟨_,x.cell y c h⟩,e0.hok.fresh (Nat.le_refl _),fun y c h => ?_,fun p hp => absurd (show p ∈ ([] : List (Addr × Obj)) from hp) (by simp),e0.hok.kept hk,?_⟩
  · exact name_of_addr x.apart (PySem.mem_of_lookup h1) (PySem.mem_of_lookup h2)
  · have hy : scope.names.lookup y = some .cell ∨ scope.names.lookup y = some .free := hy
    rcases hy with hy | hy
    · exact cell_has hy
    · exact absurd rfl (S.nofree _ (PySem.mem_of_lookup hy))
  · exact Nat.le_of_lt (x.above y c (PySem.mem_of_lookup h))
  · have hi : i < vs.length := by
      unfold start at h2
      by_cases hi : i < vs.length
      · exact hi
      · rw [List.getElem?_append_right (by simpa using hi)] at h2
        rw [List.getElem?_replicate] at h2
        split at h2 <;> cases h2
    have ha : vs[i]? = some v := by
      unfold start at h2
      rw [List.getElem?_append_left (by simpa using hi),List.getElem?_map] at h2
      cases e : vs[i]? with
      | none => rw [e] at h2; cases h2
      | some a => rw [e] at h2; cases h2; rfl
    obtain ⟨u,hu,rv⟩ := r.get ha
    have hp : ps[i]? = some y := by
      rw [← S.pre,List.getElem?_take_of_lt (by omega)]; exact h1
    have ndP : ps.Nodup := by rw [← S.pre]; exact S.nd.sublist (List.take_sublist _ _)
    refine ⟨u,rv,?_⟩
    rcases S.par y (List.mem_of_getElem? hp) with k | k
    · exact .inl ⟨k,bindL_get ndP hp hu k⟩
    · obtain ⟨c,e⟩ := cell_has (n := s.heap.objs.size + 1) k
      refine .inr ⟨.inl k,c,e,?_⟩
      have q := x.cell y c e
      rw [bindC_get ndP hp hu (by show scope.names.lookup y ≠ _; rw [k]; decide)] at q
      exact q
  · exact e0.hok.fresh (Nat.le_of_lt (x.above y c (PySem.mem_of_lookup h)))
  · unfold start
    show _ = N.length
    rw [List.length_append,List.length_map,List.length_replicate]
    omega
theorem fn_of {CX : CXT} {P : Program} {w : World} {K : PySem.W.Frag} {mg : Str → Option Value} {base : Heap} {k : Nat} {f : Addr} {name qual : Str} {params : Arguments} {body : List Stmt} {scope : Scope} {dV kV doc pm cdv ct oc : Value} {an od : Option Addr}
    {osl : Array (Option Value)} {N ps : List Str} {sp : Sp} (lk : K.lookup f = some ⟨oc,od,.func (PySem.W.fnOf name qual params body scope dV kV doc pm an cdv ct),osl⟩) (hcd : PySem.W.codeIn K cdv qual = true) (S : FnScope N ps scope)
    (len : ∀ vs H Q E,sp vs H Q E → vs.length = ps.length)
    (hbody : ∀ (A : Around) (outer : List Env) (s : Shared) (H : Hp) (vs : List V) (Q : VK) (E : XK),Room k (A.deeper (envOfC qual scope s.heap.objs.size f cdv)) → sp vs H Q E →
      ∃ t,PSs (cxOf CX P w K mg base N qual scope f cdv A outer s H E) body t ∧ t { nx := fun _ H' => Q .non H',rt := Q } (start N vs) H) :
    FnOk P w K mg base CX (k + 1) f (PySem.W.fnOf name qual params body scope dV kV doc pm an cdv ct) ps sp := by
  refine ⟨len,fun A outer s H args us vs Q E hr e0 hb r hsp => ?_⟩
  have hl := len _ _ _ _ hsp
  have KX : K.In s.heap := e0.mod.kin.keeps fun b o e => (e0.bs b o e).1
  have lim : s.heap.NoLimit := e0.mod.nolimit.keeps fun b o e => (e0.bs b o e).1
  have hkind : ∀ y ∈ ps.zip us,scope.names.lookup y.1 = some .local ∨ (scope.names.lookup y.1 = some .cell ∧ ((cellsFrom (s.heap.objs.size + 1) scope.names []).lookup y.1).isSome = true) := fun ⟨n,v⟩ hy => by
    rcases S.par n (List.of_mem_zip hy).1 with q | q
    · exact .inl q
    · exact .inr ⟨q,PySem.W.cellsFrom_some _ _ _ (.inl q)⟩
  refine codeAny_call_function hr.depth (KX _ _ lk) rfl S.co S.gen rfl (PySem.W.codeRec_of KX hcd) (hb _ _ _ _ ?_)
  refine wpAny_newFunctionEnv_cells S.kind hkind fun env he s1 x => ?_
  subst he
  refine ⟨lim.keeps x.toInCall.keep,codeAny_func ?_⟩
  obtain ⟨t,ht,hq⟩ := hbody A outer s H vs Q E (hr.deeper _) hsp
  have I : Inv (cxOf CX P w K mg base N qual scope f cdv A outer s H E) [] (start N vs) H s1 := inv_start S hr.hd e0 hl r x
  refine wpAny_mono (ht [] s1 (start N vs) H _ I hq) (fun fl s' hs => ?_) fun e s' hs => hs
  have fin : ∀ {σ' : St} {H' : Hp} {v : V} {u : Value},Inv (cxOf CX P w K mg base N qual scope f cdv A outer s H E) [] σ' H' s' → RelV v u → Q v H' → CE outer P w H s Q u s' :=
    fun {σ' H' v u} J rv q => ⟨v,H',J.os,J.bare,J.base,J.hok,rv,q⟩
  cases fl with
  | ret u =>
    obtain ⟨v,σ',H',J,rv,q⟩ := hs
    exact fin J rv q
  | next =>
    obtain ⟨σ',H',J,q⟩ := hs
    exact fin (v := V.non) (u := Value.none) J rfl q
  | brk =>
    obtain ⟨_,_,_,q⟩ := hs
    exact False.elim q
  | cont =>
    obtain ⟨_,_,_,q⟩ := hs
    exact False.elim q
end L2
namespace L2
open PySem PySem.Spec PyProof.Rows
section
variable {X : Cx} {x : Str} {p pos : Pos} {e : Expr} {es : List Expr} {t : TA} {id T : String} {r : List V → Hp → VK → Prop}
def tCB (r : List V → Hp → VK → Prop) (t : TA) : TE := fun σ H Q => t σ H fun vs H1 => r vs H1 Q
theorem pe_callB (hc : CallR X (.builtin id) r) (hg : Gl X x) (hm : X.mg x = none) (hv : bootBuiltins x = some (.builtin id)) (ha : PA X (e :: es) t) (hn : x ≠ "__name__" := by decide) (hdb : (x == ("__debug__" : Str)) = false := by decide)
    (he : starEach (e :: es) X.env = (false,eval e X.env) :: starEach es X.env := by rfl) (hpl : (backTo pos (starEach es X.env)).any (·.1) = false := by rfl) : PE X (.Call (.Name x p) (e :: es) [] pos) (tCB r t) := by
  intro pins s σ H Q I h
  refine wpAny_Call_Name_kw (ld_blt I hg hm hv ?_ hn hdb)
  exact PyProof.Rows.callWith_builtin1 (thn (ha pos pins s σ H _ I h) fun us s1 ⟨vs,H1,I1,r1,q1⟩ => hc pins s1 σ H1 vs us Q I1 r1 q1) he hpl
theorem pe_callTy (hc : CallR X (.type T) r) (hg : Gl X x) (hm : X.mg x = none) (hv : bootBuiltins x = some (.type T)) (ha : PA X (e :: es) t) (hn : x ≠ "__name__" := by decide) (hdb : (x == ("__debug__" : Str)) = false := by decide)
    (he : starEach (e :: es) X.env = (false,eval e X.env) :: starEach es X.env := by rfl) (hpl : (backTo pos (starEach es X.env)).any (·.1) = false := by rfl) : PE X (.Call (.Name x p) (e :: es) [] pos) (tCB r t) := by
  intro pins s σ H Q I h
  refine wpAny_Call_Name_kw (ld_blt I hg hm hv ?_ hn hdb)
  exact PyProof.Rows.callWith_type1 (thn (ha pos pins s σ H _ I h) fun us s1 ⟨vs,H1,I1,r1,q1⟩ => hc pins s1 σ H1 vs us Q I1 r1 q1) he hpl
end
end L2
namespace HT
open PySem PyProof.Rows
section
open PySem.SeqAt
open PySem.AutoSeq1 (wpAny_loadPart')
open PySem.MeetsSeq PySem.MeetsSeq2 PySem.MeetsSeq3
end
section
variable {prog : Program} {w : World} {A : Around} {E : Value → Shared → Prop} {s : Shared}
theorem cat_tup {t b : Addr} {vs ws : List Value} {Q : Value → Shared → Prop} (ht : IsTup s.heap t vs.toArray) (hb : IsTup s.heap b ws.toArray) (hv : vs ≠ [])
    (h1 : ws = [] → Q (.ref t) s) (h2 : ws ≠ [] → Q (.ref s.heap.objs.size) { s with heap := s.heap.push { cls := .type "tuple",data := .seq (vs ++ ws).toArray } })
    (hsz : vs.length + ws.length ≤ sizeLine) : wpAny (model prog w) A (binaryOp .Add (.ref t) (.ref b)) Q E s := by
  obtain ⟨⟨cls,dd,data,sl⟩,ho,hc,n,hd⟩ := id ht
  obtain ⟨⟨cls2,dd2,data2,sl2⟩,ho2,hc2,n2,hd2⟩ := id hb
  simp only at hc hd hc2 hd2
  subst hc hd hc2 hd2
  have e : vs.toArray ++ ws.toArray = (vs ++ ws).toArray := by simp
  by_cases hw : ws = []
  · exact concat_meets ⟨_,ho,rfl⟩ ⟨_,ho2,rfl⟩ noFill_tuple_add seq_tuple_add PySem.F.slot_tuple_add PySem.F.entry_tuple_add (PySem.F.args_tuple_add_2 _ _)
      (tuple_addW1 t b vs.toArray ws.toArray n n2 dd dd2 sl sl2 (by simpa using hv) (by simp [hw])) ⟨ho,ho2,h1 hw⟩
  · refine concat_meets ⟨_,ho,rfl⟩ ⟨_,ho2,rfl⟩ noFill_tuple_add seq_tuple_add PySem.F.slot_tuple_add PySem.F.entry_tuple_add (PySem.F.args_tuple_add_2 _ _)
      (tuple_addW2 t b vs.toArray ws.toArray n n2 dd dd2 sl sl2 (by simpa using hv) (by simpa using hw) (by rw [List.size_toArray,List.size_toArray]; exact hsz)) ⟨ho,ho2,?_⟩
    rw [e]
    exact h2 hw
def sIx (n d : Nat) : Option Int → Nat
  | none => d
  | some v => if v < 0 then (v + (n : Int)).toNat else min v.toNat n
end
end HT
namespace L2
open PySem PySem.Spec PyProof.Rows
abbrev TO := St → Hp → (Option Int → Hp → Prop) → Prop
def PO (X : Cx) (e : Option Expr) (t : TO) : Prop :=
  ∀ (pins : List (Addr × Obj)) (s : Shared) (σ : St) (H : Hp) (Q : Option Int → Hp → Prop),Inv X pins σ H s → t σ H Q →
    wpAny (model X.prog X.w) X.A (evalPart e X.env) (fun u s' => ∃ o H',Inv X pins σ H' s' ∧ IsPart u o ∧ Q o H') X.xe s
def tNoPart : TO := fun _ H Q => Q none H
def tPart (t : TE) : TO := fun σ H Q => t σ H fun x H1 => ∃ i,x = .int i ∧ Q (some i) H1
section
variable {X : Cx} {e : Expr} {te : TE} {lo hi : Option Expr} {tl th : TO} {pos p2 : Pos}
theorem po_none : PO X none tNoPart := by
  intro pins s σ H Q I h
  rw [evalPart_none]
  exact wpAny_pure ⟨none,H,I,.none,h⟩
theorem po_some (h : PE X e te) : PO X (some e) (tPart te) := by
  intro pins s σ H Q I hw
  rw [evalPart_some]
  refine thn (h pins s σ H _ I hw) fun u s1 ⟨x,H1,I1,r1,q1⟩ => ?_
  obtain ⟨i,rfl,q⟩ := q1
  obtain ⟨t,rfl⟩ := r1
  exact ⟨some i,H1,I1,.int i t,q⟩
def SlR (X : Cx) (r : V → Option Int → Option Int → Hp → VK → Prop) : Prop :=
  ∀ (pins : List (Addr × Obj)) (s : Shared) (σ : St) (H : Hp) (x : V) (v vl vu : Value) (lo hi : Option Int) (sl : Addr) (Q : VK),Inv X pins σ H s → RelV x v → s.heap.IsSliceOf sl vl vu .none → IsPart vl lo → IsPart vu hi → r x lo hi H Q →
    ∃ T id,typeLookup (.type T) "__getitem__" = pure (some (.builtin id)) ∧ s.TypeIs v T ∧ wpAny (model X.prog X.w) X.A (getItem v (.ref sl)) (EP X pins σ Q) X.xe s
def tSl (r : V → Option Int → Option Int → Hp → VK → Prop) (te : TE) (tl th : TO) : TE := fun σ H Q => te σ H fun x H1 => tl σ H1 fun l H2 => th σ H2 fun u H3 => r x l u H3 Q
theorem pe_slice {r : V → Option Int → Option Int → Hp → VK → Prop} (hr : SlR X r) (he : PE X e te) (hl : PO X lo tl) (hu : PO X hi th) : PE X (.Subscript e (.Slice lo hi none p2) pos) (tSl r te tl th) := by
  intro pins s σ H Q I h
  refine Subscript_ (thn (he pins s σ H _ I h) fun v s1 ⟨x,H1,I1,r1,q1⟩ => ?_)
  refine wpAny_Slice (thn (hl pins s1 σ H1 _ I1 q1) fun vl s2 ⟨l,H2,I2,pl,q2⟩ => thn (hu pins s2 σ H2 _ I2 q2) fun vu s3 ⟨u,H3,I3,pu,q3⟩ => ?_)
  rw [evalPart_none]
  refine wpAny_pure ?_
  have I4 : Inv X pins σ H3 { s3 with heap := s3.heap.push { cls := .type "slice", data := .fields #[vl, vu, .none] } } := I3.kept (t' := s3.toks) fun b ob q => Heap.get?_push_of_some _ q
  obtain ⟨T,id,hT,ht,hg⟩ := hr pins { s3 with heap := s3.heap.push { cls := .type "slice",data := .fields #[vl,vu,.none] } } σ H3 x v vl vu l u s3.heap.objs.size Q I4 r1 (Heap.IsSliceOf.new ..) pl pu q3
  show wpAny (model X.prog X.w) X.A (subscriptTail e (.Slice lo hi none p2) v (.ref s3.heap.objs.size)) (EP X pins σ Q) X.xe { s3 with heap := s3.heap.push { cls := .type "slice",data := .fields #[vl,vu,.none] } }
  exact tail_any (ops := [.ref s3.heap.objs.size,v]) ht hT hg (by with_unfolding_all rfl)
def cutV (xs : List V) (lo hi : Option Int) : List V := (xs.drop (HT.sIx xs.length 0 lo)).take (HT.sIx xs.length xs.length hi - HT.sIx xs.length 0 lo)
theorem cutV_length (xs : List V) (lo hi : Option Int) : (cutV xs lo hi).length ≤ xs.length := by
  unfold cutV
  rw [List.length_take,List.length_drop]
  omega
def rCatT (K : PySem.W.Frag) : R2 := fun x y H Q => ∃ a b xs ys,x = .ref a ∧ y = .ref b ∧ SqT K H a xs ∧ SqT K H b ys ∧ xs ≠ [] ∧ xs.length + ys.length ≤ sizeLine ∧
  (ys = [] → Q (.ref a) H) ∧ (ys ≠ [] → ∀ p,H p = none → Q (.ref p) (upd H p (.tup (xs ++ ys))))
theorem Vals.nil_iff {xs : List V} {us : List Value} (r : Vals xs us) : us = [] ↔ xs = [] := by
  cases r with
  | nil => simp
  | cons _ _ => simp
theorem op_catT : OpR X (binaryOp .Add) (rCatT X.K) := by
  intro pins s σ H x y v u Q I rx ry h
  obtain ⟨a,b,xs,ys,rfl,rfl,ha,hb,hx,hz,q1,q2⟩ := h
  cases rx
  cases ry
  obtain ⟨its,r1,p1,_⟩ := I.tuple ha
  obtain ⟨its2,r2,p2,_⟩ := I.tuple hb
  refine HT.cat_tup p1 p2 (fun z => hx (r1.nil_iff.mp z)) (fun z => ⟨.ref a,H,I,rfl,q1 (r2.nil_iff.mp z)⟩) (fun z => ?_) (by rw [← r1.length,← r2.length]; exact hz)
  refine ⟨.ref s.heap.objs.size,_,I.laid (t' := s.toks) (o := .tup (xs ++ ys)) (fun b ob q => Heap.get?_push_of_some _ q) (Nat.le_refl _) ?_,rfl,q2 (fun w => z (r2.nil_iff.mpr w)) _ (I.hok.fresh (Nat.le_refl _))⟩
  exact ⟨by rw [List.length_append]; exact hz,_,r1.append r2,IsTup.new _ _⟩
end
end L2
namespace L2
open PySem PySem.Spec PyProof.Rows
def ixN (n : Nat) (i : Int) : Option Nat := if 0 ≤ i then (if i < n then some i.toNat else none) else if -(n : Int) ≤ i then some (i + n).toNat else none
def atI {α : Type} (xs : List α) (i : Int) : Option α := (ixN xs.length i).bind fun j => xs[j]?
theorem ixN_seq {n : Nat} {i : Int} {j : Nat} (h : ixN n i = some j) : seqIndex? i n = some j ∧ j < n ∧ -(n : Int) ≤ i ∧ i < n := by
  unfold ixN at h
  by_cases h0 : 0 ≤ i
  · rw [if_pos h0] at h
    by_cases h1 : i < n
    · rw [if_pos h1] at h
      have e : i.toNat = j := Option.some.inj h
      exact ⟨by rw [seqIndex_of h0 h1,e],by omega,by omega,h1⟩
    · rw [if_neg h1] at h; cases h
  · rw [if_neg h0] at h
    by_cases h1 : -(n : Int) ≤ i
    · rw [if_pos h1] at h
      have e : (i + n).toNat = j := Option.some.inj h
      exact ⟨by rw [seqIndex_neg (by omega) h1,e],by omega,h1,by omega⟩
    · rw [if_neg h1] at h; cases h
theorem atI_get {α : Type} {xs : List α} {i : Int} {v : α} (h : atI xs i = some v) : ∃ j,seqIndex? i xs.length = some j ∧ xs[j]? = some v ∧ j < xs.length ∧ -(xs.length : Int) ≤ i ∧ i < xs.length := by
  unfold atI at h
  cases e : ixN xs.length i with
  | none => rw [e] at h; cases h
  | some j =>
    rw [e] at h
    obtain ⟨h1,h2,h3,h4⟩ := ixN_seq e
    exact ⟨j,h1,h,h2,h3,h4⟩
theorem atI_nat {α : Type} {xs : List α} {j : Nat} {v : α} (h : xs[j]? = some v) : atI xs (j : Int) = some v := by
  have hj : j < xs.length := (List.getElem?_eq_some_iff.mp h).1
  have e : ixN xs.length (j : Int) = some j := by
    unfold ixN
    rw [if_pos (by omega),if_pos (by omega)]; simp
  unfold atI; rw [e]; exact h
def PlainIx (b : Expr) : Prop := ∀ o i,subscripted b false o i = operate [o,i] (getItem o i)
def IxR (X : Cx) (r : R2) : Prop :=
  ∀ (value slice : Expr) (pins : List (Addr × Obj)) (s : Shared) (σ : St) (H : Hp) (x y : V) (v u : Value) (Q : VK),Inv X pins σ H s → RelV x v → RelV y u → r x y H Q →
    subscripted slice false v u = operate [v,u] (getItem v u) → wpAny (model X.prog X.w) X.A (subscriptTail value slice v u) (EP X pins σ Q) X.xe s
def MtR (X : Cx) (id : String) (r : V → List V → Hp → VK → Prop) : Prop :=
  ∀ (pins : List (Addr × Obj)) (s : Shared) (σ : St) (H : Hp) (x : V) (xs : List V) (v : Value) (us : List Value) (Q : VK),Inv X pins σ H s → RelV x v → Vals xs us → r x xs H Q →
    wpAny (model X.prog X.w) X.A (call (.builtin id) (v :: us)) (EP X pins σ Q) X.xe s
section
variable {X : Cx} {a b : Expr} {ta tb : TE} {pos : Pos}
theorem pe_ix {r : R2} (hr : IxR X r) (ha : PE X a ta) (hb : PE X b tb) (hs : PlainIx b) : PE X (.Subscript a b pos) (tOp r ta tb) := by
  intro pins s σ H Q I h
  exact Subscript_ (binT ha hb I h fun v u s2 x y H2 I2 rx ry q => hr a b pins s2 σ H2 x y v u Q I2 rx ry q (hs _ _))
def rIxL (K : PySem.W.Frag) : R2 := fun x y H Q => ∃ p xs i v,x = .ref p ∧ y = .int i ∧ SqL K H p xs ∧ atI xs i = some v ∧ Q v H
def rIxT (K : PySem.W.Frag) : R2 := fun x y H Q => ∃ p xs i v,x = .ref p ∧ y = .int i ∧ SqT K H p xs ∧ atI xs i = some v ∧ Q v H
theorem ix_list : IxR X (rIxL X.K) := by
  intro value slice pins s σ H x y v u Q I rx ry h hs
  obtain ⟨p,xs,i,z,rfl,rfl,hq,he,q⟩ := h
  cases rx
  obtain ⟨t,rfl⟩ := ry
  obtain ⟨its,r,pl,hz⟩ := I.list hq
  obtain ⟨j,h1,h2,h3,h4,h5⟩ := atI_get he
  obtain ⟨w,ew,rw'⟩ := r.get h2
  have hl := r.length
  have hn := line63
  have fin : EP X pins σ Q w s := ⟨z,H,I,rw',q⟩
  by_cases h0 : 0 ≤ i
  · have hj : i.toNat = j := by
      rw [seqIndex_of h0 h5] at h1
      exact Option.some.inj h1
    exact item_listR pl.isList h0 (by omega) (by rw [hj]; simpa using ew) fin hs
  · have hj : (i + (its.toArray.size : Int)).toNat = j := by
      rw [seqIndex_neg (by omega) h4] at h1
      rw [List.size_toArray,← hl]
      exact Option.some.inj h1
    exact subscriptTail_builtinR (x := w) pl.isList.typeIs slot_list_getitem.lookup
      (wpAny_getItem_list_neg (Q := fun r s' => r = w ∧ EP X pins σ Q r s') pl.isList (by omega) (by rw [List.size_toArray] <;> omega) (by omega) (by rw [hj]; simpa using ew) ⟨rfl,fin⟩) hs
theorem ix_tup : IxR X (rIxT X.K) := by
  intro value slice pins s σ H x y v u Q I rx ry h hs
  obtain ⟨p,xs,i,z,rfl,rfl,hq,he,q⟩ := h
  cases rx
  obtain ⟨t,rfl⟩ := ry
  obtain ⟨its,r,pl,hz⟩ := I.tuple hq
  obtain ⟨j,h1,h2,h3,h4,h5⟩ := atI_get he
  obtain ⟨w,ew,rw'⟩ := r.get h2
  have hl := r.length
  have hn := line63
  have fin : EP X pins σ Q w s := ⟨z,H,I,rw',q⟩
  exact subscriptTail_builtinR (x := w) pl.typeIs slot_tuple_getitem.lookup
    (getItem_tuple (j := j) (Q := fun r s' => r = w ∧ EP X pins σ Q r s') pl (by omega) (by omega) (by rw [List.size_toArray,← hl]; exact h1) (by simpa using ew) ⟨rfl,fin⟩) hs
theorem mapSeq_set (its : List Value) (n j : Nat) (u : Value) : Obj.mapSeq (·.setIfInBounds j u) { cls := .type "list",data := .seq its.toArray n } = { cls := .type "list",data := .seq (its.set j u).toArray n } := by
  simp [Obj.mapSeq]
theorem Inv.lst {pins : List (Addr × Obj)} {σ : St} {H : Hp} {s : Shared} {p : Addr} {xs : List V} (I : Inv X pins σ H s) (h : H p = some (.lst xs)) :
    ∃ (its : List Value) (n : Nat),Vals xs its ∧ s.heap.get? p = some { cls := .type "list",data := .seq its.toArray n } ∧ xs.length ≤ sizeLine := by
  obtain ⟨z,its,n,r,e⟩ := I.hok p _ h
  exact ⟨its,n,r,e,z⟩
theorem Inv.lstUpd {pins : List (Addr × Obj)} {σ : St} {H : Hp} {s : Shared} {p : Addr} {xs ys : List V} {its its' : List Value} {n n' : Nat} {f : Obj → Obj} (I : Inv X pins σ H s) (h : H p = some (.lst xs))
    (ho : s.heap.get? p = some { cls := .type "list", data := .seq its.toArray n }) (hf : f { cls := .type "list", data := .seq its.toArray n } = { cls := .type "list", data := .seq its'.toArray n' }) (r : Vals ys its') (hz : ys.length ≤ sizeLine) (t : Nat) :
    Inv X pins σ (upd H p (.lst ys)) { s with heap := s.heap.update p f,toks := t } := by
  have e : (s.heap.update p f).get? p = some { cls := .type "list", data := .seq its'.toArray n' } := by
    rw [Heap.get?_update_self f ho (by rw [hf] <;> rfl),hf]
  refine I.write (x := p) (e := p) (by rw [h]; trivial) (.inl rfl) (fun b u hb q => (Heap.get?_update_other _ _ (Ne.symm hb)).trans q) ⟨_,e⟩ ?_
  exact ⟨hz,its',n',r,e⟩
def rSetL : V → V → V → Hp → (Hp → Prop) → Prop := fun o i v H Q => ∃ p xs k j,o = .ref p ∧ i = .int k ∧ H p = some (.lst xs) ∧ ixN xs.length k = some j ∧ Q (upd H p (.lst (xs.set j v)))
theorem set_list : PSet X rSetL := by
  intro pins s σ H o i v ov iv u Q I ro ri rv h
  obtain ⟨p,xs,k,j,rfl,rfl,hp,hj,q⟩ := h
  cases ro
  obtain ⟨t,rfl⟩ := ri
  obtain ⟨its,n,r,ho,hz⟩ := I.lst hp
  obtain ⟨h1,h2,h3,h4⟩ := ixN_seq hj
  have hl := r.length
  have hn := line63
  have I' : Inv X pins σ (upd H p (.lst (xs.set j v))) { s with heap := s.heap.update p (Obj.mapSeq (·.setIfInBounds j u)) } :=
    I.lstUpd hp ho (mapSeq_set its n j u) (r.set rv j) (by rw [List.length_set]; exact hz) s.toks
  by_cases h0 : 0 ≤ k
  · have hk : k.toNat = j := by
      rw [seqIndex_of h0 h4] at h1
      exact Option.some.inj h1
    exact PySem.W.ki_setAt ho h0 (by omega) (by rw [List.size_toArray,← hl]; exact h4) (by rw [hk]; exact ⟨_,I',q⟩)
  · have hk : (k + (its.toArray.size : Int)).toNat = j := by
      rw [seqIndex_neg (by omega) h3] at h1
      rw [List.size_toArray,← hl]
      exact Option.some.inj h1
    exact PySem.W.ki_setBack ho (by omega) (by rw [List.size_toArray,← hl]; exact h3) (by omega) (by rw [hk]; exact ⟨_,I',q⟩)
theorem slice_bounds (lo hi : Option Int) (n : Nat) : (sliceBounds lo hi none n).1 = ((HT.sIx n 0 lo : Nat) : Int) ∧ (sliceBounds lo hi none n).2.1 = ((HT.sIx n n hi : Nat) : Int) ∧ (sliceBounds lo hi none n).2.2 = 1 := by
  refine ⟨?_,?_,rfl⟩
  · cases lo with
    | none => simp [sliceBounds,HT.sIx]
    | some i =>
      simp only [sliceBounds,HT.sIx,Option.getD_none,show (1 : Int) > 0 by decide,if_true]
      by_cases h : i < 0
      · simp only [h,if_true] <;> omega
      · simp only [h,if_false] <;> omega
  · cases hi with
    | none => simp [sliceBounds,HT.sIx]
    | some i =>
      simp only [sliceBounds,HT.sIx,Option.getD_none,show (1 : Int) > 0 by decide,if_true]
      by_cases h : i < 0
      · simp only [h,if_true] <;> omega
      · simp only [h,if_false] <;> omega
theorem slicePick_cut (its : List Value) (lo hi : Option Int) : slicePick its.toArray lo hi none = ((its.drop (HT.sIx its.length 0 lo)).take (HT.sIx its.length its.length hi - HT.sIx its.length 0 lo)).toArray := by
  obtain ⟨h1,h2,h3⟩ := slice_bounds lo hi its.toArray.size
  unfold slicePick
  rw [h1,h2,h3]
  simp only [sliceRange_one,pick_run,List.size_toArray] <;> rfl
def rSlL (K : PySem.W.Frag) : V → Option Int → Option Int → Hp → VK → Prop := fun x lo hi H Q => ∃ a xs,x = .ref a ∧ SqL K H a xs ∧ ∀ p,H p = none → Q (.ref p) (upd H p (.lst (cutV xs lo hi)))
theorem sl_list : SlR X (rSlL X.K) := by
  intro pins s σ H x v vl vu lo hi sl Q I rx hs pl pu h
  obtain ⟨a,xs,rfl,hx,q⟩ := h
  cases rx
  obtain ⟨its,r,ht,hz⟩ := I.list hx
  have hlen := r.length
  refine ⟨"list",_,slot_list_getitem.lookup,ht.isList.typeIs,?_⟩
  refine wpAny_getItem_list_slice ht.isList hs pl pu .none (by simp) ?_ (by rw [List.size_toArray] <;> omega)
  rw [slicePick_cut,← hlen]
  refine ⟨.ref s.heap.objs.size,_,I.laid (t' := s.toks) (o := .lst (cutV xs lo hi)) (fun b ob q => Heap.get?_push_of_some _ q) (Nat.le_refl _) ?_,rfl,q _ (I.hok.fresh (Nat.le_refl _))⟩
  exact ⟨Nat.le_trans (cutV_length xs lo hi) hz,_,0,(r.drop (HT.sIx xs.length 0 lo)).take (HT.sIx xs.length xs.length hi - HT.sIx xs.length 0 lo),Heap.get?_push_size _ rfl⟩
def flatV : V → Bool
  | .non => true
  | .bl _ => true
  | .int _ => true
  | .str _ => true
  | _ => false
def eqV : V → V → Bool
  | .non,.non => true
  | .bl a,.bl b => a == b
  | .bl a,.int b => (if a then 1 else 0) == b
  | .int a,.bl b => a == (if b then 1 else 0)
  | .int a,.int b => a == b
  | .str a,.str b => a == b
  | _,_ => false
theorem eqAt_V {A : Around} {s : Shared} {y x : V} {u v : Value} (ry : RelV y u) (rx : RelV x v) (fy : flatV y = true) (fx : flatV x = true) : SeqAt.EqAt A s u v (eqV y x) := by
  cases y with
  | non =>
    cases ry
    cases x with
    | non => cases rx; exact SeqAt.EqAt.same _
    | bl b => cases rx; exact SeqAt.EqAt.none_bool b
    | int b => obtain ⟨t,rfl⟩ := rx; exact SeqAt.EqAt.none_int b t
    | str b => obtain ⟨t,rfl⟩ := rx; exact SeqAt.EqAt.none_str b t
    | _ => exact absurd (show false = true from fx) Bool.false_ne_true
  | bl a =>
    cases ry
    cases x with
    | non => cases rx; exact SeqAt.EqAt.bool_none a
    | bl b => cases rx; exact SeqAt.EqAt.bool_bool a b
    | int b => obtain ⟨t,rfl⟩ := rx; exact SeqAt.EqAt.bool_int a b t
    | str b => obtain ⟨t,rfl⟩ := rx; exact SeqAt.EqAt.bool_str a b t
    | _ => exact absurd (show false = true from fx) Bool.false_ne_true
  | int a =>
    obtain ⟨t',rfl⟩ := ry
    cases x with
    | non => cases rx; exact SeqAt.EqAt.int_none a t'
    | bl b => cases rx; exact SeqAt.EqAt.int_bool a t' b
    | int b => obtain ⟨t,rfl⟩ := rx; exact SeqAt.EqAt.int_int a t' b t
    | str b => obtain ⟨t,rfl⟩ := rx; exact SeqAt.EqAt.int_str a t' b t
    | _ => exact absurd (show false = true from fx) Bool.false_ne_true
  | str a =>
    obtain ⟨t',rfl⟩ := ry
    cases x with
    | non => cases rx; exact SeqAt.EqAt.str_none a t'
    | bl b => cases rx; exact SeqAt.EqAt.str_bool a t' b
    | int b => obtain ⟨t,rfl⟩ := rx; exact SeqAt.EqAt.str_int a t' b t
    | str b => obtain ⟨t,rfl⟩ := rx; exact SeqAt.EqAt.str_str a t' b t
    | _ => exact absurd (show false = true from fx) Bool.false_ne_true
  | _ => exact absurd (show false = true from fy) Bool.false_ne_true
def eqU (x : V) (u : Value) : Bool := match u with
  | .none => eqV .non x
  | .bool b => eqV (.bl b) x
  | .int i _ => eqV (.int i) x
  | .str z _ => eqV (.str z) x
  | _ => false
theorem eqU_of {x y : V} {u : Value} (r : RelV y u) (f : flatV y = true) : eqU x u = eqV y x := by
  cases y with
  | non => cases r; rfl
  | bl b => cases r; rfl
  | int i => obtain ⟨t,rfl⟩ := r; rfl
  | str z => obtain ⟨t,rfl⟩ := r; rfl
  | _ => exact absurd (show false = true from f) Bool.false_ne_true
theorem any_eqU {x : V} : ∀ {xs : List V} {us : List Value},Vals xs us → xs.all flatV = true → us.any (eqU x) = xs.any fun y => eqV y x
  | _,_,.nil,_ => rfl
  | y :: xs,u :: us,.cons r t,f => by
    rw [List.all_cons,Bool.and_eq_true] at f
    rw [List.any_cons,List.any_cons,eqU_of r f.1,any_eqU t f.2]
theorem mem_eqAt {A : Around} {s : Shared} {x : V} {v : Value} (rx : RelV x v) (fx : flatV x = true) : ∀ {xs : List V} {us : List Value},Vals xs us → xs.all flatV = true → ∀ u ∈ us,SeqAt.EqAt A s u v (eqU x u)
  | _,_,.nil,_ => fun u hu => by cases hu
  | y :: xs,u :: us,.cons r t,f => fun u' hu => by
    rw [List.all_cons,Bool.and_eq_true] at f
    rcases List.mem_cons.mp hu with rfl | hu
    · rw [eqU_of r f.1]; exact eqAt_V r rx f.1 fx
    · exact mem_eqAt rx fx t f.2 u' hu
def inV (x : V) (xs : List V) : Bool := xs.any fun y => eqV y x
def rIn (K : PySem.W.Frag) (neg : Bool) : R2 := fun x y H Q => ∃ p xs,y = .ref p ∧ (SqL K H p xs ∨ SqT K H p xs) ∧ flatV x = true ∧ xs.all flatV = true ∧ Q (.bl (if neg then !inV x xs else inV x xs)) H
theorem op_notIn_seq : OpR X (compareOp .NotIn) (rIn X.K true) := by
  intro pins s σ H x y v u Q I rx ry h
  obtain ⟨p,xs,rfl,hq,fx,fs,q⟩ := h
  cases ry
  rcases hq with hq | hq
  · obtain ⟨its,r,pl,hz⟩ := I.list hq
    refine SeqAt.notIn_listAt (eqU x) pl.isList (fun w hw => mem_eqAt rx fx r fs w (by simpa using hw)) ⟨.bl _,H,I,rfl,?_⟩
    rw [show its.toArray.any (eqU x) = its.any (eqU x) by simp,any_eqU r fs]
    exact q
  · obtain ⟨its,r,pl,hz⟩ := I.tuple hq
    refine SeqAt.notIn_tupleAt (eqU x) pl (fun w hw => mem_eqAt rx fx r fs w (by simpa using hw)) ⟨.bl _,H,I,rfl,?_⟩
    rw [show its.toArray.any (eqU x) = its.any (eqU x) by simp,any_eqU r fs]
    exact q
theorem call_len_seq : CallR X (.builtin "len") (fun xs H Q => ∃ p ys,xs = [.ref p] ∧ (SqL X.K H p ys ∨ SqT X.K H p ys) ∧ Q (.int ys.length) H) := by
  intro pins s σ H xs us Q I r h
  obtain ⟨p,ys,rfl,hq,q⟩ := h
  obtain ⟨u,rfl,rx⟩ := vals1 r
  cases rx
  have hn := line63
  rcases hq with hq | hq
  · obtain ⟨its,r',pl,hz⟩ := I.list hq
    have hlen := r'.length
    exact Calls.call_len_list pl.isList (by simp only [List.size_toArray] <;> omega) ⟨.int ys.length,H,I.tok _,⟨s.toks + 1,by rw [List.size_toArray,hlen]⟩,q⟩
  · obtain ⟨its,r',pl,hz⟩ := I.tuple hq
    have hlen := r'.length
    exact len_tuple pl (by simp only [List.size_toArray] <;> omega) ⟨.int ys.length,H,I.tok _,⟨s.toks + 1,by rw [List.size_toArray,hlen]⟩,q⟩
theorem call_list_of : CallR X (.type "list") (fun xs H Q => ∃ p ys,xs = [.ref p] ∧ (SqL X.K H p ys ∨ SqT X.K H p ys) ∧ ∀ l,H l = none → Q (.ref l) (upd H l (.lst ys))) := by
  intro pins s σ H xs us Q I r h
  obtain ⟨p,ys,rfl,hq,q⟩ := h
  obtain ⟨u,rfl,rx⟩ := vals1 r
  cases rx
  have fin : ∀ (its : List Value),Vals ys its → ys.length ≤ sizeLine → ∀ (h' : Heap) (c' : Nat),(∀ b o',s.heap.get? b = some o' → h'.get? b = some o') →
      h'.get? s.heap.objs.size = some { cls := .type "list", dict := none, data := .seq its.toArray c', slots := #[] } → EP X pins σ Q (.ref s.heap.objs.size) { s with heap := h' } := fun its r' hz h' c' kp e =>
    ⟨.ref s.heap.objs.size,_,I.laid (t' := s.toks) kp (Nat.le_refl _) (show ObjOk X.prog X.w _ h' _ (.lst ys) from ⟨hz,its,c',r',e⟩),rfl,q _ (I.hok.fresh (Nat.le_refl _))⟩
  rcases hq with hq | hq
  · obtain ⟨its,r',pl,hz⟩ := I.list hq
    have hlen := r'.length
    obtain ⟨o,ho,hc,n,hd⟩ := pl.isList
    exact call_list_seq p (.inl rfl) ho hc hd (fun h' c' kp e => fin its r' hz h' c' kp e) (by simp only [List.size_toArray] <;> omega)
  · obtain ⟨its,r',pl,hz⟩ := I.tuple hq
    have hlen := r'.length
    obtain ⟨o,ho,hc,n,hd⟩ := pl
    exact call_list_seq p (.inr rfl) ho hc hd (fun h' c' kp e => fin its r' hz h' c' kp e) (by simp only [List.size_toArray] <;> omega)
theorem call_tuple_of : CallR X (.type "tuple") (fun xs H Q => ∃ p ys,xs = [.ref p] ∧ ((SqL X.K H p ys ∧ ∀ l,H l = none → Q (.ref l) (upd H l (.tup ys))) ∨ (SqT X.K H p ys ∧ Q (.ref p) H))) := by
  intro pins s σ H xs us Q I r h
  obtain ⟨p,ys,rfl,h⟩ := h
  obtain ⟨u,rfl,rx⟩ := vals1 r
  cases rx
  rcases h with ⟨hq,q⟩ | ⟨hq,q⟩
  · obtain ⟨its,r',pl,hz⟩ := I.list hq
    have hlen := r'.length
    refine call_tuple_list pl.isList (fun h' kp => ?_) (by simp only [List.size_toArray] <;> omega)
    have I1 : Inv X pins σ H { s with heap := h' } := I.kept (t' := s.toks) kp
    have I2 : Inv X pins σ (upd H h'.objs.size (.tup ys)) { s with heap := h'.push { cls := .type "tuple", data := .seq its.toArray } } :=
      I1.laid (t' := s.toks) (fun b o e => Heap.get?_push_of_some _ e) (Nat.le_refl _) (show ObjOk X.prog X.w _ _ _ (.tup ys) from ⟨hz,its,r',IsTup.new _ _⟩)
    exact ⟨.ref h'.objs.size,_,I2,rfl,q _ (I1.hok.fresh (Nat.le_refl _))⟩
  · obtain ⟨its,r',pl,hz⟩ := I.tuple hq
    exact call_tuple_same pl ⟨.ref p,H,I,rfl,q⟩
def tyV (K : PySem.W.Frag) (T : String) (x : V) (H : Hp) : Prop := match x with
  | .str _ => T = "str"
  | .int _ => T = "int"
  | .ref p => (T = "list" ∧ ∃ xs,SqL K H p xs) ∨ (T = "tuple" ∧ ∃ o,K.lookup p = some o ∧ o.cls = .type "tuple" ∧ o.dict = none) ∨
      (T = "dict" ∧ ((∃ kvs,H p = some (.dK kvs)) ∨ ∃ kvs,H p = some (.dT kvs))) ∨ (T = "set" ∧ ∃ S n,H p = some (.set S n))
  | _ => False
theorem tyV_is {pins : List (Addr × Obj)} {σ : St} {H : Hp} {s : Shared} {T : String} {x : V} {v : Value} (I : Inv X pins σ H s) (r : RelV x v) (ty : tyV X.K T x H) :
    s.TypeIs v T ∧ ∀ a,v = .ref a → ∃ ob,s.heap.get? a = some ob ∧ ob.dict = none := by
  cases x with
  | str z =>
    obtain ⟨t,rfl⟩ := r
    cases (show T = "str" from ty)
    exact ⟨typeIs_str s z t,fun _ e => nomatch e⟩
  | int i =>
    obtain ⟨t,rfl⟩ := r
    cases (show T = "int" from ty)
    exact ⟨typeIs_int s i t,fun _ e => nomatch e⟩
  | ref p =>
    cases r
    rcases ty with ⟨rfl,xs,hq⟩ | ⟨rfl,o,hk,hc,hd⟩ | ⟨rfl,hk⟩ | ⟨rfl,S,n,hk⟩
    · obtain ⟨its,_,pl,_⟩ := I.list hq
      refine ⟨pl.isList.typeIs,fun a e => ?_⟩
      cases e
      obtain ⟨o,n,e,c,hd,_⟩ := pl
      exact ⟨o,e,hd⟩
    · refine ⟨⟨o,I.kIn p o hk,hc⟩,fun a e => ?_⟩
      cases e
      exact ⟨o,I.kIn _ o hk,hd⟩
    · have z : ∃ o,s.heap.get? p = some o ∧ o.ExactDict := by
        rcases hk with ⟨kvs,hk⟩ | ⟨kvs,hk⟩
        · obtain ⟨_,_,_,_,o,_,_,e,ex,_⟩ := I.hok p _ hk
          exact ⟨o,e,ex⟩
        · obtain ⟨_,_,_,_,o,_,_,e,ex,_⟩ := I.hok p _ hk
          exact ⟨o,e,ex⟩
      obtain ⟨o,e,ex⟩ := z
      refine ⟨⟨o,e,ex.1⟩,fun a e2 => ?_⟩
      cases e2
      exact ⟨o,e,ex.2.1⟩
    · obtain ⟨o,_,_,_,e,ex,_⟩ := I.hok p _ hk
      refine ⟨⟨o,e,ex.1⟩,fun a e2 => ?_⟩
      cases e2
      exact ⟨o,e,ex.2.1⟩
  | _ => exact False.elim ty
def tBM (K : PySem.W.Frag) (T : String) (r : V → List V → Hp → VK → Prop) (to : TE) (t : TA) : TE := fun σ H Q => to σ H fun x H1 => tyV K T x H1 ∧ t σ H1 fun xs H2 => r x xs H2 Q
variable {o e : Expr} {es : List Expr} {to : TE} {t : TA} {name : Str} {apos cpos : Pos} {T id : String} {r : V → List V → Hp → VK → Prop}
theorem pe_bm (pa : PlainAttrs T) (slot : Slot T name id) (hty : typeOf (.builtin id) = pure (.type "method_descriptor")) (hm : MtR X id r) (ho : PE X o to) (ha : PA X (e :: es) t)
    (hbase : attributeBase o name X.env (eval o X.env) = eval o X.env := by rfl)
    (hfew : ((backTo cpos (starEach (e :: es) X.env)).all (fun x => !x.1) && (backToKw cpos (keywordEach [] X.env)).all (fun x => x.1.isSome)
      && decide ((e :: es).length + ([] : List Keyword).length + (if ([] : List Keyword).isEmpty then 0 else 1) < 30)) = true := by rfl)
    (hline : (apos.endLine == cpos.line) = true := by rfl) (hs : starEach (e :: es) X.env = (false,eval e X.env) :: starEach es X.env := by rfl) (hplain : (backTo cpos (starEach es X.env)).any (·.1) = false := by rfl) :
    PE X (.Call (.Attribute o name apos) (e :: es) [] cpos) (tBM X.K T r to t) := by
  intro pins s σ H Q I h
  refine wpAny_Call_method_late hbase hfew hline rfl (thn (ho pins s σ H _ I h) fun v s1 ⟨x,H1,I1,r1,ty,q1⟩ => ?_)
  obtain ⟨h1,h2⟩ := tyV_is I1 r1 ty
  refine ⟨T,id,pa,slot,hty,h1,h2,?_⟩
  have hA := ha cpos pins s1 σ H1 _ I1 q1
  rw [hs] at hA ⊢
  refine Calls.callWith_builtin (by show (false || (backTo cpos (starEach es X.env)).any (·.1)) = false; rw [hplain] <;> rfl) (Calls.evalArgs_plain ?_)
  exact thn hA fun us s2 ⟨vs,H2,I2,r2,q2⟩ => hm pins s2 σ H2 x vs v us Q I2 r1 r2 q2
/- xs.append(e),list.index on a module's tuple .. are MtR facts of 06m -/
end
end L2
namespace L2
open PySem PySem.Spec PyProof.Rows
def MtM (X : Cx) (id : String) (r : V → List V → Hp → VK → Prop) : Prop :=
  ∀ (pins : List (Addr × Obj)) (s : Shared) (σ : St) (H : Hp) (x : V) (xs : List V) (v : Value) (us : List Value) (Q : VK),Inv X pins σ H s → RelV x v → Vals xs us → r x xs H Q →
    wpAny (model X.prog X.w) X.A (call (.builtin id) (v :: us)) (EP X pins σ Q) X.xe s
theorem Vals.one : ∀ {x : V} {us : List Value},Vals [x] us → ∃ u,us = [u] ∧ RelV x u
  | _,_,.cons r .nil => ⟨_,rfl,r⟩
theorem Vals.dropLast {xs : List V} {us : List Value} (h : Vals xs us) : Vals xs.dropLast us.dropLast := by
  induction h with
  | nil => exact .nil
  | cons r t ih =>
    cases t with
    | nil => exact .nil
    | cons q t' => exact .cons r ih
theorem erase_last {α : Type} (l : List α) : l.eraseIdx (l.length - 1) = l.dropLast := by
  induction l with
  | nil => rfl
  | cons a r ih =>
    cases r with
    | nil => rfl
    | cons b r =>
      have e : (a :: b :: r).length - 1 = ((b :: r).length - 1) + 1 := by
        have h1 : (a :: b :: r).length = r.length + 2 := rfl
        have h2 : (b :: r).length = r.length + 1 := rfl
        omega
      rw [e,List.eraseIdx_cons_succ,ih]
      all_goals rfl
section
variable {X : Cx} {pins : List (Addr × Obj)} {σ : St} {H : Hp} {s : Shared} {l b : Addr} {xs ys zs : List V}
theorem Inv.lset {its its' : List Value} {n : Nat} {f : Array Value → Array Value} {t' : Nat} (I : Inv X pins σ H s) (hH : H l = some (.lst xs))
    (e : s.heap.get? l = some { cls := .type "list", data := .seq its.toArray n }) (hf : f its.toArray = its'.toArray) (hv : Vals ys its') (hz : ys.length ≤ sizeLine) :
    Inv X pins σ (upd H l (.lst ys)) { s with heap := s.heap.update l (Obj.mapSeq f),toks := t' } := by
  have q := PySem.IsL.update e f
  rw [hf] at q
  refine I.write (x := l) (e := l) (by rw [hH]; exact trivial) (.inl rfl) (fun b' u hb hu => (Heap.get?_update_other s.heap (Obj.mapSeq f) (Ne.symm hb)).trans hu) ⟨_,q⟩ ?_
  exact ⟨hz,its',_,hv,q⟩
theorem Inv.lnew {its : List Value} {t' : Nat} (I : Inv X pins σ H s) (hv : Vals ys its) (hz : ys.length ≤ sizeLine) :
    Inv X pins σ (upd H s.heap.objs.size (.lst ys)) { s with heap := s.heap.push { cls := .type "list", data := .seq its.toArray }, toks := t' } :=
  I.laid (fun _ _ q => Heap.get?_push_of_some _ q) (Nat.le_refl _) ⟨hz,its,0,hv,Heap.get?_push_size _ rfl⟩
theorem Inv.fresh (I : Inv X pins σ H s) : H s.heap.objs.size = none := I.hok.fresh (Nat.le_refl _)
theorem Inv.lstM (I : Inv X pins σ H s) (hH : H l = some (.lst xs)) : xs.length ≤ sizeLine ∧ ∃ (its : List Value) (n : Nat),Vals xs its ∧ xs.length = its.length ∧ s.heap.get? l = some { cls := .type "list",data := .seq its.toArray n } := by
  obtain ⟨z,its,n,r,e⟩ := I.hok l _ hH
  exact ⟨z,its,n,r,r.length,e⟩
theorem notLongL {n : Nat} (h : n ≤ sizeLine) : Builtin.List.listTooLong n = false := by
  unfold Builtin.List.listTooLong
  exact decide_eq_false (by omega)
end
section
variable {X : Cx}
def rAppend : V → List V → Hp → VK → Prop := fun x vs H Q => ∃ l xs y,x = .ref l ∧ vs = [y] ∧ H l = some (.lst xs) ∧ xs.length < sizeLine ∧ Q .non (upd H l (.lst (xs ++ [y])))
theorem mt_append : MtM X "list.append" rAppend := by
  intro pins s σ H x vs v us Q I rx rv h
  obtain ⟨l,xs,y,rfl,rfl,hH,hz,q⟩ := h
  cases rx
  obtain ⟨u,rfl,ru⟩ := rv.one
  obtain ⟨z,its,n,r,hl,e⟩ := I.lstM hH
  refine call_meets F.slot_list_append ⟨_,e,rfl⟩ F.entry_list_append (F.args_list_append_2 _ _) (PySem.list_append l its.toArray n u (by rw [List.size_toArray]; omega)) ⟨e,?_⟩
  refine ⟨.non,_,I.lset (its' := its ++ [u]) hH e (by simp) (r.append (.cons ru .nil)) ?_,rfl,q⟩
  rw [List.length_append,List.length_singleton]
  omega
def rExtend : V → List V → Hp → VK → Prop := fun x vs H Q => ∃ l b xs zs,x = .ref l ∧ vs = [.ref b] ∧ H l = some (.lst xs) ∧ H b = some (.lst zs) ∧ xs.length + zs.length ≤ sizeLine ∧ Q .non (upd H l (.lst (xs ++ zs)))
theorem mt_extend : MtM X "list.extend" rExtend := by
  intro pins s σ H x vs v us Q I rx rv h
  obtain ⟨l,b,xs,zs,rfl,rfl,hH,hB,hz,q⟩ := h
  cases rx
  obtain ⟨u,rfl,ru⟩ := rv.one
  cases ru
  obtain ⟨z,its,n,r,hl,e⟩ := I.lstM hH
  obtain ⟨z2,its2,n2,r2,hl2,e2⟩ := I.lstM hB
  have hsz : its.toArray.size + its2.toArray.size ≤ sizeLine := by rw [List.size_toArray,List.size_toArray]; omega
  have hlong : ¬ (!its.toArray.isEmpty && Builtin.List.listTooLong (its.toArray.size + its2.toArray.size)) = true := by
    rw [notLongL hsz,Bool.and_false]
    exact Bool.false_ne_true
  refine call_meets F.slot_list_extend ⟨_,e,rfl⟩ F.entry_list_extend (F.args_list_extend_2 _ _)
    (AutoSeq1.list_extend_list_list_0 l its.toArray n b its2.toArray n2 hlong (by rw [List.size_toArray]; omega) (by omega)) ⟨e,e2,?_⟩
  refine ⟨.non,_,I.lset (its' := its ++ its2) hH e (by simp) (r.append r2) ?_,rfl,q⟩
  rw [List.length_append]
  omega
def rCat : R2 := fun x y H Q => ∃ l b xs zs,x = .ref l ∧ y = .ref b ∧ H l = some (.lst xs) ∧ H b = some (.lst zs) ∧ xs.length + zs.length ≤ sizeLine ∧ ∀ p,H p = none → Q (.ref p) (upd H p (.lst (xs ++ zs)))
theorem op_cat : OpR X (binaryOp .Add) rCat := by
  intro pins s σ H x y v u Q I rx ry h
  obtain ⟨l,b,xs,zs,rfl,rfl,hH,hB,hz,q⟩ := h
  cases rx
  cases ry
  obtain ⟨z,its,n,r,hl,e⟩ := I.lstM hH
  obtain ⟨z2,its2,n2,r2,hl2,e2⟩ := I.lstM hB
  refine PySem.P.add_list e e2 ?_ (by rw [List.size_toArray,List.size_toArray]; omega)
  have ea : its.toArray ++ its2.toArray = (its ++ its2).toArray := by simp
  rw [ea]
  exact ⟨.ref _,_,I.lnew (t' := s.toks) (r.append r2) (by rw [List.length_append]; omega),rfl,q _ I.fresh⟩
end
section
variable {prog : Program} {w : World} {A : Around} {E : Value → Shared → Prop} {s : Shared}
end
section
variable {X : Cx}
end
end L2
namespace Att
open PySem PySem.W PySem.Calls PyProof.Rows
theorem ints_of_wellAll {P : Params} {h : Heap} : ∀ (ns : List Int) (vs : List Value),WellAll P h vs (ns.map WData.int) → IntsAre vs ns := by
  intro ns
  induction ns with
  | nil =>
    intro vs w
    rw [List.map_nil] at w
    cases w
    exact .nil
  | cons n ns ih =>
    intro vs w
    rw [List.map_cons] at w
    cases w with
    | cons a b =>
      cases a
      exact .cons _ _ (ih _ b)
theorem script_of {l : OpenLaw} {n : Nat} (hn : l.most = some n) {P : Params} {h : Heap} {args : List WData} {vals : List Value}
    (hpre : l.row.toRowW.claim.pre args = true) (hwl : WellAll P h vals args) :
    ∃ a vs ns,vals = [Value.ref a] ∧ args = [WData.list (ns.map WData.int)] ∧ h.get? a = some { cls := .type "list",data := .seq vs.toArray } ∧ IntsAre vs ns ∧ ns.length ≤ n := by
  have hsh : WShape.hasAll [] args [.list .int] = true := (pre_splitW hpre).1
  have hc : l.pre.holds [] { args := args } = true := (pre_splitW hpre).2
  obtain ⟨d,r,rfl,h1,h2⟩ := hasAllW_cons hsh
  obtain rfl := hasAllW_nil h2
  obtain ⟨xs,rfl,h3⟩ := hasW_list h1
  obtain ⟨ns,rfl⟩ := items_int h3
  have hlen : ns.length ≤ n := by
    unfold OpenLaw.pre at hc
    have h4 : (WTm.not (.lt (.lit (.int (n : Int))) (.len (.arg 0)))).holds [] { args := [.list (ns.map .int)] } = true := by
      have h4 := (holds_andW hc).1
      rw [hn] at h4
      exact h4
    have h5 := condW_of h4 (w_not (w_lt w_lit (w_len_list (w_arg rfl))))
    rw [List.length_map] at h5
    refine Nat.le_of_not_lt fun q => ?_
    have q' : (n : Int) < ((ns.length : Nat) : Int) := by omega
    first
      | (rw [decide_eq_true q'] at h5; exact absurd h5 (by decide))
      | (simp at h5; omega)
  cases hwl with
  | cons w1 w2 =>
    cases w2
    cases w1 with
    | list ho hall => exact ⟨_,_,ns,rfl,rfl,ho,ints_of_wellAll ns _ hall,hlen⟩
theorem post_true (l : OpenLaw) (args : List WData) : l.row.toRowW.claim.post args (.bool true) args = true :=
  postW_of (r := l.row.toRowW) (X := (true == true))
    (show WShape.has [] (.bool true) .bool = true by first | rfl | decide | simp [WShape.has,WShape.arms,WShape.armsAll])
    (show (WTm.eq .res (.lit (.bool true))).value [] { args := args,res := some (.bool true),after := args } = some (.bool (true == true)) from w_eq_bool (w_res rfl) w_lit) rfl
theorem attach_call {l : OpenLaw} {n : Nat} {q : Program} {loose : List Str} {XP : (Str → Option Value) → Heap → Prop} {YP : World → Heap → Prop} {d : DefRec}
    (hn : l.most = some n) (hdf : d.params.defaults = [])
    (call : ∀ (w : World) (s₀ s₁ : Shared) (mg mb : Str → Option Value) (fa : Addr) (o : Obj) (pm cd doc : Value) (a : Addr) (vs : List Value) (ns : List Int),
      Ground q loose [] XP w s₀ mg mb s₁.heap → YP w s₁.heap →
      s₁.heap.get? fa = some o → o.data = .func (docDef d.name d.params d.body d.scope pm cd doc) → s₁.heap.CodeRec cd d.name → mg d.name = some (.ref fa) →
      s₁.heap.get? a = some { cls := .type "list",data := .seq vs.toArray } → IntsAre vs ns → ns.length ≤ n → s₁.gens = #[] →
      codeAny (model l.prog w) callerA (.call (.ref fa) ⟨[.ref a],[]⟩) (fun r s' => r = .ok (.ret (.bool true)) ∧ OldK s₁.heap s'.heap ∧ s'.os = s₁.os ∧ AllBare s'.gens) s₁) :
    WalkO q loose XP YP l.row.toRowW d [] (fun f vs => PySem.call f vs) := by
  intro w s₀ s₁ mg mb G Y fa o pm cd doc dV kV ho hd hcd hD hmg hg args vals as hpre hlay hrd hwl hlo
  obtain rfl : dV = .none := Dflts.none hD hdf
  obtain rfl : kV = .none := Dflts.noKw hD
  obtain ⟨a,vs,ns,rfl,rfl,hobj,hints,hlen⟩ := script_of hn hpre hwl
  refine enter_call (codeAny_mono (call w s₀ s₁ mg mb fa o pm cd doc a vs ns G Y ho (fd_plain hd) hcd hmg hobj hints hlen hg) fun r s' hq => ?_)
  obtain ⟨rfl,h2,h3,h4⟩ := hq
  exact ⟨.inl ⟨.bool true,.bool true,[],rfl,fun _ => rfl,.bool true,post_true l _,fun _ => ⟨List.Pairwise.nil,fun _ hm => (nomatch hm)⟩⟩,h2,h3,h4⟩
section
variable {prog : Program} {w : World} {A : Around} {E : Value → Shared → Prop} {s : Shared} {K : Frag}
def ledger (h : Heap) (L d : Addr) : List (Addr × Obj) := (List.range h.objs.size).filterMap fun a => if a = L ∨ a = d then none else (h.get? a).map fun o => (a,o)
end
end Att
namespace L2
open PySem PySem.Spec PyProof.Rows
theorem vals_ints : ∀ {vs : List Value} {ns : List Int},IntsAre vs ns → Vals (ns.map V.int) vs
  | _,_,.nil => .nil
  | _,_,.cons n t h => .cons ⟨t,rfl⟩ (vals_ints h)
def Only (H : Hp) : Prop := ∀ b,H b = none ∨ ∃ o xs,H b = some (.frz o (.lst xs))
theorem law_call {P : Program} {w : World} {K : PySem.W.Frag} {mg mb : Str → Option Value} {CX : CXT} {k : Nat} {fa a : Addr} {fd : FuncData} {x : Str} {sp : Sp} {s₁ : Shared} {vs : List Value} {ns : List Int}
    (KX : K.In s₁.heap) (hns : s₁.heap.Ns mainGlobals mg) (hb : s₁.heap.Ns builtinsNs mb) (hbb : ∀ x : Str,x ≠ "__name__" → mb x = bootBuiltins x) (hlim : s₁.heap.NoLimit) (hg : s₁.gens = #[])
    (ha : s₁.heap.get? a = some { cls := .type "list",data := .seq vs.toArray }) (hi : IntsAre vs ns) (hl : ns.length ≤ sizeLine) (hr : Room k callerA)
    (F : ∀ base : Heap,K.In base → base.Ns mainGlobals mg → FnOk P w K mg base CX k fa fd [x] sp) (hbind : ∀ (s : Shared) (u : Value),BindsTo s fd ⟨[u],[]⟩ [(x,u)])
    (hsp : ∀ H : Hp,Only H → SqL K H a (ns.map V.int) → sp [.ref a] H (fun v _ => v = .bl true) fun _ _ _ => False)
    (hCX : ∀ H e s',CX [] H s₁ (fun _ _ _ => False) e s' → False) :
    codeAny (model P w) callerA (.call (.ref fa) ⟨[.ref a],[]⟩) (fun r s' => r = .ok (.ret (.bool true)) ∧ OldK s₁.heap s'.heap ∧ s'.os = s₁.os ∧ AllBare s'.gens) s₁ := by
  have rv := vals_ints hi
  have lenV := hi.length
  have core : ∀ H : Hp,Only H → SqL K H a (ns.map V.int) → HOk P w H s₁.heap → (∀ b,H b ≠ none → b = a) → (H a ≠ none → K.lookup a = none) →
      codeAny (model P w) callerA (.call (.ref fa) ⟨[.ref a],[]⟩) (fun r s' => r = .ok (.ret (.bool true)) ∧ OldK s₁.heap s'.heap ∧ s'.os = s₁.os ∧ AllBare s'.gens) s₁ := by
    intro H hO hS hok hA hK
    have base_of : ∀ {b : Addr} {o : Obj},s₁.heap.get? b = some o → H b = none → (hidT s₁.heap H).get? b = some o := fun e n => hidT_get e n
    have noA : ∀ {b : Addr} {o : Obj} {es : Array DictEntry} {ep : Nat},s₁.heap.get? b = some o → o.data = .dict es ep → H b = none := fun {b o es ep} e d => by
      cases q : H b with
      | none => rfl
      | some u =>
        have e' : b = a := hA b (by rw [q]; simp)
        subst e'
        rw [ha] at e; cases e
        have d' : Data.seq vs.toArray _ = Data.dict es ep := d
        cases d'
    have nsK : ∀ {b : Addr} {m : Str → Option Value},s₁.heap.Ns b m → (hidT s₁.heap H).Ns b m := fun {b m} ⟨o,es,ep,e,d,r⟩ => ⟨o,es,ep,base_of e (noA e d),d,r⟩
    have hKb : K.In (hidT s₁.heap H) := fun b o e => base_of (KX b o e) (by
      cases q : H b with
      | none => rfl
      | some u =>
        have e' : b = a := hA b (by rw [q]; simp)
        subst e'
        rw [hK (by rw [q]; simp)] at e; cases e)
    have hM : Mod K mg (hidT s₁.heap H) := ⟨hKb,nsK hns,⟨mb,nsK hb,hbb⟩,let ⟨mc,h1,h2⟩ := hlim; ⟨mc,nsK h1,h2⟩⟩
    have e0 : Env0 P w K mg (hidT s₁.heap H) callerA [] s₁ H := ⟨rfl,hM,fun b o e => of_hidT e,Nat.le_of_eq (hidT_size _ _),trivial,fun b hb => absurd (show b ∈ ([] : List Addr) from hb) (by simp),hok,.of_eq hg⟩
    refine codeAny_mono ((F _ hKb (nsK hns)).run callerA [] s₁ H ⟨[.ref a],[]⟩ [.ref a] [.ref a] _ _ hr e0 (hbind s₁ (.ref a)) (.cons rfl .nil) (hsp H hO hS)) fun r s' h => ?_
    cases r with
    | error e => exact (hCX H e s' h).elim
    | ok fl =>
      cases fl with
      | next => exact False.elim h
      | brk => exact False.elim h
      | cont => exact False.elim h
      | ret u =>
        obtain ⟨v,H',os,bare,un,hok',r',q⟩ := h
        have q' : v = .bl true := q
        subst q'
        obtain rfl : u = Value.bool true := r'
        refine ⟨rfl,OldK.of_keep fun b o e => ?_,os,bare⟩
        cases q : H b with
        | none => exact un.keep b o e q (by intro z; exact absurd (show b ∈ ([] : List Addr) from z) (by simp)) (by simp)
        | some u =>
          rcases hO b with z | ⟨ob,xs,z⟩
          · rw [q] at z; cases z
          · have z2 := un.frzs b ob _ z
            obtain ⟨e1,_⟩ := hok b _ z
            obtain ⟨e2,_⟩ := hok' b _ z2
            rw [e] at e1; cases e1
            exact e2
  cases hk : K.lookup a with
  | some o =>
    have e := KX a o hk
    rw [ha] at e
    cases e
    refine core (fun _ => none) (fun _ => .inl rfl) (.inr ⟨_,vs.toArray,_,hk,rfl,rfl,rfl,by rw [List.size_toArray,lenV]; exact hl,by simpa using rv⟩) (fun b u z => by have z' : (none : Option HO) = some u := z; cases z') (fun b z => absurd rfl z) fun z => absurd rfl z
  | none =>
    refine core (fun b => if b = a then some (.frz { cls := .type "list",data := .seq vs.toArray } (.lst (ns.map V.int))) else none) (fun b => ?_) (.inl (.inr ⟨{ cls := .type "list",data := .seq vs.toArray },if_pos rfl⟩)) (fun b u z => ?_) (fun b z => ?_) fun _ => hk
    · by_cases hb : b = a
      · exact .inr ⟨_,_,if_pos hb⟩
      · exact .inl (if_neg hb)
    · by_cases hb : b = a
      · have z' := (if_pos hb).symm.trans z
        cases z'
        subst hb
        exact ⟨ha,by rw [List.length_map]; exact hl,vs,_,rv,ha⟩
      · have z' := (if_neg hb).symm.trans z
        cases z'
    · by_cases hb : b = a
      · exact hb
      · exact absurd (if_neg hb) z
end L2
namespace L2
open PySem PySem.Spec PyProof.Rows
theorem walk_of {l : PySem.W.OpenLaw} {n k : Nat} {q : Program} {loose : List Str} {XP : (Str → Option Value) → Heap → Prop} {YP : World → Heap → Prop} {d : DefRec} {K : Params → PySem.W.Frag} {CX : World → CXT} {sp : World → Sp} {x : Str}
    (hn : l.most = some n) (hn2 : n ≤ sizeLine) (hdf : d.params.defaults = []) (hr : Room k callerA)
    (hY : ∀ (w : World) (h : Heap),YP w h → (K w.params).In h)
    (F : ∀ (w : World) (mg : Str → Option Value) (fa : Addr) (h : Heap),(K w.params).In h → h.Ns mainGlobals mg → mg d.name = some (.ref fa) →
      ∃ fd : FuncData,(∀ (s : Shared) (u : Value),BindsTo s fd ⟨[u],[]⟩ [(x,u)]) ∧
        ∀ base : Heap,(K w.params).In base → base.Ns mainGlobals mg → FnOk l.prog w (K w.params) mg base (CX w) k fa fd [x] (sp w))
    (hsp : ∀ (w : World) (H : Hp) (a : Addr) (ns : List Int),ns.length ≤ n → Only H → SqL (K w.params) H a (ns.map V.int) → sp w [.ref a] H (fun v _ => v = .bl true) fun _ _ _ => False)
    (hCX : ∀ (w : World) (H : Hp) (s : Shared) (e : Value) (s' : Shared),CX w [] H s (fun _ _ _ => False) e s' → False) :
    PySem.W.WalkO q loose XP YP l.row.toRowW d [] (fun f vs => PySem.call f vs) := by
  refine Att.attach_call hn hdf fun w s₀ s₁ mg mb fa o pm cd doc a vs ns G Y ho hd hcd hmg hobj hints hlen hg => ?_
  have KX := hY w _ Y
  obtain ⟨fd,hb,hF⟩ := F w mg fa _ KX G.T.g hmg
  exact law_call KX G.T.g G.T.b G.T.builtins G.T.nolimit hg hobj hints (Nat.le_trans hlen hn2) hr hF hb (fun H hO hS => hsp w H a ns hlen hO hS) fun H e s' => hCX w H s₁ e s'
end L2
namespace L2
open PySem PySem.Spec PyProof.Rows
def inClass (s : Stmt) (j : Nat) : Stmt := match s with
  | .ClassDef _ _ _ body _ _ _ _ _ _ _ => body.getD j (.Pass ⟨0,0,0,0⟩)
  | _ => .Pass ⟨0,0,0,0⟩
def defArgs (s : Stmt) : Arguments := match s with
  | .FunctionDef _ a _ _ _ _ _ _ _ _ => a
  | _ => { posonlyargs := [],args := [],vararg := none,kwonlyargs := [],kw_defaults := [],kwarg := none,defaults := [] }
def defBody (s : Stmt) : List Stmt := match s with
  | .FunctionDef _ _ b _ _ _ _ _ _ _ => b
  | _ => []
def defScope (s : Stmt) : Scope := match s with
  | .FunctionDef _ _ _ _ _ _ sc _ _ _ => sc
  | _ => { kind := .function,names := [],isGenerator := false,isCoroutine := false }
abbrev CX0 : CXT := fun _ _ _ _ _ _ => False
abbrev E0 : XK := fun _ _ _ => False
theorem pass0 {X : Cx} : Passes CX0 X E0 := fun _ _ _ _ _ _ _ h => h.elim
structure Fun (K : PySem.W.Frag) (x qual : Str) (st : Stmt) (f : Addr) (fd : FuncData) : Prop where
  ex : ∃ (oc : Value) (od : Option Addr) (kV doc pm : Value) (an : Option Addr) (cdv ct : Value) (osl : Array (Option Value)),
    fd = PySem.W.fnOf x qual (defArgs st) (defBody st) (defScope st) .none kV doc pm an cdv ct ∧ K.lookup f = some ⟨oc,od,.func fd,osl⟩ ∧ PySem.W.codeIn K cdv qual = true
  kp : PySem.W.keepIn K (.ref f) = true
section
variable {P : Program} {w : World} {K : PySem.W.Frag} {mg : Str → Option Value} {base : Heap}
theorem Fun.ok {x qual : Str} {st : Stmt} {f : Addr} {fd : FuncData} {N ps : List Str} {k : Nat} {sp : Sp} (F : Fun K x qual st f fd) (S : FnScope N ps (defScope st)) (len : ∀ vs H Q E,sp vs H Q E → vs.length = ps.length)
    (hbody : ∀ (cdv : Value) (A : Around) (outer : List Env) (s : Shared) (H : Hp) (vs : List V) (Q : VK) (E : XK),Room k (A.deeper (envOfC qual (defScope st) s.heap.objs.size f cdv)) → sp vs H Q E →
      ∃ t,PSs (cxOf CX0 P w K mg base N qual (defScope st) f cdv A outer s H E).nox (defBody st) t ∧ t { nx := fun _ H' => Q .non H',rt := Q } (start N vs) H) : FnOk P w K mg base CX0 (k + 1) f fd ps sp := by
  obtain ⟨oc,od,kV,doc,pm,an,cdv,ct,osl,rfl,lk,hcd⟩ := F.ex
  refine fn_of lk hcd S len fun A outer s H vs Q E hr hsp => ?_
  obtain ⟨t,h,q⟩ := hbody cdv A outer s H vs Q E hr hsp
  exact ⟨t,h.nox,q⟩
theorem Fun.binds {x qual : Str} {st : Stmt} {f : Addr} {fd : FuncData} {ps : List Str} (F : Fun K x qual st f fd)
    (h : ∀ (kV doc pm : Value) (an : Option Addr) (cdv ct : Value) (us : List Value),us.length = ps.length → bindArgs (PySem.W.fnOf x qual (defArgs st) (defBody st) (defScope st) .none kV doc pm an cdv ct) ⟨us,[]⟩ = pure (ps.zip us)) : Binds K fd ps [] := by
  obtain ⟨oc,od,kV,doc,pm,an,cdv,ct,osl,rfl,lk,hcd⟩ := F.ex
  exact .all (h kV doc pm an cdv ct)
theorem fun_mk {x qual : Str} {st : Stmt} {f : Addr} {oc : Value} {od an : Option Addr} {osl : Array (Option Value)} {kV doc pm cdv ct : Value} (l : K.lookup f = some ⟨oc,od,.func (PySem.W.fnOf x qual (defArgs st) (defBody st) (defScope st) .none kV doc pm an cdv ct),osl⟩)
    (c : PySem.W.codeIn K cdv qual = true) (k : PySem.W.keepIn K (.ref f) = true) : Fun K x qual st f (PySem.W.fnOf x qual (defArgs st) (defBody st) (defScope st) .none kV doc pm an cdv ct) := ⟨⟨oc,od,kV,doc,pm,an,cdv,ct,osl,rfl,l,c⟩,k⟩
end
section
variable {X : Cx}
theorem pv (i : Nat) {x : Str} {pos : Pos} (hN : X.N[i]? = some x := by rfl) (hv : Vis X.env.scope x := by first | exact Or.inl rfl | exact Or.inr (Or.inl rfl) | exact Or.inr (Or.inr rfl)) (hd : (x == ("__debug__" : Str)) = false := by decide)
    (hcd : (x == ("__classdict__" : Str)) = false := by decide) : PE X (.Name x pos) (tVar i) := pe_var hN hv hd hcd
end
theorem iteF {A B : Prop} (h : B) : if false = true then A else B := by
  rw [if_neg Bool.false_ne_true]
  exact h
theorem iteT {A B : Prop} (h : A) : if true = true then A else B := by
  rw [if_pos rfl]
  exact h
theorem ite2 {c A B : Prop} [Decidable c] (h1 : c → A) (h2 : ¬ c → B) : if c then A else B := by
  by_cases h : c
  · rw [if_pos h]
    exact h1 h
  · rw [if_neg h]
    exact h2 h
def Same (H H' : Hp) : Prop := ∀ b o,H b = some o → H' b = some o
theorem Same.refl (H : Hp) : Same H H := fun _ _ h => h
theorem Same.trans {H H1 H2 : Hp} (a : Same H H1) (b : Same H1 H2) : Same H H2 := fun c o h => b c o (a c o h)
theorem Same.free {H H' : Hp} (e : Same H H') {l : Addr} (h : H' l = Option.none) : H l = Option.none := by
  cases q : H l with
  | none => rfl
  | some o =>
    rw [e l o q] at h
    cases h
end L2
set_option Elab.async false
set_option linter.all false
set_option maxRecDepth 100000
namespace L2
open PySem PySem.Spec PyProof.Rows
def clAdd (env : Env) : List (Str × NameKind) → List (Str × Addr) → List (Str × Addr)
  | [],acc => acc
  | (n,k) :: r,acc => clAdd env r (if (k == NameKind.free) = true then (n,(env.cells.lookup n).getD 0) :: acc else acc)
theorem clAdd_lookup (env : Env) : ∀ (names : List (Str × NameKind)) (acc : List (Str × Addr)) (x : Str) (c : Addr),(∀ y ∈ names,y.2 = .free → ∃ c,env.cells.lookup y.1 = some c) →
    (∀ x c,acc.lookup x = some c → env.cells.lookup x = some c) → (clAdd env names acc).lookup x = some c → env.cells.lookup x = some c
  | [],acc,x,c,_,h,e => h x c e
  | (n,k) :: r,acc,x,c,hf,h,e => by
    refine clAdd_lookup env r _ x c (fun y hy => hf y (List.mem_cons_of_mem _ hy)) (fun x c e' => ?_) e
    by_cases hk : (k == NameKind.free) = true
    · rw [if_pos hk] at e'
      obtain ⟨c0,hc0⟩ := hf (n,k) List.mem_cons_self (by simpa using hk)
      have hc0' : env.cells.lookup n = some c0 := hc0
      rw [List.lookup_cons] at e'
      cases hx : x == n with
      | true =>
        rw [hx] at e'
        have : x = n := by simpa using hx
        subst this
        rw [hc0'] at e' ⊢
        simpa using e'
      | false => rw [hx] at e'; exact h x c e'
    · rw [if_neg hk] at e'; exact h x c e'
theorem clAdd_keep (env : Env) : ∀ (names : List (Str × NameKind)) (acc : List (Str × Addr)) (x : Str),(∃ c,acc.lookup x = some c) → ∃ c,(clAdd env names acc).lookup x = some c
  | [],acc,x,h => h
  | (n,k) :: r,acc,x,h => by
    refine clAdd_keep env r _ x ?_
    by_cases hk : (k == NameKind.free) = true
    · rw [if_pos hk,List.lookup_cons]
      cases hx : x == n with
      | true => exact ⟨_,rfl⟩
      | false => exact h
    · rw [if_neg hk]; exact h
theorem clAdd_has (env : Env) : ∀ (names : List (Str × NameKind)) (acc : List (Str × Addr)) (x : Str),(x,NameKind.free) ∈ names → ∃ c,(clAdd env names acc).lookup x = some c
  | [],acc,x,h => by simp at h
  | (n,k) :: r,acc,x,h => by
    rcases List.mem_cons.mp h with e | e
    · have e1 : x = n := congrArg Prod.fst e
      have e2 : NameKind.free = k := congrArg Prod.snd e
      subst e1
      subst e2
      refine clAdd_keep env r _ x ?_
      rw [if_pos (by simp),List.lookup_cons]
      simp
    · exact clAdd_has env r _ x e
theorem closure_eq {env : Env} {scope : Scope} (hf : ∀ y ∈ scope.names,y.2 = .free → ∃ c,env.cells.lookup y.1 = some c) : closureFor scope env = pure (clAdd env scope.names []) := by
  have key : ∀ (names : List (Str × NameKind)) (acc : List (Str × Addr)),(∀ y ∈ names,y.2 = .free → ∃ c,env.cells.lookup y.1 = some c) →
      (forIn names acc (fun (x : Str × NameKind) (r : List (Str × Addr)) => (if (x.2 == NameKind.free) = true then do
        let a ← cellOf env x.1
        pure (ForInStep.yield ((x.1,a) :: r)) else pure (ForInStep.yield r)) ) : Sem (List (Str × Addr))) = pure (clAdd env names acc) := by
    intro names
    induction names with
    | nil => intro acc _; rfl
    | cons y r ih =>
      intro acc h
      obtain ⟨n,k⟩ := y
      have ih' := fun acc => ih acc fun z hz => h z (List.mem_cons_of_mem _ hz)
      rw [List.forIn_cons]
      by_cases hk : (k == NameKind.free) = true
      · obtain ⟨c,hc⟩ := h (n,k) List.mem_cons_self (by simpa using hk)
        have hc' : env.cells.lookup n = some c := hc
        have e1 : cellOf env n = pure c := by unfold cellOf; rw [hc']
        have e2 : clAdd env ((n,k) :: r) acc = clAdd env r ((n,c) :: acc) := by
          show clAdd env r _ = _
          rw [if_pos hk,hc']; rfl
        rw [if_pos hk,e2,← ih']
        show ((cellOf env n >>= fun a => pure (ForInStep.yield ((n,a) :: acc))) >>= _) = _
        rw [e1]
        rfl
      · have e2 : clAdd env ((n,k) :: r) acc = clAdd env r acc := by
          show clAdd env r _ = _
          rw [if_neg hk]
        rw [if_neg hk,e2,← ih']
        rfl
  have := key scope.names [] hf
  simp only [closureFor]
  exact (congrArg (fun m => m >>= fun r => (pure r : Sem _)) this).trans rfl
theorem relabel_back {env : Env} {scope : Scope} (hcell : ∀ y ∈ scope.names,y.2 ≠ .cell) {x : Str} : ((relabel scope env).names.lookup x = some .cell ∨ (relabel scope env).names.lookup x = some .free) → (x,NameKind.free) ∈ scope.names := by
  have key : ∀ names : List (Str × NameKind),(∀ y ∈ names,y.2 ≠ .cell) → ∀ k,(names.map fun (n,k) => if (k == NameKind.free && env.scope.kind == .function && env.kindOf n == some .cell) then (n,NameKind.cell) else (n,k)).lookup x = some k →
      (k = .cell ∨ k = .free) → (x,NameKind.free) ∈ names := by
    intro names
    induction names with
    | nil => intro _ k h _; simp at h
    | cons y r ih =>
      obtain ⟨n,k'⟩ := y
      intro hc k h hk
      have nc : k' ≠ .cell := hc (n,k') List.mem_cons_self
      rw [List.map_cons] at h
      by_cases hb : (k' == NameKind.free && env.scope.kind == .function && env.kindOf n == some .cell) = true
      · have hb' : k' = .free := by simp at hb; exact hb.1.1
        dsimp only at h
        rw [if_pos hb,List.lookup_cons] at h
        cases hx : x == n with
        | true => have : x = n := by simpa using hx
                  subst this; subst hb'; exact List.mem_cons_self
        | false => rw [hx] at h; exact List.mem_cons_of_mem _ (ih (fun y hy => hc y (List.mem_cons_of_mem _ hy)) k h hk)
      · dsimp only at h
        rw [if_neg hb,List.lookup_cons] at h
        cases hx : x == n with
        | true =>
          rw [hx] at h
          have : x = n := by simpa using hx
          subst this
          have e : k' = k := by simpa using h
          rcases hk with q | q
          · exact absurd (e.trans q) nc
          · rw [e,q]; exact List.mem_cons_self
        | false => rw [hx] at h; exact List.mem_cons_of_mem _ (ih (fun y hy => hc y (List.mem_cons_of_mem _ hy)) k h hk)
  rintro (h | h)
  · exact key _ hcell _ h (.inl rfl)
  · exact key _ hcell _ h (.inr rfl)
def blkCx (X : Cx) (pins : List (Addr × Obj)) (s2 : Shared) (H2 : Hp) (scope : Scope) (C : Addr) (N' : List Str) (fp : List Addr) : Cx where
  prog := X.prog
  w := X.w
  K := X.K
  mg := X.mg
  base := X.base
  A := X.A
  N := N'
  s₀ := s2
  H₀ := H2
  env := compEnvC scope (clAdd X.env scope.names []) C X.env
  outer := X.stack
  stack := X.stack
  ex := fp
  fn := fun _ => false
  calm := X.calm
  pn := X.pn ++ pins
  xe := fun _ _ => False
def blkSt (σ : St) (cap : List Nat) (k : Nat) : St := List.replicate k none ++ cap.map fun j => (σ[j]?).join
def leS (σ σ' : St) : Prop := σ'.length = σ.length ∧ ∀ (i : Nat) v,σ[i]? = some (some v) → σ'[i]? = some (some v)
theorem leS.set {σ : St} {i : Nat} {v : V} (h : σ[i]? = some none) : leS σ (σ.set i (some v)) := by
  refine ⟨by simp,fun j w e => ?_⟩
  by_cases hj : j = i
  · subst hj; rw [h] at e; cases e
  · rw [List.getElem?_set_ne (Ne.symm hj)]; exact e
structure CompOk (X : Cx) (scope : Scope) (own : List Str) (cs : List Str) (cap : List Nat) : Prop where
  kind : scope.kind = .function
  cell : ∀ y ∈ scope.names,y.2 ≠ .cell
  names : ∀ y ∈ scope.names,y.2 = .local → scope.names.lookup y.1 = some .local
  free : ∀ y ∈ scope.names,y.2 = .free → X.env.kindOf y.1 = some .cell ∨ X.env.kindOf y.1 = some .free
  caps : ∀ (i : Nat) y,cs[i]? = some y → ∃ j,cap[i]? = some j ∧ X.N[j]? = some y ∧ (y,NameKind.free) ∈ scope.names
  ownl : ∀ y ∈ own,scope.names.lookup y = some .local
  len : cs.length = cap.length
  free2 : ∀ y,(y,NameKind.free) ∈ scope.names → scope.names.lookup y = some .local → False
def PIfs (X : Cx) (ifs : List Expr) (tt : TT) : Prop :=
  ∀ (pins : List (Addr × Obj)) (s : Shared) (σ : St) (H : Hp) (Q : Bool → Hp → Prop),Inv X pins σ H s → tt σ H Q →
    wpAny (model X.prog X.w) X.A (forIn ifs true fun c r => if r = true then do let ok ← isTrue c X.env (eval c X.env); pure (ForInStep.yield ok) else pure (ForInStep.yield r)) (TP X pins σ Q) X.xe s
def tYes : TT := fun _ H Q => Q true H
theorem pifs_nil {X : Cx} : PIfs X [] tYes := fun _ _ _ H _ I h => wpAny_tests_nil ⟨H,I,h⟩
theorem pifs_one {X : Cx} {c : Expr} {tt : TT} (h : PT X c tt) : PIfs X [c] tt := fun pins s σ H Q I q => wpAny_tests_one (h pins s σ H Q I q)
def CompW (σ : St) (cap : List Nat) (k : Nat) (J : It) (g : TG) (tt : TT) (te : TE) (Q : List V → Hp → Prop) (W : Nat → Nat → List V → Hp → Prop) : Prop :=
  ∀ i m ys H,W i m ys H → (J.stop i H ∧ ys.length ≤ sizeLine ∧ Q ys H) ∨
    (J.go i H ∧ ys.length < sizeLine ∧ ∀ x H',J.yld i H x H' → g x (blkSt σ cap k) H' fun σ2 H2 => leS (blkSt σ cap k) σ2 ∧ tt σ2 H2 fun ok H3 =>
      if ok = true then te σ2 H3 (fun v H4 => ∃ m',m' < m ∧ W (i + 1) m' (ys ++ [v]) H4) else ∃ m',m' < m ∧ W (i + 1) m' ys H3)
theorem HOk.add {P : Program} {w : World} {H : Hp} {h : Heap} {a : Addr} {o : HO} (x : HOk P w H h) (n : H a = none) (new : ObjOk P w (upd H a o) h a o) : HOk P w (upd H a o) h := fun b u e => by
  by_cases hb : b = a
  · subst hb; rw [upd_same] at e; cases e; exact new
  · rw [upd_ne hb] at e
    exact (x b u e).stay (fun c v _ q => q) (fun c q => by rw [upd_ne (ne_of_none q n)]; exact q) fun c xs q => by rw [upd_ne (ne_of_none q n)]; exact q
section
variable {X : Cx} {pins : List (Addr × Obj)} {σ : St} {H2 : Hp} {s2 : Shared} {scope : Scope} {own cs : List Str} {cap : List Nat} {fp : List Addr}
theorem blk_start {h1 : Heap} {C : Addr} {tk : Nat} (I : Inv X pins σ H2 s2) (ok : CompOk X scope own cs cap) (hf : ∀ b ∈ fp,FpOk X pins H2 b) (hfl : ∀ b ∈ fp,b < s2.heap.objs.size)
    (hC : s2.heap.objs.size ≤ C) (hns : h1.Ns C (fun _ => none)) (old : ∀ b o,s2.heap.get? b = some o → h1.get? b = some o) :
    Inv (blkCx X pins s2 H2 scope C (own ++ cs) fp) [] (blkSt σ cap own.length) H2 { s2 with heap := h1,toks := tk } := by
  have hfr : ∀ y ∈ scope.names,y.2 = .free → ∃ c,X.env.cells.lookup y.1 = some c := fun y hy e => I.ok.has y.1 (ok.free y hy e)
  have sub : ∀ x c,(clAdd X.env scope.names []).lookup x = some c → X.env.cells.lookup x = some c := fun x c e => clAdd_lookup X.env scope.names [] x c hfr (fun _ _ z => by simp at z) e
  have clt : ∀ x c,(clAdd X.env scope.names []).lookup x = some c → c < s2.heap.objs.size := fun x c e => by
    obtain ⟨v,o,ho,_⟩ := I.cell x c (sub x c e)
    exact Heap.lt_size ho
  refine ⟨⟨I.ok.mod,ok.kind,I.ok.glob,I.ok.blt,hC,fun y z c h1 h2 => I.ok.inj y z c (sub y c h1) (sub z c h2),fun y hy => ?_,fun y c z => ?_,I.ok.hd,I.ok.frames,.inl rfl,fun b hb => ?_,I.bs,Nat.le_trans I.ok.bsz I.sz,fun b o e hb => ?_,fun b hb z => ?_,I.stack,I.stkFree⟩,
    rfl,I.bare,Un.kept old,⟨_,hns,fun i y v e1 e2 e3 => ?_⟩,fun y c e => ?_,I.hok.fresh hC,fun y c e => I.freeC y c (sub y c e),fun p hp => ?_,I.hok.kept old,?_⟩
  · have hm := relabel_back ok.cell hy
    exact clAdd_has X.env scope.names [] y hm
  · exact absurd (show false = true from z) Bool.false_ne_true
  · exact ⟨Nat.ne_of_lt (Nat.lt_of_lt_of_le (hfl b hb) hC),fun x c e => (hf b hb).2.2.2.2.1 x c (sub x c e)⟩
  · rcases (hf b hb).2.2.2.1 with z | z
    · exact I.ok.noex b o e z
    · exact absurd (Nat.lt_of_lt_of_le (Heap.lt_size (I.ok.bs b o e).1) z) (Nat.lt_irrefl _)
  · rcases List.mem_cons.mp (I.stkSub b z) with q | q
    · exact (hf b hb).2.1 q
    · exact (hf b hb).2.2.1 q
  · have hi : own.length ≤ i := by
      refine Nat.le_of_not_lt fun q => ?_
      unfold blkSt at e2
      rw [List.getElem?_append_left (by simpa using q),List.getElem?_replicate] at e2
      split at e2 <;> cases e2
    have e1' : cs[i - own.length]? = some y := by
      have e1 : (own ++ cs)[i]? = some y := e1
      rwa [List.getElem?_append_right hi] at e1
    obtain ⟨j,hj,hN,hm⟩ := ok.caps _ y e1'
    have hk := ok.free _ hm rfl
    have e2' : σ[j]? = some (some v) := by
      unfold blkSt at e2
      rw [List.getElem?_append_right (by simpa using hi),List.length_replicate,List.getElem?_map,hj] at e2
      have e2 : (σ[j]?).join = some v := by simpa using e2
      cases q : σ[j]? with
      | none => rw [q] at e2; cases e2
      | some w => rw [q] at e2; have : w = some v := e2; rw [this]
    obtain ⟨m,hn,hl⟩ := I.loc
    obtain ⟨u,ru,l⟩ := hl j y v hN e2' (by rcases hk with q | q; exact .inr (.inl q); exact .inr (.inr q))
    refine ⟨u,ru,.inr ?_⟩
    obtain ⟨c,hc⟩ := clAdd_has X.env scope.names [] y hm
    have hc' := sub y c hc
    have cellu : h1.IsCell c (some u) := by
      rcases l with ⟨k,_⟩ | ⟨k,c',e,o,ho,hd⟩
      · rcases hk with q | q <;> (have z : X.env.kindOf y = _ := q; rw [k] at z; cases z)
      · rw [hc'] at e; cases e
        exact ⟨o,old _ _ ho,hd⟩
    refine ⟨?_,c,hc,cellu⟩
    rcases e3 with z | z | z
    · exfalso
      have key : ∀ names : List (Str × NameKind),True := fun _ => trivial
      have z : (relabel scope X.env).names.lookup y = some .local := z
      have zz : scope.names.lookup y = some .local := by
        unfold relabel at z
        dsimp only at z
        revert z
        generalize scope.names = names
        induction names with
        | nil => intro z; simp at z
        | cons q r ih =>
          obtain ⟨n,k⟩ := q
          intro z
          rw [List.map_cons] at z
          by_cases hb : (k == NameKind.free && X.env.scope.kind == .function && X.env.kindOf n == some .cell) = true
          · dsimp only at z
            rw [if_pos hb,List.lookup_cons] at z
            rw [List.lookup_cons]
            cases hx : y == n with
            | true => rw [hx] at z; cases z
            | false => rw [hx] at z; exact ih z
          · dsimp only at z
            rw [if_neg hb,List.lookup_cons] at z
            rw [List.lookup_cons]
            cases hx : y == n with
            | true => rw [hx] at z; exact z
            | false => rw [hx] at z; exact ih z
      have := ok.free2 y hm zz
      exact this
    · exact .inl z
    · exact .inr z
  · obtain ⟨v,o,ho,hd⟩ := I.cell y c (sub y c e)
    exact ⟨v,o,old _ _ ho,hd⟩
  · have hp' : p ∈ X.pn ++ pins := by
      have : p ∈ (X.pn ++ pins) ++ [] := hp
      simpa using this
    obtain ⟨e,n,ne,nf,d⟩ := I.pin p hp'
    refine ⟨old _ _ e,n,Nat.ne_of_lt (Nat.lt_of_lt_of_le (Heap.lt_size e) hC),fun z => ?_,d⟩
    rcases List.mem_cons.mp (I.stkSub p.1 z) with q | q
    · exact ne q
    · exact nf q
  · show (blkSt σ cap own.length).length = (own ++ cs).length
    unfold blkSt
    rw [List.length_append,List.length_replicate,List.length_map,List.length_append,ok.len]
end
end L2
set_option Elab.async false
set_option linter.all false
set_option maxRecDepth 100000
namespace L2
open PySem PySem.Spec PyProof.Rows
section
variable {X : Cx} {pins : List (Addr × Obj)} {σ : St} {H2 : Hp} {s2 : Shared} {scope : Scope} {own cs : List Str} {cap : List Nat} {fp : List Addr} {it : Addr} {tn : Nat → Heap → Prop}
  {elt tg iter : Expr} {ifs : List Expr} {pos : Pos} {J : It} {g : TG} {tt : TT} {te : TE} {E : Value → Shared → Prop} {W : Nat → Nat → List V → Hp → Prop} {Qf : List V → Hp → Prop}
structure BlkEnd (X : Cx) (pins : List (Addr × Obj)) (σ : St) (Qf : List V → Hp → Prop) (D C : Addr) (s' : Shared) : Prop where
  ex : ∃ (ys : List V) (H' : Hp),H' D = none ∧ Qf ys H' ∧ Inv X pins σ (upd H' D (.lst ys)) s' ∧ FpOk X pins (upd H' D (.lst ys)) C
  ns : ∃ m,s'.heap.Ns C m
theorem Inv.bareP {pins' : List (Addr × Obj)} {H : Hp} {s : Shared} (I : Inv X pins' σ H s) : Inv X [] σ H s := I.pins_of fun p hp => absurd hp (by simp)
theorem comp_run {RR : Value → Addr → Result → Shared → Prop} (I : Inv X pins σ H2 s2) (ok : CompOk X scope own cs cap) (hc : X.calm = true) (T : Turn X.prog X.w X.K tg J fp it tn) (st : tn 0 s2.heap) (hf : ∀ b ∈ fp,FpOk X pins H2 b)
    (hg : ∀ C,PG (blkCx X pins s2 H2 scope C (own ++ cs) fp) tg g) (hi : ∀ C,PIfs (blkCx X pins s2 H2 scope C (own ++ cs) fp) ifs tt) (he : ∀ C,PE (blkCx X pins s2 H2 scope C (own ++ cs) fp) elt te)
    (w0 : ∃ m,W 0 m [] H2) (turn : CompW σ cap own.length J g tt te Qf W)
    (hRR : ∀ D C s',BlkEnd X pins σ Qf D C s' → RR (.ref D) C (.ok .next) s') :
    wpAny (model X.prog X.w) X.A (newList []) (fun acc s₃ => wpAny (model X.prog X.w) X.A (newFunctionEnv scope X.env.globals (clAdd X.env scope.names []) [] X.env.qual none .none (some X.env)) (fun cenv s₄ =>
      codeAny (model X.prog X.w) X.A (.compStart (.ListComp elt [⟨tg,iter,ifs,0⟩] scope pos) 0 (.ref it) acc { cenv with scope := relabel scope X.env }) (RR acc cenv.locals) s₄) E s₃) E s2 := by
  refine wpAny_newObj_type (wpAny_newFunctionEnv ok.cell (by intro y hy; simp at hy) (fun h₁ hns₁ hsb₁ => ?_) ok.kind)
  dsimp only at hns₁ hsb₁ ⊢
  generalize hHH : s2.heap.push { cls := .type "list",dict := none,data := .seq ([] : List Value).toArray } = HH at hns₁ hsb₁ ⊢
  have hCs : HH.objs.size = s2.heap.objs.size + 1 := by rw [← hHH,Heap.size_push]
  have hDC : s2.heap.objs.size ≠ HH.objs.size := by rw [hCs]; exact Nat.ne_of_lt (Nat.lt_succ_self _)
  have hCle : s2.heap.objs.size ≤ HH.objs.size := by rw [hCs]; exact Nat.le_succ _
  have hfl : ∀ b ∈ fp,b < s2.heap.objs.size := fun b hb => by
    obtain ⟨o,e,_⟩ := T.obj 0 _ st b hb
    exact Heap.lt_size e
  have old : ∀ b o,s2.heap.get? b = some o → h₁.get? b = some o := fun b o e => hsb₁.extBut b o (by rw [hCs]; exact Nat.ne_of_lt (Nat.lt_succ_of_lt (Heap.lt_size e))) (Heap.get?_push_of_some _ (hHH ▸ Heap.get?_push_of_some _ e))
  have hacc : h₁.PlainList s2.heap.objs.size #[] := ⟨_,hsb₁.extBut _ _ hDC (Heap.get?_push_of_some _ (hHH ▸ Heap.get?_push_size _ rfl))⟩
  generalize hD : s2.heap.objs.size = D at *
  generalize hCC : HH.objs.size = C at *
  have hns₁' : h₁.Ns C (fun _ => none) := hns₁
  have I0 : Inv (blkCx X pins s2 H2 scope C (own ++ cs) fp) [] (blkSt σ cap own.length) H2 { s2 with heap := h₁,toks := s2.toks + ([] : List (Str × Value)).length } :=
    blk_start I ok hf (fun b hb => by rw [hD]; exact hfl b hb) (by rw [hD]; exact hCle) hns₁' old
  have Dfs : D ∉ frs X.stack := fun hb => by
    obtain ⟨_,o,ho,_⟩ := I.stack.mem hb
    exact absurd (Heap.lt_size ho) (by rw [hD]; exact Nat.lt_irrefl _)
  have Dfp : ∀ b ∈ fp,D ≠ b := fun b hb z => absurd (hfl b hb) (by rw [← z]; exact Nat.lt_irrefl _)
  have clt : ∀ x c,(clAdd X.env scope.names []).lookup x = some c → c < D := fun x c e => by
    have e' := clAdd_lookup X.env scope.names [] x c (fun y hy e => I.ok.has y.1 (ok.free y hy e)) (fun _ _ z => by simp at z) e
    obtain ⟨v,o,ho,_⟩ := I.cell x c e'
    have := Heap.lt_size ho
    rw [hD] at this; exact this
  have plt : ∀ p ∈ X.pn ++ pins,p.1 < D := fun p hp => by
    have := Heap.lt_size (I.pin p hp).1
    rw [hD] at this; exact this
  have stat : ∀ {H' : Hp} {ob : Obj},(∀ b ∈ fp,H' b = none) → ∀ b ∈ fp,FpOk (blkCx X pins s2 H2 scope C (own ++ cs) fp) [(D,ob)] H' b := fun {H' ob} hn b hb => by
    have q := I0.ok.exf b hb
    refine ⟨hn b hb,q.1,I0.ok.exfs b hb,.inl hb,q.2,fun p hp => ?_⟩
    rcases List.mem_append.mp hp with z | z
    · exact (hf b hb).2.2.2.2.2 p z
    · have : p = (D,ob) := by simpa using z
      subst this
      exact Dfp b hb
  have loop : codeAny (model X.prog X.w) X.A (.compLoop (.ListComp elt [⟨tg,iter,ifs,0⟩] scope pos) 0 (.ref it) (.ref D) (compEnvC scope (clAdd X.env scope.names []) C X.env)) (RR (.ref D) C)
      { s2 with heap := h₁,toks := s2.toks + ([] : List (Str × Value)).length } := by
    obtain ⟨m0,w0⟩ := w0
    refine codeAny_loop rfl (fun n s' => ∃ i H' its ys,Inv (blkCx X pins s2 H2 scope C (own ++ cs) fp) [] (blkSt σ cap own.length) H' s' ∧ tn i s'.heap ∧ (∀ b ∈ fp,H' b = none) ∧ s'.heap.PlainList D its.toArray ∧ Vals ys its ∧ H' D = none ∧ W i n ys H') ?_ m0
      ⟨0,H2,[],[],I0,T.keep 0 _ _ st fun b _ o e => old b o e,fun b hb => (hf b hb).1,hacc,.nil,I.hok.fresh (by rw [hD]; exact Nat.le_refl _),w0⟩
    rintro n s3 ⟨i,H3,its,ys,I3,st3,fr3,⟨nn,pl3⟩,rv3,hD3,w3⟩
    show wpAny _ X.A ((compTurn (.ListComp elt [⟨tg,iter,ifs,0⟩] scope pos) 0 (.ref it) (.ref D) (compEnvC scope (clAdd X.env scope.names []) C X.env)).onRaise (fun x => do noteFrame x (compEnvC scope (clAdd X.env scope.names []) C X.env); theTreesLotGoes x)) _ _ s3
    refine wpAny_noted ?_
    rw [compTurn_list]
    refine wpAny_bind (wpAny_standAt (wpAny_bind ?_))
    have I3' : Inv (blkCx X pins s2 H2 scope C (own ++ cs) fp) [(D, { cls := .type "list", data := .seq its.toArray nn })] (blkSt σ cap own.length) H3 s3 :=
      I3.pins_of fun p hp => by
        have : p = (D,{ cls := .type "list",data := .seq its.toArray nn }) := by simpa using hp
        subst this
        exact ⟨pl3,hD3,hDC,Dfs,fun v z => by cases z⟩
    rcases turn i n ys H3 w3 with ⟨stop,hz,qf⟩ | ⟨go,hz,step⟩
    · refine thn (T.done (blkCx X pins s2 H2 scope C (own ++ cs) fp) rfl rfl rfl hc i _ s3 _ H3 _ I3' (stat fr3) st3 stop) fun r s4 ⟨hr,I4⟩ => ?_
      subst hr
      refine wpAny_pure (hRR D C s4 ⟨⟨ys,H3,hD3,qf,?_,?_⟩,?_⟩)
      · have pl4 := (I4.pin (D,_) (List.mem_append_right _ (List.mem_singleton.mpr rfl))).1
        have u4 := I4.base
        have Ds2 : s2.heap.get? D = none := Heap.get?_none_of_le (by rw [hD]; exact Nat.le_refl _)
        refine I.call' (s' := s4) (ch := fp) I4.os ⟨u4.keep,u4.slot,fun b o e n hx => ?_,u4.there,fun b xs e => ?_,fun b o u e => ?_,fun b ps e => ?_⟩ ?_ I4.bare fun b hb => ⟨(hf b hb).2.2.2.1,(hf b hb).2.1,(hf b hb).2.2.2.2.1,(hf b hb).2.2.2.2.2⟩
        · rw [upd_ne (fun z => by rw [z,Ds2] at e; cases e)]
          exact u4.free b o e n hx
        · have := u4.tups b xs e
          rw [upd_ne (ne_of_none this hD3)]; exact this
        · have := u4.frzs b o u e
          rw [upd_ne (ne_of_none this hD3)]; exact this
        · obtain ⟨more,e'⟩ := u4.tbls b ps e
          exact ⟨more,by rw [upd_ne (ne_of_none e' hD3)]; exact e'⟩
        · exact I4.hok.add hD3 ⟨hz,its,nn,rv3,pl4⟩
      · have CH : (upd H3 D (.lst ys)) C = none := by rw [upd_ne (Ne.symm hDC)]; exact I4.free
        exact I.fpOk (H' := upd H3 D (.lst ys)) (by rw [hD]; exact hCle) CH
      · obtain ⟨m,hn,_⟩ := I4.loc
        exact ⟨m,hn⟩
    · refine thn (T.item (blkCx X pins s2 H2 scope C (own ++ cs) fp) rfl rfl rfl hc i _ s3 _ H3 _ I3' (stat fr3) st3 go) fun r s4 ⟨u,hr,h4⟩ => ?_
      subst hr
      refine wpAny_bind (thn h4 fun _ s5 ⟨x,H5,I5,r5,y5,st5,fr5⟩ => ?_)
      have I5' := I5.pinned (stat fr5) (T.obj _ _ st5)
      refine wpAny_bind (wpAny_mono (hg C _ s5 _ H5 x u _ I5' r5 (step x H5 y5)) (fun _ s6 ⟨σ6,H6,I6,le6,q6⟩ => ?_) fun _ _ z => False.elim z)
      refine wpAny_bind (wpAny_mono (hi C _ s6 σ6 H6 _ I6 q6) (fun b s7 ⟨H7,I7,q7⟩ => ?_) fun _ _ z => False.elim z)
      have back : ∀ {pins' : List (Addr × Obj)} {H8 : Hp} {s8 : Shared},Inv (blkCx X pins s2 H2 scope C (own ++ cs) fp) pins' σ6 H8 s8 → Inv (blkCx X pins s2 H2 scope C (own ++ cs) fp) [] (blkSt σ cap own.length) H8 s8 := fun I8 =>
        I8.bareP.weak le6.1.symm fun i v e => le6.2 i v e
      cases b with
      | false =>
        rw [if_neg Bool.false_ne_true] at q7
        obtain ⟨m',hm,w7⟩ := q7
        refine wpAny_pure ⟨rfl,m',hm,i + 1,H7,its,ys,back I7,T.keep _ _ _ st5 fun b hb o e => ?_,fun b hb => ?_,⟨nn,?_⟩,rv3,?_,w7⟩
        · exact (I7.pin (b,o) (List.mem_append_right _ (List.mem_append_right _ (mem_pinsAt hb e)))).1
        · obtain ⟨o,e,d⟩ := T.obj _ _ st5 b hb
          exact (I7.pin (b,o) (List.mem_append_right _ (List.mem_append_right _ (mem_pinsAt hb e)))).2.1
        · exact (I7.pin (D,_) (List.mem_append_right _ (List.mem_append_left _ (List.mem_singleton.mpr rfl)))).1
        · exact (I7.pin (D,_) (List.mem_append_right _ (List.mem_append_left _ (List.mem_singleton.mpr rfl)))).2.1
      | true =>
        rw [if_pos rfl] at q7
        refine wpAny_bind (wpAny_bind (wpAny_mono (he C _ s7 σ6 H7 _ I7 q7) (fun y s8 ⟨v,H8,I8,r8,m',hm,w8⟩ => ?_) fun _ _ z => False.elim z))
        have pD := I8.pin (D,{ cls := .type "list",data := .seq its.toArray nn }) (List.mem_append_right _ (List.mem_append_left _ (List.mem_singleton.mpr rfl)))
        have hlen := rv3.length
        refine wpAny_bind (wpAny_list_append_plain (hsz := by rw [List.size_toArray]; omega) ⟨nn,pD.1⟩ fun h9 pl9 sb9 => wpAny_pure (wpAny_pure ?_))
        have I8' := back I8
        refine ⟨rfl,m',hm,i + 1,H8,its ++ [y],ys ++ [v],?_,T.keep _ _ _ st5 fun b hb o e => ?_,fun b hb => ?_,?_,rv3.append (.cons r8 .nil),pD.2.1,w8⟩
        · exact I8'.turned (t' := s8.toks) (fun b o hb e => sb9.extBut b o hb e) pD.2.1 hDC (.inr (by show s2.heap.objs.size ≤ D; rw [hD]; exact Nat.le_refl _)) (fun x c e => Nat.ne_of_lt (clt x c e)) fun p hp => by
            have hp' : p ∈ X.pn ++ pins := by
              have : p ∈ (X.pn ++ pins) ++ [] := hp
              simpa using this
            exact Nat.ne_of_lt (plt p hp')
        · exact sb9.extBut b o (Ne.symm (Dfp b hb)) (I8.pin (b,o) (List.mem_append_right _ (List.mem_append_right _ (mem_pinsAt hb e)))).1
        · obtain ⟨o,e,d⟩ := T.obj _ _ st5 b hb
          exact (I8.pin (b,o) (List.mem_append_right _ (List.mem_append_right _ (mem_pinsAt hb e)))).2.1
        · have e : its.toArray.push y = (its ++ [y]).toArray := by simp
          rw [← e]; exact pl9
  exact codeAny_compStart_list loop (T.self _ 0 _ _ _ (T.keep 0 _ _ st fun b _ o e => old b o e) loop)
def tComp (wi : TI) (cap : List Nat) (k : Nat) (g : TG) (tt : TT) (te : TE) : TE := fun σ H Q => wi σ H fun J H1 =>
  ∃ W : Nat → Nat → List V → Hp → Prop,(∃ m,W 0 m [] H1) ∧ CompW σ cap k J g tt te (fun ys H' => ∀ p,H' p = none → Q (.ref p) (upd H' p (.lst ys))) W
theorem pe_comp {wi : TI} (hc : X.calm = true) (hit : PI X tg iter wi) (ok : CompOk X scope own cs cap)
    (hg : ∀ pins s2 H2 C fp,PG (blkCx X pins s2 H2 scope C (own ++ cs) fp) tg g) (hi : ∀ pins s2 H2 C fp,PIfs (blkCx X pins s2 H2 scope C (own ++ cs) fp) ifs tt) (he : ∀ pins s2 H2 C fp,PE (blkCx X pins s2 H2 scope C (own ++ cs) fp) elt te)
    (hs : ∀ x,foldedSetIterable iter X.env x = pure x := by intro _; rfl) : PE X (.ListComp elt [⟨tg,iter,ifs,0⟩] scope pos) (tComp wi cap own.length g tt te) := by
  intro pins s σ H Q I h
  rw [eval_ListComp]
  refine wpAny_comprehension_free (use := none) rfl hs (closure_eq fun y hy e => I.ok.has y.1 (ok.free y hy e)) ok.kind ok.names (thn (hit pins s σ H _ I h) fun v s1 h1 => thn h1 fun itv s2 h2 => ?_)
  obtain ⟨it,fp,tn,J,H2,e,I2,T,st2,f2,W,w0,turn⟩ := h2
  subst e
  refine comp_run (RR := fun acc C => compPost (model X.prog X.w) X.A X.xe none (EP X pins σ Q) acc C) I2 ok hc T st2 f2 (fun C => hg _ _ _ _ _) (fun C => hi _ _ _ _ _) (fun C => he _ _ _ _ _) w0 turn fun D C s' B => ?_
  obtain ⟨⟨ys,H',hD,q,I',fp'⟩,m,hn⟩ := B
  obtain ⟨f0,f1,f2',f3,f4,f5⟩ := fp'
  exact ⟨m,hn,fun h' sb => ⟨.ref D,_,I'.turned (t' := s'.toks) (fun b o hb e => sb.extBut b o hb e) f0 f1 f3 f4 f5,rfl,q D hD⟩⟩
theorem ps_comp {wi : TI} {i : Nat} {y : Str} {py spos : Pos} (hc : X.calm = true) (hN : X.N.Nodup) (hiy : X.N[i]? = some y) (hy : X.env.scope.names.lookup y = some .local)
    (hsw : swapsWith (.ListComp elt [⟨tg,iter,ifs,0⟩] scope pos) (some (.Name y py)) spos.line X.env = pure true) (hit : PI X tg iter wi) (ok : CompOk X scope own cs cap)
    (hg : ∀ pins s2 H2 C fp,PG (blkCx X pins s2 H2 scope C (own ++ cs) fp) tg g) (hi : ∀ pins s2 H2 C fp,PIfs (blkCx X pins s2 H2 scope C (own ++ cs) fp) ifs tt) (he : ∀ pins s2 H2 C fp,PE (blkCx X pins s2 H2 scope C (own ++ cs) fp) elt te)
    (hs : ∀ x,foldedSetIterable iter X.env x = pure x := by intro _; rfl) : PS X (.Assign [.Name y py] (.ListComp elt [⟨tg,iter,ifs,0⟩] scope pos) spos) (tAsg (tComp wi cap own.length g tt te) (gName i)) := by
  intro pins s σ H D0 I h
  rw [exec_Assign_Name_used _ _ _ _ hsw]
  refine wpAny_bind (wpAny_standAt (wpAny_bind ?_))
  show wpAny _ X.A (do let _ ← comprehension (.ListComp elt [⟨tg,iter,ifs,0⟩] scope pos) scope X.env _ (newList []) false (eval iter X.env) (some (assign (.Name y py) X.env))) _ _ s
  refine wpAny_bind (wpAny_mono (wpAny_comprehension_free (use := some (assign (.Name y py) X.env)) (Q := fun _ s' => SP X pins D0 .next s') rfl hs (closure_eq fun y hy e => I.ok.has y.1 (ok.free y hy e)) ok.kind ok.names
    (thn (hit pins s σ H _ I h) fun v s1 h1 => thn h1 fun itv s2 h2 => ?_)) (fun _ s' hq => wpAny_pure (wpAny_pure hq)) fun _ _ e => e)
  obtain ⟨it,fp,tn,J,H2,e,I2,T,st2,f2,W,w0,turn⟩ := h2
  subst e
  refine comp_run (RR := fun acc C => compPost (model X.prog X.w) X.A X.xe (some (assign (.Name y py) X.env)) (fun _ s' => SP X pins D0 .next s') acc C) I2 ok hc T st2 f2 (fun C => hg _ _ _ _ _) (fun C => hi _ _ _ _ _) (fun C => he _ _ _ _ _) w0 turn fun D C s' B => ?_
  obtain ⟨⟨ys,H',hD,q,I',fp'⟩,m,hn⟩ := B
  obtain ⟨f0,f1,f2',f3,f4,f5⟩ := fp'
  show wpAny _ X.A (assign (.Name y py) X.env (.ref D)) _ _ _
  refine wpAny_assign_Name (store_ok2 I' hN hiy (.inl hy) (v := .ref D) rfl (fun s3 I3 ⟨a,sb,ha⟩ => ?_) (.inr hy))
  have hCa : C ≠ a := by
    rcases ha with z | z
    · rw [z]; exact f1
    · exact fun q => f4 y a z q.symm
  refine ⟨m,hn.sameBut sb hCa,fun h' sb' => ⟨_,_,I3.turned (t' := s3.toks) (fun b o hb e => sb'.extBut b o hb e) f0 f1 f3 f4 f5,q D hD⟩⟩
end
end L2
set_option Elab.async false
set_option linter.all false
set_option maxRecDepth 100000
namespace L2
open PySem PySem.Spec PyProof.Rows
def CDivB (i j : Int) : Prop := 0 < j ∧ j ≤ 10 ^ 60
theorem CDivB.np {i j : Int} (h : CDivB i j) : Builtin.divisionGoesByPylong i j = false := by
  refine PyProof.noPylong_of_log2 ?_
  have h1 : j.natAbs < 2 ^ 200 := by
    obtain ⟨a,b⟩ := h
    omega
  have h2 : j.natAbs.log2 < 200 := (Nat.log2_lt (by have := h.1; omega)).mpr h1
  omega
section
variable {X : Cx}
theorem op_fdivB : OpR X (binaryOp .FloorDiv) (rI CDivB fun i j => .int (i / j)) := opI fun i j _ _ _ _ _ hc q => by
  refine floordiv_int (by have := hc.1; omega) ?_ (.inl hc.np)
  rw [Int.fdiv_eq_ediv_of_nonneg _ (by have := hc.1; omega)]
  exact q
theorem Inv.kitx {pins : List (Addr × Obj)} {σ : St} {H : Hp} {s : Shared} {x : V} {u t : Value} (I : Inv X pins σ H s) (rx : RelV x u) (ty : TyOf X.K H x t) :
    ∃ P : Heap → Prop,PySem.W.KitX X.K u t P ∧ P s.heap ∧ u ≠ .builtin "__main__.__loader__#opaque" := by
  cases ty with
  | non => cases (show u = Value.none from rx); exact ⟨_,PySem.W.kitx_none,True.intro,fun z => nomatch z⟩
  | bl y => cases (show u = Value.bool y from rx); exact ⟨_,PySem.W.kitx_bool,True.intro,fun z => nomatch z⟩
  | int i => obtain ⟨t,q⟩ := (show ∃ t,u = Value.int i t from rx); cases q; exact ⟨_,PySem.W.kitx_int,True.intro,fun z => nomatch z⟩
  | str y => obtain ⟨t,q⟩ := (show ∃ t,u = Value.str y t from rx); cases q; exact ⟨_,PySem.W.kitx_str,True.intro,fun z => nomatch z⟩
  | flt y => obtain ⟨t,q⟩ := (show ∃ t,u = Value.float y t from rx); cases q; exact ⟨_,PySem.W.kitx_float,True.intro,fun z => nomatch z⟩
  | @lst a xs ea =>
    cases (show u = Value.ref a from rx)
    obtain ⟨_,_,n,_,h1⟩ := (show ObjOk X.prog X.w H s.heap a (.lst xs) from I.hok a _ ea)
    exact ⟨_,PySem.W.kitx_list,⟨_,h1,rfl⟩,fun z => nomatch z⟩
  | @frz a ob xs ea =>
    cases (show u = Value.ref a from rx)
    obtain ⟨_,_,_,n,_,h1⟩ := (show ObjOk X.prog X.w H s.heap a (.frz ob (.lst xs)) from I.hok a _ ea)
    exact ⟨_,PySem.W.kitx_list,⟨_,h1,rfl⟩,fun z => nomatch z⟩
  | @tup a xs ea =>
    cases (show u = Value.ref a from rx)
    obtain ⟨_,_,_,p⟩ := (show ObjOk X.prog X.w H s.heap a (.tup xs) from I.hok a _ ea)
    obtain ⟨o,h1,h2,_⟩ := p
    exact ⟨_,PySem.W.kitx_tuple,⟨o,h1,h2⟩,fun z => nomatch z⟩
  | @dK a kvs ea =>
    cases (show u = Value.ref a from rx)
    obtain ⟨_,_,vs,_,p⟩ := (show ObjOk X.prog X.w H s.heap a (.dK kvs) from I.hok a _ ea)
    obtain ⟨o,es,ep,h1,h2,_⟩ := p
    exact ⟨_,PySem.W.kitx_dict,⟨o,h1,h2.1⟩,fun z => nomatch z⟩
  | @dT a kvs ea =>
    cases (show u = Value.ref a from rx)
    obtain ⟨_,_,xs,_,o,es,ep,h1,h2,_⟩ := (show ObjOk X.prog X.w H s.heap a (.dT kvs) from I.hok a _ ea)
    exact ⟨_,PySem.W.kitx_dict,⟨o,h1,h2.1⟩,fun z => nomatch z⟩
  | @ins a C dx fs ea cl ha hn htk hm =>
    cases (show u = Value.ref a from rx)
    obtain ⟨mA,O,_⟩ := ins_get I.hok ea
    obtain ⟨od,J,_⟩ := O.look
    exact ⟨_,PySem.W.kitx_own (cl.get _) cl.hd ha hn htk hm,J,fun z => nomatch z⟩
def clV : V → Option Value
  | .ty T => some (.type T)
  | .ref C => some (.ref C)
  | _ => none
theorem clV.rel {v : V} {u c : Value} (e : clV v = some c) (r : RelV v u) : u = c := by
  cases v with
  | ty T => have e' : Value.type T = c := Option.some.inj e; rw [← e']; exact r
  | ref C => have e' : Value.ref C = c := Option.some.inj e; rw [← e']; exact r
  | _ => cases e
def clVs : List V → Option (List Value)
  | [] => some []
  | v :: r => match clV v,clVs r with
    | some c,some cs => some (c :: cs)
    | _,_ => none
theorem clVs.rel : ∀ {vs : List V} {us cs : List Value},clVs vs = some cs → Vals vs us → us = cs
  | [],_,_,e,.nil => Option.some.inj e
  | v :: r,_,_,e,.cons r1 r2 => by
    unfold clVs at e
    split at e
    · rename_i c cs' e1 e2
      cases e
      rw [clV.rel e1 r1,clVs.rel e2 r2]
    · cases e
theorem call_isinst : CallR X (.builtin "isinstance") (fun xs H Q => ∃ x cv t c b,xs = [x,cv] ∧ TyOf X.K H x t ∧ clV cv = some c ∧ PySem.W.kitOne X.K t c = some b ∧ Q (.bl b) H) := by
  intro pins s σ H xs us Q I rv h
  obtain ⟨x,cv,t,c,b,rfl,ty,e1,e2,q⟩ := h
  cases rv with
  | cons r1 rr =>
    cases rr with
    | cons r2 rr =>
      cases rr
      rw [clV.rel e1 r2]
      exact isinst_ok I r1 ty e2 fun tk => ⟨.bl b,H,I.tok tk,rfl,q⟩
theorem call_isinstT : CallR X (.builtin "isinstance") (fun xs H Q => ∃ x p t cvs cs b,xs = [x,.ref p] ∧ TyOf X.K H x t ∧ H p = some (.tup cvs) ∧ clVs cvs = some cs ∧ PySem.W.kitAny X.K t cs = some b ∧ Q (.bl b) H) := by
  intro pins s σ H xs us Q I rv h
  obtain ⟨x,p,t,cvs,cs,b,rfl,ty,hp,e1,e2,q⟩ := h
  cases rv with
  | cons r1 rr =>
    cases rr with
    | cons r2 rr =>
      cases rr
      cases r2
      obtain ⟨_,its,rits,o,ho,hc,n,hd⟩ := I.hok p _ hp
      obtain ⟨P,Z,p1,p2⟩ := I.kitx r1 ty
      obtain ⟨oc,od,dt,osl⟩ := o
      replace hc : oc = .type "tuple" := hc
      replace hd : dt = .seq its.toArray n := hd
      subst hc hd
      have e3 := clVs.rel e1 rits
      subst e3
      exact PySem.W.kia_tup Z I.kIn p1 ho e2 p2 fun tk => ⟨.bl b,H,I.tok tk,rfl,q⟩
end
mutual
inductive DatV (K : PySem.W.Frag) (H : Hp) : V → PyData → Prop
  | non : DatV K H .non .none
  | bl (b : Bool) : DatV K H (.bl b) (.bool b)
  | int (i : Int) : DatV K H (.int i) (.int i)
  | str (x : Str) : DatV K H (.str x) (.str x)
  | lst {a : Addr} {xs : List V} {ds : List PyData} : SqL K H a xs → DatVs K H xs ds → DatV K H (.ref a) (.list ds)
  | tup {a : Addr} {xs : List V} {ds : List PyData} : SqT K H a xs → DatVs K H xs ds → DatV K H (.ref a) (.tuple ds)
inductive DatVs (K : PySem.W.Frag) (H : Hp) : List V → List PyData → Prop
  | nil : DatVs K H [] []
  | cons {x : V} {d : PyData} {xs : List V} {ds : List PyData} : DatV K H x d → DatVs K H xs ds → DatVs K H (x :: xs) (d :: ds)
end
section
variable {X : Cx} {pins : List (Addr × Obj)} {σ : St} {H : Hp} {s : Shared}
mutual
theorem Inv.reads (I : Inv X pins σ H s) : ∀ {v : V} {d : PyData},DatV X.K H v d → ∀ {u : Value},RelV v u → ∃ as,Reads s.heap u d as
  | _,_,.non,u,r => by cases (show u = Value.none from r); exact ⟨_,.none⟩
  | _,_,.bl b,u,r => by cases (show u = Value.bool b from r); exact ⟨_,.bool b⟩
  | _,_,.int i,u,r => by obtain ⟨t,e⟩ := (show ∃ t,u = Value.int i t from r); subst e; exact ⟨_,.int i t⟩
  | _,_,.str x,u,r => by obtain ⟨t,e⟩ := (show ∃ t,u = Value.str x t from r); subst e; exact ⟨_,.str x t⟩
  | _,_,.lst (a := a) h hs,u,r => by
    cases (show u = Value.ref a from r)
    obtain ⟨its,rv,⟨o,n,e,c,_,d⟩,_⟩ := I.list h
    obtain ⟨as,ra⟩ := I.readsAll hs rv
    exact ⟨_,.list e c d (by simpa using ra)⟩
  | _,_,.tup (a := a) h hs,u,r => by
    cases (show u = Value.ref a from r)
    obtain ⟨its,rv,⟨o,e,c,n,d⟩,_⟩ := I.tuple h
    obtain ⟨as,ra⟩ := I.readsAll hs rv
    exact ⟨_,.tuple e c d (by simpa using ra)⟩
theorem Inv.readsAll (I : Inv X pins σ H s) : ∀ {vs : List V} {ds : List PyData},DatVs X.K H vs ds → ∀ {us : List Value},Vals vs us → ∃ as,ReadsAll s.heap us ds as
  | _,_,.nil,_,.nil => ⟨_,.nil⟩
  | _,_,.cons h hs,_,.cons r rs => by
    obtain ⟨as,ra⟩ := I.reads h r
    obtain ⟨bs,rb⟩ := I.readsAll hs rs
    exact ⟨_,.cons ra rb⟩
end
end
section
variable {X : Cx}
theorem op_eqD (hu : X.A.units + 64 < cLine) : OpR X (compareOp .Eq) (fun x y H Q => ∃ da db,DatV X.K H x da ∧ DatV X.K H y db ∧ SeqAt.shaped da = true ∧ SeqAt.shaped db = true ∧ Q (.bl (PyData.eqv da db)) H) := by
  intro pins s σ H x y v u Q I rx ry h
  obtain ⟨da,db,hx,hy,s1,s2,q⟩ := h
  obtain ⟨as,ra⟩ := I.reads hx rx
  obtain ⟨bs,rb⟩ := I.reads hy ry
  exact eq_dataH ra rb s1 s2 hu ⟨.bl _,H,I,rfl,q⟩
end
section
variable {prog : Program} {w : World} {A : Around} {E : Value → Shared → Prop}
theorem draw_listN {it l : Addr} {items : Array Value} (hne : l ≠ it) : ∀ (n i : Nat) (s : Shared) (Q : List Value → Shared → Prop),s.heap.IsListIter it l i → s.heap.IsList l items → i + n ≤ items.size →
    (∀ h',h'.IsListIter it l (i + n) → Heap.SameBut it s.heap h' → Q ((items.toList.drop i).take n) { s with heap := h' }) → wpAny (model prog w) A (draw (.ref it) n) Q E s
  | 0,i,s,Q,hit,_,_,hQ => by
    show wpAny _ _ (pure []) Q E s
    exact wpAny_pure (by simpa using hQ s.heap hit (Heap.SameBut.refl ..))
  | n + 1,i,s,Q,hit,ht,hle,hQ => by
    have hlt : i < items.size := by omega
    show wpAny _ _ (pyNext (.ref it) >>= _) Q E s
    refine wpAny_bind (wpAny_pyNext_list_item hit ht (x := items[i]) (by simp [hlt]) fun h₁ hit₁ hs₁ => ?_)
    refine wpAny_bind (wpAny_holding (draw_listN hne n (i + 1) _ _ hit₁ (ht.extBut hs₁.extBut hne) (by omega) fun h₂ hit₂ hs₂ => wpAny_pure ?_))
    have hd : items.toList.drop i = items[i] :: items.toList.drop (i + 1) := by simp [List.drop_eq_getElem_cons,hlt]
    have q := hQ h₂ (by rw [show i + (n + 1) = i + 1 + n by omega]; exact hit₂) (hs₁.trans hs₂)
    rw [hd,List.take_succ_cons] at q
    exact q
theorem unpackItems_listN {s : Shared} {l : Addr} {items : Array Value} {Q : List Value → Shared → Prop} (hh : A.handled = none) (ht : s.heap.IsList l items)
    (hQ : ∀ h',Heap.ExtBut s.heap.objs.size s.heap h' → Q items.toList { s with heap := h' }) : wpAny (model prog w) A (unpackItems (.ref l) items.size none) Q E s := by
  have hlt : l ≠ s.heap.objs.size := by obtain ⟨o,ho,_⟩ := ht; exact Nat.ne_of_lt (Heap.lt_size ho)
  have hp : (s.heap.push { cls := .type "list_iterator",data := .fields #[.ref l,.int 0 0] }).IsList l items := by
    obtain ⟨o,ho,r⟩ := ht; exact ⟨o,Heap.get?_push_of_some _ ho,r⟩
  unfold unpackItems
  refine wpAny_bind ?_
  · unfold notIterableAtAll
    refine wpAny_bind (wpAny_specialOf ht.typeIs PySem.slot_list_iter.lookup ?_)
    refine wpAny_pure ?_
    simp only [Bool.false_eq_true,if_false]
    refine wpAny_bind (wpAny_holding (wpAny_pyIter_list ht ?_))
    refine wpAny_bind (wpAny_holding (draw_listN hlt items.size 0 _ _ ⟨_,Heap.get?_push_size _ rfl,rfl,rfl⟩ hp (by omega) fun h₁ hit₁ hs₁ => ?_))
    have hall : List.take items.size (List.drop 0 items.toList) = items.toList := by
      rw [List.drop_zero]; exact List.take_of_length_le (by simp)
    rw [hall]
    rw [if_neg (by simp)]
    have ht₁ : h₁.IsList l items := hp.extBut hs₁.extBut hlt
    refine wpAny_bind (wpAny_holding (wpAny_pyNext_list_end hh hit₁ ht₁ (by simp) fun h₂ he₂ => ?_))
    simp only [Option.isSome_none,Bool.false_eq_true,if_false]
    refine wpAny_pure (hQ h₂ fun b o hb e => he₂ b o hb (hs₁.extBut b o hb (Heap.get?_push_of_some _ e)))
theorem assign_Tuple_listN {s : Shared} {env : Env} {elts : List Expr} {x1} {pos : Pos} {l : Addr} {items : Array Value} {Q : Unit → Shared → Prop} (hh : A.handled = none) (ht : s.heap.IsList l items)
    (hn : (assignEach elts env).length = items.size) (hstar : (assignEach elts env).findIdx? (·.1) = none)
    (h : ∀ h',Heap.ExtBut s.heap.objs.size s.heap h' → wpAny (model prog w) A (assignInOrder ((assignEach elts env).map (·.2)) items.toList) Q E { s with heap := h' }) :
    wpAny (model prog w) A (assign (.Tuple elts x1 pos) env (.ref l)) Q E s := by
  rw [assign_Tuple]
  refine wpAny_bind (wpAny_standAt ?_)
  unfold unpack
  rw [hn,hstar]
  exact wpAny_bind (wpAny_holding (unpackItems_listN hh ht h))
end
section
variable {X : Cx} {pos : Pos}
def gSeq (K : PySem.W.Frag) (n : Nat) (t : TGs) : TG := fun v σ H Q => ∃ a xs,v = .ref a ∧ (SqL K H a xs ∨ SqT K H a xs) ∧ xs.length = n ∧ t xs σ H Q
theorem pg_seq {es : List Expr} {k : Nat} {t : TGs} {n : Nat} (hc : X.calm = true) (h : PGs X es t)
    (hn : (assignEach es X.env).length = n := by rfl) (hst : (assignEach es X.env).findIdx? (·.1) = none := by rfl) : PG X (.Tuple es k pos) (gSeq X.K n t) := by
  intro pins s σ H v u Q I r hw
  obtain ⟨a,xs,e1,hq,hl,hw⟩ := hw
  rcases hq with hq | hq
  · subst e1
    cases r
    obtain ⟨its,rv,ht,hz⟩ := I.list hq
    refine assign_Tuple_listN (I.ok.hd hc) ht.isList (by simp [hn,← hl,rv.length]) hst fun h' hx => ?_
    have I1 : Inv X pins σ H { s with heap := h' } := I.kept (t' := s.toks) fun b o e => hx b o (Nat.ne_of_lt (Heap.lt_size e)) e
    exact h pins _ σ H xs _ Q I1 (by simpa using rv) hw
  · exact pg_tup hc h hn hst pins s σ H v u Q I r ⟨a,xs,e1,hq,hl,hw⟩
end
section
variable {X : Cx}
theorem Inv.turnedN {pins : List (Addr × Obj)} {σ : St} {H : Hp} {s : Shared} {h' : Heap} {t' : Nat} {ch : List Addr} (I : Inv X pins σ H s) (hf : ∀ b ∈ ch,FpOk X pins H b) (k : ∀ b o,b ∉ ch → s.heap.get? b = some o → h'.get? b = some o) : Inv X pins σ H { s with heap := h',toks := t' } := by
  have hLc : X.env.locals ∉ ch := fun z => (hf _ z).2.1 rfl
  have nt : ∀ b u,H b = some u → b ∉ ch := fun b u e z => by rw [(hf b z).1] at e; cases e
  refine I.step (g' := s.gens) (d' := s.drawn) (ch := ch) (fun b hb => ⟨(hf b hb).2.2.2.1,(hf b hb).2.1,(hf b hb).2.2.2.2.1,(hf b hb).2.2.2.2.2⟩) (fun b o _ _ hc e _ => k b o hc e) (fun b o _ _ hc e _ => ⟨o.slots,k b o hc e⟩) (fun _ _ _ _ n => n)
    (fun b o hc e => ⟨o,k b o hc e⟩) (fun _ _ e => e) (fun _ _ _ e => e) (fun b ps e => ⟨#[],by rw [e]; simp⟩) (fun m hm => ?_) (fun b u e => ?_) I.bare
  · obtain ⟨o,es,ep,ho,r⟩ := hm
    exact ⟨o,es,ep,k _ o hLc ho,r⟩
  · refine (I.hok b u e).stay (fun c v hc q => k c v ?_ q) (fun _ q => q) fun _ _ q => q
    rcases hc with z | z
    · rw [z]; exact nt b u e
    · exact nt c _ z
theorem Inv.track {pins : List (Addr × Obj)} {σ : St} {H : Hp} {s : Shared} {a : Addr} {o : HO} (I : Inv X pins σ H s) (hf : FpOk X pins H a) (fa : X.s₀.heap.objs.size ≤ a) (new : ObjOk X.prog X.w (upd H a o) s.heap a o) : Inv X pins σ (upd H a o) s := by
  obtain ⟨f0,f1,f2,f3,f4,f5⟩ := hf
  have s0 : ∀ b o,X.s₀.heap.get? b = some o → b ≠ a := fun b o e => Nat.ne_of_lt (Nat.lt_of_lt_of_le (Heap.lt_size e) fa)
  refine ⟨I.ok,I.os,I.bare,⟨I.base.keep,I.base.slot,fun b o e n hx => ?_,I.base.there,fun b xs e => ?_,fun b o u e => ?_,fun b ps e => ?_⟩,I.loc,I.cell,?_,fun x c e => ?_,fun p hp => ?_,I.hok.add f0 new,I.len⟩
  · rw [upd_ne (s0 b o e)]; exact I.base.free b o e n hx
  · have q := I.base.tups b xs e
    rw [upd_ne (ne_of_none q f0)]; exact q
  · have q := I.base.frzs b o u e
    rw [upd_ne (ne_of_none q f0)]; exact q
  · obtain ⟨more,q⟩ := I.base.tbls b ps e
    exact ⟨more,by rw [upd_ne (ne_of_none q f0)]; exact q⟩
  · rw [upd_ne (Ne.symm f1)]; exact I.free
  · rw [upd_ne (f4 x c e)]; exact I.freeC x c e
  · obtain ⟨e,n,r⟩ := I.pin p hp
    exact ⟨e,by rw [upd_ne (f5 p hp)]; exact n,r⟩
end
structure ZipAp (z TI TO i1 i2 : Addr) : Prop where
  nd : [z,TI,TO,i1,i2].Nodup
end L2
set_option Elab.async false
set_option linter.all false
set_option maxRecDepth 100000
namespace L2
open PySem PySem.Spec PyProof.Rows
def Dn (P : Program) (w : World) (K : PySem.W.Frag) (mg : Str → Option Value) (base : Heap) (x : Str) (ps : List Str) (k : Nat) (sp : Sp) : Prop :=
  ∃ (f : Addr) (fd : FuncData),FnOk P w K mg base CX0 k f fd ps sp ∧ Binds K fd ps [] ∧ PySem.W.keepIn K (.ref f) = true ∧ mg x = some (.ref f)
theorem pe_cD {X : Cx} {k : Nat} {ps : List Str} {sp : Sp} {x : Str} {p pos : Pos} {e : Expr} {es : List Expr} {t : TA} (D : Dn X.prog X.w X.K X.mg X.base x ps k sp) (hr : Room k X.A) (hg : Gl X x) (ha : PA X (e :: es) t)
    (hdb : (x == ("__debug__" : Str)) = false := by decide) (he : starEach (e :: es) X.env = (false,eval e X.env) :: starEach es X.env := by rfl) (hpl : (backTo pos (starEach es X.env)).any (·.1) = false := by rfl) :
    PE X (.Call (.Name x p) (e :: es) [] pos) (tCall sp [] E0 t) := by
  obtain ⟨f,fd,F,hb,hk,hm⟩ := D
  exact pe_call F hr hg hm hk hb .nil pass0 ha hdb he hpl
def compChk (sc : Scope) (N : List Str) (scope : Scope) (own cs : List Str) (cap : List Nat) : Bool :=
  decide (scope.kind = .function) && scope.names.all (fun y => decide (y.2 ≠ .cell)) && scope.names.all (fun y => decide (y.2 = .local → scope.names.lookup y.1 = some .local)) &&
  scope.names.all (fun y => decide (y.2 = .free → sc.names.lookup y.1 = some .cell ∨ sc.names.lookup y.1 = some .free)) && own.all (fun y => decide (scope.names.lookup y = some .local)) &&
  decide (cs.length = cap.length) && (cs.zip cap).all (fun y => decide (N[y.2]? = some y.1) && decide ((y.1,NameKind.free) ∈ scope.names)) && scope.names.all (fun y => decide (y.2 = .free → scope.names.lookup y.1 ≠ some .local))
theorem compOk_of {X : Cx} {sc : Scope} {N : List Str} {scope : Scope} {own cs : List Str} {cap : List Nat} (h1 : X.env.scope = sc) (h2 : X.N = N) (h : compChk sc N scope own cs cap = true) : CompOk X scope own cs cap := by
  subst h1 h2
  unfold compChk at h
  simp only [Bool.and_eq_true,List.all_eq_true,decide_eq_true_eq] at h
  obtain ⟨⟨⟨⟨⟨⟨⟨a1,a2⟩,a3⟩,a4⟩,a5⟩,a6⟩,a7⟩,a8⟩ := h
  refine ⟨a1,a2,a3,a4,fun i y e => ?_,a5,a6,fun y hy e => a8 _ hy rfl e⟩
  have hi : i < cs.length := (List.getElem?_eq_some_iff.mp e).1
  have hj : i < cap.length := by rw [← a6]; exact hi
  refine ⟨cap[i],List.getElem?_eq_getElem hj,?_⟩
  have hm : (y,cap[i]) ∈ cs.zip cap := by
    have : (cs.zip cap)[i]? = some (y,cap[i]) := by
      rw [List.getElem?_zip_eq_some]
      exact ⟨e,List.getElem?_eq_getElem hj⟩
    exact List.mem_of_getElem? this
  exact a7 _ hm
theorem tYes_ite {σ : St} {H : Hp} {A B : Hp → Prop} (h : A H) : tYes σ H (fun ok H3 => if ok = true then A H3 else B H3) := by
  show (if (true : Bool) = true then A H else B H)
  rw [if_pos rfl]
  exact h
section
variable {X : Cx} {tg : Expr}
def iSeq (K : PySem.W.Frag) (tl : TE) : TI := fun σ H R => iList K tl σ H R ∨ iTup K tl σ H R
theorem pi_seq {l : Expr} {tl : TE} (hl : PE X l tl) : PI X tg l (iSeq X.K tl) := by
  intro pins s σ H R I h
  rcases h with h | h
  · exact pi_list hl pins s σ H R I h
  · exact pi_tup hl pins s σ H R I h
end
def tyNames : List String := ["NoneType","bool","int","str","list","tuple","dict"]
theorem kit_int {K : PySem.W.Frag} : ∀ T ∈ tyNames,PySem.W.kitOne K (.type T) (.type "int") = some (T == "int" || T == "bool") := by
  intro T h
  simp only [tyNames,List.mem_cons,List.not_mem_nil,or_false] at h
  rcases h with rfl | rfl | rfl | rfl | rfl | rfl | rfl <;> kernel_rfl
theorem kit_bool {K : PySem.W.Frag} : ∀ T ∈ tyNames,PySem.W.kitOne K (.type T) (.type "bool") = some (T == "bool") := by
  intro T h
  simp only [tyNames,List.mem_cons,List.not_mem_nil,or_false] at h
  rcases h with rfl | rfl | rfl | rfl | rfl | rfl | rfl <;> kernel_rfl
theorem kit_list {K : PySem.W.Frag} : ∀ T ∈ tyNames,PySem.W.kitOne K (.type T) (.type "list") = some (T == "list") := by
  intro T h
  simp only [tyNames,List.mem_cons,List.not_mem_nil,or_false] at h
  rcases h with rfl | rfl | rfl | rfl | rfl | rfl | rfl <;> kernel_rfl
theorem kit_tuple {K : PySem.W.Frag} : ∀ T ∈ tyNames,PySem.W.kitOne K (.type T) (.type "tuple") = some (T == "tuple") := by
  intro T h
  simp only [tyNames,List.mem_cons,List.not_mem_nil,or_false] at h
  rcases h with rfl | rfl | rfl | rfl | rfl | rfl | rfl <;> kernel_rfl
theorem kit_row {K : PySem.W.Frag} : ∀ T ∈ tyNames,PySem.W.kitAny K (.type T) [.type "list",.type "tuple"] = some (T == "list" || T == "tuple") := by
  intro T h
  have h1 := kit_list (K := K) T h
  have h2 := kit_tuple (K := K) T h
  unfold PySem.W.kitAny
  rw [h1]
  cases e : (T == "list") with
  | true => rfl
  | false =>
    show PySem.W.kitAny K (.type T) [.type "tuple"] = _
    unfold PySem.W.kitAny
    rw [h2]
    cases e2 : (T == "tuple") <;> rfl
def Ty (K : PySem.W.Frag) (H : Hp) (x : V) (T : String) : Prop := T ∈ tyNames ∧ TyOf K H x (.type T)
theorem Ty.int {K : PySem.W.Frag} {H : Hp} {i : Int} : Ty K H (.int i) "int" := ⟨by simp [tyNames],.int i⟩
theorem Ty.bl {K : PySem.W.Frag} {H : Hp} {b : Bool} : Ty K H (.bl b) "bool" := ⟨by simp [tyNames],.bl b⟩
theorem Ty.lst {K : PySem.W.Frag} {H : Hp} {a : Addr} {xs : List V} (e : H a = some (.lst xs)) : Ty K H (.ref a) "list" := ⟨by simp [tyNames],.lst e⟩
theorem Ty.tup {K : PySem.W.Frag} {H : Hp} {a : Addr} {xs : List V} (e : H a = some (.tup xs)) : Ty K H (.ref a) "tuple" := ⟨by simp [tyNames],.tup e⟩
def whole : V → Int → Bool
  | .int i,l => decide (l ≤ i)
  | _,_ => false
def isBl : V → Bool
  | .bl _ => true
  | _ => false
theorem ty_int {K : PySem.W.Frag} {H : Hp} {x : V} {T : String} (t : TyOf K H x (.type T)) (h : T ∈ tyNames) : (T == "int") = true → ∃ i,x = .int i := by
  intro e
  have e' : T = "int" := by simpa using e
  subst e'
  generalize hv : Value.type "int" = tv at t
  cases t with
  | int i => exact ⟨i,rfl⟩
  | _ => exact absurd hv (by simp)
theorem ty_bool {K : PySem.W.Frag} {H : Hp} {x : V} {T : String} (t : TyOf K H x (.type T)) : (T == "bool") = isBl x := by
  generalize hv : Value.type T = tv at t
  cases t with
  | bl b => cases hv; rfl
  | non => cases hv; rfl
  | int i => cases hv; rfl
  | str i => cases hv; rfl
  | flt i => cases hv; rfl
  | lst i => cases hv; rfl
  | frz i => cases hv; rfl
  | tup i => cases hv; rfl
  | dK i => cases hv; rfl
  | dT i => cases hv; rfl
  | ins => cases hv
end L2
namespace Pc
open PySem L2
structure Pot (a b : Int) : Prop where
  a0 : 0 ≤ a
  b0 : 0 ≤ b
  b1 : b < 2147483629
def But (p : Addr) (H H' : Hp) : Prop := ∀ b o,b ≠ p → H b = some o → H' b = some o
theorem But.refl {p : Addr} {H : Hp} : But p H H := fun _ _ _ e => e
theorem But.trans {p : Addr} {H H1 H2 : Hp} (a : But p H H1) (b : But p H1 H2) : But p H H2 := fun c o n e => b c o n (a c o n e)
theorem But.upd {p : Addr} {H : Hp} {o : HO} : But p H (upd H p o) := fun b u n e => by rw [upd_ne n]; exact e
theorem But.new {p q : Addr} {H : Hp} {o : HO} (h : H q = none) : But p H (L2.upd H q o) := fun b u n e => by rw [upd_ne (ne_of_none e h)]; exact e
structure Kd where
  w : Int
  h : Int
  wo : Int
  wa : Int
  tu : Bool
def kdV (k : Kd) : List V := [.int k.w,.int k.h,.int k.wo,.int k.wa,.bl k.tu]
structure Good (k : Kd) : Prop where
  w : 1 ≤ k.w
  h : 1 ≤ k.h
  wo : 0 ≤ k.wo
  wa : 0 ≤ k.wa
  w' : k.w < 10 ^ 60
  h' : k.h < 10 ^ 60
  wo' : k.wo < 10 ^ 60
  wa' : k.wa < 10 ^ 60
def TupAt (H : Hp) (v : V) (k : Kd) : Prop := ∃ a,v = .ref a ∧ H a = some (.tup (kdV k))
def LstAt (H : Hp) (v : V) (k : Kd) : Prop := ∃ a,v = .ref a ∧ H a = some (.lst (kdV k))
def RowAt (H : Hp) (v : V) (k : Kd) : Prop := TupAt H v k ∨ LstAt H v k
abbrev Tups (H : Hp) : List V → List Kd → Prop := Paired (TupAt H)
theorem Tups.keep {H H' : Hp} (k : ∀ b xs,H b = some (.tup xs) → H' b = some (.tup xs)) : ∀ {xs : List V} {ks : List Kd},Tups H xs ks → Tups H' xs ks := fun r =>
  Paired.mapP r fun v kd ⟨a,e,h⟩ => ⟨a,e,k a _ h⟩
structure ToldAt (H : Hp) (t l : Addr) (bl : Int) (xs : List V) (ks : List Kd) : Prop where
  t : H t = some (.tup [.int bl,.ref l])
  l : H l = some (.lst xs)
  r : Tups H xs ks
  b0 : 0 ≤ bl
  b1 : bl < 10 ^ 60
  g : ∀ k ∈ ks,Good k
  n0 : 1 ≤ xs.length
  n1 : xs.length ≤ 8
def spWhole (K : PySem.W.Frag) : Sp := fun vs H Q _ => ∃ (x : V) (T : String) (l : Int),vs = [x,.int l] ∧ Ty K H x T ∧ Q (.bl (whole x l)) H
def spTruth (K : PySem.W.Frag) : Sp := fun vs H Q _ => ∃ (x : V) (T : String),vs = [x] ∧ Ty K H x T ∧ Q (.bl (isBl x)) H
def spRow (K : PySem.W.Frag) : Sp := fun vs H Q _ => ∃ (x : V) (T : String), vs = [x] ∧ Ty K H x T ∧ ∀ H', Same H H' → Q (.bl (T == "list" || T == "tuple")) H'
def kind5 : List V → Bool
  | [w,h,wo,wa,tu] => whole w 1 && whole h 1 && whole wo 0 && whole wa 0 && isBl tu
  | _ => false
def spIsKind (K : PySem.W.Frag) : Sp := fun vs H Q _ => ∃ (x : V) (T : String),vs = [x] ∧ Ty K H x T ∧ 
  ((T ≠ "list" ∧ T ≠ "tuple" ∧ ∀ H', Same H H' → Q (.bl false) H') ∨ ∃ (a : Addr) (xs : List V), x = .ref a ∧ (H a = some (.lst xs) ∨ H a = some (.tup xs)) ∧ (∀ y ∈ xs, ∃ U, Ty K H y U) ∧ ∀ H', Same H H' → Q (.bl (kind5 xs)) H')
theorem kind5_good {k : Kd} (g : Good k) : kind5 (kdV k) = true := by
  show (decide (1 ≤ k.w) && decide (1 ≤ k.h) && decide (0 ≤ k.wo) && decide (0 ≤ k.wa) && true) = true
  rw [decide_eq_true g.w,decide_eq_true g.h,decide_eq_true g.wo,decide_eq_true g.wa]
  rfl
theorem Ty.same {K : PySem.W.Frag} {H H' : Hp} {x : V} {T : String} (s : Same H H') (t : Ty K H x T) : Ty K H' x T := by
  refine ⟨t.1,?_⟩
  have t2 := t.2
  generalize hv : Value.type T = tv at t2 ⊢
  cases t2 with
  | non => exact .non
  | bl b => exact .bl b
  | int b => exact .int b
  | str b => exact .str b
  | flt b => exact .flt b
  | lst e => exact .lst (s _ _ e)
  | frz e => exact .frz (s _ _ e)
  | tup e => exact .tup (s _ _ e)
  | dK e => exact .dK (s _ _ e)
  | dT e => exact .dT (s _ _ e)
  | ins => cases hv
end Pc
set_option Elab.async false
set_option linter.all false
set_option maxRecDepth 100000
namespace L2
open PySem PySem.Spec PyProof.Rows
def rTupleOf (K : PySem.W.Frag) : List V → Hp → VK → Prop := fun xs H Q => ∃ p ys,xs = [V.ref p] ∧ ((SqL K H p ys ∧ ∀ l,H l = none → Q (.ref l) (upd H l (.tup ys))) ∨ (SqT K H p ys ∧ Q (.ref p) H))
theorem for_seqV {K : PySem.W.Frag} {j : Nat} {a : Addr} {xs : List V} {g : TG} {tb : TS} {D : Ends} {σ : St} {H : Hp} (hσ : σ[j]? = some (some (.ref a))) (hs : H a = some (.lst xs) ∨ H a = some (.tup xs)) (Pv : Nat → St → Hp → Prop) (h0 : Pv 0 σ H)
    (hk : ∀ i σ H',i ≤ xs.length → Pv i σ H' → ∀ o,H a = some o → H' a = some o)
    (ht : ∀ i x σ H,xs[i]? = some x → Pv i σ H → g x σ H fun σ2 H2 => tb { D with nx := Pv (i + 1),ct := Pv (i + 1),bk := D.nx } σ2 H2) (hd : ∀ σ H,Pv xs.length σ H → D.nx σ H) : tFor (iSeq K (tVar j)) g tb D σ H := by
  rcases hs with z | z
  · exact .inl ⟨_,hσ,a,rfl,⟨xs,SqL.of z⟩,for_list (xs := xs) Pv h0 (fun i σ H' hi p => SqL.of (hk i σ H' hi p _ z)) ht hd⟩
  · exact .inr ⟨_,hσ,a,rfl,⟨xs,SqT.of z⟩,for_tup (xs := xs) Pv h0 (fun i σ H' hi p => SqT.of (hk i σ H' hi p _ z)) ht hd⟩
def Nx (n : Nat) (Pv : Nat → List V → Hp → Prop) (i : Nat) (ys : List V) (H : Hp) : Prop := ∃ m',m' < n - i ∧ m' = n - (i + 1) ∧ i + 1 ≤ n ∧ Pv (i + 1) ys H
theorem Nx.of {n : Nat} {Pv : Nat → List V → Hp → Prop} {i : Nat} {ys : List V} {H : Hp} (h : i < n) (p : Pv (i + 1) ys H) : Nx n Pv i ys H := ⟨n - (i + 1),by omega,rfl,h,p⟩
theorem comp_seq {K : PySem.W.Frag} {a : Addr} {xs : List V} {σ : St} {cap : List Nat} {k : Nat} {g : TG} {tt : TT} {te : TE} {Q : List V → Hp → Prop} {H : Hp} (hs : H a = some (.lst xs) ∨ H a = some (.tup xs)) (Pv : Nat → List V → Hp → Prop)
    (hk : ∀ i ys H',i ≤ xs.length → Pv i ys H' → ∀ o,H a = some o → H' a = some o) (h0 : Pv 0 [] H)
    (ht : ∀ i x ys H',xs[i]? = some x → Pv i ys H' → ys.length < sizeLine ∧ g x (blkSt σ cap k) H' fun σ2 H2 => leS (blkSt σ cap k) σ2 ∧ tt σ2 H2 fun ok H3 => if ok = true then te σ2 H3 (fun v H4 => Nx xs.length Pv i (ys ++ [v]) H4) else Nx xs.length Pv i ys H3)
    (hd : ∀ ys H',Pv xs.length ys H' → ys.length ≤ sizeLine ∧ Q ys H') :
    (H a = some (.lst xs) → ∃ W,(∃ m,W 0 m [] H) ∧ CompW σ cap k (Itl K a) g tt te Q W) ∧ (H a = some (.tup xs) → ∃ W,(∃ m,W 0 m [] H) ∧ CompW σ cap k (Itt K a) g tt te Q W) := by
  refine ⟨fun z => ⟨fun i m ys H' => m = xs.length - i ∧ i ≤ xs.length ∧ Pv i ys H',⟨_,rfl,Nat.zero_le _,h0⟩,?_⟩,fun z => ⟨fun i m ys H' => m = xs.length - i ∧ i ≤ xs.length ∧ Pv i ys H',⟨_,rfl,Nat.zero_le _,h0⟩,?_⟩⟩
  · rintro i m ys H' ⟨rfl,hi,p⟩
    have z' := hk i ys H' hi p _ z
    by_cases hin : i < xs.length
    · obtain ⟨e,hg⟩ := ht i xs[i] ys H' (by simp [hin]) p
      refine .inr ⟨⟨xs,xs[i],SqL.of z',by simp [hin]⟩,e,fun x H2 yl => ?_⟩
      obtain ⟨e1,e2⟩ := yl
      have e3 := e2 xs (SqL.of z')
      have e4 : x = xs[i] := by simpa [hin] using e3.symm
      subst e1 e4
      exact hg
    · have e : i = xs.length := by omega
      subst e
      obtain ⟨a1,a2⟩ := hd ys H' p
      exact .inl ⟨⟨xs,SqL.of z',Nat.le_refl _⟩,a1,a2⟩
  · rintro i m ys H' ⟨rfl,hi,p⟩
    have z' := hk i ys H' hi p _ z
    by_cases hin : i < xs.length
    · obtain ⟨e,hg⟩ := ht i xs[i] ys H' (by simp [hin]) p
      refine .inr ⟨⟨xs,xs[i],SqT.of z',by simp [hin]⟩,e,fun x H2 yl => ?_⟩
      obtain ⟨e1,e2⟩ := yl
      have e3 := e2 xs (SqT.of z')
      have e4 : x = xs[i] := by simpa [hin] using e3.symm
      subst e1 e4
      exact hg
    · have e : i = xs.length := by omega
      subst e
      obtain ⟨a1,a2⟩ := hd ys H' p
      exact .inl ⟨⟨xs,SqT.of z',Nat.le_refl _⟩,a1,a2⟩
theorem comp_seqV {K : PySem.W.Frag} {j : Nat} {a : Addr} {xs : List V} {σ : St} {cap : List Nat} {k : Nat} {g : TG} {tt : TT} {te : TE} {Q : VK} {H : Hp} (hσ : σ[j]? = some (some (.ref a))) (hs : H a = some (.lst xs) ∨ H a = some (.tup xs)) (Pv : Nat → List V → Hp → Prop)
    (hk : ∀ i ys H',i ≤ xs.length → Pv i ys H' → ∀ o,H a = some o → H' a = some o) (h0 : Pv 0 [] H)
    (ht : ∀ i x ys H',xs[i]? = some x → Pv i ys H' → ys.length < sizeLine ∧ g x (blkSt σ cap k) H' fun σ2 H2 => leS (blkSt σ cap k) σ2 ∧ tt σ2 H2 fun ok H3 => if ok = true then te σ2 H3 (fun v H4 => Nx xs.length Pv i (ys ++ [v]) H4) else Nx xs.length Pv i ys H3)
    (hd : ∀ ys H',Pv xs.length ys H' → ys.length ≤ sizeLine ∧ ∀ p,H' p = none → Q (.ref p) (upd H' p (.lst ys))) : tComp (iSeq K (tVar j)) cap k g tt te σ H Q := by
  obtain ⟨c1,c2⟩ := comp_seq (K := K) (σ := σ) (cap := cap) (k := k) (g := g) (tt := tt) (te := te) hs Pv hk h0 ht hd
  rcases hs with z | z
  · exact .inl ⟨_,hσ,a,rfl,⟨xs,SqL.of z⟩,c1 z⟩
  · exact .inr ⟨_,hσ,a,rfl,⟨xs,SqT.of z⟩,c2 z⟩
end L2
namespace Pc
open PySem L2
def flds (b : Int) (r : Addr) : List (Str × V) := putF "kind_rows" (.ref r) (putF "blade_width" (.int b) [])
theorem kbw : ¬ (("blade_width" : Str) = "kind_rows") := by decide +kernel
theorem flds_blade (b : Int) (r : Addr) : (flds b r).lookup ("blade_width" : Str) = some (.int b) := by
  unfold flds
  rw [lookup_putF,if_neg kbw,lookup_putF,if_pos rfl]
theorem flds_rows (b : Int) (r : Addr) : (flds b r).lookup ("kind_rows" : Str) = some (.ref r) := by
  unfold flds
  rw [lookup_putF,if_pos rfl]
theorem flds_no (b : Int) (r : Addr) {m : Str} (h1 : ¬ m = "kind_rows") (h2 : ¬ m = "blade_width") : (flds b r).lookup m = none := by
  unfold flds
  rw [lookup_putF,if_neg h1,lookup_putF,if_neg h2]
  all_goals rfl
def ShopAt (C : Addr) (H : Hp) (x : Addr) (b : Int) (ks : List Kd) : Prop := ∃ dx r rs,H x = some (.ins C dx (flds b r)) ∧ H r = some (.tup rs) ∧ Tups H rs ks
theorem ShopAt.keep {C : Addr} {H H' : Hp} {x : Addr} {b : Int} {ks : List Kd} (s : ShopAt C H x b ks) (k1 : ∀ b xs,H b = some (.tup xs) → H' b = some (.tup xs)) (k2 : ∀ b C dx fs,H b = some (.ins C dx fs) → H' b = some (.ins C dx fs)) : ShopAt C H' x b ks := by
  obtain ⟨dx,r,rs,h1,h2,h3⟩ := s
  exact ⟨dx,r,rs,k2 _ _ _ _ h1,k1 _ _ h2,Tups.keep k1 h3⟩
def spInit (C : Addr) : Sp := fun vs H Q _ => ∃ (x dx ks : Addr) (b : Int) (rs : List V) (kds : List Kd),vs = [.ref x,.int b,.ref ks] ∧ H x = some (.ins C dx []) ∧ 0 ≤ b ∧ (H ks = some (.lst rs) ∨ H ks = some (.tup rs)) ∧ Paired (RowAt H) rs kds ∧ (∀ k ∈ kds,Good k) ∧ 1 ≤ rs.length ∧ rs.length ≤ 8 ∧
  ∀ H' : Hp,ShopAt C H' x b kds → (∀ c o,c ≠ x → H c = some o → H' c = some o) → Q .non H'
def spBlade (C : Addr) : Sp := fun vs H Q _ => ∃ (x : Addr) (b : Int) (ks : List Kd),vs = [.ref x] ∧ ShopAt C H x b ks ∧ Q (.int b) H
def spKinds (C : Addr) : Sp := fun vs H Q _ => ∃ (x : Addr) (b : Int) (ks : List Kd),vs = [.ref x] ∧ ShopAt C H x b ks ∧ ∀ (l : Addr) (rs : List V),H l = none → Tups H rs ks → Q (.ref l) (upd H l (.lst rs))
theorem rows_ty {K : PySem.W.Frag} {H : Hp} {k : Kd} : ∀ y ∈ kdV k,∃ U,Ty K H y U := by
  intro y hy
  simp only [kdV,List.mem_cons,List.not_mem_nil,or_false] at hy
  rcases hy with rfl | rfl | rfl | rfl | rfl
  · exact ⟨_,.int⟩
  · exact ⟨_,.int⟩
  · exact ⟨_,.int⟩
  · exact ⟨_,.int⟩
  · exact ⟨_,.bl⟩
theorem Paired.getR {α β : Type} {F : α → β → Prop} : ∀ {l₁ : List α} {l₂ : List β} {i : Nat} {x : α},Paired F l₁ l₂ → l₁[i]? = some x → ∃ y,l₂[i]? = some y ∧ F x y
  | _,_,_,_,.nil,e => by simp at e
  | _,_,0,_,.cons h _,e => by simp at e; subst e; exact ⟨_,rfl,h⟩
  | _,_,i + 1,x,.cons _ t,e => by
    obtain ⟨y,h1,h2⟩ := Paired.getR (i := i) (x := x) t (by simpa using e)
    exact ⟨y,by simpa using h1,h2⟩
theorem RowAt.same {H H' : Hp} {v : V} {k : Kd} (s : Same H H') (r : RowAt H v k) : RowAt H' v k := by
  rcases r with ⟨a,e,h⟩ | ⟨a,e,h⟩
  · exact .inl ⟨a,e,s _ _ h⟩
  · exact .inr ⟨a,e,s _ _ h⟩
theorem isKind_of {K : PySem.W.Frag} {H : Hp} {v : V} {k : Kd} {Q : VK} {E : XK} (r : RowAt H v k) (g : Good k) (q : ∀ H',Same H H' → Q (.bl true) H') : spIsKind K [v] H Q E := by
  rcases r with ⟨a,rfl,h⟩ | ⟨a,rfl,h⟩
  · exact ⟨_,_,rfl,.tup h,.inr ⟨a,_,rfl,.inr h,rows_ty,fun H' s => by rw [kind5_good g]; exact q H' s⟩⟩
  · exact ⟨_,_,rfl,.lst h,.inr ⟨a,_,rfl,.inl h,rows_ty,fun H' s => by rw [kind5_good g]; exact q H' s⟩⟩
structure ShopTxt (K : PySem.W.Frag) (C : Addr) : Prop where
  cl : Cls K C
  nB : NoAttr K C "blade_width"
  nK : NoAttr K C "kind_rows"
end Pc
set_option Elab.async false
set_option linter.all false
set_option maxRecDepth 100000
namespace L2
open PySem PySem.Spec PyProof.Rows
def Mn (P : Program) (w : World) (K : PySem.W.Frag) (mg : Str → Option Value) (base : Heap) (C : Addr) (m : Str) (ps : List Str) (k : Nat) (sp : Sp) : Prop :=
  ∃ (f : Addr) (fd : FuncData),FnOk P w K mg base CX0 k f fd ps sp ∧ Binds K fd ps [] ∧ Meth K C m f
theorem pe_mD0 {X : Cx} {k : Nat} {C : Addr} {ps : List Str} {sp : Sp} {m : Str} {o : Expr} {ta : TE} {apos pos : Pos} {pl : Sem Bool} (he : PE X o ta) (c : Cls X.K C) (D : Mn X.prog X.w X.K X.mg X.base C m ps k sp) (hr : Room k X.A)
    (ht : eval (.Call (.Attribute o m apos) [] [] pos) X.env = (do
      let ov ← eval o X.env
      standAt apos.atName
      let (f,first) ← holding [ov] (getMethod ov m pl)
      callWith pos f first (backTo pos (starEach [] X.env)) (backToKw pos (keywordEach [] X.env))) := by rfl) : PE X (.Call (.Attribute o m apos) [] [] pos) (tMeth C m sp [] E0 ta tNil) := by
  obtain ⟨f,fd,F,hb,hm⟩ := D
  exact pe_meth0 he c hm F hr hb .nil pass0 ht
def Kn (P : Program) (w : World) (K : PySem.W.Frag) (mg : Str → Option Value) (base : Heap) (x : Str) (C : Addr) (ps : List Str) (k : Nat) (sp : Sp) : Prop :=
  ∃ (f : Addr) (fd : FuncData),Mk K C f ∧ FnOk P w K mg base CX0 k f fd ps sp ∧ Binds K fd ps [] ∧ mg x = some (.ref C)
theorem pe_kD {X : Cx} {k : Nat} {C : Addr} {ps : List Str} {sp : Sp} {x : Str} {p pos : Pos} {e : Expr} {es : List Expr} {t : TA} (D : Kn X.prog X.w X.K X.mg X.base x C ps k sp) (hr : Room (k + 1) X.A) (hg : Gl X x) (ha : PA X (e :: es) t)
    (hdb : (x == ("__debug__" : Str)) = false := by decide) (he : starEach (e :: es) X.env = (false,eval e X.env) :: starEach es X.env := by rfl) (hpl : (backTo pos (starEach es X.env)).any (·.1) = false := by rfl) :
    PE X (.Call (.Name x p) (e :: es) [] pos) (tMake C sp [] E0 t) := by
  obtain ⟨f,fd,M,F,hb,hm⟩ := D
  exact pe_make M F hr hg hm hb .nil pass0 ha hdb he hpl
end L2
namespace Pc
open PySem L2
theorem Paired.app {α β : Type} {F : α → β → Prop} : ∀ {l₁ m₁ : List α} {l₂ m₂ : List β},Paired F l₁ l₂ → Paired F m₁ m₂ → Paired F (l₁ ++ m₁) (l₂ ++ m₂)
  | _,_,_,_,.nil,s => s
  | _,_,_,_,.cons r t,s => .cons r (Paired.app t s)
theorem Same.new {q : Addr} {H : Hp} {o : HO} (h : H q = none) : Same H (upd H q o) := fun b u e => by rw [upd_ne (ne_of_none e h)]; exact e
end Pc
set_option Elab.async false
set_option linter.all false
set_option maxRecDepth 100000
namespace L2
open PySem PySem.Spec PyProof.Rows
theorem runs_det {M : Model} {Γ : PySem.Ctx} {p : Pos} {t : Sem Fin} {fs : List Frame} {s s' : Shared} {e : End} (h : Runs M Γ p t fs s e s') : ∀ {e2 : End} {s2 : Shared},Runs M Γ p t fs s e2 s2 → e = e2 ∧ s' = s2 := by
  induction h with
  | done => intro e2 s2 h2; cases h2; exact ⟨rfl,rfl⟩
  | raise => intro e2 s2 h2; cases h2; exact ⟨rfl,rfl⟩
  | again _ _ ih => intro e2 s2 h2; cases h2; rename_i a b; exact ih b
  | rule _ ih => intro e2 s2 h2; cases h2; rename_i b; exact ih b
  | «at» _ ih => intro e2 s2 h2; cases h2; rename_i b; exact ih b
  | load he _ ih => intro e2 s2 h2; cases h2; rename_i b1 b2 b3; rw [he] at b2; cases b2; exact ih b3
  | update _ _ ih => intro e2 s2 h2; cases h2; rename_i b1 b; exact ih b
  | loadIfAlive _ ih => intro e2 s2 h2; cases h2; rename_i b; exact ih b
  | point _ ih => intro e2 s2 h2; cases h2; rename_i b; exact ih b
  | alloc _ ih => intro e2 s2 h2; cases h2; rename_i b; exact ih b
  | fresh _ ih => intro e2 s2 h2; cases h2; rename_i b; exact ih b
  | ask _ ih => intro e2 s2 h2; cases h2; rename_i b; exact ih b
  | choose _ _ ih => intro e2 s2 h2; cases h2; rename_i b1 b; exact ih b
  | os _ ih => intro e2 s2 h2; cases h2; rename_i b; exact ih b
  | handled _ ih => intro e2 s2 h2; cases h2; rename_i b; exact ih b
  | genState he _ ih => intro e2 s2 h2; cases h2; rename_i b1 b2 b3; rw [he] at b2; cases b2; exact ih b3
  | stack _ ih => intro e2 s2 h2; cases h2; rename_i b; exact ih b
  | thread _ ih => intro e2 s2 h2; cases h2; rename_i b; exact ih b
  | newGen _ ih => intro e2 s2 h2; cases h2; rename_i b; exact ih b
  | call _ _ ih1 ih2 =>
    intro e2 s2 h2
    cases h2 with
    | call a b => obtain ⟨q1,q2⟩ := ih1 a; cases q1; subst q2; exact ih2 b
    | callSusp a => obtain ⟨q1,_⟩ := ih1 a; cases q1
  | callSusp _ ih1 =>
    intro e2 s2 h2
    cases h2 with
    | call a b => obtain ⟨q1,_⟩ := ih1 a; cases q1
    | callSusp a => obtain ⟨q1,q2⟩ := ih1 a; cases q1; exact ⟨rfl,q2⟩
  | yield => intro e2 s2 h2; cases h2; exact ⟨rfl,rfl⟩
  | resumeFresh hg _ _ _ ih1 ih2 =>
    intro e2 s2 h2
    cases h2 with
    | resumeFresh hg' a _ b => rw [hg] at hg'; cases hg'; obtain ⟨q1,q2⟩ := ih1 a; subst q1 q2; exact ih2 b
    | resumeSuspended hg' => rw [hg] at hg'; cases hg'
    | resumeJustStarted hg' n => exact absurd rfl n
    | resumeRunning hg' => rw [hg] at hg'; cases hg'
    | resumeFinished hg' => rw [hg] at hg'; cases hg'
  | resumeSuspended hg _ _ _ ih1 ih2 =>
    intro e2 s2 h2
    cases h2 with
    | resumeFresh hg' => rw [hg] at hg'; cases hg'
    | resumeSuspended hg' a _ b => rw [hg] at hg'; cases hg'; obtain ⟨q1,q2⟩ := ih1 a; subst q1 q2; exact ih2 b
    | resumeJustStarted hg' => rw [hg] at hg'; cases hg'
    | resumeThrowFresh hg' => rw [hg] at hg'; cases hg'
    | resumeRunning hg' => rw [hg] at hg'; cases hg'
    | resumeFinished hg' => rw [hg] at hg'; cases hg'
  | resumeJustStarted hg n _ ih =>
    intro e2 s2 h2
    cases h2 with
    | resumeFresh hg' => exact absurd rfl n
    | resumeSuspended hg' => rw [hg] at hg'; cases hg'
    | resumeJustStarted hg' n b => exact ih b
    | resumeRunning hg' => rw [hg] at hg'; cases hg'
    | resumeFinished hg' => rw [hg] at hg'; cases hg'
  | resumeThrowFresh hg _ ih =>
    intro e2 s2 h2
    cases h2 with
    | resumeSuspended hg' => rw [hg] at hg'; cases hg'
    | resumeThrowFresh hg' b => exact ih b
    | resumeRunning hg' => rw [hg] at hg'; cases hg'
    | resumeFinished hg' => rw [hg] at hg'; cases hg'
  | resumeRunning hg _ ih =>
    intro e2 s2 h2
    cases h2 with
    | resumeFresh hg' => rw [hg] at hg'; cases hg'
    | resumeSuspended hg' => rw [hg] at hg'; cases hg'
    | resumeJustStarted hg' => rw [hg] at hg'; cases hg'
    | resumeThrowFresh hg' => rw [hg] at hg'; cases hg'
    | resumeRunning hg' b => exact ih b
    | resumeFinished hg' => rw [hg] at hg'; cases hg'
  | resumeFinished hg _ ih =>
    intro e2 s2 h2
    cases h2 with
    | resumeFresh hg' => rw [hg] at hg'; cases hg'
    | resumeSuspended hg' => rw [hg] at hg'; cases hg'
    | resumeJustStarted hg' => rw [hg] at hg'; cases hg'
    | resumeThrowFresh hg' => rw [hg] at hg'; cases hg'
    | resumeRunning hg' => rw [hg] at hg'; cases hg'
    | resumeFinished hg' b => exact ih b
  | segRet _ _ ih1 ih2 =>
    intro e2 s2 h2
    cases h2 with
    | segRet a b => obtain ⟨q1,q2⟩ := ih1 a; cases q1; subst q2; exact ih2 b
    | segSuspOut _ a => obtain ⟨q1,_⟩ := ih1 a; cases q1
    | segSuspGen _ a => obtain ⟨q1,_⟩ := ih1 a; cases q1
  | segGen _ _ ih1 ih2 =>
    intro e2 s2 h2
    cases h2 with
    | segGen a b => obtain ⟨q1,q2⟩ := ih1 a; cases q1; subst q2; exact ih2 b
    | segSuspOut _ a => obtain ⟨q1,_⟩ := ih1 a; cases q1
    | segSuspGen _ a => obtain ⟨q1,_⟩ := ih1 a; cases q1
  | segSuspOut hn _ ih1 =>
    intro e2 s2 h2
    cases h2 with
    | segRet a b => obtain ⟨q1,_⟩ := ih1 a; cases q1
    | segGen a b => obtain ⟨q1,_⟩ := ih1 a; cases q1
    | segSuspOut _ a => obtain ⟨q1,q2⟩ := ih1 a; cases q1; exact ⟨rfl,q2⟩
    | segSuspGen hs a => rw [hn] at hs; cases hs
  | segSuspGen hs _ _ _ ih1 ih2 =>
    intro e2 s2 h2
    cases h2 with
    | segRet a b => obtain ⟨q1,_⟩ := ih1 a; cases q1
    | segGen a b => obtain ⟨q1,_⟩ := ih1 a; cases q1
    | segSuspOut hn a => rw [hn] at hs; cases hs
    | segSuspGen hs' a _ b => rw [hs] at hs'; cases hs'; obtain ⟨q1,q2⟩ := ih1 a; cases q1; subst q2; exact ih2 b
theorem wp_conj {α : Type} (M : Model) (Γ : PySem.Ctx) (t : Sem α) : ∀ (Q Q' : α → Pos → Shared → Prop) (E E' : Value → Pos → Shared → Prop) (p : Pos) (s : Shared),Sem.wp M Γ t Q E p s → Sem.wp M Γ t Q' E' p s →
    Sem.wp M Γ t (fun a p' s' => Q a p' s' ∧ Q' a p' s') (fun e p' s' => E e p' s' ∧ E' e p' s') p s := by
  have det : ∀ {Δ : PySem.Ctx} {p : Pos} {s : Shared} {r r' : Result} {s1 s2 : Shared},Returns M Δ p s r s1 → Returns M Δ p s r' s2 → r = r' ∧ s1 = s2 := by
    intro Δ p s r r' s1 s2 h1 h2
    obtain ⟨q1,q2⟩ := runs_det h1 h2
    cases q1
    exact ⟨rfl,q2⟩
  have detW : ∀ {Δ : PySem.Ctx} {p : Pos} {g : Nat} {r : Resume} {s : Shared} {x x' : GenResult} {s1 s2 : Shared},Wakes M Δ p g r s x s1 → Wakes M Δ p g r s x' s2 → x = x' ∧ s1 = s2 := by
    intro Δ p g r s x x' s1 s2 h1 h2
    unfold Wakes at h1 h2
    split at h1
    · exact h1.elim
    · split at h1
      · obtain ⟨e1,t1,a1,_,rfl,rfl⟩ := h1
        rename_i hg _ _
        simp only [hg] at h2
        obtain ⟨e2,t2,a2,_,rfl,rfl⟩ := h2
        obtain ⟨q1,q2⟩ := runs_det a1 a2
        subst q1 q2
        exact ⟨rfl,rfl⟩
      · rename_i hg _ _ hn
        simp only [hg] at h2
        obtain ⟨rfl,rfl⟩ := h1
        obtain ⟨rfl,rfl⟩ := h2
        exact ⟨rfl,rfl⟩
      · rename_i hg _ _
        simp only [hg] at h2
        obtain ⟨rfl,rfl⟩ := h1
        obtain ⟨rfl,rfl⟩ := h2
        exact ⟨rfl,rfl⟩
    · rename_i hg
      simp only [hg] at h2
      obtain ⟨e1,t1,a1,_,rfl,rfl⟩ := h1
      obtain ⟨e2,t2,a2,_,rfl,rfl⟩ := h2
      obtain ⟨q1,q2⟩ := runs_det a1 a2
      subst q1 q2
      exact ⟨rfl,rfl⟩
    · rename_i hg
      simp only [hg] at h2
      obtain ⟨rfl,rfl⟩ := h1
      obtain ⟨rfl,rfl⟩ := h2
      exact ⟨rfl,rfl⟩
    · rename_i hg
      simp only [hg] at h2
      obtain ⟨rfl,rfl⟩ := h1
      obtain ⟨rfl,rfl⟩ := h2
      exact ⟨rfl,rfl⟩
  induction t with
  | pure a => intro Q Q' E E' p s h h'; exact ⟨h,h'⟩
  | raise e => intro Q Q' E E' p s h h'; exact ⟨h,h'⟩
  | unsupported _ => intro Q Q' E E' p s h _; exact h
  | finish _ => intro Q Q' E E' p s h _; exact h
  | rule _ k ih => intro Q Q' E E' p s h h'; exact ih () _ _ _ _ p s h h'
  | «at» p' k ih => intro Q Q' E E' p s h h'; exact ih () _ _ _ _ p' s h h'
  | load a _ k ih =>
    intro Q Q' E E' p s h h'; obtain ⟨o,ho,h⟩ := h; obtain ⟨o',ho',h'⟩ := h'
    rw [ho] at ho'; cases ho'; exact ⟨o,ho,ih o _ _ _ _ p s h h'⟩
  | update a _ f k ih => intro Q Q' E E' p s h h'; exact ⟨h.1,ih () _ _ _ _ p _ h.2 h'.2⟩
  | loadIfAlive a k ih => intro Q Q' E E' p s h h'; exact ih _ _ _ _ _ p s h h'
  | point _ k ih => intro Q Q' E E' p s h h'; exact ih () _ _ _ _ p s h h'
  | register _ _ => intro Q Q' E E' p s h _; exact h
  | alloc o k ih => intro Q Q' E E' p s h h'; exact ih _ _ _ _ _ p _ h h'
  | fresh k ih => intro Q Q' E E' p s h h'; exact ih _ _ _ _ _ p _ h h'
  | ask k ih => intro Q Q' E E' p s h h'; exact ih _ _ _ _ _ p s h h'
  | choose src m k ih => intro Q Q' E E' p s h h'; exact ⟨h.1,ih _ _ _ _ _ p _ h.2 h'.2⟩
  | os q _ k ih => intro Q Q' E E' p s h h'; exact ih _ _ _ _ _ p _ h h'
  | call c hd _ _ k ih =>
    intro Q Q' E E' p s h h'; obtain ⟨r,s',hr,h⟩ := h; obtain ⟨r',s'',hr',h'⟩ := h'
    obtain ⟨rfl,rfl⟩ := det hr hr'
    exact ⟨r,s',hr,ih r _ _ _ _ p s' h h'⟩
  | handled own k ih => intro Q Q' E E' p s h h'; exact ih _ _ _ _ _ p s h h'
  | genState g k ih =>
    intro Q Q' E E' p s h h'; obtain ⟨st,hs,h⟩ := h; obtain ⟨st',hs',h'⟩ := h'
    rw [hs] at hs'; cases hs'; exact ⟨st,hs,ih _ _ _ _ _ p s h h'⟩
  | newGen c k ih => intro Q Q' E E' p s h h'; exact ih _ _ _ _ _ p _ h h'
  | resume g r _ k ih =>
    intro Q Q' E E' p s h h'; obtain ⟨x,s',hw,h⟩ := h; obtain ⟨x',s'',hw',h'⟩ := h'
    obtain ⟨rfl,rfl⟩ := detW hw hw'
    exact ⟨x,s',hw,ih x _ _ _ _ p s' h h'⟩
  | yield _ _ _ _ => intro Q Q' E E' p s h _; exact h
  | stack k ih => intro Q Q' E E' p s h h'; exact ih _ _ _ _ _ p s h h'
  | fork _ _ => intro Q Q' E E' p s h _; exact h
  | thread k ih => intro Q Q' E E' p s h h'; exact ih _ _ _ _ _ p s h h'
  | await _ _ _ _ _ => intro Q Q' E E' p s h _; exact h
theorem wpAny_conj {α : Type} {M : Model} {A : Around} {t : Sem α} {Q Q' : α → Shared → Prop} {E E' : Value → Shared → Prop} {s : Shared} (h : wpAny M A t Q E s) (h' : wpAny M A t Q' E' s) :
    wpAny M A t (fun a s' => Q a s' ∧ Q' a s') (fun e s' => E e s' ∧ E' e s') s := fun Γ p hΓ => wp_conj M Γ t _ _ _ _ p s (h Γ p hΓ) (h' Γ p hΓ)
def Q2 (e : Addr) (h : Heap) : Prop := ∃ oe vs,h.get? e = some oe ∧ oe.data = .fields vs ∧ vs[2]? = some .none
section
variable {M : Model} {A : Around} {E : Value → Shared → Prop} {s : Shared} {base : Heap} {env : Env} {outer l : List Env} {L e : Addr} {cls a0 fl : Value} {Q : Unit → Shared → Prop}
theorem Q2.set {e c : Addr} {h : Heap} {i : Nat} {v : Value} (hi : i ≠ 2) (q : Q2 e h) : Q2 e (h.update c (Obj.mapFields (·.setIfInBounds i v))) := by
  obtain ⟨oe,vs,he,hd,h2⟩ := q
  by_cases z : c = e
  · subst z
    have hd' := Obj.data_mapFields hd (·.setIfInBounds i v)
    exact ⟨_,_,Heap.get?_update_self _ he (Obj.isFreed_of_fields hd'),hd',by rw [Array.getElem?_setIfInBounds_ne hi]; exact h2⟩
  · exact ⟨oe,vs,(Heap.get?_update_other _ _ z).trans he,hd,h2⟩
theorem Q2.push {e : Addr} {h : Heap} {o : Obj} (q : Q2 e h) : Q2 e (h.push o) := let ⟨oe,vs,he,r⟩ := q; ⟨oe,vs,Heap.get?_push_of_some _ he,r⟩
theorem entry2 {head : Value} {nx : Bool} (hfr : A.frames = some (env :: outer)) (hl : s.heap.FunFrames base (env :: outer)) (hf : env.frame = some L) (q : Q2 e s.heap)
    (h : ∀ h₁ o ts,Q2 e h₁ → o.data = .fields ts → 3 < ts.size → Q () { s with heap := (h₁.push o).update e (Obj.mapFields (·.setIfInBounds 1 (Value.ref h₁.objs.size))) }) :
    wpAny M A (do let a ← frameOf env; let pl ← entryPlaceOf L nx; let b ← EntryCells.newEntry head a .none (rawInt L) .none pl; setField (.ref e) 1 b) Q E s := by
  obtain ⟨oe,vs,he,hd,h2⟩ := q
  have hene : e ∉ (env :: outer).filterMap (·.frame) := fun hm => by
    obtain ⟨_,o,ho,hnf⟩ := hl.mem hm
    rw [he] at ho; injection ho with ho; subst ho; exact hnf vs hd
  refine wpAny_bind (wpAny_frameOf_fun hfr hl hf fun h₁ hs₁ => ?_)
  refine wpAny_bind (wpAny_entryPlaceOf fun pl hpl => ?_)
  unfold EntryCells.newEntry newFields
  refine wpAny_bind (wpAny_newObj_type ?_ (hpl.sizeOk5 _ _ _ _ _))
  have he₁ : h₁.get? e = some oe := (hs₁.2.1 e hene).trans he
  have h2s : 2 < vs.size := (Array.getElem?_eq_some_iff.mp h2).1
  exact wpAny_setField (Heap.get?_push_of_some _ he₁) hd (by omega) (h h₁ _ _ ⟨oe,vs,he₁,hd,h2⟩ rfl (by simp only [List.size_toArray,List.length_append,List.length_cons,List.length_nil]; omega))
theorem leave2 {h : Heap} {args : List Value} (hfr : A.frames = some (env :: outer)) (hf : env.frame = some L) (hl : h.FunFrames base (env :: outer)) (hx : Heap.MadeExcOf h s.heap e cls args) : wpAny M A (leaving env (.ref e)) (fun _ s' => Q2 e s'.heap) E s := by
  obtain ⟨t,he,htn,ht⟩ := hx.there
  have q : Q2 e s.heap := ⟨_,_,he,rfl,rfl⟩
  unfold leaving noteFrame
  simp only [hf]
  refine wpAny_bind (wpAny_bind (wpAny_field he rfl (x := .none) rfl ?_))
  rw [if_neg (by decide)]
  refine entry2 (base := base) hfr (hl.of_keeps fun b o hb _ => ⟨o,hx.keeps b o hb,rfl⟩) hf q fun h₁ o ts q1 ho h3 => ?_
  obtain ⟨oe1,vs1,he1,hd1,h21⟩ := q1
  have hTe : h₁.objs.size ≠ e := Nat.ne_of_gt (Heap.lt_size he1)
  have hd3 := Obj.data_mapFields hd1 (·.setIfInBounds 1 (Value.ref h₁.objs.size))
  have he3 := Heap.get?_update_self (Obj.mapFields (·.setIfInBounds 1 (Value.ref h₁.objs.size))) (Heap.get?_push_of_some o he1) (Obj.isFreed_of_fields hd3)
  have h2s : 2 < vs1.size := (Array.getElem?_eq_some_iff.mp h21).1
  have hT := (Heap.get?_update_other (h₁.push o) (Obj.mapFields (·.setIfInBounds 1 (Value.ref h₁.objs.size))) (Ne.symm hTe)).trans (Heap.get?_push_size h₁ (Obj.isFreed_of_fields ho))
  unfold setFlight
  refine wpAny_bind (wpAny_field he3 hd3 (x := .ref h₁.objs.size) (by rw [Array.getElem?_setIfInBounds_self_of_lt (by omega)]) ?_)
  rw [if_pos (show (Value.ref h₁.objs.size != Value.none) = true from by simp)]
  exact wpAny_setField hT ho h3 ((Q2.push (o := o) ⟨oe1,vs1,he1,hd1,h21⟩).set (i := 1) (by decide) |>.set (by decide))
end
section
variable {M : Model} {A : Around} {E : Value → Shared → Prop} {s : Shared} {base : Heap} {env : Env} {outer l : List Env} {L e : Addr} {cls a0 fl : Value} {Q : Unit → Shared → Prop}
theorem leaves_madeQ {h : Heap} {args : List Value} (hfr : A.frames = some (env :: outer)) (hf : env.frame = some L) (hkb : base.StaysIn h) (hl : h.FunFrames base (env :: outer)) (hx : Heap.MadeExcOf h s.heap e cls args)
    (hQ : ∀ h' t,Heap.FlyingW base outer e cls (.ref t) h' → h'.TupAt t args → base.get? t = none → s.heap.UpToSlots h' → Q2 e h' → Q () { s with heap := h' }) : wpAny M A (leaving env (.ref e)) Q E s :=
  wpAny_mono (wpAny_conj (leave2 (E := E) hfr hf hl hx) (wpAny_leaves_madeW (Q := fun _ s' => Q2 e s'.heap → Q () s') (E := E) hfr hf hkb hl hx fun h' t a b c d q => hQ h' t a b c d q)) (fun _ _ z => z.2 z.1) fun _ _ z => z.1
end
end L2
set_option Elab.async false
set_option linter.all false
set_option maxRecDepth 100000
namespace L2
open PySem PySem.Spec PyProof.Rows
theorem ObjOk.ex {P : Program} {w : World} {H : Hp} {h : Heap} {a : Addr} {o : HO} (x : ObjOk P w H h a o) : ∃ ob,h.get? a = some ob := by
  cases o with
  | lst xs => obtain ⟨_,_,_,_,e⟩ := x; exact ⟨_,e⟩
  | tup xs => obtain ⟨_,_,_,o,e,_⟩ := x; exact ⟨_,e⟩
  | dK kvs => obtain ⟨_,_,_,_,o,_,_,e,_⟩ := x; exact ⟨_,e⟩
  | dT kvs => obtain ⟨_,_,_,_,o,_,_,e,_⟩ := x; exact ⟨_,e⟩
  | set S n => obtain ⟨o,_,_,_,e,_⟩ := x; exact ⟨_,e⟩
  | ins C dx fs => obtain ⟨_,_,_,e,_⟩ := x; exact ⟨_,e⟩
  | own y => exact x
  | xd fs => obtain ⟨_,⟨_,_,_,e,_⟩,_⟩ := x; exact ⟨_,e⟩
  | rng lo hi => obtain ⟨_,_,_,e⟩ := x; exact ⟨_,e⟩
  | frz ob u => exact ⟨_,x.1⟩
  | tbl ps => exact ⟨_,(show h.get? a = some _ from x)⟩
  | met f y => exact ⟨_,(show h.get? a = some _ from x)⟩
  | ext φ => exact x.2.1
structure Flew (P : Program) (w : World) (outer : List Env) (H : Hp) (s : Shared) (ea : Addr) (C : Value) (H' : Hp) (B : Heap) (s' : Shared) : Prop where
  os : s'.os = s.os
  bare : AllBare s'.gens
  un : Un (frs outer) [] H H' s.heap s'.heap
  hok : HOk P w H' s'.heap
  fly : ∃ a0,Heap.FlyingW B outer ea C a0 s'.heap
  ctx : Q2 ea s'.heap
  cov : ∀ b o,b ∉ frs outer → (H' b ≠ none ∨ ∃ o',s.heap.get? b = some o') → s'.heap.get? b = some o → B.get? b = some o
  new : s.heap.get? ea = none ∧ H' ea = none
def CXx (P : Program) (w : World) : CXT := fun outer H s E e s' => ∃ ea C H' B,e = Value.ref ea ∧ Flew P w outer H s ea C H' B s' ∧ E C none H'
section
variable {X : Cx} {pins : List (Addr × Obj)} {σ : St} {H : Hp} {s : Shared}
theorem Inv.raised {h2 : Heap} {ea : Addr} {C : Value} {vs : List Value} {M : Model} {E : Value → Shared → Prop} {Q : Unit → Shared → Prop} (I : Inv X pins σ H s) (hst : X.stack = X.env :: X.outer) (hfr : X.env.frame = some X.env.locals) (hex : X.ex = [])
    (hx : Heap.MadeExcOf s.heap h2 ea C vs) (hQ : ∀ B h',Flew X.prog X.w X.outer X.H₀ X.s₀ ea C H B { s with heap := h' } → Q () { s with heap := h' }) :
    wpAny M X.A (leaving X.env (.ref ea)) Q E { s with heap := h2 } := by
  have fS : frs X.stack = X.env.locals :: X.fs := by rw [hst]; unfold frs; rw [List.filterMap_cons,hfr]; rfl
  have st : s.heap.FunFrames X.base (X.env :: X.outer) := by rw [← hst]; exact I.stack
  have hin : ∀ env ∈ (X.env :: X.outer),∀ b,env.frame = some b → b ∈ frs X.stack := fun env he b hb => by rw [hst]; exact List.mem_filterMap.mpr ⟨env,he,hb⟩
  have s0L : ∀ b o,X.s₀.heap.get? b = some o → b ≠ X.env.locals := fun b o e => Nat.ne_of_lt (Nat.lt_of_lt_of_le (Heap.lt_size e) I.ok.above)
  have Ubase : Un X.fs [] X.H₀ H X.s₀.heap s.heap := by have := I.base; rw [hex] at this; exact this
  have trk : ∀ b u,H b = some u → b ∉ frs X.stack := fun b u e hb => by rw [I.stkFree b hb] at e; cases e
  have ofd : ∀ b,b ∈ X.fs → ∃ o,s.heap.get? b = some o ∧ ∀ vs,o.data ≠ .fields vs := fun b hb => by
    obtain ⟨_,o,ho,hd⟩ := I.funs.mem hb
    exact ⟨o,ho,hd⟩
  refine leaves_madeQ (base := PySem.W.hideAll s.heap (frs X.stack)) (h := s.heap) (by rw [← hst]; exact I.ok.frames) hfr (fun b o q => PySem.W.of_hideAll _ q) (PySem.W.funFrames_hide st hin) hx fun h' t fl tup hbt sm q2 => hQ (PySem.W.hideAll s.heap (frs X.stack)) h' ?_
  have toB : ∀ b o,b ∉ frs X.stack → s.heap.get? b = some o → h'.get? b = some o := fun b o nb e => fl.1 _ _ (PySem.W.hideAll_get _ e nb)
  have nfs : ∀ b o,X.s₀.heap.get? b = some o → b ∉ X.fs → b ∉ frs X.stack := fun b o e nb z => by
    rw [fS] at z
    rcases List.mem_cons.mp z with q | q
    · exact s0L b o e q
    · exact nb q
  have slot1 : ∀ b o,b ∈ X.fs → s.heap.get? b = some o → ∃ sl,h'.get? b = some { o with slots := sl } := fun b o hb e => by
    obtain ⟨o',e',hd⟩ := ofd b hb
    rw [e] at e'; cases e'
    exact sm b o (hx.keeps _ _ e) hd
  refine ⟨I.os,I.bare,⟨fun b o e n hb _ => ?_,fun b o e n hb _ => ?_,fun b o e n _ => Ubase.free b o e n (by simp),fun b o e _ => ?_,Ubase.tups,Ubase.frzs,Ubase.tbls⟩,fun b u e => ?_,⟨_,fl⟩,q2,fun b o nb hh e => ?_,?_,?_⟩
  · exact toB b o (nfs b o e hb) (Ubase.keep b o e n hb (by simp))
  · obtain ⟨sl,e1⟩ := Ubase.slot b o e n hb (by simp)
    obtain ⟨sl',e2⟩ := slot1 b _ hb e1
    exact ⟨sl',e2⟩
  · obtain ⟨o',e1⟩ := Ubase.there b o e (by simp)
    by_cases hb : b ∈ X.fs
    · obtain ⟨sl,e2⟩ := slot1 b _ hb e1
      exact ⟨_,e2⟩
    · exact ⟨o',toB b o' (nfs b o e hb) e1⟩
  · refine (I.hok b u e).stay (fun c v hc q => toB c v ?_ q) (fun _ q => q) fun _ _ q => q
    rcases hc with z | z
    · rw [z]; exact trk b u e
    · exact trk c _ z
  · rcases hh with z | ⟨o',z⟩
    · cases q : H b with
      | none => exact absurd q z
      | some u =>
        obtain ⟨ob,eb⟩ := (I.hok b u q).ex
        have eB := PySem.W.hideAll_get _ eb (trk b u q)
        have := fl.1 _ _ eB
        rw [e] at this; cases this
        exact eB
    · obtain ⟨o'',e1⟩ := Ubase.there b o' z (by simp)
      have eB := PySem.W.hideAll_get _ e1 (nfs b o' z nb)
      have := fl.1 _ _ eB
      rw [e] at this; cases this
      exact eB
  · cases q : X.s₀.heap.get? ea with
    | none => rfl
    | some o =>
      obtain ⟨o',e1⟩ := Ubase.there ea o q (by simp)
      rw [hx.new] at e1; cases e1
  · cases q : H ea with
    | none => rfl
    | some u =>
      obtain ⟨ob,eb⟩ := (I.hok ea u q).ex
      rw [hx.new] at eb; cases eb
end
def bmVE : List Value := [.type "ValueError",.type "Exception",.type "BaseException",.type "object"]
def ExcC (K : PySem.W.Frag) (C : Addr) : Prop := PySem.W.excIn K C bmVE "ValueError.__new__" = true
theorem ExcC.obj {K : PySem.W.Frag} {C : Addr} {h : Heap} (X : K.In h) (q : ExcC K C) : ∃ bm N nm qn bs hdct sn sub ab col dd k0 k1 k2 k3 k5 mN,
    h.get? C = some (excClassObj nm qn C N bs bm hdct sn sub ab col dd k0 k1 k2 k3 k5 "ValueError.__new__") ∧ h.Ns N mN ∧ mN "__init__" = none ∧ OwnTail h bmVE bm := by
  unfold ExcC PySem.W.excIn at q
  split at q
  · rename_i dd cd sl ho
    split at q
    · rename_i C' bm k0 k1 k2 k3 n k5 hm hs
      simp only [Bool.and_eq_true,beq_iff_eq,Bool.not_eq_true'] at q
      obtain ⟨⟨⟨⟨⟨e1,e2⟩,e3⟩,e4⟩,e5⟩,e6⟩ := q
      obtain ⟨nm,bs,mro,ns,qn,hd,sn,sub,ab,col,del⟩ := cd
      dsimp only at hm e3 e5 e6
      subst e1 e2 hm e3
      obtain ⟨l⟩ := sl
      simp only at hs
      subst hs
      exact ⟨bm,ns,nm,qn,bs,hd,sn,sub,ab,col,dd,k0,k1,k2,k3,k5,_,X _ _ ho,.of_isNs (PySem.W.isNs_of_in X e5),PySem.W.nsMap_none_of_in X e5 e6,PySem.W.tail_of_in X e4⟩
    · cases q
  · cases q
section
variable {X : Cx} {x : Str} {C : Addr} {e0 : Expr} {np cpos pos : Pos} {t : TA}
def tRaise (R : Value → Hp → Prop) (C : Addr) (t : TA) : TS := fun _ σ H => t σ H fun vs H1 => vs.length ≤ sizeLine ∧ R (.ref C) H1
theorem ps_raise {R : Value → Hp → Prop} (hc : X.calm = true) (hg : Gl X x) (hm : X.mg x = some (.ref C)) (ec : ExcC X.K C) (ha : PA X [e0] t)
    (hR : ∀ pins σ H s h2 ea vs,Inv X pins σ H s → Heap.MadeExcOf s.heap h2 ea (.ref C) vs → R (.ref C) H → X.xe (.ref ea) { s with heap := h2 })
    (he : starEach [e0] X.env = [(false,eval e0 X.env)] := by rfl) (hd : (x == ("__debug__" : Str)) = false := by decide) :
    PS X (.Raise (some (.Call (.Name x np) [e0] [] cpos)) none pos) (tRaise R C t) := by
  intro pins s σ H D I h
  obtain ⟨bm,N,nm,qn,bs,hdct,sn,sub,ab,col,dd,k0,k1,k2,k3,k5,mN,hC,hN,hni,T⟩ := ec.obj I.ok.mod.kin
  refine wpAny_Raise_call_subT (C := C) (nm := nm) (q := qn) (N := N) (bs := bs) (bm := bm) (hdct := hdct) (sn := sn) (sub := sub) (ab := ab) (col := col) (dd := dd) (k0 := k0) (k1 := k1) (k2 := k2) (k3 := k3) (k5 := k5)
    PySem.F.excBase_ValueError (mN := mN) (T.hasType PySem.F.excBase_ValueError.hasBase) (I.ok.hd hc) (by rw [he]; rfl) hni (ld_glob I hg hm ⟨rfl,?_⟩ hd)
  have h2 := ha cpos pins s σ H _ I h
  rw [he] at h2 ⊢
  refine Calls.evalArgs_plain (thn h2 fun us s2 ⟨vs,H1,I1,rv,hl,q⟩ => ⟨rfl,by rw [← rv.length]; exact hl,I1.bk _ _ hC,hN.keeps I1.bk,T.keeps I1.bk,fun h' ea hx => ?_⟩)
  exact hR pins σ H1 s2 h' ea us I1 hx q
end
section
variable {P : Program} {w : World} {K : PySem.W.Frag} {mg : Str → Option Value} {base : Heap}
theorem raise_ends {N : List Str} {qual : Str} {scope : Scope} {f : Addr} {cd : Value} {A : Around} {outer : List Env} {s₀ : Shared} {H₀ : Hp} {E : XK} {C : Addr} :
    ∀ pins σ H s h2 ea vs,Inv (cxOf (CXx P w) P w K mg base N qual scope f cd A outer s₀ H₀ E) pins σ H s → Heap.MadeExcOf s.heap h2 ea (.ref C) vs → (fun c H => E c none H) (Value.ref C) H →
      (cxOf (CXx P w) P w K mg base N qual scope f cd A outer s₀ H₀ E).xe (.ref ea) { s with heap := h2 } := fun pins σ H s h2 ea vs I hx q =>
  I.raised (E := fun e' s'' => CXx P w outer H₀ s₀ E e' s'') rfl rfl rfl hx fun B h' f => ⟨ea,_,H,B,rfl,f,q⟩
theorem Fun.okX {x qual : Str} {st : Stmt} {f : Addr} {fd : FuncData} {N ps : List Str} {k : Nat} {sp : Sp} (F : Fun K x qual st f fd) (S : FnScope N ps (defScope st)) (len : ∀ vs H Q E,sp vs H Q E → vs.length = ps.length)
    (hbody : ∀ (cdv : Value) (A : Around) (outer : List Env) (s : Shared) (H : Hp) (vs : List V) (Q : VK) (E : XK),Room k (A.deeper (envOfC qual (defScope st) s.heap.objs.size f cdv)) → sp vs H Q E →
      ∃ t,PSs (cxOf (CXx P w) P w K mg base N qual (defScope st) f cdv A outer s H E) (defBody st) t ∧ t { nx := fun _ H' => Q .non H',rt := Q } (start N vs) H) : FnOk P w K mg base (CXx P w) (k + 1) f fd ps sp := by
  obtain ⟨oc,od,kV,doc,pm,an,cdv,ct,osl,rfl,lk,hcd⟩ := F.ex
  exact fn_of lk hcd S len fun A outer s H vs Q E hr hsp => hbody cdv A outer s H vs Q E hr hsp
end
def XP (X : Cx) (pins : List (Addr × Obj)) (σ : St) (E : XK) (v : Value) (s' : Shared) : Prop := ∃ ea C H H' B s0,v = Value.ref ea ∧ Inv X pins σ H s0 ∧ Flew X.prog X.w X.stack H s0 ea C H' B s' ∧ E C none H'
section
variable {X : Cx} {k : Nat} {f C : Addr} {fd : FuncData} {ps : List Str} {sp : Sp} {x m : Str} {p pos apos : Pos} {e o : Expr} {es : List Expr} {ta : TE} {t : TA}
end
end L2
set_option Elab.async false
set_option linter.all false
set_option maxRecDepth 100000
namespace PySem
open Sem (wp)
open AutoSeq1 (wpAny_loadPart')
section
variable {prog : Program} {w : World} {A : Around} {E : Value → Shared → Prop} {s : Shared}
theorem nextOf_tup_item {it t : Addr} {i : Nat} {items} {x : Value} {Q : Value → Shared → Prop} (hit : s.heap.IsTupleIter it t i)
    (ht : s.heap.IsTuple t items) (hx : items[i]? = some x)
    (hQ : ∀ h',h'.IsTupleIter it t (i + 1) → Heap.SameBut it s.heap h' → Q x { s with heap := h' }) :
    wpAny (model prog w) A (Builtin.SmallTypes.nextOf (.ref it)) Q E s := by
  obtain ⟨o,ho,hc,hd⟩ := id hit
  obtain ⟨ol,hol,_,nl,hdl⟩ := ht
  unfold Builtin.SmallTypes.nextOf
  refine wpAny_bind (wpAny_callSpecial?_slot (name := Str.ofString "__next__") hit.typeIs F.slot_tuple_iterator_next
    (wpAny_call_entry F.slot_tuple_iterator_next hit.typeIs F.entry_tuple_iterator_next ?_ (F.args_tuple_iterator_next_1 _)))
  show wpAny _ _ (field (.ref it) 0 >>= _) _ _ s
  refine wpAny_bind (wpAny_field ho hd (x := .ref t) rfl ?_)
  show wpAny _ _ (if (Value.ref t == Value.none) = true then _ else _) _ _ s
  rw [if_neg (show ¬ ((Value.ref t == Value.none) = true) from Bool.false_ne_true)]
  show wpAny _ _ (field (.ref it) 1 >>= _) _ _ s
  refine wpAny_bind (wpAny_field ho hd (x := .int i 0) rfl ?_)
  show wpAny _ _ (seqItems? (.ref t) >>= _) _ _ s
  refine wpAny_bind (wpAny_seqItems hol hdl ?_)
  simp only [Int.toNat_natCast,hx]
  refine wpAny_bind (wpAny_setField ho hd (by simp) (wpAny_pure ⟨x,rfl,wpAny_pure (hQ _ ?_ (Heap.SameBut.update ..))⟩))
  exact ⟨_,Heap.get?_update_self _ ho (Obj.isFreed_of_fields (Obj.data_mapFields hd _)),(Obj.cls_mapFields ..).trans hc,by
    rw [Obj.data_mapFields hd]; simp [rawInt]⟩
theorem nextOf_tup_end {it t : Addr} {i : Nat} {items} {Q : Value → Shared → Prop} (hh : A.handled = none)
    (hit : s.heap.IsTupleIter it t i) (ht : s.heap.IsTuple t items) (hx : items[i]? = none)
    (hE : ∀ h' e, Heap.ExtBut it s.heap h' → (∃ o, h'.get? e = some o ∧ o.cls = .type "StopIteration") → E (.ref e) { s with heap := h' }) :
    wpAny (model prog w) A (Builtin.SmallTypes.nextOf (.ref it)) Q E s := by
  obtain ⟨o,ho,hc,hd⟩ := id hit
  obtain ⟨ol,hol,_,nl,hdl⟩ := ht
  unfold Builtin.SmallTypes.nextOf
  refine wpAny_bind (wpAny_callSpecial?_slot (name := Str.ofString "__next__") hit.typeIs F.slot_tuple_iterator_next
    (wpAny_call_entry F.slot_tuple_iterator_next hit.typeIs F.entry_tuple_iterator_next ?_ (F.args_tuple_iterator_next_1 _)))
  show wpAny _ _ (field (.ref it) 0 >>= _) _ _ s
  refine wpAny_bind (wpAny_field ho hd (x := .ref t) rfl ?_)
  show wpAny _ _ (if (Value.ref t == Value.none) = true then _ else _) _ _ s
  rw [if_neg (show ¬ ((Value.ref t == Value.none) = true) from Bool.false_ne_true)]
  show wpAny _ _ (field (.ref it) 1 >>= _) _ _ s
  refine wpAny_bind (wpAny_field ho hd (x := .int i 0) rfl ?_)
  show wpAny _ _ (seqItems? (.ref t) >>= _) _ _ s
  refine wpAny_bind (wpAny_seqItems hol hdl ?_)
  simp only [Int.toNat_natCast,hx]
  refine wpAny_bind (wpAny_rule (wpAny_bind (wpAny_setField ho hd (by simp) ?_)))
  show wpAny _ _ (newExc (.type "StopIteration") [] >>= _) _ _ _
  refine wpAny_bind ?_
  simp only [newExc,newTuple]
  refine wpAny_bind (wpAny_newObj_type ?_ (by size_fits))
  refine wpAny_bind (m := firstArgMember _ _) (wpAny_of_eq (a := Value.none) (by first | rfl | (simp only [firstArgMember]; rfl)) ?_)
  refine wpAny_newObj_type ?_ (by size_fits)
  simp only [raiseNew]
  refine wpAny_bind (wpAny_handled ?_)
  first | rw [show A.in1.handled = none from hh] | rw [hh]
  refine wpAny_bind (wpAny_pure (wpAny_throw ?_))
  exact hE _ _ (((Heap.SameBut.update ..).extBut.push _).push _) ⟨_,Heap.get?_push_size _ rfl,rfl⟩
end
theorem drawsTup {prog : Program} {w : World} {A : Around} (hh : A.handled = none) (it l : Addr) (hne : l ≠ it) (items : Array Value) :
    Draws prog w A it [it,l] items.size (fun i v => items[i]? = some v) (fun i h => h.IsTupleIter it l i ∧ h.IsTuple l items) where
  live := fun _ _ st => let ⟨o,ho,_⟩ := st.1; ⟨o,ho⟩
  frame := fun _ _ _ st hk => ⟨st.1.at fun o e => hk it (by simp) o e,let ⟨o,ho,r⟩ := st.2; ⟨o,hk l (by simp) o ho,r⟩⟩
  item := fun i s Q E hi st hQ => by
    refine nextOf_tup_item st.1 st.2 (x := items[i]) (by simp [hi]) fun h' hit' hs' => ?_
    exact hQ _ h' s.toks (by simp [hi]) ⟨hit',st.2.extBut hs'.extBut hne⟩ hs'
  done := fun s Q E st hE => nextOf_tup_end hh st.1 st.2 (by simp) hE
theorem enumerate_newT (l : Addr) (items : Array Value) (n : Nat) (dct : Option Addr) (sl : Array (Option Value)) :
    Meets (Builtin.«enumerate.__new__» ⟨[.type "enumerate",.ref l],[]⟩) (fun _ R s => s.heap.get? l = some { cls := .type "tuple",dict := dct,data := .seq items n,slots := sl } ∧
      R (.ok (.ret (.ref (s.heap.push { cls := .type "tuple_iterator",data := .fields #[.ref l,.int 0 0] }).objs.size)))
        { s with heap := (s.heap.push { cls := .type "tuple_iterator",data := .fields #[.ref l,.int 0 0] }).push { cls := .type "enumerate",data := .fields #[.none,.bool false,.ref s.heap.objs.size,rawInt 0,.none,.none] } }) :=
  .of_wp fun prog w A R s h => by
    obtain ⟨hp,g,d,tk,os⟩ := s; obtain ⟨hl,h⟩ := h
    have hsub := sub_enumerate
    have hL : Heap.IsTuple (Shared.heap ⟨hp,g,d,tk,os⟩) l items := ⟨_,hl,rfl,n,rfl⟩
    wp_walk using wpAny_loadPart' hl
    refine wpAny_stack_any fun st => wpAny_pure ?_
    split
    · rename_i c _ _ _ _ _
      cases (c == Value.type "enumerate")
      · wp_walk using wpAny_loadPart' hl,wpAny_pyIter_tuple hL
        exact ⟨_,rfl,h⟩
      · wp_walk using wpAny_loadPart' hl,wpAny_pyIter_tuple hL
        exact ⟨_,rfl,h⟩
    · wp_walk using wpAny_loadPart' hl,wpAny_pyIter_tuple hL
      exact ⟨_,rfl,h⟩
section
variable {prog : Program} {w : World} {A : Around} {E : Value → Shared → Prop} {s : Shared}
theorem call_enumerate_tup {l : Addr} {items : Array Value} {Q : Value → Shared → Prop} (hL : s.heap.IsTuple l items)
    (h : ∀ h',IsEnum h' (s.heap.objs.size + 1) s.heap.objs.size 0 .none → h'.IsTupleIter s.heap.objs.size l 0 → h'.objs.size = s.heap.objs.size + 2 →
      (∀ b o,s.heap.get? b = some o → h'.get? b = some o) → Q (.ref (s.heap.objs.size + 1)) { s with heap := h' }) :
    wpAny (model prog w) A (call (.type "enumerate") [.ref l]) Q E s := by
  obtain ⟨⟨c,dct,dt,sl⟩,hl,hc,n,hd⟩ := hL
  replace hc : c = .type "tuple" := hc
  replace hd : dt = .seq items n := hd
  subst hc hd
  refine callType_new F.called_enumerate (by decide) (F.typeCall_enumerate_1 _) (F.newCall_enumerate_1 _) (fun obj => F.args_object_init_2 obj _) F.entry_enumerate_new
    (enumerate_newT l items n dct sl) ⟨hl,?_⟩
  have hz : (s.heap.push { cls := .type "tuple_iterator",data := .fields #[.ref l,.int 0 0] }).objs.size = s.heap.objs.size + 1 := Heap.size_push ..
  show _ ∧ _
  rw [hz]
  have he : IsEnum ((s.heap.push { cls := .type "tuple_iterator",data := .fields #[.ref l,.int 0 0] }).push
      { cls := .type "enumerate",data := .fields #[.none,.bool false,.ref s.heap.objs.size,rawInt 0,.none,.none] }) (s.heap.objs.size + 1) s.heap.objs.size 0 .none := by
    have := Heap.get?_push_size (s.heap.push { cls := .type "tuple_iterator",data := .fields #[.ref l,.int 0 0] })
      (o := { cls := .type "enumerate",data := .fields #[.none,.bool false,.ref s.heap.objs.size,rawInt 0,.none,.none] }) rfl
    rw [hz] at this; exact this
  refine ⟨⟨_,he,rfl⟩,h _ he ⟨_,Heap.get?_push_of_some _ (Heap.get?_push_size _ rfl),rfl,rfl⟩ (by rw [Heap.size_push,hz]) fun b o x => Heap.get?_push_of_some _ (Heap.get?_push_of_some _ x)⟩
end
end PySem
set_option Elab.async false
set_option linter.all false
set_option maxRecDepth 100000
namespace L2
open PySem PySem.Spec PyProof.Rows
def Ite (f : List V → HO) (l : Addr) : It :=
  ⟨fun i H => ∃ xs x,H l = some (f xs) ∧ xs[i]? = some x,
   fun i H v H' => ∃ p xs x,H p = none ∧ v = .ref p ∧ H' = upd H p (.tup [.int i,x]) ∧ H l = some (f xs) ∧ xs[i]? = some x,
   fun i H => ∃ xs,H l = some (f xs) ∧ xs.length ≤ i⟩
section
variable {X : Cx} {pins : List (Addr × Obj)} {σ : St} {H : Hp} {s : Shared}
theorem enum_step {f : List V → HO} {tn : Nat → Heap → Prop} {es : List Expr} {kk : Nat} {tp : Pos} {e it l : Addr} {i : Nat} {xs : List V} {x : V} {u : Value} {tk : Nat} {h' : Heap} {E : Value → Shared → Prop} (hne : e ≠ it) (I : Inv X pins σ H s) (hf : ∀ b ∈ [e,it],FpOk X pins H b) (hl : H l = some (f xs)) (hx : xs[i]? = some x)
    (ho : ∀ b ∈ [e, it], b < s.heap.objs.size) (r : RelV x u) (b1 : IsEnumOut h' e it ((i : Int) + 1) u s.heap.objs.size) (b3 : h'.get? s.heap.objs.size = some { cls := .type "tuple", data := .seq #[.int i tk, u] })
    (bk : ∀ b o,b ≠ e → b ≠ it → s.heap.get? b = some o → h'.get? b = some o) (hn : ∀ h'',IsEnum h'' e it ((i + 1 : Nat) : Int) u → Heap.SameBut e h' h'' → tn (i + 1) h'') :
    wpAny (model X.prog X.w) X.A (letOwnedTupleGo (.Tuple es kk tp) (.ref e) (.ref s.heap.objs.size)) (fun _ s2 => ∃ x H',Inv X pins σ H' s2 ∧ RelV x (.ref s.heap.objs.size) ∧ (Ite f l).yld i H x H' ∧ tn (i + 1) s2.heap ∧ ∀ b ∈ [e,it],H' b = none) E { s with heap := h',toks := tk + 1 } := by
  refine wpAny_letOwnedTupleGo_enum b1 fun h'' c1 cs => ?_
  have es' : e < s.heap.objs.size := ho e (by simp)
  have k2 : ∀ b o,b ∉ [e,it] → s.heap.get? b = some o → h''.get? b = some o := fun b o hb q => by
    simp only [List.mem_cons,List.not_mem_nil,or_false,not_or] at hb
    exact cs.extBut b o hb.1 (bk b o hb.1 hb.2 q)
  have I1 : Inv X pins σ H { s with heap := h'',toks := tk + 1 } := I.turnedN (t' := tk + 1) hf k2
  have hp : h''.get? s.heap.objs.size = some { cls := .type "tuple", data := .seq #[.int i tk, u] } := cs.extBut _ _ (Nat.ne_of_gt es') b3
  have hn0 : H s.heap.objs.size = none := I.hok.fresh (Nat.le_refl _)
  have fpk := I.fpOk (H' := H) (Nat.le_refl _) hn0
  have I2 : Inv X pins σ (upd H s.heap.objs.size (.tup [.int i,x])) { s with heap := h'',toks := tk + 1 } := I1.track fpk I.sz ⟨by show 2 ≤ sizeLine; decide,[.int i tk,u],.cons ⟨tk,rfl⟩ (.cons r .nil),_,hp,rfl,_,rfl⟩
  refine ⟨.ref s.heap.objs.size,_,I2,rfl,⟨_,xs,x,hn0,rfl,rfl,hl,hx⟩,hn h'' c1 cs,fun b hb => ?_⟩
  rw [upd_ne (Nat.ne_of_lt (ho b hb))]
  exact (hf b hb).1
end
theorem turn_enumL {P : Program} {w : World} {K : PySem.W.Frag} {es : List Expr} {kk : Nat} {tp : Pos} (l e it : Addr) (hne : e ≠ it) :
    Turn P w K (.Tuple es kk tp) (Ite .lst l) [e,it] e (fun i h => (∃ old,IsEnum h e it i old) ∧ h.IsListIter it l i) where
  mem := by simp
  obj := fun i h st b hb => by
    obtain ⟨⟨old,a1⟩,⟨o2,a2,_,d2⟩⟩ := st
    simp only [List.mem_cons,List.not_mem_nil,or_false] at hb
    rcases hb with rfl | rfl
    · exact ⟨_,a1,fun v q => by cases q⟩
    · exact ⟨_,a2,fun v q => by rw [d2] at q; cases q⟩
  keep := fun i h h' st k => by
    obtain ⟨⟨old,a1⟩,a2⟩ := st
    exact ⟨⟨old,k e (by simp) _ a1⟩,a2.at fun o q => k it (by simp) o q⟩
  item := by
    intro X hP hw hK hc i pins s σ H E I hf st hg
    subst hP hw hK
    obtain ⟨⟨old,a1⟩,a2⟩ := st
    obtain ⟨xs,x,e1,ex⟩ := hg
    obtain ⟨its,rv,p1,_⟩ := I.list (SqL.of e1)
    obtain ⟨u,hu,r⟩ := rv.get ex
    have ho : ∀ b ∈ [e,it],b < s.heap.objs.size := fun b hb => by
      obtain ⟨o2,a2',_⟩ := a2
      simp only [List.mem_cons,List.not_mem_nil,or_false] at hb
      rcases hb with rfl | rfl
      · exact Heap.lt_size a1
      · exact Heap.lt_size a2'
    refine wpAny_pyNext_enum_item a1 a2 p1.isList (x := u) (by simpa using hu) hne fun h' b1 b2 b3 b4 bk => ⟨_,rfl,?_⟩
    exact enum_step (tn := fun i h => (∃ old,IsEnum h e it i old) ∧ h.IsListIter it l i) hne I hf e1 ex ho r b1 b3 bk fun h'' c1 cs => ⟨⟨u,c1⟩,b2.extBut cs.extBut (Ne.symm hne)⟩
  done := by
    intro X hP hw hK hc i pins s σ H E I hf st hg
    subst hP hw hK
    obtain ⟨⟨old,a1⟩,a2⟩ := st
    obtain ⟨xs,e1,ex⟩ := hg
    obtain ⟨its,rv,p1,_⟩ := I.list (SqL.of e1)
    have lv := rv.length
    refine wpAny_pyNext_enum_end (I.ok.hd hc) a1 a2 p1.isList (by simp; omega) fun h' bk => ⟨rfl,?_⟩
    exact I.turnedN (t' := s.toks) hf fun b o hb q => by
      simp only [List.mem_cons,List.not_mem_nil,or_false,not_or] at hb
      exact bk b o hb.2 q
  self := fun _ _ _ _ _ st h => by obtain ⟨⟨old,a1⟩,_⟩ := st; exact wpAny_pyIter_enum a1 h
theorem turn_enumT {P : Program} {w : World} {K : PySem.W.Frag} {es : List Expr} {kk : Nat} {tp : Pos} (l e it : Addr) (hne : e ≠ it) :
    Turn P w K (.Tuple es kk tp) (Ite .tup l) [e,it] e (fun i h => (∃ old,IsEnum h e it i old) ∧ h.IsTupleIter it l i) where
  mem := by simp
  obj := fun i h st b hb => by
    obtain ⟨⟨old,a1⟩,⟨o2,a2,_,d2⟩⟩ := st
    simp only [List.mem_cons,List.not_mem_nil,or_false] at hb
    rcases hb with rfl | rfl
    · exact ⟨_,a1,fun v q => by cases q⟩
    · exact ⟨_,a2,fun v q => by rw [d2] at q; cases q⟩
  keep := fun i h h' st k => by
    obtain ⟨⟨old,a1⟩,a2⟩ := st
    exact ⟨⟨old,k e (by simp) _ a1⟩,a2.at fun o q => k it (by simp) o q⟩
  item := by
    intro X hP hw hK hc i pins s σ H E I hf st hg
    subst hP hw hK
    obtain ⟨⟨old,a1⟩,a2⟩ := st
    obtain ⟨xs,x,e1,ex⟩ := hg
    obtain ⟨its,rv,p1,_⟩ := I.tuple (SqT.of e1)
    obtain ⟨u,hu,r⟩ := rv.get ex
    have lt : i < its.toArray.size := by simp; exact (List.getElem?_eq_some_iff.mp hu).1
    have ho : ∀ b ∈ [e,it],b < s.heap.objs.size := fun b hb => by
      obtain ⟨o2,a2',_⟩ := a2
      simp only [List.mem_cons,List.not_mem_nil,or_false] at hb
      rcases hb with rfl | rfl
      · exact Heap.lt_size a1
      · exact Heap.lt_size a2'
    have nl : ∀ b ∈ [e,it],l ≠ b := fun b hb q => by rw [q,(hf b hb).1] at e1; cases e1
    have p1' : s.heap.IsTuple l its.toArray := p1
    have DD : Draws X.prog X.w X.A.in1 it [it,l] its.toArray.size (fun i v => its.toArray[i]? = some v) (fun i h => h.IsTupleIter it l i ∧ h.IsTuple l its.toArray) := drawsTup (show X.A.in1.handled = none from I.ok.hd hc) it l (nl it (by simp)) its.toArray
    refine wpAny_pyNext_enum_itemD DD a1 ⟨a2,p1'⟩ lt hne (by simp only [List.mem_cons,List.not_mem_nil,or_false,not_or]; exact ⟨hne,Ne.symm (nl e (by simp))⟩) fun x' h' tk px b1 b2 b3 b4 bk => ⟨_,rfl,?_⟩
    have hu' : its.toArray[i]? = some u := by simpa using hu
    have eu : u = x' := Option.some.inj (hu'.symm.trans px)
    subst eu
    exact enum_step (tn := fun i h => (∃ old,IsEnum h e it i old) ∧ h.IsTupleIter it l i) hne I hf e1 ex ho r b1 b3 bk fun h'' c1 cs => ⟨⟨u,c1⟩,b2.1.extBut cs.extBut (Ne.symm hne)⟩
  done := by
    intro X hP hw hK hc i pins s σ H E I hf st hg
    subst hP hw hK
    obtain ⟨⟨old,a1⟩,a2⟩ := st
    obtain ⟨xs,e1,ex⟩ := hg
    obtain ⟨its,rv,p1,_⟩ := I.tuple (SqT.of e1)
    have lv := rv.length
    have p1' : s.heap.IsTuple l its.toArray := p1
    have hT : s.TypeIs (.ref e) "enumerate" := ⟨_,a1,rfl⟩
    unfold pyNext
    refine wpAny_bind (wpAny_attempt (wpAny_callSpecial?_slot (name := Str.ofString "__next__") hT F.slot_enumerate_next
      (wpAny_call_entry F.slot_enumerate_next hT F.entry_enumerate_next ?_ (F.args_enumerate_next_1 _))))
    show wpAny _ _ (field (.ref e) 2 >>= _) _ _ _
    refine wpAny_bind (wpAny_field a1 rfl (x := .ref it) rfl ?_)
    refine wpAny_bind (nextOf_tup_end (I.ok.hd hc) a2 p1' (by simp; omega) fun h' x he' hx' => ?_)
    obtain ⟨o,ho,hc⟩ := hx'
    refine wpAny_bind (wpAny_isInstance (T := "StopIteration") (b := true) ⟨o,ho,hc⟩ isSubtype_stop ?_)
    refine wpAny_pure ⟨rfl,?_⟩
    exact I.turnedN (t' := s.toks) hf fun b o hb q => by
      simp only [List.mem_cons,List.not_mem_nil,or_false,not_or] at hb
      exact he' b o hb.2 q
  self := fun _ _ _ _ _ st h => by obtain ⟨⟨old,a1⟩,_⟩ := st; exact wpAny_pyIter_enum a1 h
def iEnum (ta : TA) : TI := fun σ H R => ta σ H fun vs H1 => ∃ l xs,vs = [.ref l] ∧ ((H1 l = some (.lst xs) ∧ R (Ite .lst l) H1) ∨ (H1 l = some (.tup xs) ∧ R (Ite .tup l) H1))
theorem pi_enum {X : Cx} {a : Expr} {ta : TA} {p pos tp : Pos} {es : List Expr} {kk : Nat} (hg : Gl X "enumerate") (hm : X.mg "enumerate" = none) (ha : PA X [a] ta)
    (hs : starEach [a] X.env = [(false,eval a X.env)] := by rfl) :
    PI X (.Tuple es kk tp) (.Call (.Name "enumerate" p) [a] [] pos) (iEnum ta) := by
  intro pins s σ H R I h
  refine Call_ (ld_blt I hg hm PyProof.Rows.boot_enumerate (PyProof.Rows.callWith_type1 (thn (ha pos pins s σ H _ I h) fun us s1 ⟨vs,H1,I1,r1,q1⟩ => ?_) (by rw [hs]; rfl) (by rfl)))
  obtain ⟨l,xs,rfl,q⟩ := q1
  cases r1 with
  | cons r rr =>
    cases rr
    cases r
    rcases q with ⟨e1,q⟩ | ⟨e1,q⟩
    · obtain ⟨its1,rv1,p1,_⟩ := I1.list (SqL.of e1)
      refine call_enumerate_list p1.isList fun h' z1 z2 sz keep => ?_
      have I2 : Inv X pins σ H1 { s1 with heap := h' } := I1.kept (t' := s1.toks) keep
      refine wpAny_pyIter_enum z1 ⟨s1.heap.objs.size + 1,[s1.heap.objs.size + 1,s1.heap.objs.size],_,_,H1,rfl,I2,turn_enumL l _ _ (Nat.succ_ne_self _),⟨⟨_,z1⟩,z2⟩,fun b hb => ?_,q⟩
      have hb' : s1.heap.objs.size ≤ b := by
        simp only [List.mem_cons,List.not_mem_nil,or_false] at hb
        rcases hb with rfl | rfl <;> omega
      exact I1.fpOk hb' (I1.hok.fresh hb')
    · obtain ⟨its1,rv1,p1,_⟩ := I1.tuple (SqT.of e1)
      have p1' : s1.heap.IsTuple l its1.toArray := p1
      refine call_enumerate_tup p1' fun h' z1 z2 sz keep => ?_
      have I2 : Inv X pins σ H1 { s1 with heap := h' } := I1.kept (t' := s1.toks) keep
      refine wpAny_pyIter_enum z1 ⟨s1.heap.objs.size + 1,[s1.heap.objs.size + 1,s1.heap.objs.size],_,_,H1,rfl,I2,turn_enumT l _ _ (Nat.succ_ne_self _),⟨⟨_,z1⟩,z2⟩,fun b hb => ?_,q⟩
      have hb' : s1.heap.objs.size ≤ b := by
        simp only [List.mem_cons,List.not_mem_nil,or_false] at hb
        rcases hb with rfl | rfl <;> omega
      exact I1.fpOk hb' (I1.hok.fresh hb')
theorem for_enum {f : List V → HO} (hf : ∀ xs ys,f xs = f ys → xs = ys) {l : Addr} {xs : List V} {g : TG} {tb : TS} {D : Ends} {σ : St} {H : Hp} (Pv : Nat → St → Hp → Prop) (h0 : Pv 0 σ H) (hk : ∀ i σ H',Pv i σ H' → H' l = some (f xs))
    (ht : ∀ i x p σ H,xs[i]? = some x → H p = none → Pv i σ H → g (.ref p) σ (upd H p (.tup [.int i,x])) fun σ2 H2 => tb { D with nx := Pv (i + 1),ct := Pv (i + 1),bk := D.nx } σ2 H2) (hd : ∀ σ H,Pv xs.length σ H → D.nx σ H) :
    ∃ W : Nat → Nat → St → Hp → Prop,(∃ m,W 0 m σ H) ∧ ∀ i m σ H,W i m σ H →
      ((Ite f l).stop i H ∧ D.nx σ H) ∨ ((Ite f l).go i H ∧ ∃ N : St → Hp → Prop,(∀ σ' H',N σ' H' → ∃ m',m' < m ∧ W (i + 1) m' σ' H') ∧ ∀ x H',(Ite f l).yld i H x H' → g x σ H' fun σ2 H2 => tb { D with nx := N,ct := N,bk := D.nx } σ2 H2) := by
  refine ⟨fun i m σ H => m = xs.length - i ∧ i ≤ xs.length ∧ Pv i σ H,⟨xs.length,by simp,Nat.zero_le _,h0⟩,?_⟩
  rintro i m σ H ⟨rfl,hi,p⟩
  have e1 := hk i σ H p
  by_cases hlt : i < xs.length
  · refine .inr ⟨⟨xs,xs[i],e1,by simp [hlt]⟩,Pv (i + 1),fun σ' H' p' => ⟨xs.length - (i + 1),by omega,rfl,hlt,p'⟩,fun v H' y => ?_⟩
    obtain ⟨q,xs',x,hq,rfl,rfl,e1',ex⟩ := y
    rw [e1] at e1'
    cases hf _ _ (Option.some.inj e1')
    exact ht i x q σ H ex hq p
  · have e : i = xs.length := by omega
    subst e
    exact .inl ⟨⟨xs,e1,Nat.le_refl _⟩,hd σ H p⟩
end L2
set_option Elab.async false
set_option linter.all false
set_option maxRecDepth 100000
namespace Pc
open PySem L2
def turnable (k : Kd) : Bool := k.tu && !decide (k.w = k.h)
def lyT (i : Nat) (k : Kd) : List (Nat × Bool) := (i,false) :: if turnable k = true then [(i,true)] else []
def lyK : List Kd → Nat → List (Nat × Bool)
  | [],_ => []
  | k :: r,i => lyT i k ++ lyK r (i + 1)
theorem lyK_snoc (k : Kd) : ∀ (ks : List Kd) (i : Nat),lyK (ks ++ [k]) i = lyK ks i ++ lyT (i + ks.length) k
  | [],i => by simp [lyK]
  | c :: r,i => by
    show lyT i c ++ lyK (r ++ [k]) (i + 1) = (lyT i c ++ lyK r (i + 1)) ++ _
    rw [lyK_snoc k r (i + 1),List.append_assoc]
    congr 2
    simp only [List.length_cons]
    congr 1
    omega
theorem lyT_len (i : Nat) (k : Kd) : (lyT i k).length ≤ 2 := by unfold lyT; split <;> simp
theorem lyK_len : ∀ (ks : List Kd) (i : Nat),(lyK ks i).length ≤ 2 * ks.length
  | [],i => by simp [lyK]
  | c :: r,i => by
    have := lyK_len r (i + 1)
    have := lyT_len i c
    simp only [lyK,List.length_append,List.length_cons]
    omega
def LyAt (H : Hp) (v : V) (p : Nat × Bool) : Prop := ∃ a,v = .ref a ∧ H a = some (.tup [.int p.1,.bl p.2])
abbrev Lys (H : Hp) : List V → List (Nat × Bool) → Prop := Paired (LyAt H)
theorem Lys.keep {H H' : Hp} (k : ∀ b xs,H b = some (.tup xs) → H' b = some (.tup xs)) {xs : List V} {ps : List (Nat × Bool)} (r : Lys H xs ps) : Lys H' xs ps :=
  Paired.mapP r fun v kd ⟨a,e,h⟩ => ⟨a,e,k a _ h⟩
theorem ly_put {H H3 : Hp} {l t : Addr} {ys : List V} {ps : List (Nat × Bool)} {i : Nat} {b : Bool} (hl : H l = none) (s3 : Same H H3) (l3 : H3 l = some (.lst ys)) (y3 : Lys H3 ys ps) (ht : H3 t = none) :
    Same H (upd (upd H3 t (.tup [.int (i : Int),.bl b])) l (.lst (ys ++ [.ref t]))) ∧ (upd (upd H3 t (.tup [.int (i : Int),.bl b])) l (.lst (ys ++ [.ref t]))) l = some (.lst (ys ++ [.ref t])) ∧
      Lys (upd (upd H3 t (.tup [.int (i : Int),.bl b])) l (.lst (ys ++ [.ref t]))) (ys ++ [.ref t]) (ps ++ [(i,b)]) := by
  have lt : l ≠ t := ne_of_none l3 ht
  refine ⟨fun c o e => ?_,upd_same,Paired.snoc (Lys.keep (fun c xs e => ?_) y3) ⟨t,rfl,by rw [upd_ne (Ne.symm lt),upd_same]⟩⟩
  · have e3 := s3 c o e
    rw [upd_ne (ne_of_none e hl),upd_ne (ne_of_none e3 ht)]; exact e3
  · have cl : c ≠ l := fun z => by rw [z,l3] at e; cases e
    rw [upd_ne cl,upd_ne (ne_of_none e ht)]; exact e
def spTurned (K : PySem.W.Frag) : Sp := fun vs H Q _ => ∃ (a : Addr) (k : Kd),vs = [.ref a] ∧ H a = some (.tup (kdV k)) ∧ Q (.bl (turnable k)) H
def spLyings (C : Addr) : Sp := fun vs H Q _ => ∃ (x : Addr) (b : Int) (ks : List Kd),vs = [.ref x] ∧ ShopAt C H x b ks ∧ ks.length ≤ 8 ∧
  ∀ (l : Addr) (ys : List V) (H' : Hp),H l = none → H' l = some (.lst ys) → Lys H' ys (lyK ks 0) → Same H H' → Q (.ref l) H'
def isLy (ks : List Kd) (x t : V) : Bool := match x,t with
  | .int i,.bl b => decide (0 ≤ i) && match ks[i.toNat]? with
    | some k => !b || turnable k
    | none => false
  | _,_ => false
def spIsLying (K : PySem.W.Frag) (C : Addr) : Sp := fun vs H Q _ => ∃ (s : Addr) (b : Int) (ks : List Kd) (x t : V) (T U : String),vs = [.ref s,x,t] ∧ ShopAt C H s b ks ∧ Ty K H x T ∧ Ty K H t U ∧ Q (.bl (isLy ks x t)) H
end Pc
set_option Elab.async false
set_option linter.all false
set_option maxRecDepth 100000
namespace L2
open PySem PySem.Spec PyProof.Rows
section
variable {X : Cx}
theorem pe_mD {k : Nat} {C : Addr} {ps : List Str} {sp : Sp} {m : Str} {o : Expr} {e : Expr} {es : List Expr} {ta : TE} {t : TA} {apos pos : Pos} {pl : Sem Bool} (he : PE X o ta) (c : Cls X.K C) (D : Mn X.prog X.w X.K X.mg X.base C m ps k sp) (hr : Room k X.A) (ha : PA X (e :: es) t)
    (hst : starEach (e :: es) X.env = (false,eval e X.env) :: starEach es X.env := by rfl) (hpl : (backTo pos (starEach es X.env)).any (·.1) = false := by rfl)
    (ht : eval (.Call (.Attribute o m apos) (e :: es) [] pos) X.env = (do
      let ov ← eval o X.env
      standAt apos.atName
      let (f,first) ← holding [ov] (getMethod ov m pl)
      callWith pos f first (backTo pos (starEach (e :: es) X.env)) (backToKw pos (keywordEach [] X.env))) := by rfl) : PE X (.Call (.Attribute o m apos) (e :: es) [] pos) (tMeth C m sp [] E0 ta t) := by
  obtain ⟨f,fd,F,hb,hm⟩ := D
  exact pe_meth he c hm F hr hb .nil pass0 ha hst hpl ht
def MnX (P : Program) (w : World) (K : PySem.W.Frag) (mg : Str → Option Value) (base : Heap) (C : Addr) (m : Str) (ps : List Str) (k : Nat) (sp : Sp) : Prop :=
  ∃ (f : Addr) (fd : FuncData),FnOk P w K mg base (CXx P w) k f fd ps sp ∧ Binds K fd ps [] ∧ Meth K C m f
end
end L2
set_option Elab.async false
set_option linter.all false
set_option maxRecDepth 100000
namespace L2
open PySem PySem.Spec PyProof.Rows
theorem passX {P : Program} {w : World} {X : Cx} : Passes (CXx P w) X E0 := fun _ _ _ _ _ _ _ ⟨_,_,_,_,_,_,h⟩ => h.elim
section
variable {X : Cx}
theorem pe_mDX {k : Nat} {C : Addr} {ps : List Str} {sp : Sp} {m : Str} {o : Expr} {e : Expr} {es : List Expr} {ta : TE} {t : TA} {apos pos : Pos} {pl : Sem Bool} (he : PE X o ta) (c : Cls X.K C) (D : MnX X.prog X.w X.K X.mg X.base C m ps k sp) (hr : Room k X.A) (ha : PA X (e :: es) t)
    (hst : starEach (e :: es) X.env = (false,eval e X.env) :: starEach es X.env := by rfl) (hpl : (backTo pos (starEach es X.env)).any (·.1) = false := by rfl)
    (ht : eval (.Call (.Attribute o m apos) (e :: es) [] pos) X.env = (do
      let ov ← eval o X.env
      standAt apos.atName
      let (f,first) ← holding [ov] (getMethod ov m pl)
      callWith pos f first (backTo pos (starEach (e :: es) X.env)) (backToKw pos (keywordEach [] X.env))) := by rfl) : PE X (.Call (.Attribute o m apos) (e :: es) [] pos) (tMeth C m sp [] E0 ta t) := by
  obtain ⟨f,fd,F,hb,hm⟩ := D
  exact pe_meth he c hm F hr hb .nil passX ha hst hpl ht
end
end L2
namespace Pc
open PySem L2
end Pc
namespace Pc
open PySem PySem.Spec L2
end Pc
set_option Elab.async false
set_option linter.all false
set_option maxRecDepth 100000
namespace L2
open PySem PySem.Spec PyProof.Rows
theorem ints_of : ∀ {ns : List Int} {its : List Value},Vals (ns.map V.int) its → IntsAre its ns
  | [],_,r => by cases r; exact .nil
  | n :: ns,_,r => by
    cases r with
    | cons r1 r2 =>
      obtain ⟨t,e⟩ := r1
      subst e
      exact .cons n t (ints_of r2)
section
variable {X : Cx}
end
end L2
set_option Elab.async false
set_option linter.all false
set_option maxRecDepth 100000
namespace L2
open PySem PySem.Spec PyProof.Rows
section
variable {X : Cx}
end
theorem atI_int {α : Type} {xs : List α} {i : Int} {v : α} (h0 : 0 ≤ i) (h : xs[i.toNat]? = some v) : atI xs i = some v := by
  have e : i = ((i.toNat : Nat) : Int) := by omega
  have z : atI xs ((i.toNat : Nat) : Int) = some v := atI_nat h
  rw [← e] at z; exact z
end L2
namespace Pc
open PySem L2
def PotB (H : Hp) (p : Addr) : Prop := ∃ a b : Int,0 ≤ a ∧ 0 ≤ b ∧ b < 2147483648 ∧ H p = some (.lst [.int a,.int b])
theorem PotB.new {H : Hp} {p q : Addr} {o : HO} (x : PotB H p) (h : H q = none) : PotB (upd H q o) p := by
  obtain ⟨a,b,h1,h2,h3,e⟩ := x
  exact ⟨a,b,h1,h2,h3,by rw [upd_ne (ne_of_none e h)]; exact e⟩
theorem PotB.same {H H' : Hp} {p : Addr} (x : PotB H p) (s : Same H H') : PotB H' p := by
  obtain ⟨a,b,h1,h2,h3,e⟩ := x
  exact ⟨a,b,h1,h2,h3,s _ _ e⟩
theorem PotB.some {H : Hp} {p : Addr} (x : PotB H p) : H p ≠ none := by
  obtain ⟨a,b,h1,h2,h3,e⟩ := x
  rw [e]; exact fun z => by cases z
theorem PotB.ne {H : Hp} {p q : Addr} (x : PotB H p) (h : H q = none) : p ≠ q := fun z => x.some (z ▸ h)
def spPotB : Sp := fun vs H Q _ => ∃ (c : Int),vs = [.int c] ∧ ∀ (p : Addr) (H' : Hp),H p = none → PotB H' p → Same H H' → Q (.ref p) H'
def spDrawB : Sp := fun vs H Q _ => ∃ (p : Addr) (m : Int),vs = [.ref p,.int m] ∧ PotB H p ∧ 0 < m ∧ m ≤ 10 ^ 60 ∧ ∀ (r : Int) (H' : Hp),0 ≤ r → r < m → PotB H' p → But p H H' → Q (.int r) H'
end Pc
set_option Elab.async false
set_option linter.all false
set_option maxRecDepth 100000
namespace L2
open PySem PySem.Spec PyProof.Rows
section
variable {κ : Type} [DecidableEq κ]
def valV (kvs : List (κ × V)) (k : κ) : Option V := (kvs.find? fun kv => decide (kv.1 = k)).map (·.2)
def putK (kvs : List (κ × V)) (k : κ) (v : V) : List (κ × V) :=
  if (kvs.any fun kv => decide (kv.1 = k)) = true then kvs.map (fun kv => if kv.1 = k then (kv.1,v) else kv) else kvs ++ [(k,v)]
theorem valV_pos {p : κ × V} {r : List (κ × V)} {k : κ} (e : p.1 = k) : valV (p :: r) k = some p.2 := by simp [valV,List.find?_cons,e]
theorem valV_neg {p : κ × V} {r : List (κ × V)} {k : κ} (e : ¬ p.1 = k) : valV (p :: r) k = valV r k := by simp [valV,List.find?_cons,e]
theorem valV_any (k : κ) : ∀ kvs : List (κ × V),(kvs.any fun kv => decide (kv.1 = k)) = (valV kvs k).isSome
  | [] => rfl
  | p :: r => by
    rw [List.any_cons]
    by_cases e : p.1 = k
    · simp only [valV_pos e,decide_eq_true e,Bool.true_or,Option.isSome_some]
    · rw [valV_neg e,decide_eq_false e,Bool.false_or]; exact valV_any k r
theorem valV_map (k j : κ) (y : V) : ∀ kvs : List (κ × V),valV (kvs.map fun kv => if kv.1 = k then (kv.1,y) else kv) j = (valV kvs j).map fun x => if j = k then y else x
  | [] => rfl
  | p :: r => by
    have ih := valV_map k j y r
    rw [List.map_cons]
    by_cases h : p.1 = k
    · rw [if_pos h]
      by_cases e : p.1 = j
      · rw [valV_pos (p := (p.1,y)) e,valV_pos e,Option.map_some,if_pos (e.symm.trans h)]
      · rw [valV_neg (p := (p.1,y)) e,valV_neg e,ih]
    · rw [if_neg h]
      by_cases e : p.1 = j
      · rw [valV_pos (p := p) e,valV_pos e,Option.map_some,if_neg (fun z => h (e.trans z))]
      · rw [valV_neg (p := p) e,valV_neg e,ih]
theorem valV_snoc (k j : κ) (y : V) : ∀ kvs : List (κ × V),valV kvs k = none → valV (kvs ++ [(k,y)]) j = if j = k then some y else valV kvs j
  | [],_ => by
    by_cases e : k = j
    · rw [if_pos e.symm]; exact valV_pos (p := (k,y)) e
    · rw [if_neg (fun z => e z.symm)]; exact valV_neg (p := (k,y)) e
  | p :: r,hn => by
    rw [List.cons_append]
    have hk : ¬ p.1 = k := fun z => by rw [valV_pos z] at hn; cases hn
    rw [valV_neg hk] at hn
    have ih := valV_snoc k j y r hn
    by_cases e : p.1 = j
    · rw [valV_pos e,valV_pos e,if_neg (fun z => hk (e.trans z))]
    · rw [valV_neg e,valV_neg e,ih]
theorem valV_put (kvs : List (κ × V)) (k j : κ) (y : V) : valV (putK kvs k y) j = if j = k then some y else valV kvs j := by
  unfold putK
  by_cases a : (kvs.any fun kv => decide (kv.1 = k)) = true
  · rw [if_pos a,valV_map]
    rw [valV_any] at a
    by_cases e : j = k
    · obtain ⟨x,hx⟩ := Option.isSome_iff_exists.mp a
      rw [if_pos e,e,hx,Option.map_some,if_pos rfl]
    · rw [if_neg e]
      cases valV kvs j with
      | none => rfl
      | some x => rw [Option.map_some,if_neg e]
  · rw [if_neg a]
    refine valV_snoc k j y kvs ?_
    rw [valV_any] at a
    cases q : valV kvs k with
    | none => rfl
    | some x => rw [q] at a; exact (a rfl).elim
theorem length_putK (kvs : List (κ × V)) (k : κ) (v : V) : (putK kvs k v).length ≤ kvs.length + 1 := by
  unfold putK
  split
  · rw [List.length_map]; omega
  · rw [List.length_append,List.length_cons,List.length_nil]; omega
theorem RelO.isSome_eq {o : Option V} {u : Option Value} (r : RelO o u) : o.isSome = u.isSome := by
  cases o with
  | none => cases u with
    | none => rfl
    | some _ => exact (show False from r).elim
  | some _ => cases u with
    | none => exact (show False from r).elim
    | some _ => rfl
theorem KV.val {kvs : List (κ × V)} {vs : List (κ × Value)} (r : KV kvs vs) (k : κ) : RelO (valV kvs k) (valueAt vs k) := by
  unfold KV at r
  induction r with
  | nil => exact True.intro
  | @cons p q ps qs h t ih =>
    obtain ⟨h1,h2⟩ := h
    by_cases e : p.1 = k
    · have e' : q.1 = k := h1.symm.trans e
      have b : valueAt (q :: qs) k = some q.2 := by simp [valueAt,List.find?_cons,e']
      rw [valV_pos e,b]; exact h2
    · have e' : ¬ q.1 = k := fun z => e (h1.trans z)
      have b : valueAt (q :: qs) k = valueAt qs k := by simp [valueAt,List.find?_cons,e']
      rw [valV_neg e,b]; exact ih
theorem KV.any {kvs : List (κ × V)} {vs : List (κ × Value)} (r : KV kvs vs) (k : κ) : (kvs.any fun kv => decide (kv.1 = k)) = vs.any fun kv => decide (kv.1 = k) := by
  unfold KV at r
  induction r with
  | nil => rfl
  | cons h t ih => rw [List.any_cons,List.any_cons,ih,h.1]
theorem KV.repl {kvs : List (κ × V)} {vs : List (κ × Value)} (r : KV kvs vs) (k : κ) {y : V} {u : Value} (ry : RelV y u) :
    KV (kvs.map fun kv => if kv.1 = k then (kv.1,y) else kv) (vs.map fun kv => if kv.1 = k then (kv.1,u) else kv) := by
  unfold KV at r ⊢
  induction r with
  | nil => exact .nil
  | @cons p q ps qs h t ih =>
    rw [List.map_cons,List.map_cons]
    refine .cons ?_ ih
    obtain ⟨h1,h2⟩ := h
    by_cases e : p.1 = k
    · rw [if_pos e,if_pos (h1.symm.trans e)]; exact ⟨h1,ry⟩
    · rw [if_neg e,if_neg (fun z => e (h1.trans z))]; exact ⟨h1,h2⟩
theorem KV.put {kvs : List (κ × V)} {vs : List (κ × Value)} (r : KV kvs vs) (k : κ) {y : V} {u : Value} (ry : RelV y u) : KV (putK kvs k y) (stored vs k u) := by
  unfold putK stored
  rw [r.any k]
  by_cases e : (vs.any fun kv => decide (kv.1 = k)) = true
  · rw [if_pos e,if_pos e]; exact r.repl k ry
  · rw [if_neg e,if_neg e]; exact Paired.snoc r ⟨rfl,ry⟩
theorem KV.length {kvs : List (κ × V)} {vs : List (κ × Value)} (r : KV kvs vs) : kvs.length = vs.length := Paired.length r
end
theorem kV_is {P : Program} {w : World} {k : Key} {u : Value} (r : RelV (kV k) u) : (mixKind P w).is k u = true := by
  cases k with
  | inl i => obtain ⟨t,e⟩ := (show ∃ t,u = Value.int i t from r); subst e; exact mixKind_int P w i t
  | inr x => obtain ⟨t,e⟩ := (show ∃ t,u = Value.str x t from r); subst e; exact mixKind_str P w x t
theorem items_are {P : Program} {w : World} : ∀ {ks : List Key} {us : List Value},Vals (ks.map kV) us → ItemsAre (mixKind P w) ks us
  | [],_,r => by rw [List.map_nil] at r; cases r; exact .nil
  | k :: ks,_,r => by
    rw [List.map_cons] at r
    cases r with
    | cons h t => exact .cons (kV_is h) (items_are t)
abbrev KT (H : Hp) : List (List Key × V) → List (List Key × Addr × Value) → Prop := Paired fun p q => p.1 = q.1 ∧ H q.2.1 = some (.tup (p.1.map kV)) ∧ RelV p.2 q.2.2
theorem KT.val {H : Hp} {kvs : List (List Key × V)} {xs : List (List Key × Addr × Value)} (r : KT H kvs xs) (k : List Key) : RelO (valV kvs k) ((atKey xs k).map (·.2)) := by
  induction r with
  | nil => exact True.intro
  | @cons p q ps qs h t ih =>
    obtain ⟨h1,_,h2⟩ := h
    by_cases e : p.1 = k
    · have e' : q.1 = k := h1.symm.trans e
      have b : atKey (q :: qs) k = some q.2 := by simp [atKey,List.find?_cons,e']
      rw [valV_pos e,b]; exact h2
    · have e' : ¬ q.1 = k := fun z => e (h1.trans z)
      have b : atKey (q :: qs) k = atKey qs k := by simp [atKey,List.find?_cons,e']
      rw [valV_neg e,b]; exact ih
theorem KT.repl {H : Hp} {kvs : List (List Key × V)} {xs : List (List Key × Addr × Value)} (r : KT H kvs xs) (k : List Key) {y : V} {u : Value} (ry : RelV y u) :
    KT H (kvs.map fun kv => if kv.1 = k then (kv.1,y) else kv) (xs.map (putAt k u)) := by
  induction r with
  | nil => exact .nil
  | @cons p q ps qs h t ih =>
    rw [List.map_cons,List.map_cons]
    refine .cons ?_ ih
    obtain ⟨h1,h2,h3⟩ := h
    unfold putAt
    by_cases e : p.1 = k
    · rw [if_pos e,if_pos (h1.symm.trans e)]; exact ⟨h1,h2,ry⟩
    · rw [if_neg e,if_neg (fun z => e (h1.trans z))]; exact ⟨h1,h2,h3⟩
theorem KT.put {H : Hp} {kvs : List (List Key × V)} {xs : List (List Key × Addr × Value)} (r : KT H kvs xs) (k : List Key) {b : Addr} {y : V} {u : Value} (hb : H b = some (.tup (k.map kV))) (ry : RelV y u) :
    KT H (putK kvs k y) (storedH xs k b u) := by
  have e : (kvs.any fun kv => decide (kv.1 = k)) = (atKey xs k).isSome := by
    rw [valV_any,(r.val k).isSome_eq,Option.isSome_map]
  unfold putK storedH
  rw [e]
  by_cases q : (atKey xs k).isSome = true
  · rw [if_pos q,if_pos q]; exact r.repl k ry
  · rw [if_neg q,if_neg q]; exact Paired.snoc r ⟨rfl,hb,ry⟩
theorem KT.keeps {H H' : Hp} {kvs : List (List Key × V)} {xs : List (List Key × Addr × Value)} (r : KT H kvs xs) (ht : ∀ b ys,H b = some (.tup ys) → H' b = some (.tup ys)) : KT H' kvs xs :=
  Paired.mapP r fun _ _ z => ⟨z.1,ht _ _ z.2.1,z.2.2⟩
section
variable {P : Program} {w : World} {H : Hp} {h : Heap} {a : Addr}
theorem rd_of {u : HO} (ok : HOk P w H h) (e : Rd H a u) : ObjOk P w H h a u := e.ok ok
theorem dk_rd {kvs : List (Key × V)} (ok : HOk P w H h) (e : Rd H a (.dK kvs)) : kvs.length ≤ sizeLine ∧ (a == sysModules) = false ∧ ∃ vs,KV kvs vs ∧ h.DictOf (mixKind P w) a vs :=
  show ObjOk P w H h a (.dK kvs) from rd_of ok e
theorem dk_of {kvs : List (Key × V)} (ok : HOk P w H h) (e : H a = some (.dK kvs)) : kvs.length ≤ sizeLine ∧ (a == sysModules) = false ∧ ∃ vs,KV kvs vs ∧ h.DictOf (mixKind P w) a vs := dk_rd ok (.inl e)
theorem key_of {ks : List Key} (ok : HOk P w H h) (e : H a = some (.tup (ks.map kV))) : (tupleKind (mixKind P w)).is h ks a := by
  obtain ⟨_,its,r,o,h1,h2,n,h3⟩ := (show ObjOk P w H h a (.tup (ks.map kV)) from ok a _ e)
  exact ⟨o,its.toArray,n,h1,h2,h3,by simpa using items_are r⟩
theorem dt_rd {kvs : List (List Key × V)} (ok : HOk P w H h) (e : Rd H a (.dT kvs)) : kvs.length ≤ sizeLine ∧ (a == sysModules) = false ∧
    ∃ xs,KT H kvs xs ∧ h.DictOfH (tupleKind (mixKind P w)) a xs := by
  obtain ⟨z,y,xs,r,o,es,ep,h1,h2,h3,h4,h5⟩ := (show ObjOk P w H h a (.dT kvs) from rd_of ok e)
  refine ⟨z,y,xs,r,o,es,ep,h1,h2,h3,h4,fun x hx => ?_,h5⟩
  have all : ∀ {l : List (List Key × V)} {m : List (List Key × Addr × Value)},KT H l m → ∀ x ∈ m,(tupleKind (mixKind P w)).is h x.1 x.2.1 := by
    intro l m q
    induction q with
    | nil => intro x hx; exact nomatch hx
    | @cons p q ps qs hq t ih =>
      intro x hx
      rcases List.mem_cons.mp hx with e | hx
      · subst e
        exact key_of ok (by rw [← hq.1]; exact hq.2.1)
      · exact ih x hx
  exact all r x hx
theorem dt_of {kvs : List (List Key × V)} (ok : HOk P w H h) (e : H a = some (.dT kvs)) : kvs.length ≤ sizeLine ∧ (a == sysModules) = false ∧
    ∃ xs,KT H kvs xs ∧ h.DictOfH (tupleKind (mixKind P w)) a xs := dt_rd ok (.inl e)
end
def DGet (H : Hp) (a : Addr) (y : V) (r : Option V) : Prop :=
  (∃ kvs k,Rd H a (.dK kvs) ∧ y = kV k ∧ r = valV kvs k) ∨ ∃ kvs k b,Rd H a (.dT kvs) ∧ y = .ref b ∧ H b = some (.tup (k.map kV)) ∧ r = valV kvs k
def DPut (H : Hp) (a : Addr) (y v : V) (H' : Hp) : Prop :=
  (∃ kvs k,H a = some (.dK kvs) ∧ y = kV k ∧ kvs.length < sizeLine ∧ H' = upd H a (.dK (putK kvs k v))) ∨
  ∃ kvs k b,H a = some (.dT kvs) ∧ y = .ref b ∧ H b = some (.tup (k.map kV)) ∧ kvs.length < sizeLine ∧ H' = upd H a (.dT (putK kvs k v))
theorem DGet.t {H : Hp} {a b : Addr} {kvs : List (List Key × V)} {k : List Key} (e : H a = some (.dT kvs)) (eb : H b = some (.tup (k.map kV))) : DGet H a (.ref b) (valV kvs k) := .inr ⟨kvs,k,b,.inl e,rfl,eb,rfl⟩
theorem DPut.t {H : Hp} {a b : Addr} {kvs : List (List Key × V)} {k : List Key} {v : V} (e : H a = some (.dT kvs)) (eb : H b = some (.tup (k.map kV))) (hl : kvs.length < sizeLine) :
    DPut H a (.ref b) v (upd H a (.dT (putK kvs k v))) := .inr ⟨kvs,k,b,e,rfl,eb,hl,rfl⟩
section
variable {X : Cx} {pins : List (Addr × Obj)} {σ : St} {H : Hp} {s : Shared} {a : Addr} {y v : V} {u r : Value} {o : Option V} {A : Around} {E : Value → Shared → Prop}
theorem Inv.big (I : Inv X pins σ H s) : sysModules < s.heap.objs.size := by
  have h : mainGlobals < s.heap.objs.size := (I.mod.glob.keeps I.bk).lt
  exact Nat.lt_trans (by decide) h
theorem d_getItem {Q : Value → Shared → Prop} (hu : A.units + 1 < cLine) (I : Inv X pins σ H s) (g : DGet H a y (some v)) (ry : RelV y u) (h : ∀ w' s',Inv X pins σ H s' → RelV v w' → Q w' s') :
    wpAny (model X.prog X.w) A (getItem (.ref a) u) Q E s := by
  rcases g with ⟨kvs,k,e,ey,l⟩ | ⟨kvs,k,b,e,ey,eb,l⟩
  · subst ey
    obtain ⟨z,hd,vs,rel,dd⟩ := dk_rd I.hok e
    obtain ⟨w',hw,rw'⟩ := RelO.some_of (v := v) (o := valueAt vs k) (by rw [l]; exact rel.val k)
    exact wpAny_getItem_of (kV_is ry) dd.mapOf hw (h w' _ (I.tok _) rw')
  · subst ey
    cases (show u = Value.ref b from ry)
    obtain ⟨z,hd,xs,rel,dd⟩ := dt_rd I.hok e
    obtain ⟨w',hw,rw'⟩ := RelO.some_of (v := v) (o := (atKey xs k).map (·.2)) (by rw [l]; exact rel.val k)
    obtain ⟨p,hp,hp2⟩ := Option.map_eq_some_iff.mp hw
    refine wpAny_getItem_heap (tupleKind_room_in1 hu) (key_of I.hok eb) dd hp ?_
    rw [hp2]
    exact h w' _ (I.tok _) rw'
theorem d_write {h' : Heap} {t' : Nat} {ob : HO} (I : Inv X pins σ H s) (mu : Mut (H a)) (hs : Heap.SameBut a s.heap h') (he : ∃ q,h'.get? a = some q) (new : ObjOk X.prog X.w (upd H a ob) h' a ob) :
    Inv X pins σ (upd H a ob) { s with heap := h',toks := t' } :=
  I.write (x := a) (e := a) mu (.inl rfl) (fun b q hb z => (hs.2 b hb).trans z) he new
theorem dk_new {P : Program} {w : World} {H' : Hp} {h' : Heap} {kvs : List (Key × V)} {vs : List (Key × Value)} (z : kvs.length ≤ sizeLine) (hd : (a == sysModules) = false) (rel : KV kvs vs) (dd : h'.DictOf (mixKind P w) a vs) :
    ObjOk P w H' h' a (.dK kvs) := ⟨z,hd,vs,rel,dd⟩
theorem d_setItem {H' : Hp} {Q : Unit → Shared → Prop} (hu : A.units + 1 < cLine) (I : Inv X pins σ H s) (g : DPut H a y v H') (ry : RelV y u) (rv : RelV v r) (h : ∀ s',Inv X pins σ H' s' → Q () s') :
    wpAny (model X.prog X.w) A (setItem (.ref a) u r) Q E s := by
  rcases g with ⟨kvs,k,e,ey,l,eH⟩ | ⟨kvs,k,b,e,ey,eb,l,eH⟩
  · subst ey eH
    obtain ⟨z,hd,vs,rel,dd⟩ := dk_of I.hok e
    have hz : vs.length ≤ sizeLine := by rw [← rel.length]; exact z
    have hl : (putK kvs k v).length ≤ sizeLine := by have := length_putK kvs k v; omega
    refine wpAny_setItem_pairs (hsz := hz) (kV_is ry) dd fun h' dd' hs => h _ ?_
    have he : ∃ q,h'.get? a = some q := let ⟨q,_,_,hq,_⟩ := dd'; ⟨q,hq⟩
    exact d_write I (by rw [e]; exact True.intro) hs he (dk_new hl hd (rel.put k rv) dd')
  · subst ey eH
    cases (show u = Value.ref b from ry)
    obtain ⟨z,hd,xs,rel,dd⟩ := dt_of I.hok e
    have hz : xs.length ≤ sizeLine := by rw [← Paired.length rel]; exact z
    have hl : (putK kvs k v).length ≤ sizeLine := by have := length_putK kvs k v; omega
    refine wpAny_setItem_heap (hsz := hz) (tupleKind_room_in1 hu) (key_of I.hok eb) dd fun h' dd' hs => h _ ?_
    obtain ⟨q,es,ep,hq,h2,h3,h4,_,h5⟩ := dd'
    refine d_write I (by rw [e]; exact True.intro) hs ⟨q,hq⟩ ⟨hl,hd,_,(rel.put k eb rv).keeps fun c ys ec => ?_,q,es,ep,hq,h2,h3,h4,h5⟩
    rw [upd_ne (ne_of ec e (fun z => nomatch z))]
    exact ec
end
section
variable {X : Cx} {pins : List (Addr × Obj)} {σ : St} {H : Hp} {s : Shared} {a : Addr} {kvs : List (Key × V)} {k : Key} {u : Value} {A : Around} {E : Value → Shared → Prop}
end
def NoSl (i : Expr) : Prop := ∀ ov iv,subscripted i false ov iv = operate [ov,iv] (getItem ov iv)
theorem subD_of {prog : Program} {w : World} {A : Around} {E : Value → Shared → Prop} {s : Shared} {env : Env} {value slice : Expr} {pos : Pos} {T id : String} {Q : Value → Shared → Prop}
    (hl : typeLookup (.type T) "__getitem__" = pure (some (.builtin id))) (hs : NoSl slice)
    (h : wpAny (model prog w) A (eval value env) (fun o s₁ => wpAny (model prog w) A (eval slice env) (fun i s₂ => s₂.TypeIs o T ∧ wpAny (model prog w) A (getItem o i) Q E s₂) E s₁) E s) :
    wpAny (model prog w) A (eval (.Subscript value slice pos) env) Q E s := by
  refine Subscript_ (wpAny_mono h (fun o s₁ h₁ => wpAny_mono h₁ (fun i s₂ h₂ => ?_) fun _ _ x => x) fun _ _ x => x)
  obtain ⟨hT,h₂⟩ := h₂
  unfold subscriptTail
  refine wpAny_bind ?_
  rw [getitemInPython_of_ne hT.not_modules]
  refine wpAny_bind (wpAny_specialOf hT hl ?_)
  have fin : wpAny (model prog w) A (subscripted slice false o i) (fun r s₃ => wpAny (model prog w) A (letTemporaryGo value o r >>= fun _ => pure r) Q E s₃) E s₂ := by
    rw [hs o i]
    exact wpAny_operating (wpAny_mono h₂ (fun r s₃ h₃ => wpAny_bind (wpAny_letTemporaryGo (wpAny_pure h₃))) fun _ _ x => x)
  first
    | exact wpAny_pure (wpAny_bind fin)
    | exact wpAny_bind (wpAny_pure (wpAny_bind fin))
    | exact wpAny_bind fin
theorem dict_typeIs {X : Cx} {pins : List (Addr × Obj)} {σ : St} {H : Hp} {s : Shared} {a : Addr} {y : V} {o : Option V} (I : Inv X pins σ H s) (g : DGet H a y o) : s.TypeIs (.ref a) "dict" := by
  rcases g with ⟨kvs,k,e,_,_⟩ | ⟨kvs,k,b,e,_,_,_⟩
  · obtain ⟨_,_,vs,_,dd⟩ := dk_rd I.hok e
    exact dd.typeIs
  · obtain ⟨_,_,xs,_,dd⟩ := dt_rd I.hok e
    exact dd.typeIs
def tDGet (td ty : TE) : TE := fun σ H Q => td σ H fun x H1 => ty σ H1 fun y H2 => ∃ a v,x = .ref a ∧ DGet H2 a y (some v) ∧ Q v H2
def sDPut (td ty tv : TE) : TS := fun D σ H => tv σ H fun v H1 => td σ H1 fun x H2 => ty σ H2 fun y H3 => ∃ a H4,x = .ref a ∧ DPut H3 a y v H4 ∧ D.nx σ H4
section
variable {X : Cx} {o i e value : Expr} {pos pos' tpos : Pos} {td ty tv : TE}
theorem pe_dget (hu : X.A.units + 1 < cLine) (ho : PE X o td) (hi : PE X i ty) (hs : NoSl i) : PE X (.Subscript o i pos) (tDGet td ty) := by
  intro pins s σ H Q I h
  refine subD_of PySem.F.slot_dict_getitem.lookup hs (thn (ho pins s σ H _ I h) fun u s1 ⟨x,H1,I1,rx,q1⟩ => thn (hi pins s1 σ H1 _ I1 q1) fun iv s2 ⟨y,H2,I2,ry,a,v,ex,g,q2⟩ => ?_)
  subst ex
  obtain rfl : u = Value.ref a := rx
  exact ⟨dict_typeIs I2 g,d_getItem hu I2 g ry fun w' s3 I3 rw' => ⟨v,H2,I3,rw',q2⟩⟩
theorem ps_dput (hu : X.A.units + 1 < cLine) (ho : PE X o td) (hi : PE X i ty) (hv : PE X value tv) (hs : swapsWith value (some (.Subscript o i pos')) pos.line X.env = pure false) :
    PS X (.Assign [.Subscript o i pos'] value pos) (sDPut td ty tv) := by
  intro pins s σ H D I h
  refine wpAny_Assign_Subscript (thn (hv pins s σ H _ I h) fun r s1 ⟨v,H1,I1,rv,q1⟩ => thn (ho pins s1 σ H1 _ I1 q1) fun u s2 ⟨x,H2,I2,rx,q2⟩ => thn (hi pins s2 σ H2 _ I2 q2) fun iv s3 ⟨y,H3,I3,ry,a,H4,ex,g,q3⟩ => ?_) hs
  subst ex
  obtain rfl : u = Value.ref a := rx
  exact d_setItem hu I3 g ry rv fun s4 I4 => ⟨σ,H4,I4,q3⟩
end
theorem dt_empty {P : Program} {w : World} {H : Hp} (h : Heap) (hb : sysModules < h.objs.size) : ObjOk P w H (h.push { cls := .type "dict",data := .dict #[] }) h.objs.size (.dT []) :=
  ⟨Nat.zero_le _,beq_eq_false_iff_ne.mpr (Ne.symm (Nat.ne_of_lt hb)),[],.nil,_,#[],0,Heap.get?_push_size _ rfl,⟨rfl,rfl,rfl⟩,rfl,rfl,List.nodup_nil⟩
def tDNewT : TE := fun _ H Q => ∀ p,H p = none → Q (.ref p) (upd H p (.dT []))
section
variable {X : Cx} {pos : Pos}
theorem pe_dnewT : PE X (.Dict [] [] pos) tDNewT := fun pins s σ H Q I h =>
  wpAny_Dict_empty ⟨.ref s.heap.objs.size,_,I.laid (a := s.heap.objs.size) (o := .dT []) (t' := s.toks) (fun _ _ q => Heap.get?_push_of_some _ q) (Nat.le_refl _) (dt_empty s.heap I.big),rfl,h _ (I.hok.fresh (Nat.le_refl _))⟩
end
structure M1 (X : Cx) (o : Expr) (m : Str) (apos : Pos) (e : Expr) (cpos : Pos) : Prop where
  base : attributeBase o m X.env (eval o X.env) = eval o X.env
  few : ((backTo cpos (starEach [e] X.env)).all (fun x => !x.1) && (backToKw cpos (keywordEach [] X.env)).all (fun x => x.1.isSome)
    && decide (([e] : List Expr).length + ([] : List Keyword).length + (if ([] : List Keyword).isEmpty then 0 else 1) < 30)) = true
  line : (apos.endLine == cpos.line) = true
  trees : backTo cpos (starEach [e] X.env) = [(false,eval e X.env)]
structure M2 (X : Cx) (o : Expr) (m : Str) (apos : Pos) (e f : Expr) (cpos : Pos) : Prop where
  base : attributeBase o m X.env (eval o X.env) = eval o X.env
  few : ((backTo cpos (starEach [e,f] X.env)).all (fun x => !x.1) && (backToKw cpos (keywordEach [] X.env)).all (fun x => x.1.isSome)
    && decide (([e,f] : List Expr).length + ([] : List Keyword).length + (if ([] : List Keyword).isEmpty then 0 else 1) < 30)) = true
  line : (apos.endLine == cpos.line) = true
  trees : backTo cpos (starEach [e,f] X.env) = [(false,eval e X.env),(false,eval f X.env)]
section
variable {X : Cx} {pins : List (Addr × Obj)} {σ : St} {H : Hp} {s : Shared} {a : Addr} {y d : V} {u r : Value} {o : Option V} {A : Around} {E : Value → Shared → Prop}
end
section
variable {X : Cx} {o e f : Expr} {apos cpos : Pos} {td ty tx : TE}
end
section
variable {X : Cx} {pins : List (Addr × Obj)} {σ : St} {H : Hp} {s : Shared} {a : Addr} {kvs : List (Key × V)} {A : Around} {E : Value → Shared → Prop}
end
section
variable {X : Cx} {pins : List (Addr × Obj)} {σ : St} {H : Hp} {s : Shared} {a : Addr} {y : V} {u : Value} {A : Around} {E : Value → Shared → Prop}
end
end L2
namespace Att
open PySem PySem.W PySem.Calls PyProof.Rows
section
variable {prog : Program} {w : World} {A : Around} {E : Value → Shared → Prop} {s : Shared} {K : Frag}
end
end Att
namespace L2
open PySem PySem.Spec PyProof.Rows
end L2
namespace L2
open PySem PySem.Spec PyProof.Rows
end L2
/- THE LAST THEOREM (shape; LID,My.* are yours):
   My.Adr: a structure of the addresses that your layer names (classes,functions); My.Txt K t: a structure (Prop) of the equations over K;
   My.txt_mk : {K} {implicit addresses ..} (e1 : nsIn K mainGlobals "law" = some (some (.ref f))) (e2 : K.lookup f = some ⟨oc,od,.func (fnOf "law" "law" params body scope dV kV doc pm an cdv ct),sl⟩) (e3 : codeIn K cdv "law" = true) .. : ∃ t,My.Txt K t
(the tactic k_is has no namespace: write k_is) -/
namespace L2
open PySem PySem.Spec PyProof.Rows
section
variable {P : Program} {w : World} {K : PySem.W.Frag} {mg : Str → Option Value} {base : Heap}
end
section
variable {X : Cx}
end
section
variable {κ : Type} [DecidableEq κ]
end
end L2
set_option Elab.async false
set_option linter.all false
set_option maxRecDepth 100000
namespace L2
open PySem PySem.Spec PyProof.Rows
theorem pg_two {X : Cx} (K : PySem.W.Frag) {x y : Str} {px py pos : Pos} {k : Nat} (hK : X.K = K) (hc : X.calm = true) (hN : X.N.Nodup) (h0 : X.N[0]? = some x) (h1 : X.N[1]? = some y) (l0 : X.env.scope.names.lookup x = some .local) (l1 : X.env.scope.names.lookup y = some .local) :
    PG X (.Tuple [.Name x px,.Name y py] k pos) (gTup K 2 (gCons (gName 0) (gCons (gName 1) gNil))) :=
  hK ▸ pg_tup hc (pgs_cons (pg_name hN h0 (.inl l0) (.inr l0)) (pgs_cons (pg_name hN h1 (.inl l1) (.inr l1)) pgs_nil))
end L2
namespace L2
open PySem PySem.Spec PyProof.Rows
section
variable {X : Cx}
end
end L2
set_option Elab.async false
set_option linter.all false
set_option maxRecDepth 100000
namespace PySem
open Sem (wp)
section
variable {prog : Program} {w : World} {A : Around} {R : Result → Shared → Prop} {I : Addr} {fp wr : List Addr} {n : Nat} {P : Nat → Value → Prop} {St : Nat → Heap → Prop}
end
section
variable {prog : Program} {w : World} {A : Around} {E : Value → Shared → Prop} {s : Shared}
end
end PySem
namespace L2
open PySem PySem.Spec PyProof.Rows
theorem argBest_lt (val : Nat → Int) : ∀ k,argBest (fun i j => decide (val i < val j)) k ≤ k ∧ ∀ j,j ≤ k → val (argBest (fun i j => decide (val i < val j)) k) ≤ val j
  | 0 => ⟨Nat.le_refl _,fun j hj => by rw [Nat.le_zero.mp hj]; exact Int.le_refl _⟩
  | k + 1 => by
    obtain ⟨h1,h2⟩ := argBest_lt val k
    unfold argBest
    by_cases c : val (k + 1) < val (argBest (fun i j => decide (val i < val j)) k)
    · rw [if_pos (decide_eq_true c)]
      refine ⟨Nat.le_refl _,fun j hj => ?_⟩
      rcases Nat.lt_or_ge k j with z | z
      · rw [show j = k + 1 by omega]; exact Int.le_refl _
      · have := h2 j z; omega
    · rw [if_neg (fun z => c (of_decide_eq_true z))]
      refine ⟨by omega,fun j hj => ?_⟩
      rcases Nat.lt_or_ge k j with z | z
      · rw [show j = k + 1 by omega]; omega
      · exact h2 j z
section
variable {X : Cx} {e kv : Expr} {t : TE} {p pos kp : Pos}
end
end L2
set_option Elab.async false
set_option linter.all false
set_option maxRecDepth 100000
namespace PySem
open Spec
section
variable {prog : Program} {w : World} {A : Around} {E : Value → Shared → Prop} {s : Shared} {l : Addr} {xs : Array (Int × Tok)}
end
end PySem
namespace L2
open PySem PySem.Spec PyProof.Rows
section
variable {X : Cx}
theorem comp_rng {lo : Int} {n : Nat} {σ : St} {cap : List Nat} {k : Nat} {g : TG} {tt : TT} {te : TE} {Q : List V → Hp → Prop} {H : Hp} (Pv : Nat → List V → Hp → Prop) (h0 : Pv 0 [] H)
    (ht : ∀ i ys H',i < n → Pv i ys H' → ys.length < sizeLine ∧ g (.int (lo + i)) (blkSt σ cap k) H' fun σ2 H2 => leS (blkSt σ cap k) σ2 ∧ tt σ2 H2 fun ok H3 => if ok = true then te σ2 H3 (fun v H4 => Nx n Pv i (ys ++ [v]) H4) else Nx n Pv i ys H3)
    (hd : ∀ ys H',Pv n ys H' → ys.length ≤ sizeLine ∧ Q ys H') : ∃ W,(∃ m,W 0 m [] H) ∧ CompW σ cap k (Itr lo n) g tt te Q W := by
  refine ⟨fun i m ys H' => m = n - i ∧ i ≤ n ∧ Pv i ys H',⟨_,rfl,Nat.zero_le _,h0⟩,?_⟩
  rintro i m ys H' ⟨rfl,hi,p⟩
  by_cases hin : i < n
  · obtain ⟨e,hg⟩ := ht i ys H' hin p
    refine .inr ⟨hin,e,fun x H2 yl => ?_⟩
    obtain ⟨e1,e2⟩ := yl
    subst e1 e2
    exact hg
  · have e : i = n := by omega
    subst e
    obtain ⟨a1,a2⟩ := hd ys H' p
    exact .inl ⟨Nat.le_refl _,a1,a2⟩
end
end L2
namespace PySem
theorem Paired.getL {α β : Type} {F : α → β → Prop} : ∀ {l₁ : List α} {l₂ : List β} {i : Nat} {y : β},Paired F l₁ l₂ → l₂[i]? = some y → ∃ x,l₁[i]? = some x ∧ F x y
  | _,_,_,_,.nil,e => by simp at e
  | _,_,0,_,.cons h _,e => by simp at e; subst e; exact ⟨_,rfl,h⟩
  | _,_,i + 1,y,.cons _ t,e => by
    obtain ⟨x,h1,h2⟩ := Paired.getL (i := i) t (by simpa using e)
    exact ⟨x,by simpa using h1,h2⟩
end PySem
set_option Elab.async false
set_option linter.all false
set_option maxRecDepth 100000
namespace L2
open PySem PySem.Spec PyProof.Rows
section
variable {X : Cx}
def rCatS (K : PySem.W.Frag) : R2 := fun x y H Q => ∃ l b xs zs,x = .ref l ∧ y = .ref b ∧ SqL K H l xs ∧ SqL K H b zs ∧ xs.length + zs.length ≤ sizeLine ∧ ∀ p,H p = none → Q (.ref p) (upd H p (.lst (xs ++ zs)))
theorem op_catS : OpR X (binaryOp .Add) (rCatS X.K) := by
  intro pins s σ H x y v u Q I rx ry h
  obtain ⟨l,b,xs,zs,rfl,rfl,hl,hb,hz,q⟩ := h
  cases rx
  cases ry
  obtain ⟨its,r,pl,z⟩ := I.list hl
  obtain ⟨its2,r2,pl2,z2⟩ := I.list hb
  have hl1 := r.length
  have hl2 := r2.length
  obtain ⟨⟨cls,dd,data,sl⟩,n,ho,hc,_,hd⟩ := pl
  obtain ⟨⟨cls2,dd2,data2,sl2⟩,n2,ho2,hc2,_,hd2⟩ := pl2
  simp only at hc hd hc2 hd2
  subst hc hd hc2 hd2
  have e : its.toArray ++ its2.toArray = (its ++ its2).toArray := by simp
  refine concat_meets ⟨_,ho,rfl⟩ ⟨_,ho2,rfl⟩ noFill_list_add seq_list_add PySem.F.slot_list_add PySem.F.entry_list_add (PySem.F.args_list_add_2 _ _) (list_addW l b its.toArray its2.toArray n n2 dd dd2 sl sl2 (by rw [List.size_toArray,List.size_toArray]; omega)) ⟨ho,ho2,?_⟩
  rw [e]
  exact ⟨.ref _,_,I.lnew (t' := s.toks) (r.append r2) (by rw [List.length_append]; omega),rfl,q _ I.fresh⟩
end
end L2
set_option Elab.async false
set_option linter.all false
set_option maxRecDepth 100000
namespace L2
open PySem PySem.Spec PyProof.Rows
theorem compTurn_two (elt tg iter : Expr) (ifs : List Expr) (tg2 iter2 : Expr) (ifs2 : List Expr) (scope : Scope) (pos : Pos) (it acc : Value) (env : Env) :
    compTurn (.ListComp elt [⟨tg,iter,ifs,0⟩,⟨tg2,iter2,ifs2,0⟩] scope pos) 0 it acc env = (do
      standAt iter.pos
      match ← pyNext it with
      | none => pure (.done .next)
      | some v =>
        letOwnedTupleGo tg it v
        assign tg env v
        let mut ok := true
        for c in ifs do
          if ok then ok ← isTrue c env (eval c env)
        if ok then
          let x ← eval iter2 env
          standAt iter2.pos
          let x ← foldedSetIterable iter2 env x
          let i2 ← holding [x] (pyIter x)
          let _ ← runOwn (.compStart (.ListComp elt [⟨tg,iter,ifs,0⟩,⟨tg2,iter2,ifs2,0⟩] scope pos) 1 i2 acc env) env
        again (.compLoop (.ListComp elt [⟨tg,iter,ifs,0⟩,⟨tg2,iter2,ifs2,0⟩] scope pos) 0 it acc env)) := by rfl
theorem compTurn_in (elt tg iter : Expr) (ifs : List Expr) (tg2 iter2 : Expr) (ifs2 : List Expr) (scope : Scope) (pos : Pos) (it acc : Value) (env : Env) :
    compTurn (.ListComp elt [⟨tg,iter,ifs,0⟩,⟨tg2,iter2,ifs2,0⟩] scope pos) 1 it acc env = (do
      standAt iter2.pos
      match ← pyNext it with
      | none => pure (.done .next)
      | some v =>
        letOwnedTupleGo tg2 it v
        assign tg2 env v
        let mut ok := true
        for c in ifs2 do
          if ok then ok ← isTrue c env (eval c env)
        if ok then
          (do let _ ← call (.builtin "list.append") [acc,← eval elt env])
        again (.compLoop (.ListComp elt [⟨tg,iter,ifs,0⟩,⟨tg2,iter2,ifs2,0⟩] scope pos) 1 it acc env)) := by rfl
theorem codeAny_compStart_two {prog : Program} {w : World} {A : Around} {R : Result → Shared → Prop} {s : Shared} {elt tg iter tg2 iter2 : Expr} {ifs ifs2 : List Expr} {scope : Scope} {pos : Pos} {it acc : Value} {env : Env}
    (h0 : codeAny (model prog w) A (.compLoop (.ListComp elt [⟨tg,iter,ifs,0⟩,⟨tg2,iter2,ifs2,0⟩] scope pos) 1 it acc env) R s)
    (h : wpAny (model prog w) A (pyIter it) (fun it' s' => codeAny (model prog w) A (.compLoop (.ListComp elt [⟨tg,iter,ifs,0⟩,⟨tg2,iter2,ifs2,0⟩] scope pos) 1 it' acc env) R s')
      (notedBy (model prog w) A env fun x s' => R (.error x) s') s) :
    codeAny (model prog w) A (.compStart (.ListComp elt [⟨tg,iter,ifs,0⟩,⟨tg2,iter2,ifs2,0⟩] scope pos) 1 it acc env) R s := by
  refine codeAny_of_tree ?_
  show wpAny _ _ ((compStart (.ListComp elt [⟨tg,iter,ifs,0⟩,⟨tg2,iter2,ifs2,0⟩] scope pos) 1 it acc env).onRaise (fun x => do noteFrame x env; standAt theWindowsPlace)) _ _ s
  refine wpAny_notedAt ?_
  unfold compStart
  show wpAny _ _ (ask >>= _) _ _ s
  refine wpAny_bind (wpAny_askSetting (wpAny_ite ?_))
  split
  · first
      | exact wpAny_bind (wpAny_pure (wpAny_pure (And.intro rfl h0)))
      | exact wpAny_pure (And.intro rfl h0)
  · first
      | exact wpAny_bind (wpAny_rule (wpAny_bind (wpAny_standAt (wpAny_bind (wpAny_mono h (fun it' s' h' => wpAny_pure (And.intro rfl h')) fun _ _ x => x)))))
      | (refine wpAny_bind (wpAny_rule ?_); show wpAny _ _ (standAt iter2.pos >>= _) _ _ s; exact wpAny_bind (wpAny_standAt (wpAny_bind (wpAny_mono h (fun it' s' h' => wpAny_pure (And.intro rfl h')) fun _ _ x => x))))
def CompIn (σ2 : St) (J : It) (g : TG) (tt : TT) (te : TE) (N : List V → Hp → Prop) (W : Nat → Nat → List V → Hp → Prop) : Prop :=
  ∀ i m ys H,W i m ys H → (J.stop i H ∧ N ys H) ∨
    (J.go i H ∧ ys.length < sizeLine ∧ ∀ x H',J.yld i H x H' → g x σ2 H' fun σ3 H2 => leS σ2 σ3 ∧ tt σ3 H2 fun ok H3 =>
      if ok = true then te σ3 H3 (fun v H4 => ∃ m',m' < m ∧ W (i + 1) m' (ys ++ [v]) H4) else ∃ m',m' < m ∧ W (i + 1) m' ys H3)
def CompW2 (σ : St) (cap : List Nat) (k : Nat) (J : It) (g : TG) (tt : TT) (wi2 : TI) (g2 : TG) (tt2 : TT) (te : TE) (Q : List V → Hp → Prop) (W : Nat → Nat → List V → Hp → Prop) : Prop :=
  ∀ i m ys H,W i m ys H → (J.stop i H ∧ ys.length ≤ sizeLine ∧ Q ys H) ∨
    (J.go i H ∧ ∀ x H',J.yld i H x H' → g x (blkSt σ cap k) H' fun σ2 H2 => leS (blkSt σ cap k) σ2 ∧ tt σ2 H2 fun ok H3 =>
      if ok = true then wi2 σ2 H3 (fun J2 H4 => ∃ W2 : Nat → Nat → List V → Hp → Prop,(∃ m2,W2 0 m2 ys H4) ∧ CompIn σ2 J2 g2 tt2 te (fun zs H5 => ∃ m',m' < m ∧ W (i + 1) m' zs H5) W2) else ∃ m',m' < m ∧ W (i + 1) m' ys H3)
section
variable {X : Cx} {pins : List (Addr × Obj)} {σ : St} {H2 : Hp} {s2 : Shared} {scope : Scope} {own cs : List Str} {cap : List Nat} {fp : List Addr} {it : Addr} {tn : Nat → Heap → Prop}
  {elt tg iter tg2 iter2 : Expr} {ifs ifs2 : List Expr} {pos : Pos} {J : It} {g g2 : TG} {tt tt2 : TT} {te : TE} {wi2 : TI} {E : Value → Shared → Prop} {W : Nat → Nat → List V → Hp → Prop} {Qf : List V → Hp → Prop}
theorem comp_run2 {RR : Value → Addr → Result → Shared → Prop} (I : Inv X pins σ H2 s2) (ok : CompOk X scope own cs cap) (hc : X.calm = true) (T : Turn X.prog X.w X.K tg J fp it tn) (st : tn 0 s2.heap) (hf : ∀ b ∈ fp,FpOk X pins H2 b)
    (hg : ∀ C,PG (blkCx X pins s2 H2 scope C (own ++ cs) fp) tg g) (hi : ∀ C,PIfs (blkCx X pins s2 H2 scope C (own ++ cs) fp) ifs tt) (hit2 : ∀ C,PI (blkCx X pins s2 H2 scope C (own ++ cs) fp) tg2 iter2 wi2) (hs2 : ∀ C x,foldedSetIterable iter2 (compEnvC scope (clAdd X.env scope.names []) C X.env) x = pure x) (hg2 : ∀ C,PG (blkCx X pins s2 H2 scope C (own ++ cs) fp) tg2 g2) (hi2 : ∀ C,PIfs (blkCx X pins s2 H2 scope C (own ++ cs) fp) ifs2 tt2) (he : ∀ C,PE (blkCx X pins s2 H2 scope C (own ++ cs) fp) elt te)
    (w0 : ∃ m,W 0 m [] H2) (turn : CompW2 σ cap own.length J g tt wi2 g2 tt2 te Qf W)
    (hRR : ∀ D C s',BlkEnd X pins σ Qf D C s' → RR (.ref D) C (.ok .next) s') :
    wpAny (model X.prog X.w) X.A (newList []) (fun acc s₃ => wpAny (model X.prog X.w) X.A (newFunctionEnv scope X.env.globals (clAdd X.env scope.names []) [] X.env.qual none .none (some X.env)) (fun cenv s₄ =>
      codeAny (model X.prog X.w) X.A (.compStart (.ListComp elt [⟨tg,iter,ifs,0⟩,⟨tg2,iter2,ifs2,0⟩] scope pos) 0 (.ref it) acc { cenv with scope := relabel scope X.env }) (RR acc cenv.locals) s₄) E s₃) E s2 := by
  refine wpAny_newObj_type (wpAny_newFunctionEnv ok.cell (by intro y hy; simp at hy) (fun h₁ hns₁ hsb₁ => ?_) ok.kind)
  dsimp only at hns₁ hsb₁ ⊢
  generalize hHH : s2.heap.push { cls := .type "list",dict := none,data := .seq ([] : List Value).toArray } = HH at hns₁ hsb₁ ⊢
  have hCs : HH.objs.size = s2.heap.objs.size + 1 := by rw [← hHH,Heap.size_push]
  have hDC : s2.heap.objs.size ≠ HH.objs.size := by rw [hCs]; exact Nat.ne_of_lt (Nat.lt_succ_self _)
  have hCle : s2.heap.objs.size ≤ HH.objs.size := by rw [hCs]; exact Nat.le_succ _
  have hfl : ∀ b ∈ fp,b < s2.heap.objs.size := fun b hb => by
    obtain ⟨o,e,_⟩ := T.obj 0 _ st b hb
    exact Heap.lt_size e
  have old : ∀ b o,s2.heap.get? b = some o → h₁.get? b = some o := fun b o e => hsb₁.extBut b o (by rw [hCs]; exact Nat.ne_of_lt (Nat.lt_succ_of_lt (Heap.lt_size e))) (Heap.get?_push_of_some _ (hHH ▸ Heap.get?_push_of_some _ e))
  have hacc : h₁.PlainList s2.heap.objs.size #[] := ⟨_,hsb₁.extBut _ _ hDC (Heap.get?_push_of_some _ (hHH ▸ Heap.get?_push_size _ rfl))⟩
  generalize hD : s2.heap.objs.size = D at *
  generalize hCC : HH.objs.size = C at *
  have hns₁' : h₁.Ns C (fun _ => none) := hns₁
  have I0 : Inv (blkCx X pins s2 H2 scope C (own ++ cs) fp) [] (blkSt σ cap own.length) H2 { s2 with heap := h₁,toks := s2.toks + ([] : List (Str × Value)).length } :=
    blk_start I ok hf (fun b hb => by rw [hD]; exact hfl b hb) (by rw [hD]; exact hCle) hns₁' old
  have Dfs : D ∉ frs X.stack := fun hb => by
    obtain ⟨_,o,ho,_⟩ := I.stack.mem hb
    exact absurd (Heap.lt_size ho) (by rw [hD]; exact Nat.lt_irrefl _)
  have Dfp : ∀ b ∈ fp,D ≠ b := fun b hb z => absurd (hfl b hb) (by rw [← z]; exact Nat.lt_irrefl _)
  have clt : ∀ x c,(clAdd X.env scope.names []).lookup x = some c → c < D := fun x c e => by
    have e' := clAdd_lookup X.env scope.names [] x c (fun y hy e => I.ok.has y.1 (ok.free y hy e)) (fun _ _ z => by simp at z) e
    obtain ⟨v,o,ho,_⟩ := I.cell x c e'
    have := Heap.lt_size ho
    rw [hD] at this; exact this
  have plt : ∀ p ∈ X.pn ++ pins,p.1 < D := fun p hp => by
    have := Heap.lt_size (I.pin p hp).1
    rw [hD] at this; exact this
  have stat : ∀ {H' : Hp} {ob : Obj},(∀ b ∈ fp,H' b = none) → ∀ b ∈ fp,FpOk (blkCx X pins s2 H2 scope C (own ++ cs) fp) [(D,ob)] H' b := fun {H' ob} hn b hb => by
    have q := I0.ok.exf b hb
    refine ⟨hn b hb,q.1,I0.ok.exfs b hb,.inl hb,q.2,fun p hp => ?_⟩
    rcases List.mem_append.mp hp with z | z
    · exact (hf b hb).2.2.2.2.2 p z
    · have : p = (D,ob) := by simpa using z
      subst this
      exact Dfp b hb
  have loop : codeAny (model X.prog X.w) X.A (.compLoop (.ListComp elt [⟨tg,iter,ifs,0⟩,⟨tg2,iter2,ifs2,0⟩] scope pos) 0 (.ref it) (.ref D) (compEnvC scope (clAdd X.env scope.names []) C X.env)) (RR (.ref D) C)
      { s2 with heap := h₁,toks := s2.toks + ([] : List (Str × Value)).length } := by
    obtain ⟨m0,w0⟩ := w0
    refine codeAny_loop rfl (fun n s' => ∃ i H' its ys,Inv (blkCx X pins s2 H2 scope C (own ++ cs) fp) [] (blkSt σ cap own.length) H' s' ∧ tn i s'.heap ∧ (∀ b ∈ fp,H' b = none) ∧ s'.heap.PlainList D its.toArray ∧ Vals ys its ∧ H' D = none ∧ W i n ys H') ?_ m0
      ⟨0,H2,[],[],I0,T.keep 0 _ _ st fun b _ o e => old b o e,fun b hb => (hf b hb).1,hacc,.nil,I.hok.fresh (by rw [hD]; exact Nat.le_refl _),w0⟩
    rintro n s3 ⟨i,H3,its,ys,I3,st3,fr3,⟨nn,pl3⟩,rv3,hD3,w3⟩
    show wpAny _ X.A ((compTurn (.ListComp elt [⟨tg,iter,ifs,0⟩,⟨tg2,iter2,ifs2,0⟩] scope pos) 0 (.ref it) (.ref D) (compEnvC scope (clAdd X.env scope.names []) C X.env)).onRaise (fun x => do noteFrame x (compEnvC scope (clAdd X.env scope.names []) C X.env); theTreesLotGoes x)) _ _ s3
    refine wpAny_noted ?_
    rw [compTurn_two]
    refine wpAny_bind (wpAny_standAt (wpAny_bind ?_))
    have I3' : Inv (blkCx X pins s2 H2 scope C (own ++ cs) fp) [(D, { cls := .type "list", data := .seq its.toArray nn })] (blkSt σ cap own.length) H3 s3 :=
      I3.pins_of fun p hp => by
        have : p = (D,{ cls := .type "list",data := .seq its.toArray nn }) := by simpa using hp
        subst this
        exact ⟨pl3,hD3,hDC,Dfs,fun v z => by cases z⟩
    rcases turn i n ys H3 w3 with ⟨stop,hz,qf⟩ | ⟨go,step⟩
    · refine thn (T.done (blkCx X pins s2 H2 scope C (own ++ cs) fp) rfl rfl rfl hc i _ s3 _ H3 _ I3' (stat fr3) st3 stop) fun r s4 ⟨hr,I4⟩ => ?_
      subst hr
      refine wpAny_pure (hRR D C s4 ⟨⟨ys,H3,hD3,qf,?_,?_⟩,?_⟩)
      · have pl4 := (I4.pin (D,_) (List.mem_append_right _ (List.mem_singleton.mpr rfl))).1
        have u4 := I4.base
        have Ds2 : s2.heap.get? D = none := Heap.get?_none_of_le (by rw [hD]; exact Nat.le_refl _)
        refine I.call' (s' := s4) (ch := fp) I4.os ⟨u4.keep,u4.slot,fun b o e n hx => ?_,u4.there,fun b xs e => ?_,fun b o u e => ?_,fun b ps e => ?_⟩ ?_ I4.bare fun b hb => ⟨(hf b hb).2.2.2.1,(hf b hb).2.1,(hf b hb).2.2.2.2.1,(hf b hb).2.2.2.2.2⟩
        · rw [upd_ne (fun z => by rw [z,Ds2] at e; cases e)]
          exact u4.free b o e n hx
        · have := u4.tups b xs e
          rw [upd_ne (ne_of_none this hD3)]; exact this
        · have := u4.frzs b o u e
          rw [upd_ne (ne_of_none this hD3)]; exact this
        · obtain ⟨more,e'⟩ := u4.tbls b ps e
          exact ⟨more,by rw [upd_ne (ne_of_none e' hD3)]; exact e'⟩
        · exact I4.hok.add hD3 ⟨hz,its,nn,rv3,pl4⟩
      · have CH : (upd H3 D (.lst ys)) C = none := by rw [upd_ne (Ne.symm hDC)]; exact I4.free
        exact I.fpOk (H' := upd H3 D (.lst ys)) (by rw [hD]; exact hCle) CH
      · obtain ⟨m,hn,_⟩ := I4.loc
        exact ⟨m,hn⟩
    · refine thn (T.item (blkCx X pins s2 H2 scope C (own ++ cs) fp) rfl rfl rfl hc i _ s3 _ H3 _ I3' (stat fr3) st3 go) fun r s4 ⟨u,hr,h4⟩ => ?_
      subst hr
      refine wpAny_bind (thn h4 fun _ s5 ⟨x,H5,I5,r5,y5,st5,fr5⟩ => ?_)
      have I5' := I5.pinned (stat fr5) (T.obj _ _ st5)
      refine wpAny_bind (wpAny_mono (hg C _ s5 _ H5 x u _ I5' r5 (step x H5 y5)) (fun _ s6 ⟨σ6,H6,I6,le6,q6⟩ => ?_) fun _ _ z => False.elim z)
      refine wpAny_bind (wpAny_mono (hi C _ s6 σ6 H6 _ I6 q6) (fun b s7 ⟨H7,I7,q7⟩ => ?_) fun _ _ z => False.elim z)
      have back : ∀ {pins' : List (Addr × Obj)} {H8 : Hp} {s8 : Shared},Inv (blkCx X pins s2 H2 scope C (own ++ cs) fp) pins' σ6 H8 s8 → Inv (blkCx X pins s2 H2 scope C (own ++ cs) fp) [] (blkSt σ cap own.length) H8 s8 := fun I8 =>
        I8.bareP.weak le6.1.symm fun i v e => le6.2 i v e
      cases b with
      | false =>
        rw [if_neg Bool.false_ne_true] at q7
        obtain ⟨m',hm,w7⟩ := q7
        refine wpAny_pure ⟨rfl,m',hm,i + 1,H7,its,ys,back I7,T.keep _ _ _ st5 fun b hb o e => ?_,fun b hb => ?_,⟨nn,?_⟩,rv3,?_,w7⟩
        · exact (I7.pin (b,o) (List.mem_append_right _ (List.mem_append_right _ (mem_pinsAt hb e)))).1
        · obtain ⟨o,e,d⟩ := T.obj _ _ st5 b hb
          exact (I7.pin (b,o) (List.mem_append_right _ (List.mem_append_right _ (mem_pinsAt hb e)))).2.1
        · exact (I7.pin (D,_) (List.mem_append_right _ (List.mem_append_left _ (List.mem_singleton.mpr rfl)))).1
        · exact (I7.pin (D,_) (List.mem_append_right _ (List.mem_append_left _ (List.mem_singleton.mpr rfl)))).2.1
      | true =>
        rw [if_pos rfl] at q7
        obtain ⟨P5,hP5⟩ : ∃ P5,pinsAt fp s5.heap = P5 := ⟨_,rfl⟩
        have P5f : ∀ p ∈ P5,p.1 ∈ fp := fun p hp => by rw [← hP5] at hp; exact (of_pinsAt hp).1
        refine wpAny_bind (wpAny_mono (hit2 C _ s7 σ6 H7 _ I7 q7) (fun xv s8 h8 => ?_) fun _ _ z => False.elim z)
        refine wpAny_bind (wpAny_standAt (wpAny_bind (wpAny_of_eq (hs2 C xv) ?_)))
        refine wpAny_bind (wpAny_holding (wpAny_mono h8 (fun itv s9 h9 => ?_) fun _ _ z => False.elim z))
        obtain ⟨it2,fp2,tn2,J2,H9,e9,I9,T2,st9,f9,W2,⟨m2,w20⟩,turn2⟩ := h9
        subst e9
        have D2 : ∀ b ∈ fp2,D ≠ b := fun b hb => (f9 b hb).2.2.2.2.2 (D,{ cls := .type "list",data := .seq its.toArray nn }) (List.mem_append_right _ (List.mem_append_left _ (List.mem_singleton.mpr rfl)))
        have p2 : ∀ b ∈ fp2,∀ p ∈ P5,p.1 ≠ b := fun b hb p hp => (f9 b hb).2.2.2.2.2 p (List.mem_append_right _ (List.mem_append_right _ (by rw [hP5]; exact hp)))
        have stat2 : ∀ {H' : Hp} {ob : Obj},(∀ b ∈ fp2,H' b = none) → ∀ b ∈ fp2,FpOk (blkCx X pins s2 H2 scope C (own ++ cs) fp) (P5 ++ [(D,ob)]) H' b := fun {H' ob} hn b hb => by
          have q := f9 b hb
          refine ⟨hn b hb,q.2.1,q.2.2.1,q.2.2.2.1,q.2.2.2.2.1,fun p hp => ?_⟩
          rcases List.mem_append.mp hp with z | z
          · exact q.2.2.2.2.2 p (List.mem_append_left _ z)
          · rcases List.mem_append.mp z with z | z
            · exact p2 b hb p z
            · have : p = (D,ob) := by simpa using z
              subst this
              exact D2 b hb
        have pD9 := I9.pin (D,{ cls := .type "list",data := .seq its.toArray nn }) (List.mem_append_right _ (List.mem_append_left _ (List.mem_singleton.mpr rfl)))
        have I9' : Inv (blkCx X pins s2 H2 scope C (own ++ cs) fp) P5 σ6 H9 s9 := I9.pins_of fun p hp => I9.pin p (List.mem_append_right _ (List.mem_append_right _ (by rw [hP5]; exact hp)))
        have inner : ∀ (R2 : Result → Shared → Prop),(∀ s',(∃ m' G its ys,m' < n ∧ Inv (blkCx X pins s2 H2 scope C (own ++ cs) fp) [] (blkSt σ cap own.length) G s' ∧ tn (i + 1) s'.heap ∧ (∀ b ∈ fp,G b = none) ∧ s'.heap.PlainList D its.toArray ∧ Vals ys its ∧ G D = none ∧ W (i + 1) m' ys G) → R2 (.ok .next) s') → ∀ (s' : Shared),(∃ i H' its ys,Inv (blkCx X pins s2 H2 scope C (own ++ cs) fp) P5 σ6 H' s' ∧ tn2 i s'.heap ∧ (∀ b ∈ fp2,H' b = none) ∧ s'.heap.PlainList D its.toArray ∧ Vals ys its ∧ H' D = none ∧ ∃ m,W2 i m ys H') → codeAny (model X.prog X.w) X.A (.compLoop (.ListComp elt [⟨tg,iter,ifs,0⟩,⟨tg2,iter2,ifs2,0⟩] scope pos) 1 (.ref it2) (.ref D) (compEnvC scope (clAdd X.env scope.names []) C X.env)) R2 s' := by
          rintro R2 hR2 s' ⟨i',H',its',ys',J1,J2',J3,J4,J5,J6,m',J7⟩
          refine codeAny_loop rfl (fun n s' => ∃ i H' its ys,Inv (blkCx X pins s2 H2 scope C (own ++ cs) fp) P5 σ6 H' s' ∧ tn2 i s'.heap ∧ (∀ b ∈ fp2,H' b = none) ∧ s'.heap.PlainList D its.toArray ∧ Vals ys its ∧ H' D = none ∧ W2 i n ys H') ?_ m' ⟨i',H',its',ys',J1,J2',J3,J4,J5,J6,J7⟩
          clear J1 J2' J3 J4 J5 J6 J7
          clear i' H' its' ys' m' s'
          rintro n2 t3 ⟨j,G3,jts,zs,J3,tt3,fr3',⟨mm,pl3'⟩,rv3',hD3',w3'⟩
          show wpAny _ X.A ((compTurn (.ListComp elt [⟨tg,iter,ifs,0⟩,⟨tg2,iter2,ifs2,0⟩] scope pos) 1 (.ref it2) (.ref D) (compEnvC scope (clAdd X.env scope.names []) C X.env)).onRaise (fun x => do noteFrame x (compEnvC scope (clAdd X.env scope.names []) C X.env); theTreesLotGoes x)) _ _ t3
          refine wpAny_noted ?_
          rw [compTurn_in]
          refine wpAny_bind (wpAny_standAt (wpAny_bind ?_))
          have J3' : Inv (blkCx X pins s2 H2 scope C (own ++ cs) fp) (P5 ++ [(D, { cls := .type "list", data := .seq jts.toArray mm })]) σ6 G3 t3 :=
            J3.pins_of fun p hp => by
              rcases List.mem_append.mp hp with z | z
              · exact J3.pin p (List.mem_append_right _ z)
              · have : p = (D,{ cls := .type "list",data := .seq jts.toArray mm }) := by simpa using z
                subst this
                exact ⟨pl3',hD3',hDC,Dfs,fun v z => by cases z⟩
          rcases turn2 j n2 zs G3 w3' with ⟨stop2,qf2⟩ | ⟨go2,hz2,step2⟩
          · refine thn (T2.done (blkCx X pins s2 H2 scope C (own ++ cs) fp) rfl rfl rfl hc j _ t3 _ G3 _ J3' (stat2 fr3') tt3 stop2) fun r t4 ⟨hr,J4⟩ => ?_
            subst hr
            obtain ⟨mo,hmo,wo⟩ := qf2
            have pD4 := J4.pin (D,{ cls := .type "list",data := .seq jts.toArray mm }) (List.mem_append_right _ (List.mem_append_right _ (List.mem_singleton.mpr rfl)))
            refine wpAny_pure (hR2 _ ⟨mo,G3,jts,zs,hmo,back J4,T.keep _ _ _ st5 fun b hb o e => ?_,fun b hb => ?_,⟨mm,pD4.1⟩,rv3',pD4.2.1,wo⟩)
            · exact (J4.pin (b,o) (List.mem_append_right _ (List.mem_append_left _ (by rw [← hP5]; exact mem_pinsAt hb e)))).1
            · obtain ⟨o,e,d⟩ := T.obj _ _ st5 b hb
              exact (J4.pin (b,o) (List.mem_append_right _ (List.mem_append_left _ (by rw [← hP5]; exact mem_pinsAt hb e)))).2.1
          · refine thn (T2.item (blkCx X pins s2 H2 scope C (own ++ cs) fp) rfl rfl rfl hc j _ t3 _ G3 _ J3' (stat2 fr3') tt3 go2) fun r t4 ⟨u2,hr,h4'⟩ => ?_
            subst hr
            refine wpAny_bind (thn h4' fun _ t5 ⟨x2,G5,J5,r5',y5',st5',fr5'⟩ => ?_)
            have J5' := J5.pinned (stat2 fr5') (T2.obj _ _ st5')
            refine wpAny_bind (wpAny_mono (hg2 C _ t5 _ G5 x2 u2 _ J5' r5' (step2 x2 G5 y5')) (fun _ t6 ⟨σ7,G6,J6,le7,q7'⟩ => ?_) fun _ _ z => False.elim z)
            refine wpAny_bind (wpAny_mono (hi2 C _ t6 σ7 G6 _ J6 q7') (fun b2 t7 ⟨G7,J7,q8'⟩ => ?_) fun _ _ z => False.elim z)
            have back2 : ∀ {pins' : List (Addr × Obj)} {G8 : Hp} {t8 : Shared},Inv (blkCx X pins s2 H2 scope C (own ++ cs) fp) (P5 ++ pins') σ7 G8 t8 → Inv (blkCx X pins s2 H2 scope C (own ++ cs) fp) P5 σ6 G8 t8 := fun J8 =>
              (J8.pins_of fun p hp => J8.pin p (List.mem_append_right _ (List.mem_append_left _ hp))).weak le7.1.symm fun i v e => le7.2 i v e
            cases b2 with
            | false =>
              rw [if_neg Bool.false_ne_true] at q8'
              obtain ⟨m',hm,w7⟩ := q8'
              rw [List.append_assoc] at J7
              refine wpAny_pure ⟨rfl,m',hm,j + 1,G7,jts,zs,back2 J7,T2.keep _ _ _ st5' fun b hb o e => ?_,fun b hb => ?_,⟨mm,?_⟩,rv3',?_,w7⟩
              · exact (J7.pin (b,o) (List.mem_append_right _ (List.mem_append_right _ (List.mem_append_right _ (mem_pinsAt hb e))))).1
              · obtain ⟨o,e,d⟩ := T2.obj _ _ st5' b hb
                exact (J7.pin (b,o) (List.mem_append_right _ (List.mem_append_right _ (List.mem_append_right _ (mem_pinsAt hb e))))).2.1
              · exact (J7.pin (D,_) (List.mem_append_right _ (List.mem_append_right _ (List.mem_append_left _ (List.mem_singleton.mpr rfl))))).1
              · exact (J7.pin (D,_) (List.mem_append_right _ (List.mem_append_right _ (List.mem_append_left _ (List.mem_singleton.mpr rfl))))).2.1
            | true =>
              rw [if_pos rfl] at q8'
              refine wpAny_bind (wpAny_bind (wpAny_mono (he C _ t7 σ7 G7 _ J7 q8') (fun y2 t8 ⟨v2,G8,J8,r8',m',hm,w8⟩ => ?_) fun _ _ z => False.elim z))
              rw [List.append_assoc] at J8
              have pD := J8.pin (D,{ cls := .type "list",data := .seq jts.toArray mm }) (List.mem_append_right _ (List.mem_append_right _ (List.mem_append_left _ (List.mem_singleton.mpr rfl))))
              have hlen := rv3'.length
              refine wpAny_bind (wpAny_list_append_plain (hsz := by rw [List.size_toArray]; omega) ⟨mm,pD.1⟩ fun h9 pl9 sb9 => wpAny_pure (wpAny_pure ?_))
              have J8' := back2 J8
              refine ⟨rfl,m',hm,j + 1,G8,jts ++ [y2],zs ++ [v2],?_,T2.keep _ _ _ st5' fun b hb o e => ?_,fun b hb => ?_,?_,rv3'.append (.cons r8' .nil),pD.2.1,w8⟩
              · exact J8'.turned (t' := t8.toks) (fun b o hb e => sb9.extBut b o hb e) pD.2.1 hDC (.inr (by show s2.heap.objs.size ≤ D; rw [hD]; exact Nat.le_refl _)) (fun x c e => Nat.ne_of_lt (clt x c e)) fun p hp => by
                  have hp' : p ∈ (X.pn ++ pins) ++ P5 := hp
                  rcases List.mem_append.mp hp' with z | z
                  · exact Nat.ne_of_lt (plt p z)
                  · exact Ne.symm (Dfp p.1 (P5f p z))
              · exact sb9.extBut b o (Ne.symm (D2 b hb)) (J8.pin (b,o) (List.mem_append_right _ (List.mem_append_right _ (List.mem_append_right _ (mem_pinsAt hb e))))).1
              · obtain ⟨o,e,d⟩ := T2.obj _ _ st5' b hb
                exact (J8.pin (b,o) (List.mem_append_right _ (List.mem_append_right _ (List.mem_append_right _ (mem_pinsAt hb e))))).2.1
              · have e : jts.toArray.push y2 = (jts ++ [y2]).toArray := by simp
                rw [← e]; exact pl9
        have stt : ∃ i H' its ys,Inv (blkCx X pins s2 H2 scope C (own ++ cs) fp) P5 σ6 H' s9 ∧ tn2 i s9.heap ∧ (∀ b ∈ fp2,H' b = none) ∧ s9.heap.PlainList D its.toArray ∧ Vals ys its ∧ H' D = none ∧ ∃ m,W2 i m ys H' := ⟨0,H9,its,ys,I9',st9,fun b hb => (f9 b hb).1,⟨nn,pD9.1⟩,rv3,pD9.2.1,m2,w20⟩
        have start : ∀ (R2 : Result → Shared → Prop),(∀ s',(∃ m' G its ys,m' < n ∧ Inv (blkCx X pins s2 H2 scope C (own ++ cs) fp) [] (blkSt σ cap own.length) G s' ∧ tn (i + 1) s'.heap ∧ (∀ b ∈ fp,G b = none) ∧ s'.heap.PlainList D its.toArray ∧ Vals ys its ∧ G D = none ∧ W (i + 1) m' ys G) → R2 (.ok .next) s') → codeAny (model X.prog X.w) X.A (.compStart (.ListComp elt [⟨tg,iter,ifs,0⟩,⟨tg2,iter2,ifs2,0⟩] scope pos) 1 (.ref it2) (.ref D) (compEnvC scope (clAdd X.env scope.names []) C X.env)) R2 s9 := fun R2 hR2 =>
          codeAny_compStart_two (inner R2 hR2 s9 stt) (T2.self _ 0 _ _ _ st9 (inner R2 hR2 s9 stt))
        refine wpAny_bind (wpAny_runOwn (start _ ?_))
        rintro s' ⟨m',G,its,ys,hm,c1,c2,c3,c4,c5,c6,c7⟩
        exact wpAny_pure ⟨rfl,m',hm,i + 1,G,its,ys,c1,c2,c3,c4,c5,c6,c7⟩
  exact codeAny_compStart_list loop (T.self _ 0 _ _ _ (T.keep 0 _ _ st fun b _ o e => old b o e) loop)
def tComp2 (wi : TI) (cap : List Nat) (k : Nat) (g : TG) (tt : TT) (wi2 : TI) (g2 : TG) (tt2 : TT) (te : TE) : TE := fun σ H Q => wi σ H fun J H1 =>
  ∃ W : Nat → Nat → List V → Hp → Prop,(∃ m,W 0 m [] H1) ∧ CompW2 σ cap k J g tt wi2 g2 tt2 te (fun ys H' => ∀ p,H' p = none → Q (.ref p) (upd H' p (.lst ys))) W
theorem pe_comp2 {wi : TI} (hc : X.calm = true) (hit : PI X tg iter wi) (ok : CompOk X scope own cs cap)
    (hg : ∀ pins s2 H2 C fp,PG (blkCx X pins s2 H2 scope C (own ++ cs) fp) tg g) (hi : ∀ pins s2 H2 C fp,PIfs (blkCx X pins s2 H2 scope C (own ++ cs) fp) ifs tt)
    (hit2 : ∀ pins s2 H2 C fp,PI (blkCx X pins s2 H2 scope C (own ++ cs) fp) tg2 iter2 wi2) (hg2 : ∀ pins s2 H2 C fp,PG (blkCx X pins s2 H2 scope C (own ++ cs) fp) tg2 g2) (hi2 : ∀ pins s2 H2 C fp,PIfs (blkCx X pins s2 H2 scope C (own ++ cs) fp) ifs2 tt2)
    (he : ∀ pins s2 H2 C fp,PE (blkCx X pins s2 H2 scope C (own ++ cs) fp) elt te)
    (hs : ∀ x,foldedSetIterable iter X.env x = pure x := by intro _; rfl) (hs2 : ∀ C x,foldedSetIterable iter2 (compEnvC scope (clAdd X.env scope.names []) C X.env) x = pure x := by intro _ _; rfl) : PE X (.ListComp elt [⟨tg,iter,ifs,0⟩,⟨tg2,iter2,ifs2,0⟩] scope pos) (tComp2 wi cap own.length g tt wi2 g2 tt2 te) := by
  intro pins s σ H Q I h
  rw [eval_ListComp]
  refine wpAny_comprehension_free (use := none) rfl hs (closure_eq fun y hy e => I.ok.has y.1 (ok.free y hy e)) ok.kind ok.names (thn (hit pins s σ H _ I h) fun v s1 h1 => thn h1 fun itv s2 h2 => ?_)
  obtain ⟨it,fp,tn,J,H2,e,I2,T,st2,f2,W,w0,turn⟩ := h2
  subst e
  refine comp_run2 (RR := fun acc C => compPost (model X.prog X.w) X.A X.xe none (EP X pins σ Q) acc C) I2 ok hc T st2 f2 (fun C => hg _ _ _ _ _) (fun C => hi _ _ _ _ _) (fun C => hit2 _ _ _ _ _) hs2 (fun C => hg2 _ _ _ _ _) (fun C => hi2 _ _ _ _ _) (fun C => he _ _ _ _ _) w0 turn fun D C s' B => ?_
  obtain ⟨⟨ys,H',hD,q,I',fp'⟩,m,hn⟩ := B
  obtain ⟨f0,f1,f2',f3,f4,f5⟩ := fp'
  exact ⟨m,hn,fun h' sb => ⟨.ref D,_,I'.turned (t' := s'.toks) (fun b o hb e => sb.extBut b o hb e) f0 f1 f3 f4 f5,rfl,q D hD⟩⟩
end
end L2
set_option Elab.async false
set_option linter.all false
set_option maxRecDepth 100000
namespace PySem
open Sem (wp)
section
variable {prog : Program} {w : World} {A : Around} {E : Value → Shared → Prop} {s : Shared}
end
end PySem
namespace L2
open PySem PySem.Spec PyProof.Rows
theorem pairG {α β : Type} {F : α → β → Prop} : ∀ {l₁ : List α} {l₂ : List β} {i : Nat} {x : α},Paired F l₁ l₂ → l₁[i]? = some x → ∃ y,l₂[i]? = some y ∧ F x y
  | _,_,0,_,.cons h _,e => ⟨_,rfl,by cases e; exact h⟩
  | _,_,i + 1,_,.cons _ r,e => pairG (i := i) r (by simpa using e)
  | _,_,_,_,.nil,e => by simp at e
theorem pairL {α β : Type} {F : α → β → Prop} : ∀ {l₁ : List α} {l₂ : List β},Paired F l₁ l₂ → l₁.length = l₂.length
  | _,_,.nil => rfl
  | _,_,.cons _ r => by rw [List.length_cons,List.length_cons,pairL r]
section
variable {X : Cx} {tg : Expr}
end
end L2
set_option Elab.async false
set_option linter.all false
set_option maxRecDepth 100000
namespace L2
open PySem PySem.Spec PyProof.Rows
theorem comp2_rng {lo : Int} {n : Nat} {σ : St} {cap : List Nat} {k : Nat} {g g2 : TG} {tt tt2 : TT} {te : TE} {wi2 : TI} {Q : List V → Hp → Prop} {H : Hp} (Pv : Nat → List V → Hp → Prop) (h0 : Pv 0 [] H)
    (ht : ∀ i ys H',i < n → Pv i ys H' → g (.int (lo + i)) (blkSt σ cap k) H' fun σ2 H2 => leS (blkSt σ cap k) σ2 ∧ tt σ2 H2 fun ok H3 => if ok = true then wi2 σ2 H3 (fun J2 H4 => ∃ W2 : Nat → Nat → List V → Hp → Prop,(∃ m2,W2 0 m2 ys H4) ∧ CompIn σ2 J2 g2 tt2 te (fun zs H5 => Nx n Pv i zs H5) W2) else Nx n Pv i ys H3)
    (hd : ∀ ys H',Pv n ys H' → ys.length ≤ sizeLine ∧ Q ys H') : ∃ W,(∃ m,W 0 m [] H) ∧ CompW2 σ cap k (Itr lo n) g tt wi2 g2 tt2 te Q W := by
  refine ⟨fun i m ys H' => m = n - i ∧ i ≤ n ∧ Pv i ys H',⟨_,rfl,Nat.zero_le _,h0⟩,?_⟩
  rintro i m ys H' ⟨rfl,hi,p⟩
  by_cases hin : i < n
  · refine .inr ⟨hin,fun x H2 yl => ?_⟩
    obtain ⟨e1,e2⟩ := yl
    subst e1 e2
    exact ht i ys _ hin p
  · have e : i = n := by omega
    subst e
    obtain ⟨a1,a2⟩ := hd ys H' p
    exact .inl ⟨Nat.le_refl _,a1,a2⟩
theorem in_rng {lo : Int} {n : Nat} {σ2 : St} {g2 : TG} {tt2 : TT} {te : TE} {N : List V → Hp → Prop} {H : Hp} {ys : List V} (Pv : Nat → List V → Hp → Prop) (h0 : Pv 0 ys H)
    (ht : ∀ i zs H',i < n → Pv i zs H' → zs.length < sizeLine ∧ g2 (.int (lo + i)) σ2 H' fun σ3 H2 => leS σ2 σ3 ∧ tt2 σ3 H2 fun ok H3 => if ok = true then te σ3 H3 (fun v H4 => Nx n Pv i (zs ++ [v]) H4) else Nx n Pv i zs H3)
    (hd : ∀ zs H',Pv n zs H' → N zs H') : ∃ W2 : Nat → Nat → List V → Hp → Prop,(∃ m2,W2 0 m2 ys H) ∧ CompIn σ2 (Itr lo n) g2 tt2 te N W2 := by
  refine ⟨fun i m zs H' => m = n - i ∧ i ≤ n ∧ Pv i zs H',⟨_,rfl,Nat.zero_le _,h0⟩,?_⟩
  rintro i m zs H' ⟨rfl,hi,p⟩
  by_cases hin : i < n
  · obtain ⟨e,hg⟩ := ht i zs H' hin p
    refine .inr ⟨hin,e,fun x H2 yl => ?_⟩
    obtain ⟨e1,e2⟩ := yl
    subst e1 e2
    exact hg
  · have e : i = n := by omega
    subst e
    exact .inl ⟨Nat.le_refl _,hd zs H' p⟩
theorem turn_long0 {P : Program} {w : World} {K : PySem.W.Frag} {tg : Expr} (it : Addr) (lo left : Int) (h0 : left ≤ 0) : Turn P w K tg (Itr lo 0) [it] it (fun i h => IsLongIter h it lo left 1) where
  mem := by simp
  obj := fun i h st b hb => by
    have e : b = it := by simpa using hb
    subst e
    exact ⟨_,st,fun v z => by
      have z' : Data.fields _ = Data.cell v := z
      cases z'⟩
  keep := fun i h h' st k => k it (by simp) _ st
  item := by
    intro X hP hw hK hc i pins s σ H E I hf st hg
    exact absurd hg (Nat.not_lt_zero _)
  done := by
    intro X hP hw hK hc i pins s σ H E I hf st hg
    subst hP hw hK
    obtain ⟨f0,f1,f2,f3,f4,f5⟩ := hf it (by simp)
    exact wpAny_pyNext_long_end (I.ok.hd hc) st h0 fun h' eb => ⟨rfl,I.turned (t' := s.toks) (fun b o hb e => eb b o hb e) f0 f1 f3 f4 f5⟩
  self := fun _ _ _ _ _ st h => wpAny_pyIter_longiter st h
section
variable {X : Cx} {tg : Expr}
def iRng2N (ta : TA) : TI := fun σ H R => ta σ H fun vs H1 => ∃ i j : Int,vs = [.int i,.int j] ∧ (-(2 ^ 62) ≤ i ∧ i < 2 ^ 62 ∧ j < 2 ^ 62) ∧ R (Itr i (j - i).toNat) H1
theorem pi_range2N {a b : Expr} {ta : TA} {p pos : Pos} (hg : Gl X "range") (hm : X.mg "range" = none) (ha : PA X [a,b] ta) (hs : starEach [a,b] X.env = [(false,eval a X.env),(false,eval b X.env)] := by rfl) (hs2 : starEach [b] X.env = [(false,eval b X.env)] := by rfl) :
    PI X tg (.Call (.Name "range" p) [a,b] [] pos) (iRng2N ta) := by
  intro pins s σ H R I h
  refine Call_ (ld_blt I hg hm boot_range (PyProof.Rows.callWith_type1 (thn (ha pos pins s σ H _ I h) fun us s1 ⟨vs,H1,I1,r1,q1⟩ => ?_) (by rw [hs,hs2]) (by rw [hs2]; rfl)))
  obtain ⟨i,j,e,⟨q1,q2,q4⟩,q⟩ := q1
  subst e
  cases r1 with
  | cons r rr =>
    cases rr with
    | cons r' rr =>
      cases rr
      obtain ⟨t,rfl⟩ := r
      obtain ⟨t',rfl⟩ := r'
      by_cases q3 : -(2 ^ 62) ≤ j
      · exact call_range_2 (range_it I1 q1 q2 q3 q4 q)
      refine call_range_2 ?_
      have z0 : (j - i).toNat = 0 := by omega
      rw [z0] at q
      have I2 : Inv X pins σ H1 { s1 with heap := s1.heap.push { cls := .type "range", data := .fields #[.int i t, .int j t', .int 1 s1.toks] }, toks := s1.toks + 1 } := I1.kept fun b o e => Heap.get?_push_of_some _ e
      have rs0 : Builtin.Range.rangeSize i j 1 = 0 := by rw [rangeSize_one,if_neg (by omega)]
      cases hsm : Builtin.Range.small i j 1 with
      | false =>
        refine wpAny_pyIter_longrange (IsRange.new ..) hsm ?_
        refine ⟨_, [(s1.heap.push { cls := .type "range", data := .fields #[.int i t, .int j t', .int 1 s1.toks] }).objs.size], _, _, H1, rfl, I2.kept (t' := s1.toks + 1) fun b o e => Heap.get?_push_of_some _ e, turn_long0 _ i 0 (Int.le_refl _), ?_, fun b hb => ?_, q⟩
        · rw [rs0]
          exact Heap.get?_push_size _ rfl
        · have e : b = (s1.heap.push { cls := .type "range", data := .fields #[.int i t, .int j t', .int 1 s1.toks] }).objs.size := by simpa using hb
          subst e
          exact I2.fpOk (Nat.le_refl _) (I2.hok.fresh (Nat.le_refl _))
      | true =>
        refine wpAny_pyIter_range (IsRange.new ..) hsm ?_
        refine ⟨_, [(s1.heap.push { cls := .type "range", data := .fields #[.int i t, .int j t', .int 1 s1.toks] }).objs.size], _, _, H1, rfl, I2.kept (t' := s1.toks + 1) fun b o e => Heap.get?_push_of_some _ e, turn_range _ i 0, ?_, fun b hb => ?_, q⟩
        · rw [rs0]
          show IsRangeIter _ _ (i + ((0 : Nat) : Int) * 1) (((0 : Nat) : Int) - ((0 : Nat) : Int)) 1
          have e1 : i + ((0 : Nat) : Int) * 1 = i := by simp
          have e2 : ((0 : Nat) : Int) - ((0 : Nat) : Int) = 0 := rfl
          rw [e1,e2]
          exact Heap.get?_push_size _ rfl
        · have e : b = (s1.heap.push { cls := .type "range", data := .fields #[.int i t, .int j t', .int 1 s1.toks] }).objs.size := by simpa using hb
          subst e
          exact I2.fpOk (Nat.le_refl _) (I2.hok.fresh (Nat.le_refl _))
end
end L2
set_option Elab.async false
set_option linter.all false
set_option maxRecDepth 100000
namespace PySem
open Sem (wp)
section
variable {prog : Program} {w : World} {K : Type} [DecidableEq K] (knd : KeyKind prog w K)
def IsNestKey (h : Heap) (ks : List K × List K) (a : Addr) : Prop := ∃ o items n q vs,h.get? a = some o ∧ o.cls = .type "tuple" ∧ o.data = .seq items n ∧ items.toList = .ref q :: vs ∧ IsTupleKey knd h ks.1 q ∧ ItemsAre knd ks.2 vs
def nestKeyHash (ks : List K × List K) : Int := reduceHash (Builtin.Tuple.tupleHashOf (tupleKeyHash knd ks.1 :: ks.2.map knd.hash))
variable {knd}
theorem IsNestKey.typeIs {s : Shared} {ks : List K × List K} {a : Addr} (x : IsNestKey knd s.heap ks a) : s.TypeIs (.ref a) "tuple" := let ⟨o,_,_,_,_,ho,hc,_⟩ := x; ⟨o,ho,hc⟩
theorem IsNestKey.inj {h : Heap} {a : Addr} {x y : List K × List K} (hx : IsNestKey knd h x a) (hy : IsNestKey knd h y a) : x = y := by
  obtain ⟨o,items,n,q,vs,ho,_,hd,hi,h1,h2⟩ := hx
  obtain ⟨o',items',n',q',vs',ho',_,hd',hi',h1',h2'⟩ := hy
  obtain rfl : o = o' := Option.some.inj (ho.symm.trans ho')
  rw [hd] at hd'
  injection hd' with e1 _
  subst e1
  rw [hi] at hi'
  injection hi' with e2 e3
  injection e2 with e2
  subst e2 e3
  exact Prod.ext (h1.inj h1') (h2.inj h2')
theorem IsNestKey.keeps {h h' : Heap} {ks : List K × List K} {a d : Addr} {o : Obj} {es ep} (x : IsNestKey knd h ks a) (ho : h.get? d = some o) (hd : o.data = .dict es ep) (hs : Heap.SameBut d h h') :
    IsNestKey knd h' ks a := by
  obtain ⟨o',items,n,q,vs,ho',hc,hd',hi,h1,h2⟩ := x
  have hne : a ≠ d := by
    rintro rfl
    obtain rfl : o' = o := Option.some.inj (ho'.symm.trans ho)
    rw [hd] at hd'; exact nomatch hd'
  exact ⟨o',items,n,q,vs,(hs.2 a hne).trans ho',hc,hd',hi,h1.keeps ho hd hs,h2⟩
variable {A : Around} {E : Value → Shared → Prop} {s : Shared}
theorem wpAny_pyHash_nest {ks : List K × List K} {a : Addr} {Q : Int → Shared → Prop} (hu : A.units + 1 < cLine) (hk : IsNestKey knd s.heap ks a) (h : Q (nestKeyHash knd ks) { s with toks := s.toks + (ks.1.length + 1 + ks.2.length + 1) }) :
    wpAny (model prog w) A (pyHash (.ref a)) Q E s := by
  have hT := hk.typeIs
  obtain ⟨ks1,ks⟩ := ks
  obtain ⟨o,items,n,q,vs,ho,_,hd,hi,hq,hi2⟩ := hk
  have hq : IsTupleKey knd s.heap ks1 q := hq
  have hi2 : ItemsAre knd ks vs := hi2
  unfold pyHash
  first | unfold pyHashByItsType | skip
  first | refine wpAny_bind (wpAny_cRoomFor_or (.inr (by omega)) ?_) | skip
  refine wpAny_bind (wpAny_specialOf hT F.slot_tuple_hash.lookup ?_)
  show wpAny _ _ (if (some (Value.builtin "tuple.__hash__") == some Value.none) = true then _ else _) Q E s
  rw [if_neg (by rw [beq_builtin_none]; exact Bool.false_ne_true)]
  refine wpAny_bind (wpAny_specialOf hT F.slot_tuple_hash.lookup ?_)
  show wpAny _ _ (callSpecialIfBoundUnlessNone? (.ref a) "__hash__" _ >>= _) Q E s
  refine wpAny_bind (wpAny_callSpecialIfBoundUnlessNone?_slot hT F.slot_tuple_hash (wpAny_call_entry F.slot_tuple_hash hT F.entry_tuple_hash ?_ (F.args_tuple_hash_1 _)))
  show wpAny _ _ (Builtin.Tuple.tupleItemsOf (.ref a) >>= _) _ _ s
  refine wpAny_bind (wpAny_tupleItemsOf ho hd ?_)
  refine wpAny_bind ?_
  rw [← Array.forIn_toList,hi,List.forIn_cons]
  refine wpAny_bind (wpAny_bind (wpAny_pyHash_tuple (by show A.units + 1 < cLine; exact hu) hq ?_))
  refine wpAny_pure ?_
  show wpAny _ _ (forIn vs _ _) _ _ _
  refine wpAny_forIn_list _
    (fun rest (b : Array Int) s' => ∃ done left,ks = done ++ left ∧ ItemsAre knd left rest ∧ b.toList = tupleKeyHash knd ks1 :: done.map knd.hash ∧ s' = { s with toks := s.toks + (ks1.length + 1) + done.length })
    _ ?_ ?_ _ _ ⟨[],ks,rfl,hi2,rfl,rfl⟩
  · rintro x rest b s' ⟨done,left,rfl,hl,hb,rfl⟩
    cases hl with
    | @cons k _ ks' _ h1 hl' =>
      refine wpAny_bind (knd.pyHash h1 ?_)
      first
        | exact wpAny_pure ⟨done ++ [k],ks',by simp,hl',by simp [hb],by simp [Nat.add_assoc]⟩
        | exact wpAny_bind (wpAny_pure (wpAny_pure ⟨done ++ [k],ks',by simp,hl',by simp [hb],by simp [Nat.add_assoc]⟩))
  · rintro b s' ⟨done,left,rfl,hl,hb,rfl⟩
    cases hl
    rw [List.append_nil] at h
    show wpAny _ _ (retInt (Builtin.Tuple.tupleHashOf b.toList)) _ _ _
    rw [hb]
    refine wpAny_ret_mkInt ?_
    show wpAny _ _ (if (decide (-(2 : Int) ^ 63 ≤ Builtin.Tuple.tupleHashOf (tupleKeyHash knd ks1 :: done.map knd.hash)) && decide (Builtin.Tuple.tupleHashOf (tupleKeyHash knd ks1 :: done.map knd.hash) < 2 ^ 63)) = true then _ else _) Q E _
    unfold nestKeyHash at h
    rw [show reduceHash (Builtin.Tuple.tupleHashOf (tupleKeyHash knd (ks1,done).1 :: ((ks1,done) : List K × List K).2.map knd.hash)) = (if (decide (-(2 : Int) ^ 63 ≤ Builtin.Tuple.tupleHashOf (tupleKeyHash knd ks1 :: done.map knd.hash)) && decide (Builtin.Tuple.tupleHashOf (tupleKeyHash knd ks1 :: done.map knd.hash) < 2 ^ 63)) = true then _ else _) from rfl] at h
    by_cases hr : (decide (-(2 : Int) ^ 63 ≤ Builtin.Tuple.tupleHashOf (tupleKeyHash knd ks1 :: done.map knd.hash)) && decide (Builtin.Tuple.tupleHashOf (tupleKeyHash knd ks1 :: done.map knd.hash) < 2 ^ 63)) = true
    · rw [if_pos hr]
      rw [if_pos hr] at h
      exact wpAny_pure (by simpa [Nat.add_assoc] using h)
    · rw [if_neg hr]
      rw [if_neg hr] at h
      exact wpAny_bind (wpAny_rule (wpAny_pure (by simpa [Nat.add_assoc] using h)))
theorem nest_eq_tree {x y : List K × List K} {a b : Addr} (hu : A.units < cLine) {P : Fin → Shared → Prop} (hx : IsNestKey knd s.heap x a) (hy : IsNestKey knd s.heap y b) (h : P (.done (.ret (.bool (decide (x = y))))) s) :
    wpAny (model prog w) A (Builtin.«tuple.__eq__» ⟨[.ref a,.ref b],[]⟩) P E s := by
  have hTb := hy.typeIs
  obtain ⟨x1,x⟩ := x
  obtain ⟨y1,y⟩ := y
  obtain ⟨oa,xs,na,qa,xv,hoa,_,hda,hia,hqa,hxa⟩ := hx
  obtain ⟨ob,ys,nb,qb,yv,hob,_,hdb,hib,hqb,hyb⟩ := hy
  have hqa : IsTupleKey knd s.heap x1 qa := hqa
  have hqb : IsTupleKey knd s.heap y1 qb := hqb
  have hxa : ItemsAre knd x xv := hxa
  have hyb : ItemsAre knd y yv := hyb
  have szx : xs.size = xv.length + 1 := by rw [← Array.length_toList,hia]; rfl
  have szy : ys.size = yv.length + 1 := by rw [← Array.length_toList,hib]; rfl
  show wpAny _ _ (isInstance (.ref b) (.type "tuple") >>= _) _ _ s
  refine wpAny_bind (wpAny_isInstance hTb isSubtype_tuple_tuple ?_)
  simp only [Bool.not_true,Bool.false_eq_true,if_false]
  refine wpAny_bind (wpAny_tupleItemsOf hoa hda ?_)
  refine wpAny_bind (wpAny_tupleItemsOf hob hdb ?_)
  refine wpAny_bind ?_
  rw [hia,hib,List.zip_cons_cons,List.forIn_cons]
  refine wpAny_bind (wpAny_bind (wpAny_eqBool_tuple hu hqa hqb ?_))
  by_cases h1 : x1 = y1
  case neg =>
    rw [decide_eq_false h1]
    simp only [Bool.not_false,if_true]
    have hf : decide ((x1,x) = (y1,y)) = false := by simp [h1]
    rw [hf] at h
    exact wpAny_bind (wpAny_pure (wpAny_pure (wpAny_pure (wpAny_pure h))))
  subst h1
  rw [decide_eq_true rfl]
  simp only [Bool.not_true,Bool.false_eq_true,if_false]
  have h : P (.done (.ret (.bool (decide (x = y))))) s := by
    have e : decide ((x1,x) = (x1,y)) = decide (x = y) := by simp
    rw [← e]; exact h
  refine wpAny_pure ?_
  show wpAny _ _ (forIn (List.zip xv yv) _ _) _ _ _
  refine wpAny_forIn_list _
    (fun rest r s' => r.1 = none ∧ s' = s ∧ ∃ x' y' xs' ys',rest = List.zip xs' ys' ∧ ItemsAre knd x' xs' ∧ ItemsAre knd y' ys' ∧ decide (x' = y') = decide (x = y) ∧ (xs'.length == ys'.length) = (xs.size == ys.size))
    _ ?_ ?_ _ _ ⟨rfl,rfl,x,y,xv,yv,rfl,hxa,hyb,rfl,by rw [szx,szy]; simp⟩
  · rintro ⟨u,v⟩ rest r s' ⟨hr,rfl,x',y',xs',ys',hz,hx',hy',hdec,hlen⟩
    cases hx' with
    | nil => simp at hz
    | @cons k1 u' x'' xs'' h1 hx'' =>
      cases hy' with
      | nil => simp at hz
      | @cons k2 v' y'' ys'' h2 hy'' =>
        simp only [List.zip_cons_cons,List.cons.injEq,Prod.mk.injEq] at hz
        obtain ⟨⟨rfl,rfl⟩,rfl⟩ := hz
        refine wpAny_bind (knd.eqBool (a := k1) (b := k2) h1 h2 ?_)
        by_cases hk : k1 = k2
        · subst hk
          rw [decide_eq_true rfl]
          simp only [Bool.not_true,Bool.false_eq_true,if_false]
          refine wpAny_pure ⟨rfl,rfl,x'',y'',xs'',ys'',rfl,hx'',hy'',?_,by simpa using hlen⟩
          rw [← hdec]
          by_cases hxy : x'' = y''
          · simp [hxy]
          · simp [hxy]
        · rw [decide_eq_false hk]
          simp only [Bool.not_false,if_true]
          have hf : decide (x = y) = false := by rw [← hdec]; simp [hk]
          rw [hf] at h
          exact wpAny_bind (wpAny_pure (wpAny_pure (wpAny_pure h)))
  · rintro ⟨r1,r2⟩ s' ⟨hr,rfl,x',y',xs',ys',hz,hx',hy',hdec,hlen⟩
    simp only at hr
    subst hr
    refine wpAny_pure ?_
    have hfin : (xs.size == ys.size) = decide (x = y) := by
      rw [← hdec,← hlen]
      cases hx' with
      | nil =>
        cases hy' with
        | nil => simp
        | cons _ _ => simp
      | cons _ _ =>
        cases hy' with
        | nil => simp
        | cons _ _ => simp at hz
    show P (.done (.ret (.bool (xs.size == ys.size)))) s'
    rw [hfin]; exact h
theorem wpAny_eqBool_nest {x y : List K × List K} {a b : Addr} {Q : Bool → Shared → Prop} (hu : A.units + 1 < cLine) (hx : IsNestKey knd s.heap x a) (hy : IsNestKey knd s.heap y b) (h : Q (decide (x = y)) s) :
    wpAny (model prog w) A (eqBool (.ref a) (.ref b)) Q E s := by
  unfold eqBool
  try with_reducible refine wpAny_holding ?_
  show wpAny _ _ (if (Value.ref a == Value.ref b) = true then _ else _) Q E s
  by_cases hab : (Value.ref a == Value.ref b) = true
  · rw [if_pos hab]
    have e : a = b := by have := eq_of_beq hab; injection this
    subst e
    obtain rfl := hx.inj hy
    exact wpAny_bind (wpAny_rule (wpAny_pure (by simpa using h)))
  · rw [if_neg hab]
    exact wpAny_bind (wpAny_richCompare_same_room (op := .Eq) hx.typeIs hy.typeIs F.slot_tuple_eq
      (wpAny_call_entry F.slot_tuple_eq hx.typeIs F.entry_tuple_eq (nest_eq_tree (by show A.units + 1 < cLine; exact hu) hx hy ⟨_,rfl,(fun e => nomatch e),wpAny_truthy_bool h⟩) (F.args_tuple_eq_2 _ _)) (by omega))
theorem quiet7 {ks : List K} {a : Addr} {Q : Bool → Shared → Prop} (hk : IsTupleKey knd s.heap ks a) (h : Q true s) : wpAny (model prog w) A (eqIsQuiet 7 (.ref a)) Q E s := by
  have hT := hk.typeIs
  obtain ⟨o,items,n,ho,_,hd,hi⟩ := hk
  unfold eqIsQuiet
  refine wpAny_bind (wpAny_specialOf hT F.slot_tuple_eq.lookup ?_)
  show wpAny _ _ (isInstance (.ref a) (.type "tuple") >>= _) _ _ s
  refine wpAny_bind (wpAny_isInstance hT isSubtype_tuple_tuple ?_)
  simp only [Bool.not_true,Bool.false_eq_true,if_false]
  refine wpAny_bind (wpAny_seqItems ho hd ?_)
  refine wpAny_bind ?_
  show wpAny _ _ (forIn items _ _) _ _ s
  rw [← Array.forIn_toList]
  refine wpAny_forIn_list _ (fun rest r s' => r.1 = none ∧ s' = s ∧ ∀ v ∈ rest,carriedByValue v = true) _ ?_ ?_ _ _ ⟨rfl,rfl,hi.byValue⟩
  · rintro v rest r s' ⟨hr,rfl,hall⟩
    rw [eqIsQuiet_byValue _ (hall v List.mem_cons_self)]
    refine wpAny_bind (wpAny_pure ?_)
    simp only [Bool.not_true,Bool.false_eq_true,if_false]
    exact wpAny_pure ⟨rfl,rfl,fun u hu' => hall u (List.mem_cons_of_mem _ hu')⟩
  · rintro ⟨r1,r2⟩ s' ⟨hr,rfl,_⟩
    simp only at hr
    subst hr
    exact wpAny_pure h
theorem wpAny_eqIsQuiet_nest {ks : List K × List K} {a : Addr} {Q : Bool → Shared → Prop} (hk : IsNestKey knd s.heap ks a) (h : Q true s) : wpAny (model prog w) A (eqIsQuiet 8 (.ref a)) Q E s := by
  have hT := hk.typeIs
  obtain ⟨ks1,ks⟩ := ks
  obtain ⟨o,items,n,q,vs,ho,_,hd,hi,hq,hi2⟩ := hk
  have hq : IsTupleKey knd s.heap ks1 q := hq
  have hi2 : ItemsAre knd ks vs := hi2
  unfold eqIsQuiet
  refine wpAny_bind (wpAny_specialOf hT F.slot_tuple_eq.lookup ?_)
  show wpAny _ _ (isInstance (.ref a) (.type "tuple") >>= _) _ _ s
  refine wpAny_bind (wpAny_isInstance hT isSubtype_tuple_tuple ?_)
  simp only [Bool.not_true,Bool.false_eq_true,if_false]
  refine wpAny_bind (wpAny_seqItems ho hd ?_)
  refine wpAny_bind ?_
  show wpAny _ _ (forIn items _ _) _ _ s
  rw [← Array.forIn_toList,hi,List.forIn_cons]
  refine wpAny_bind (wpAny_bind (quiet7 hq ?_))
  simp only [Bool.not_true,Bool.false_eq_true,if_false]
  refine wpAny_pure ?_
  show wpAny _ _ (forIn vs _ _) _ _ _
  refine wpAny_forIn_list _ (fun rest r s' => r.1 = none ∧ s' = s ∧ ∀ v ∈ rest,carriedByValue v = true) _ ?_ ?_ _ _ ⟨rfl,rfl,hi2.byValue⟩
  · rintro v rest r s' ⟨hr,rfl,hall⟩
    rw [eqIsQuiet_byValue _ (hall v List.mem_cons_self)]
    refine wpAny_bind (wpAny_pure ?_)
    simp only [Bool.not_true,Bool.false_eq_true,if_false]
    exact wpAny_pure ⟨rfl,rfl,fun u hu' => hall u (List.mem_cons_of_mem _ hu')⟩
  · rintro ⟨r1,r2⟩ s' ⟨hr,rfl,_⟩
    simp only at hr
    subst hr
    exact wpAny_pure h
end
def nestKind {prog : Program} {w : World} {K : Type} [DecidableEq K] (knd : KeyKind prog w K) : HeapKind prog w (List K × List K) where
  is := IsNestKey knd
  hash := nestKeyHash knd
  draws := fun ks => ks.1.length + 1 + ks.2.length + 1
  room := fun A => A.units + 1 < cLine
  inj := fun hx hy => hx.inj hy
  keeps := fun x ho hd hs => x.keeps ho hd hs
  pyHash := fun hu hk h => wpAny_pyHash_nest hu hk h
  eqBool := fun hu hx hy h => wpAny_eqBool_nest hu hx hy h
  quiet := fun hk h => wpAny_eqIsQuiet_nest hk h
end PySem
set_option Elab.async false
set_option linter.all false
set_option maxRecDepth 100000
namespace L2
open PySem PySem.Spec PyProof.Rows
abbrev NK := List Key × List Key
abbrev KN : List (NK × Addr × V) → List (NK × Addr × Value) → Prop := Paired fun p q => p.1 = q.1 ∧ p.2.1 = q.2.1 ∧ RelV p.2.2 q.2.2
def Nph (P : Program) (w : World) (a : Addr) (ks : List (NK × Addr × V)) (h : Heap) : Prop := ∃ xs : List (NK × Addr × Value),KN ks xs ∧ ∃ o es ep,h.get? a = some o ∧ o.ExactDict ∧ o.data = .dict es ep ∧ es.toList = xs.map (entryOfKey (nestKind (mixKind P w))) ∧ (xs.map (·.1)).Nodup
abbrev NdO (P : Program) (w : World) (a : Addr) (ks : List (NK × Addr × V)) : HO := .ext (Nph P w a ks)
def NkAt (H : Hp) (p : Addr) (k : NK) : Prop := ∃ q,H p = some (.tup (.ref q :: k.2.map kV)) ∧ H q = some (.tup (k.1.map kV))
theorem NkAt.keep {H H' : Hp} (t : ∀ c xs,H c = some (.tup xs) → H' c = some (.tup xs)) {p : Addr} {k : NK} (h : NkAt H p k) : NkAt H' p k := by
  obtain ⟨q,h1,h2⟩ := h
  exact ⟨q,t _ _ h1,t _ _ h2⟩
def NDict (P : Program) (w : World) (H : Hp) (a : Addr) (kvs : List (NK × V)) : Prop := ∃ ks : List (NK × Addr × V),H a = some (NdO P w a ks) ∧ (a == sysModules) = false ∧ ks.length ≤ sizeLine ∧ kvs = ks.map (fun x => (x.1,x.2.2)) ∧ ∀ x ∈ ks,NkAt H x.2.1 x.1
theorem NDict.keep {P : Program} {w : World} {H H' : Hp} {a : Addr} {kvs : List (NK × V)} (h : NDict P w H a kvs) (ha : ∀ o,H a = some o → H' a = some o) (t : ∀ c xs,H c = some (.tup xs) → H' c = some (.tup xs)) : NDict P w H' a kvs := by
  obtain ⟨ks,h1,h2,h3,h4,h5⟩ := h
  exact ⟨ks,ha _ h1,h2,h3,h4,fun x hx => (h5 x hx).keep t⟩
theorem NDict.same {P : Program} {w : World} {H H' : Hp} {a : Addr} {kvs : List (NK × V)} (h : NDict P w H a kvs) (s : ∀ c o,H c = some o → H' c = some o) : NDict P w H' a kvs := h.keep (s a) fun c xs => s c _
theorem NDict.tup {P : Program} {w : World} {H : Hp} {a c : Addr} {kvs : List (NK × V)} {xs : List V} (h : NDict P w H a kvs) (e : H c = some (.tup xs)) : c ≠ a := fun z => by
  obtain ⟨ks,h1,_⟩ := h
  rw [z,h1] at e; cases e
theorem NDict.some {P : Program} {w : World} {H : Hp} {a : Addr} {kvs : List (NK × V)} (h : NDict P w H a kvs) : H a ≠ none := fun z => by
  obtain ⟨ks,h1,_⟩ := h
  rw [z] at h1; cases h1
theorem KN.val {ks : List (NK × Addr × V)} {xs : List (NK × Addr × Value)} (r : KN ks xs) (k : NK) : RelO (valV (ks.map fun x => (x.1,x.2.2)) k) ((atKey xs k).map (·.2)) := by
  induction r with
  | nil => exact True.intro
  | @cons p q ps qs h t ih =>
    obtain ⟨h1,_,h2⟩ := h
    rw [List.map_cons]
    by_cases e : p.1 = k
    · have e' : q.1 = k := h1.symm.trans e
      have b : atKey (q :: qs) k = some q.2 := by simp [atKey,List.find?_cons,e']
      rw [valV_pos (by exact e),b]; exact h2
    · have e' : ¬ q.1 = k := fun z => e (h1.trans z)
      have b : atKey (q :: qs) k = atKey qs k := by simp [atKey,List.find?_cons,e']
      rw [valV_neg (by exact e),b]; exact ih
def putN (ks : List (NK × Addr × V)) (k : NK) (p : Addr) (v : V) : List (NK × Addr × V) := if (ks.any fun x => decide (x.1 = k)) = true then ks.map (fun x => if x.1 = k then (x.1,x.2.1,v) else x) else ks ++ [(k,p,v)]
theorem putN_kvs (ks : List (NK × Addr × V)) (k : NK) (p : Addr) (v : V) : (putN ks k p v).map (fun x => (x.1,x.2.2)) = putK (ks.map fun x => (x.1,x.2.2)) k v := by
  unfold putN putK
  have e : ((ks.map fun x => (x.1,x.2.2)).any fun kv => decide (kv.1 = k)) = (ks.any fun x => decide (x.1 = k)) := by rw [List.any_map]; rfl
  rw [e]
  split
  · rw [List.map_map,List.map_map]
    refine List.map_congr_left fun x _ => ?_
    show (fun x : NK × Addr × V => (x.1,x.2.2)) (if x.1 = k then (x.1,x.2.1,v) else x) = if x.1 = k then (x.1,v) else (x.1,x.2.2)
    split <;> rfl
  · rw [List.map_append]; rfl
theorem KN.put {ks : List (NK × Addr × V)} {xs : List (NK × Addr × Value)} (r : KN ks xs) (k : NK) {b : Addr} {y : V} {u : Value} (ry : RelV y u) : KN (putN ks k b y) (storedH xs k b u) := by
  have e : (ks.any fun x => decide (x.1 = k)) = (atKey xs k).isSome := by
    have h := (r.val k).isSome_eq
    rw [Option.isSome_map] at h
    rw [← h,← valV_any,List.any_map]; rfl
  unfold putN storedH
  rw [e]
  by_cases q : (atKey xs k).isSome = true
  · rw [if_pos q,if_pos q]
    clear e q
    induction r with
    | nil => exact .nil
    | @cons p q ps qs h t ih =>
      rw [List.map_cons,List.map_cons]
      refine .cons ?_ ih
      obtain ⟨h1,h2,h3⟩ := h
      unfold putAt
      by_cases e : p.1 = k
      · rw [if_pos e,if_pos (h1.symm.trans e)]; exact ⟨h1,h2,ry⟩
      · rw [if_neg e,if_neg (fun z => e (h1.trans z))]; exact ⟨h1,h2,h3⟩
  · rw [if_neg q,if_neg q]; exact Paired.snoc r ⟨rfl,rfl,ry⟩
theorem putN_mem {ks : List (NK × Addr × V)} {k : NK} {p : Addr} {v : V} {x : NK × Addr × V} (h : x ∈ putN ks k p v) : (∃ y ∈ ks,y.1 = x.1 ∧ y.2.1 = x.2.1) ∨ (x.1 = k ∧ x.2.1 = p) := by
  unfold putN at h
  split at h
  · obtain ⟨y,hy,e⟩ := List.mem_map.mp h
    refine .inl ⟨y,hy,?_⟩
    split at e <;> subst e <;> exact ⟨rfl,rfl⟩
  · rcases List.mem_append.mp h with h | h
    · exact .inl ⟨x,h,rfl,rfl⟩
    · rw [List.mem_singleton.mp h]; exact .inr ⟨rfl,rfl⟩
theorem putN_len (ks : List (NK × Addr × V)) (k : NK) (p : Addr) (v : V) : (putN ks k p v).length ≤ ks.length + 1 := by
  unfold putN
  split
  · rw [List.length_map]; omega
  · rw [List.length_append]; exact Nat.le_refl _
section
variable {X : Cx} {pins : List (Addr × Obj)} {σ : St} {H : Hp} {s : Shared} {a p : Addr} {k : NK} {kvs : List (NK × V)} {A : Around} {E : Value → Shared → Prop}
theorem nkey_of {P : Program} {w : World} {h : Heap} (ok : HOk P w H h) (e : NkAt H p k) : (nestKind (mixKind P w)).is h k p := by
  obtain ⟨q,h1,h2⟩ := e
  obtain ⟨_,its,r,o,g1,g2,n,g3⟩ := (show ObjOk P w H h p (.tup (.ref q :: k.2.map kV)) from ok p _ h1)
  cases r with
  | cons hq t =>
    cases hq
    exact ⟨o,_,n,q,_,g1,g2,g3,rfl,key_of ok h2,items_are t⟩
theorem nd_rd (ok : HOk X.prog X.w H s.heap) (e : NDict X.prog X.w H a kvs) : ∃ ks xs,H a = some (NdO X.prog X.w a ks) ∧ kvs = ks.map (fun x => (x.1,x.2.2)) ∧ KN ks xs ∧ ks.length ≤ sizeLine ∧ (a == sysModules) = false ∧ (∀ x ∈ ks,NkAt H x.2.1 x.1) ∧ s.heap.DictOfH (nestKind (mixKind X.prog X.w)) a xs := by
  obtain ⟨ks,h1,h2,h3,h4,h5⟩ := e
  obtain ⟨⟨xs,r,o,es,ep,g1,g2,g3,g4,g5⟩,_⟩ := (show ObjOk X.prog X.w H s.heap a (NdO X.prog X.w a ks) from ok a _ h1)
  refine ⟨ks,xs,h1,h4,r,h3,h2,h5,o,es,ep,g1,g2,g3,g4,fun x hx => ?_,g5⟩
  obtain ⟨i,hi⟩ := List.mem_iff_getElem?.mp hx
  have il : i < xs.length := (List.getElem?_eq_some_iff.mp hi).1
  have lx : ks.length = xs.length := pairL r
  have hk : ks[i]? = some ks[i] := List.getElem?_eq_getElem (by omega)
  obtain ⟨y,hy,e1,e2,_⟩ := pairG r hk
  rw [hi] at hy
  cases hy
  rw [← e1,← e2]
  exact nkey_of ok (h5 _ (List.mem_of_getElem? hk))
theorem n_getItem {v : V} {Q : Value → Shared → Prop} (hu : A.units + 2 < cLine) (I : Inv X pins σ H s) (g : NDict X.prog X.w H a kvs) (nk : NkAt H p k) (l : valV kvs k = some v) (h : ∀ w' s',Inv X pins σ H s' → RelV v w' → Q w' s') :
    wpAny (model X.prog X.w) A (getItem (.ref a) (.ref p)) Q E s := by
  obtain ⟨ks,xs,h1,rfl,r,_,_,_,dd⟩ := nd_rd I.hok g
  obtain ⟨w',hw,rw'⟩ := RelO.some_of (v := v) (o := (atKey xs k).map (·.2)) (by rw [← l]; exact r.val k)
  obtain ⟨pp,hp,hp2⟩ := Option.map_eq_some_iff.mp hw
  refine wpAny_getItem_heap (by show A.units + 1 + 1 < cLine; omega) (nkey_of I.hok nk) dd hp ?_
  rw [hp2]
  exact h w' _ (I.tok _) rw'
theorem n_stable {P : Program} {w : World} {ks : List (NK × Addr × V)} : ∀ h1 h2 : Heap,Nph P w a ks h1 → (∀ o,h1.get? a = some o → h2.get? a = some o) → Nph P w a ks h2 := fun h1 h2 ⟨xs,r,o,es,ep,g1,g⟩ k => ⟨xs,r,o,es,ep,k _ g1,g⟩
theorem n_setItem {v : V} {u : Value} {Q : Unit → Shared → Prop} (hu : A.units + 2 < cLine) (I : Inv X pins σ H s) (g : NDict X.prog X.w H a kvs) (nk : NkAt H p k) (hl : kvs.length < sizeLine) (rv : RelV v u) (h : ∀ H' s',Inv X pins σ H' s' → NDict X.prog X.w H' a (putK kvs k v) → (∀ c o,c ≠ a → H c = some o → H' c = some o) → (∀ c,H c = none → H' c = none) → Q () s') :
    wpAny (model X.prog X.w) A (setItem (.ref a) (.ref p) u) Q E s := by
  obtain ⟨ks,xs,h1,rfl,r,z,hd,nks,dd⟩ := nd_rd I.hok g
  rw [List.length_map] at hl
  have lx : ks.length = xs.length := pairL r
  refine wpAny_setItem_heap (hsz := by omega) (by show A.units + 1 + 1 < cLine; omega) (nkey_of I.hok nk) dd fun h' dd' hs => ?_
  obtain ⟨q,es,ep,hq,h2,h3,h4,_,h5⟩ := dd'
  have I2 : Inv X pins σ (upd H a (NdO X.prog X.w a (putN ks k p v))) { s with heap := h',toks := s.toks + (nestKind (mixKind X.prog X.w)).draws k } :=
    d_write I (by rw [h1]; exact True.intro) hs ⟨q,hq⟩ ⟨⟨_,r.put k rv,q,es,ep,hq,h2,h3,h4,h5⟩,⟨q,hq⟩,n_stable⟩
  have tk : ∀ c xs,H c = some (.tup xs) → (upd H a (NdO X.prog X.w a (putN ks k p v))) c = some (.tup xs) := fun c xs e => by
    rw [upd_ne (fun z => by rw [z,h1] at e; cases e)]; exact e
  refine h _ _ I2 ⟨_,upd_same,hd,by have := putN_len ks k p v; omega,(putN_kvs ks k p v).symm,fun x hx => ?_⟩ (fun c o n e => by rw [upd_ne n]; exact e) (fun c e => by rw [upd_ne (fun z => by rw [z,h1] at e; cases e)]; exact e)
  rcases putN_mem hx with ⟨y,hy,e1,e2⟩ | ⟨e1,e2⟩
  · rw [← e1,← e2]; exact (nks y hy).keep tk
  · rw [e1,e2]; exact nk.keep tk
end
def tNNew (P : Program) (w : World) : TE := fun _ H Q => ∀ p,H p = none → (∀ H',NDict P w H' p [] → (∀ c o,H c = some o → H' c = some o) → Q (.ref p) H')
def tNGet (P : Program) (w : World) (td ty : TE) : TE := fun σ H Q => td σ H fun x H1 => ty σ H1 fun y H2 => ∃ a v kvs k p,x = .ref a ∧ y = .ref p ∧ NDict P w H2 a kvs ∧ NkAt H2 p k ∧ valV kvs k = some v ∧ Q v H2
def sNPut (P : Program) (w : World) (td ty tv : TE) : TS := fun D σ H => tv σ H fun v H1 => td σ H1 fun x H2 => ty σ H2 fun y H3 => ∃ a kvs k p,x = .ref a ∧ y = .ref p ∧ NDict P w H3 a kvs ∧ NkAt H3 p k ∧ kvs.length < sizeLine ∧ ∀ H',NDict P w H' a (putK kvs k v) → (∀ c o,c ≠ a → H3 c = some o → H' c = some o) → (∀ c,H3 c = none → H' c = none) → D.nx σ H'
section
variable {X : Cx} {o i value : Expr} {pos pos' : Pos} {td ty tv : TE}
theorem pe_nnew : PE X (.Dict [] [] pos) (tNNew X.prog X.w) := fun pins s σ H Q I h => by
  have hf := I.hok.fresh (Nat.le_refl s.heap.objs.size)
  have hb : (s.heap.objs.size == sysModules) = false := beq_eq_false_iff_ne.mpr (Ne.symm (Nat.ne_of_lt I.big))
  refine wpAny_Dict_empty ⟨.ref s.heap.objs.size,_,I.laid (a := s.heap.objs.size) (o := NdO X.prog X.w s.heap.objs.size []) (t' := s.toks) (fun _ _ q => Heap.get?_push_of_some _ q) (Nat.le_refl _) ⟨⟨[],.nil,_,#[],0,Heap.get?_push_size _ rfl,⟨rfl,rfl,rfl⟩,rfl,rfl,List.nodup_nil⟩,⟨_,Heap.get?_push_size _ rfl⟩,n_stable⟩,rfl,h _ hf _ ⟨[],upd_same,hb,Nat.zero_le _,rfl,fun x hx => by simp at hx⟩ fun c o e => by rw [upd_ne (ne_of_none e hf)]; exact e⟩
theorem pe_nget (hu : X.A.units + 2 < cLine) (ho : PE X o td) (hi : PE X i ty) (hs : NoSl i) : PE X (.Subscript o i pos) (tNGet X.prog X.w td ty) := by
  intro pins s σ H Q I h
  refine subD_of PySem.F.slot_dict_getitem.lookup hs (thn (ho pins s σ H _ I h) fun u s1 ⟨x,H1,I1,rx,q1⟩ => thn (hi pins s1 σ H1 _ I1 q1) fun iv s2 ⟨y,H2,I2,ry,a,v,kvs,k,p,ex,ey,g,nk,l,q2⟩ => ?_)
  subst ex ey
  obtain rfl : u = Value.ref a := rx
  obtain rfl : iv = Value.ref p := ry
  obtain ⟨_,_,_,_,_,_,_,_,dd⟩ := nd_rd I2.hok g
  exact ⟨dd.typeIs,n_getItem hu I2 g nk l fun w' s3 I3 rw' => ⟨v,H2,I3,rw',q2⟩⟩
theorem ps_nput (hu : X.A.units + 2 < cLine) (ho : PE X o td) (hi : PE X i ty) (hv : PE X value tv) (hs : swapsWith value (some (.Subscript o i pos')) pos.line X.env = pure false) :
    PS X (.Assign [.Subscript o i pos'] value pos) (sNPut X.prog X.w td ty tv) := by
  intro pins s σ H D I h
  refine wpAny_Assign_Subscript (thn (hv pins s σ H _ I h) fun r s1 ⟨v,H1,I1,rv,q1⟩ => thn (ho pins s1 σ H1 _ I1 q1) fun u s2 ⟨x,H2,I2,rx,q2⟩ => thn (hi pins s2 σ H2 _ I2 q2) fun iv s3 ⟨y,H3,I3,ry,a,kvs,k,p,ex,ey,g,nk,l,q3⟩ => ?_) hs
  subst ex ey
  obtain rfl : u = Value.ref a := rx
  obtain rfl : iv = Value.ref p := ry
  exact n_setItem hu I3 g nk l rv fun H' s4 I4 g' b f => ⟨σ,H',I4,q3 H' g' b f⟩
end
end L2
set_option Elab.async false
set_option linter.all false
set_option maxRecDepth 100000
namespace L2
open PySem PySem.Spec PyProof.Rows
section
variable {X : Cx}
theorem call_minI (hc : X.calm = true) : CallR X (.builtin "min") (fun xs H Q => ∃ (p : Addr) (ns : List Int),xs = [.ref p] ∧ SqL X.K H p (ns.map V.int) ∧ ns ≠ [] ∧ ∀ m,m ∈ ns → (∀ x ∈ ns,m ≤ x) → Q (.int m) H) := by
  intro pins s σ H xs us Q I r h
  obtain ⟨p,ns,rfl,hs,hne,q⟩ := h
  obtain ⟨u,rfl,rfl⟩ := vals1 r
  obtain ⟨its,rv,pl0,_⟩ := I.list hs
  have hi := ints_of rv
  obtain ⟨xs,e⟩ := hi.allInts.items
  have pl := pl0.isList
  rw [e] at pl
  have en : (xs.toList.map (·.1)) = ns := by
    have h1 := hi.numsOf
    have h2 := nums_intItems (xs := xs)
    rw [← e,show its.toArray.toList = its from rfl] at h2
    rw [← h1,h2]
  have sz : xs.size = ns.length := by rw [← en,List.length_map]; rfl
  have hn : 0 < xs.size := by rw [sz]; exact List.length_pos_iff.mpr hne
  have nat : ∀ i,i < xs.size → numAt xs i ∈ ns := fun i h => by
    unfold numAt
    rw [← en,Array.getElem?_eq_getElem h]
    exact List.mem_map.mpr ⟨xs[i],by simp,rfl⟩
  have all : ∀ x ∈ ns,∃ i,i < xs.size ∧ numAt xs i = x := fun x hx => by
    rw [← en] at hx
    obtain ⟨y,hy,rfl⟩ := List.mem_map.mp hx
    obtain ⟨i,hi',e'⟩ := List.getElem_of_mem hy
    refine ⟨i,by simpa using hi',?_⟩
    unfold numAt
    rw [Array.getElem?_eq_getElem (by simpa using hi')]
    simpa using congrArg Prod.fst e'
  obtain ⟨g1,g2⟩ := argBest_lt (numAt xs) (xs.size - 1)
  refine min_intList (I.ok.hd hc) pl hn fun v h' tk hv hk => ?_
  obtain ⟨t,rfl⟩ := intItems_at hv
  refine ⟨.int _,H,I.kept hk,⟨t,rfl⟩,q _ (nat _ (by have : argBest (fun i j => decide (numAt xs i < numAt xs j)) (xs.size - 1) ≤ xs.size - 1 := g1; omega)) fun x hx => ?_⟩
  obtain ⟨i,h1,h2⟩ := all x hx
  rw [← h2]
  exact g2 i (by omega)
end
end L2
set_option Elab.async false
set_option linter.all false
set_option maxRecDepth 100000
namespace Pc
open PySem L2
def top (i : Nat) : Stmt := PySem.Challenge.pw_platecuts_k52_whole_best_by_turns.main.body.getD i (.Pass ⟨0,0,0,0⟩)
abbrev sWhole : Stmt := top 10
abbrev sTruth : Stmt := top 11
abbrev sRow : Stmt := top 12
abbrev sCheckPlate : Stmt := top 13
abbrev sCheckSides : Stmt := top 14
abbrev sLiesIn : Stmt := top 19
abbrev sLyingsIn : Stmt := top 20
abbrev sCutParts : Stmt := top 21
abbrev sCutsOf : Stmt := top 22
abbrev sPartsUpTo : Stmt := top 23
abbrev sBestLeaf : Stmt := top 28
abbrev sBestStep : Stmt := top 29
abbrev sTreeBySteps : Stmt := top 30
abbrev sBestOf : Stmt := top 31
abbrev sCutsByTurns : Stmt := top 34
abbrev sBestByTurns : Stmt := top 35
abbrev sIsKind : Stmt := top 39
abbrev sTurned : Stmt := top 40
abbrev sShopInit : Stmt := inClass (top 41) 0
abbrev sShopBlade : Stmt := inClass (top 41) 1
abbrev sShopKinds : Stmt := inClass (top 41) 2
abbrev sShopWanted : Stmt := inClass (top 41) 3
abbrev sShopLyings : Stmt := inClass (top 41) 4
abbrev sShopIsLying : Stmt := inClass (top 41) 5
abbrev sShopSides : Stmt := inClass (top 41) 6
abbrev sPot : Stmt := top 43
abbrev sDraw : Stmt := top 44
abbrev sGreat : Stmt := top 45
abbrev sSide : Stmt := top 46
abbrev sKinds : Stmt := top 47
abbrev sLWhole : Stmt := top 48
abbrev sPieceWorth : Stmt := top 49
abbrev sWorth : Stmt := top 50
abbrev sTold : Stmt := top 51
abbrev sRight : Stmt := top 52
abbrev sLaw : Stmt := top 53
section
variable {P : Program} {w : World} {K : PySem.W.Frag} {mg : Str → Option Value} {base : Heap}
structure Blt (mg : Str → Option Value) : Prop where
  isi : mg "isinstance" = none
  int : mg "int" = none
  bool : mg "bool" = none
  list : mg "list" = none
  tuple : mg "tuple" = none
  len : mg "len" = none
  range : mg "range" = none
  max : mg "max" = none
  min : mg "min" = none
  abs : mg "abs" = none
  divmod : mg "divmod" = none
  sum : mg "sum" = none
  sorted : mg "sorted" = none
  all : mg "all" = none
  repr : mg "repr" = none
  zip : mg "zip" = none
  enumerate : mg "enumerate" = none
  mostk : ∃ t,mg "MOST_KINDS" = some (.int 8 t)
  fivek : ∃ t,mg "THINGS_OF_A_KIND" = some (.int 5 t)
end
theorem put1 {p c : Addr} {H0 H : Hp} {o : HO} (b : But p H0 H) (pt : PotB H p) (h : H c = none) : ∃ H',upd H c o = H' ∧ H' c = some o ∧ c ≠ p ∧ Same H H' ∧ But p H0 H' ∧ PotB H' p :=
  ⟨_,rfl,upd_same,Ne.symm (pt.ne h),Same.new h,b.trans (But.new h),pt.new h⟩
theorem seqCut {t u : TS} {D : Ends} {σ : St} {H : Hp} (J : St → Hp → Prop) (h1 : ∀ R : St → Hp → Prop,(∀ σ' H',J σ' H' → R σ' H') → t { D with nx := R } σ H) (h2 : ∀ σ' H',J σ' H' → u D σ' H') : tSeq t u D σ H := h1 _ h2
section
variable {P : Program} {w : World} {K : PySem.W.Frag} {mg : Str → Option Value} {base : Heap}
theorem scWhole : FnScope ["thing","least"] ["thing","least"] (defScope sWhole) := ⟨rfl,rfl,rfl,by decide +kernel,rfl,by decide +kernel,by decide +kernel⟩
theorem ok_whole {f : Addr} {fd : FuncData} (F : Fun K "is_whole" "is_whole" sWhole f fd) (B : Blt mg) : FnOk P w K mg base CX0 1 f fd ["thing","least"] (spWhole K) := by
  refine F.ok scWhole (fun vs H Q E h => ?_) (fun cdv A outer s H vs Q E hr h => ?_)
  · obtain ⟨x,T,l,rfl,_⟩ := h
    rfl
  obtain ⟨x,T,l,rfl,⟨tn,ty⟩,q⟩ := h
  refine ⟨_,pss_one (ps_ret (pe_and (pe_callB call_isinst rfl B.isi PyProof.Rows.boot_isinstance (pa_cons (pv 0) (pa_cons (pe_bltn (v := .ty "int") rfl B.int PyProof.Rows.boot_int rfl) pa_nil)))
    (pe_and (pe_not (pe_callB call_isinst rfl B.isi PyProof.Rows.boot_isinstance (pa_cons (pv 0) (pa_cons (pe_bltn (v := .ty "bool") rfl B.bool PyProof.Rows.boot_bool rfl) pa_nil))))
    (pe_one (pe_cmpR op_ge (pv 0) (pv 1) (nomark _)))))),?_⟩
  refine ⟨_,rfl,x,_,_,_,_,rfl,ty,rfl,kit_int T tn,_,rfl,?_⟩
  have tb := ty_bool ty
  refine ite2 (fun c => ?_) (fun c => ?_)
  · refine ⟨_,rfl,x,_,_,_,_,rfl,ty,rfl,kit_bool T tn,_,rfl,_,rfl,?_⟩
    refine ite2 (fun c2 => ?_) (fun c2 => ?_)
    · have hT : (T == "int") = true := by
        have : (T == "bool") = false := by simpa using c2
        rw [this,Bool.or_false] at c; exact c
      obtain ⟨i,rfl⟩ := ty_int ty tn hT
      exact ⟨_,rfl,_,rfl,_,_,rfl,rfl,q⟩
    · have hT : isBl x = true := by
        rw [← tb]
        cases e : (T == "bool") with
        | true => rfl
        | false => rw [e] at c2; exact absurd rfl c2
      cases x <;> first | exact q | (exact absurd hT Bool.false_ne_true)
  · have hx : whole x l = false := by
      cases x with
      | int i =>
        exfalso
        have ty' := ty
        generalize hv : Value.type T = tv at ty'
        cases ty' with
        | int => cases hv; exact c rfl
      | _ => rfl
    rw [hx] at q
    exact q
theorem scTruth : FnScope ["thing"] ["thing"] (defScope sTruth) := ⟨rfl,rfl,rfl,by decide +kernel,rfl,by decide +kernel,by decide +kernel⟩
theorem ok_truth {f : Addr} {fd : FuncData} (F : Fun K "is_truth" "is_truth" sTruth f fd) (B : Blt mg) : FnOk P w K mg base CX0 1 f fd ["thing"] (spTruth K) := by
  refine F.ok scTruth (fun vs H Q E h => ?_) (fun cdv A outer s H vs Q E hr h => ?_)
  · obtain ⟨x,T,rfl,_⟩ := h
    rfl
  obtain ⟨x,T,rfl,⟨tn,ty⟩,q⟩ := h
  refine ⟨_,pss_one (ps_ret (pe_callB call_isinst rfl B.isi PyProof.Rows.boot_isinstance (pa_cons (pv 0) (pa_cons (pe_bltn (v := .ty "bool") rfl B.bool PyProof.Rows.boot_bool rfl) pa_nil)))),?_⟩
  refine ⟨_,rfl,x,_,_,_,_,rfl,ty,rfl,kit_bool T tn,?_⟩
  rw [ty_bool ty]
  exact q
theorem scRow : FnScope ["thing"] ["thing"] (defScope sRow) := ⟨rfl,rfl,rfl,by decide +kernel,rfl,by decide +kernel,by decide +kernel⟩
theorem ok_row {f : Addr} {fd : FuncData} (F : Fun K "is_row" "is_row" sRow f fd) (B : Blt mg) : FnOk P w K mg base CX0 1 f fd ["thing"] (spRow K) := by
  refine F.ok scRow (fun vs H Q E h => ?_) (fun cdv A outer s H vs Q E hr h => ?_)
  · obtain ⟨x,T,rfl,_⟩ := h
    rfl
  obtain ⟨x,T,rfl,ty,q⟩ := h
  refine ⟨_,pss_one (ps_ret (pe_callB call_isinstT rfl B.isi PyProof.Rows.boot_isinstance (pa_cons (pv 0) (pa_cons (pe_tup (pa_cons (pe_bltn (v := .ty "list") rfl B.list PyProof.Rows.boot_list rfl) (pa_cons (pe_bltn (v := .ty "tuple") rfl B.tuple PyProof.Rows.boot_tuple rfl) pa_nil))) pa_nil)))),?_⟩
  refine ⟨_,rfl,(by show 2 ≤ sizeLine; decide),fun p hp => ?_⟩
  have s1 : Same H (upd H p (.tup [.ty "list",.ty "tuple"])) := fun b o e => by rw [upd_ne (ne_of_none e hp)]; exact e
  have t2 := Ty.same s1 ty
  exact ⟨x,p,_,_,_,_,rfl,t2.2,upd_same,rfl,kit_row T ty.1,q _ s1⟩
theorem scIsKind : FnScope ["thing","wide","high","worth","wanted","turns"] ["thing"] (defScope sIsKind) := ⟨rfl,rfl,rfl,by decide +kernel,rfl,by decide +kernel,by decide +kernel⟩
theorem ok_iskind {f : Addr} {fd : FuncData} (F : Fun K "is_kind" "is_kind" sIsKind f fd) (B : Blt mg) (DW : Dn P w K mg base "is_whole" ["thing","least"] 1 (spWhole K)) (DT : Dn P w K mg base "is_truth" ["thing"] 1 (spTruth K)) (DR : Dn P w K mg base "is_row" ["thing"] 1 (spRow K)) :
    FnOk P w K mg base CX0 2 f fd ["thing"] (spIsKind K) := by
  refine F.ok scIsKind (fun vs H Q E h => ?_) (fun cdv A outer s H vs Q E hr h => ?_)
  · obtain ⟨x,T,rfl,_⟩ := h
    rfl
  obtain ⟨x,T,rfl,ty,q⟩ := h
  obtain ⟨tk,htk⟩ := B.fivek
  have nd := scIsKind.nd
  refine ⟨_,pss_cons (ps_if (PW.pt (pw_or (pt_not (pt_val (pe_cD DR hr rfl (pa_cons (pv 0) pa_nil)))) (pw_or1 (pt_cmpR op_ne (pe_callB call_len_seq rfl B.len PySem.boot_len (pa_cons (pv 0) pa_nil)) (pe_glob (v := .int 5) rfl htk ⟨tk,rfl⟩) (nomark _))))) (pss_one (ps_ret pe_bl)) pss_nil)
    (pss_cons (ps_asg (pv 0) (pg_seq rfl (pgs_cons (pg_name (i := 1) nd rfl (Or.inl rfl)) (pgs_cons (pg_name (i := 2) nd rfl (Or.inl rfl)) (pgs_cons (pg_name (i := 3) nd rfl (Or.inl rfl)) (pgs_cons (pg_name (i := 4) nd rfl (Or.inl rfl)) (pgs_cons (pg_name (i := 5) nd rfl (Or.inl rfl)) pgs_nil)))))))
    (pss_cons (ps_if (PW.pt (pw_or (pt_not (pt_val (pe_cD DW hr rfl (pa_cons (pv 1) (pa_cons pe_int pa_nil))))) (pw_or1 (pt_not (pt_val (pe_cD DW hr rfl (pa_cons (pv 2) (pa_cons pe_int pa_nil)))))))) (pss_one (ps_ret pe_bl)) pss_nil)
    (pss_one (ps_ret (pe_and (pe_cD DW hr rfl (pa_cons (pv 3) (pa_cons pe_int pa_nil))) (pe_and (pe_cD DW hr rfl (pa_cons (pv 4) (pa_cons pe_int pa_nil))) (pe_one (pe_cD DT hr rfl (pa_cons (pv 5) pa_nil))))))))),?_⟩
  refine ⟨_,rfl,x,T,rfl,ty,fun H1 s1 => ⟨_,rfl,?_⟩⟩
  rcases q with ⟨n1,n2,q⟩ | ⟨a,xs,rfl,hx,its,q⟩
  · have e : (T == "list" || T == "tuple") = false := by simp [n1,n2]
    rw [e]
    refine iteT (iteT ?_)
    exact q H1 s1
  · have e : (T == "list" || T == "tuple") = true := by
      have t2 := ty.2
      generalize hv : Value.type T = tv at t2
      generalize hr : V.ref a = rv at t2
      cases t2 with
      | lst _ => cases hv; rfl
      | frz _ => cases hv; rfl
      | tup _ => cases hv; rfl
      | dK e => cases hr; rcases hx with z | z <;> (rw [z] at e; cases e)
      | dT e => cases hr; rcases hx with z | z <;> (rw [z] at e; cases e)
      | ins => cases hv
      | _ => cases hr
    rw [e]
    have sq : SqL K H1 a xs ∨ SqT K H1 a xs := by
      rcases hx with z | z
      · exact .inl (SqL.of (s1 _ _ z))
      · exact .inr (SqT.of (s1 _ _ z))
    refine iteF ⟨_,rfl,a,xs,rfl,sq,rfl,_,rfl,?_⟩
    refine ite2 (fun c => ?_) (fun c => ?_)
    · have hl : xs.length ≠ 5 := fun z => by rw [z] at c; exact absurd c (by decide)
      have : kind5 xs = false := by
        unfold kind5
        split
        · exact absurd rfl hl
        · rfl
      rw [this] at q
      exact q H1 s1
    · have hl : xs.length = 5 := by
        by_cases z : xs.length = 5
        · exact z
        · exfalso
          apply c
          have : ¬ (V.int (xs.length : Int) = V.int 5) := fun h => z (by have := V.int.inj h; omega)
          rw [decide_eq_false this]; rfl
      obtain ⟨x1,x2,x3,x4,x5,rfl⟩ : ∃ x1 x2 x3 x4 x5,xs = [x1,x2,x3,x4,x5] := by
        match xs,hl with
        | [a,b,c,d,e],_ => exact ⟨a,b,c,d,e,rfl⟩
      obtain ⟨T1,t1⟩ := its x1 (by simp)
      obtain ⟨T2,t2⟩ := its x2 (by simp)
      obtain ⟨T3,t3⟩ := its x3 (by simp)
      obtain ⟨T4,t4⟩ := its x4 (by simp)
      obtain ⟨T5,t5⟩ := its x5 (by simp)
      refine ⟨_,rfl,a,_,rfl,sq,rfl,x1,_,rfl,x2,_,rfl,x3,_,rfl,x4,_,rfl,x5,_,rfl,rfl,?_⟩
      refine ⟨_,rfl,x1,T1,1,rfl,Ty.same s1 t1,_,rfl,?_⟩
      have q' : ∀ b,kind5 [x1,x2,x3,x4,x5] = b → Q (.bl b) H1 := fun b e => by rw [← e]; exact q H1 s1
      have k5 : kind5 [x1,x2,x3,x4,x5] = (whole x1 1 && whole x2 1 && whole x3 0 && whole x4 0 && isBl x5) := rfl
      cases w1 : whole x1 1 with
      | false =>
        refine iteT (iteT ?_)
        exact q' false (by rw [k5,w1]; rfl)
      | true =>
        refine iteF ⟨_,rfl,x2,T2,1,rfl,Ty.same s1 t2,_,rfl,?_⟩
        cases w2 : whole x2 1 with
        | false =>
          refine iteT ?_
          exact q' false (by rw [k5,w1,w2]; rfl)
        | true =>
          refine iteF ⟨_,rfl,x3,T3,0,rfl,Ty.same s1 t3,_,rfl,?_⟩
          cases w3 : whole x3 0 with
          | false =>
            refine iteF ?_
            exact q' false (by rw [k5,w1,w2,w3]; rfl)
          | true =>
            refine iteT ⟨_,rfl,x4,T4,0,rfl,Ty.same s1 t4,_,rfl,?_⟩
            cases w4 : whole x4 0 with
            | false =>
              refine iteF ?_
              exact q' false (by rw [k5,w1,w2,w3,w4]; rfl)
            | true =>
              refine iteT ⟨_,rfl,x5,T5,rfl,Ty.same s1 t5,?_⟩
              exact q' _ (by rw [k5,w1,w2,w3,w4]; rfl)
end
section
variable {P : Program} {w : World} {K : PySem.W.Frag} {mg : Str → Option Value} {base : Heap}
theorem scInit : FnScope ["self","blade","kinds","kind"] ["self","blade","kinds"] (defScope sShopInit) := ⟨rfl,rfl,rfl,by decide +kernel,rfl,by decide +kernel,by decide +kernel⟩
theorem ok_init {f C : Addr} {fd : FuncData} (F : Fun K "__init__" "Shop.__init__" sShopInit f fd) (B : Blt mg) (T : ShopTxt K C) (DW : Dn P w K mg base "is_whole" ["thing","least"] 1 (spWhole K)) (DR : Dn P w K mg base "is_row" ["thing"] 1 (spRow K))
    (DK : Dn P w K mg base "is_kind" ["thing"] 2 (spIsKind K)) : FnOk P w K mg base CX0 3 f fd ["self","blade","kinds"] (spInit C) := by
  refine F.ok scInit (fun vs H Q E h => ?_) (fun cdv A outer s H vs Q E hr h => ?_)
  · obtain ⟨x,dx,ks,b,rs,kds,rfl,_⟩ := h
    rfl
  obtain ⟨x,dx,ks,b,rs,kds,rfl,hx,b0,hks,hrs,hgd,n1,n8,q⟩ := h
  have hr1 := hr.mono (show 1 ≤ 2 by decide)
  obtain ⟨tk,htk⟩ := B.mostk
  have nd := scInit.nd
  have n8' : (8 : Nat) < sizeLine := by decide
  refine ⟨_,pss_cons (ps_if (pt_not (pt_val (pe_cD DW hr1 rfl (pa_cons (pv 1) (pa_cons pe_int pa_nil))))) pss_never pss_nil)
    (pss_cons (ps_if (PW.pt (pw_or (pt_not (pt_val (pe_cD DR hr1 rfl (pa_cons (pv 2) pa_nil)))) (pw_or1 (pt_not (pt_chain op_le op_le pe_int (pe_callB call_len_seq rfl B.len PySem.boot_len (pa_cons (pv 2) pa_nil)) (pe_glob (v := .int 8) rfl htk ⟨tk,rfl⟩)))))) pss_never pss_nil)
    (pss_cons (ps_for PassesOwn.never rfl (pi_seq (pv 2)) (pg_name (i := 3) nd rfl (Or.inl rfl)) (pss_one (ps_if (pt_not (pt_val (pe_cD DK hr rfl (pa_cons (pv 3) pa_nil)))) pss_never pss_nil)))
    (pss_cons (ps_fld (pv 0) (pv 1) rfl)
    (pss_one (ps_fld (pv 0) (pe_callTy call_tuple_of rfl B.tuple PyProof.Rows.boot_tuple (pa_cons (pe_comp (own := ["kind"]) (cs := []) (cap := []) rfl (pi_seq (pv 2))
      (compOk_of (sc := defScope sShopInit) (N := ["self","blade","kinds","kind"]) rfl rfl (by decide +kernel))
      (fun _ _ _ _ _ => pg_name (i := 0) (by show List.Nodup (["kind"] : List Str); decide +kernel) rfl (Or.inl rfl) (Or.inr rfl)) (fun _ _ _ _ _ => pifs_nil)
      (fun _ _ _ _ _ => pe_callTy (r := rTupleOf K) call_tuple_of rfl B.tuple PyProof.Rows.boot_tuple (pa_cons (pv 0) pa_nil))) pa_nil)) rfl))))),?_⟩
  refine ⟨_,rfl,.int b,_,0,rfl,.int,_,rfl,?_⟩
  have wb : whole (.int b) 0 = true := decide_eq_true b0
  rw [wb]
  refine iteF ?_
  have tyk : ∃ T,Ty K H (.ref ks) T ∧ (T == "list" || T == "tuple") = true := by
    rcases hks with e | e
    · exact ⟨_,.lst e,rfl⟩
    · exact ⟨_,.tup e,rfl⟩
  obtain ⟨T0,ty0,te0⟩ := tyk
  refine ⟨_,rfl,.ref ks,T0,rfl,ty0,fun H1 s1 => ⟨_,rfl,?_⟩⟩
  rw [te0]
  have sq : ∀ {H2 : Hp},Same H H2 → SqL K H2 ks rs ∨ SqT K H2 ks rs := fun s2 => by
    rcases hks with z | z
    · exact .inl (SqL.of (s2 _ _ z))
    · exact .inr (SqT.of (s2 _ _ z))
  refine iteF ⟨_,rfl,ks,rs,rfl,sq s1,_,_,rfl,rfl,_,rfl,?_⟩
  rw [decide_eq_true (show (1 : Int) ≤ (rs.length : Int) by omega)]
  refine iteT ⟨_,_,rfl,rfl,_,rfl,?_⟩
  rw [decide_eq_true (show (rs.length : Int) ≤ 8 by omega)]
  refine iteF ?_
  have len2 := Paired.length hrs
  refine for_seqV (j := 2) (a := ks) (xs := rs) rfl (hks.imp (fun z => s1 _ _ z) fun z => s1 _ _ z) (fun i σ H2 => ∃ v,σ = [some (.ref x),some (.int b),some (.ref ks),v] ∧ Same H1 H2) ⟨none,rfl,Same.refl _⟩ (fun i σ H2 _ ⟨_,_,s2⟩ o e => s2 _ _ e) ?_ ?_
  · rintro i y σ H2 hi ⟨v,rfl,s2⟩
    obtain ⟨k,hk,rk⟩ := Paired.getR hrs hi
    refine ⟨_,rfl,?_⟩
    simp only [tNil,List.append_nil]
    refine isKind_of ((rk.same s1).same s2) (hgd k (List.mem_of_getElem? hk)) fun H3 s3 => ⟨_,rfl,iteF ?_⟩
    exact ⟨_,rfl,s2.trans s3⟩
  rintro σ H2 ⟨v,rfl,s12⟩
  have s2 : Same H H2 := s1.trans s12
  refine ⟨_,rfl,_,rfl,x,C,dx,[],rfl,s2 _ _ hx,T.cl,T.nB,(by show 0 < 1000; decide),?_⟩
  have k3 : ∀ c o,c ≠ x → H c = some o → (upd H2 x (.ins C dx (putF "blade_width" (.int b) []))) c = some o := fun c o n e => by rw [upd_ne n]; exact s2 c o e
  have x3 : (upd H2 x (.ins C dx (putF "blade_width" (.int b) []))) x = some (.ins C dx (putF "blade_width" (.int b) [])) := upd_same
  generalize upd H2 x (.ins C dx (putF "blade_width" (.int b) [])) = H3 at k3 x3 ⊢
  have rx : ∀ c xs,H c = some (.lst xs) ∨ H c = some (.tup xs) → c ≠ x := fun c xs e z => by
    subst z
    rcases e with e | e <;> (rw [hx] at e; cases e)
  dsimp only [sFld,tCB,tCons]
  refine comp_seqV (j := 2) (a := ks) (xs := rs) rfl (hks.imp (fun z => k3 _ _ (rx _ _ (.inl z)) z) fun z => k3 _ _ (rx _ _ (.inr z)) z) (fun i ys H4 => ys.length = i ∧ Same H3 H4 ∧ Tups H4 ys (kds.take i)) (fun i ys H4 _ ⟨_,s4,_⟩ o e => s4 _ _ e) ⟨rfl,Same.refl _,.nil⟩ ?_ ?_
  · rintro i y ys H4 hi ⟨hy,s4,ty4⟩
    have hin : i < rs.length := (List.getElem?_eq_some_iff.mp hi).1
    obtain ⟨k,hk,rk⟩ := Paired.getR hrs hi
    have tk1 : kds.take (i + 1) = kds.take i ++ [k] := by rw [List.take_add_one,hk]; rfl
    refine ⟨by omega,leS.set rfl,tYes_ite ?_⟩
    rcases rk with ⟨a,rfl,h⟩ | ⟨a,rfl,h⟩
    · have h4 := s4 _ _ (k3 _ _ (rx _ _ (.inr h)) h)
      exact ⟨_,rfl,a,_,rfl,.inr ⟨SqT.of h4,Nx.of hin ⟨by rw [List.length_append,hy]; rfl,s4,by rw [tk1]; exact Paired.snoc ty4 ⟨a,rfl,h4⟩⟩⟩⟩
    · have h4 := s4 _ _ (k3 _ _ (rx _ _ (.inl h)) h)
      refine ⟨_,rfl,a,_,rfl,.inl ⟨SqL.of h4,fun l hl => Nx.of hin ⟨by rw [List.length_append,hy]; rfl,fun c o e => ?_,?_⟩⟩⟩
      · have e4 := s4 c o e
        rw [upd_ne (ne_of_none e4 hl)]; exact e4
      · rw [tk1]
        exact Paired.snoc (Tups.keep (fun c xs e => by rw [upd_ne (ne_of_none e hl)]; exact e) ty4) ⟨l,rfl,upd_same⟩
  rintro ys H4 ⟨hy,s4,ty4⟩
  refine ⟨by omega,fun p hp => ?_⟩
  refine ⟨p,ys,rfl,.inl ⟨SqL.of upd_same,fun r hr' => ?_⟩⟩
  have hpr : r ≠ p := fun z => by rw [z,upd_same] at hr'; cases hr'
  have hr4 : H4 r = none := by rw [upd_ne hpr] at hr'; exact hr'
  have x4 := s4 _ _ x3
  have xp : x ≠ p := ne_of_none x4 hp
  have xr : x ≠ r := ne_of_none x4 hr4
  refine ⟨_,rfl,x,C,dx,_,rfl,(by rw [upd_ne xr,upd_ne xp]; exact x4),T.cl,T.nK,(Nat.lt_of_le_of_lt (length_putF _ _ _) (by decide)),?_⟩
  rw [len2,List.take_length] at ty4
  refine q _ ⟨dx,r,ys,upd_same,by rw [upd_ne (Ne.symm xr),upd_same],?_⟩ fun c o n e => ?_
  · refine Tups.keep (fun c xs e => ?_) ty4
    rw [upd_ne (fun z => by rw [z,x4] at e; cases e),upd_ne (ne_of_none e hr4),upd_ne (ne_of_none e hp)]
    exact e
  · have e4 := s4 _ _ (k3 c o n e)
    rw [upd_ne n,upd_ne (ne_of_none e4 hr4),upd_ne (ne_of_none e4 hp)]
    exact e4
theorem scBlade : FnScope ["self"] ["self"] (defScope sShopBlade) := ⟨rfl,rfl,rfl,by decide +kernel,rfl,by decide +kernel,by decide +kernel⟩
theorem ok_blade {f C : Addr} {fd : FuncData} (F : Fun K "blade" "Shop.blade" sShopBlade f fd) (T : ShopTxt K C) : FnOk P w K mg base CX0 1 f fd ["self"] (spBlade C) := by
  refine F.ok scBlade (fun vs H Q E h => ?_) (fun cdv A outer s H vs Q E hr h => ?_)
  · obtain ⟨x,b,ks,rfl,_⟩ := h
    rfl
  obtain ⟨x,b,ks,rfl,⟨dx,r,rs,h1,h2,h3⟩,q⟩ := h
  exact ⟨_,pss_one (ps_ret (pe_fld (pv 0) rfl)),_,rfl,x,C,dx,_,_,rfl,h1,T.cl,T.nB,flds_blade _ _,q⟩
theorem scKinds : FnScope ["self"] ["self"] (defScope sShopKinds) := ⟨rfl,rfl,rfl,by decide +kernel,rfl,by decide +kernel,by decide +kernel⟩
theorem ok_kinds {f C : Addr} {fd : FuncData} (F : Fun K "kinds" "Shop.kinds" sShopKinds f fd) (T : ShopTxt K C) (ml : mg "list" = none) : FnOk P w K mg base CX0 1 f fd ["self"] (spKinds C) := by
  refine F.ok scKinds (fun vs H Q E h => ?_) (fun cdv A outer s H vs Q E hr h => ?_)
  · obtain ⟨x,b,ks,rfl,_⟩ := h
    rfl
  obtain ⟨x,b,ks,rfl,⟨dx,r,rs,h1,h2,h3⟩,q⟩ := h
  refine ⟨_,pss_one (ps_ret (pe_callTy call_list_of rfl ml PyProof.Rows.boot_list (pa_cons (pe_fld (pv 0) rfl) pa_nil))),?_⟩
  exact ⟨_,rfl,x,C,dx,_,_,rfl,h1,T.cl,T.nK,flds_rows _ _,r,rs,rfl,.inr (SqT.of h2),fun l hl => q l rs hl h3⟩
end
section
variable {P : Program} {w : World} {K : PySem.W.Frag} {mg : Str → Option Value} {base : Heap}
theorem scTurned : FnScope ["kind"] ["kind"] (defScope sTurned) := ⟨rfl,rfl,rfl,by decide +kernel,rfl,by decide +kernel,by decide +kernel⟩
theorem ok_turned {f : Addr} {fd : FuncData} (F : Fun K "can_lie_turned" "can_lie_turned" sTurned f fd) : FnOk P w K mg base CX0 1 f fd ["kind"] (spTurned K) := by
  refine F.ok scTurned (fun vs H Q E h => ?_) (fun cdv A outer s H vs Q E hr h => ?_)
  · obtain ⟨a,k,rfl,_⟩ := h
    rfl
  obtain ⟨a,k,rfl,ha,q⟩ := h
  refine ⟨_,pss_one (ps_ret (pe_and (pe_ix ix_tup (pv 0) pe_int (fun _ _ => rfl)) (pe_one (pe_cmpR op_ne (pe_ix ix_tup (pv 0) pe_int (fun _ _ => rfl)) (pe_ix ix_tup (pv 0) pe_int (fun _ _ => rfl)) (nomark _))))),?_⟩
  refine ⟨_,rfl,a,_,4,_,rfl,rfl,SqT.of ha,rfl,_,rfl,?_⟩
  unfold turnable at q
  refine ite2 (fun c => ?_) (fun c => ?_)
  · rw [c,Bool.true_and] at q
    refine ⟨_,rfl,a,_,0,_,rfl,rfl,SqT.of ha,rfl,_,rfl,a,_,1,_,rfl,rfl,SqT.of ha,rfl,rfl,?_⟩
    rw [dec_int]
    rw [show (decide (k.w = k.h)) = (k.w == k.h) from rfl] at q
    exact q
  · have c' : k.tu = false := by simpa using c
    rw [c',Bool.false_and] at q
    exact q
theorem scLyings : FnScope ["self","told","number","kind"] ["self"] (defScope sShopLyings) := ⟨rfl,rfl,rfl,by decide +kernel,rfl,by decide +kernel,by decide +kernel⟩
theorem ok_lyings {f C : Addr} {fd : FuncData} (F : Fun K "lyings" "Shop.lyings" sShopLyings f fd) (T : ShopTxt K C) (me : mg "enumerate" = none) (DT : Dn P w K mg base "can_lie_turned" ["kind"] 1 (spTurned K)) :
    FnOk P w K mg base CX0 2 f fd ["self"] (spLyings C) := by
  refine F.ok scLyings (fun vs H Q E h => ?_) (fun cdv A outer s H vs Q E hr h => ?_)
  · obtain ⟨x,b,ks,rfl,_⟩ := h
    rfl
  obtain ⟨x,b,ks,rfl,⟨dx,r,rs,h1,h2,h3⟩,n8,q⟩ := h
  have nd := scLyings.nd
  refine ⟨_,pss_cons (ps_set (i := 1) nd rfl (Or.inl rfl) (pe_lst pa_nil))
    (pss_cons (ps_for PassesOwn.never rfl (pi_enum rfl me (pa_cons (pe_fld (pv 0) rfl) pa_nil)) (pg_tup rfl (pgs_cons (pg_name (i := 2) nd rfl (Or.inl rfl)) (pgs_cons (pg_name (i := 3) nd rfl (Or.inl rfl)) pgs_nil)))
      (pss_cons (ps_expr (pe_bm PySem.F.plainAttrs_list PySem.F.slot_list_append PySem.F.type_list_append mt_append (pv 1) (pa_cons (pe_tup (pa_cons (pv 2) (pa_cons pe_bl pa_nil))) pa_nil)))
      (pss_one (ps_if (pt_val (pe_cD DT hr rfl (pa_cons (pv 3) pa_nil)))
        (pss_one (ps_expr (pe_bm PySem.F.plainAttrs_list PySem.F.slot_list_append PySem.F.type_list_append mt_append (pv 1) (pa_cons (pe_tup (pa_cons (pv 2) (pa_cons pe_bl pa_nil))) pa_nil)))) pss_nil))))
    (pss_one (ps_ret (pv 1)))),?_⟩
  refine ⟨by decide,fun l hl => ?_⟩
  have s1 : Same H (upd H l (.lst [])) := Same.new hl
  have l1 : (upd H l (.lst ([] : List V))) l = some (.lst []) := upd_same
  generalize upd H l (.lst ([] : List V)) = H1 at s1 l1 ⊢
  have len3 := Paired.length h3
  have n8' : (100 : Nat) < sizeLine := by decide
  refine ⟨_,rfl,x,C,dx,_,_,rfl,s1 _ _ h1,T.cl,T.nK,flds_rows _ _,r,rs,rfl,.inr ⟨s1 _ _ h2,?_⟩⟩
  refine for_enum (f := HO.tup) (fun _ _ e => HO.tup.inj e) (xs := rs) (fun i σ H2 => ∃ v2 v3 ys,σ = [some (.ref x),some (.ref l),v2,v3] ∧ Same H H2 ∧ H2 l = some (.lst ys) ∧ Lys H2 ys (lyK (ks.take i) 0)) ⟨none,none,[],rfl,s1,l1,.nil⟩
    (fun i σ H2 ⟨_,_,_,_,s2,_⟩ => s2 _ _ h2) ?_ ?_
  · rintro i y p σ H2 hi hp ⟨v2,v3,ys,rfl,s2,l2,y2⟩
    obtain ⟨k,hk,a,rfl,ha⟩ := Paired.getR h3 hi
    have s3 : Same H (upd H2 p (.tup [.int i,.ref a])) := s2.trans (Same.new hp)
    have l3 : (upd H2 p (.tup [.int (i : Int),.ref a])) l = some (.lst ys) := by rw [upd_ne (ne_of_none l2 hp)]; exact l2
    have y3 : Lys (upd H2 p (.tup [.int (i : Int),.ref a])) ys (lyK (ks.take i) 0) := Lys.keep (fun c xs e => by rw [upd_ne (ne_of_none e hp)]; exact e) y2
    have p3 : (upd H2 p (.tup [.int (i : Int),.ref a])) p = some (.tup [.int (i : Int),.ref a]) := upd_same
    generalize upd H2 p (.tup [.int (i : Int),.ref a]) = H3 at s3 l3 y3 p3 ⊢
    have hli : i < ks.length := (List.getElem?_eq_some_iff.mp hk).1
    have ylen : ys.length ≤ 16 := by
      have e1 := Paired.length y2
      have e2 := lyK_len (ks.take i) 0
      rw [List.length_take] at e2
      omega
    have tk1 : lyK (ks.take (i + 1)) 0 = lyK (ks.take i) 0 ++ lyT i k := by
      rw [List.take_add_one,hk]
      show lyK (ks.take i ++ [k]) 0 = _
      rw [lyK_snoc,List.length_take,Nat.zero_add,Nat.min_eq_left (Nat.le_of_lt hli)]
    refine ⟨p,_,rfl,SqT.of p3,rfl,_,_,rfl,_,_,rfl,rfl,?_⟩
    refine ⟨_,rfl,.inl ⟨rfl,_,SqL.of l3⟩,_,rfl,(by show 2 ≤ sizeLine; decide),fun t ht => ?_⟩
    have lt : l ≠ t := ne_of_none l3 ht
    refine ⟨l,ys,_,rfl,rfl,(by rw [upd_ne lt]; exact l3),(by omega),?_⟩
    obtain ⟨s4,l4,y4⟩ := ly_put (b := false) hl s3 l3 y3 ht
    generalize upd (upd H3 t (.tup [.int (i : Int),.bl false])) l (.lst (ys ++ [.ref t])) = H4 at s4 l4 y4 ⊢
    refine ⟨_,rfl,a,k,rfl,s4 _ _ ha,_,rfl,?_⟩
    refine ite2 (fun c => ?_) (fun c => ?_)
    · refine ⟨_,rfl,.inl ⟨rfl,_,SqL.of l4⟩,_,rfl,(by show 2 ≤ sizeLine; decide),fun t' ht' => ?_⟩
      have lt' : l ≠ t' := ne_of_none l4 ht'
      refine ⟨l,_,_,rfl,rfl,(by rw [upd_ne lt']; exact l4),(by rw [List.length_append]; show ys.length + 1 < sizeLine; omega),?_⟩
      obtain ⟨s5,l5,y5⟩ := ly_put (b := true) hl s4 l4 y4 ht'
      refine ⟨_,_,_,rfl,s5,l5,?_⟩
      rw [tk1]
      unfold lyT
      rw [if_pos c]
      rw [show lyK (ks.take i) 0 ++ [(i,false),(i,true)] = lyK (ks.take i) 0 ++ [(i,false)] ++ [(i,true)] by simp]
      exact y5
    · refine ⟨_,_,_,rfl,s4,l4,?_⟩
      rw [tk1]
      unfold lyT
      rw [if_neg c]
      exact y4
  · rintro σ H2 ⟨v2,v3,ys,rfl,s2,l2,y2⟩
    rw [len3,List.take_length] at y2
    exact ⟨_,rfl,q l ys H2 hl l2 y2 s2⟩
theorem scIsLying : FnScope ["self","kind","turned"] ["self","kind","turned"] (defScope sShopIsLying) := ⟨rfl,rfl,rfl,by decide +kernel,rfl,by decide +kernel,by decide +kernel⟩
theorem ok_islying {f C : Addr} {fd : FuncData} (F : Fun K "is_lying" "Shop.is_lying" sShopIsLying f fd) (B : Blt mg) (T : ShopTxt K C) (DW : Dn P w K mg base "is_whole" ["thing","least"] 1 (spWhole K)) (DU : Dn P w K mg base "is_truth" ["thing"] 1 (spTruth K)) (DT : Dn P w K mg base "can_lie_turned" ["kind"] 1 (spTurned K)) :
    FnOk P w K mg base CX0 2 f fd ["self","kind","turned"] (spIsLying K C) := by
  refine F.ok scIsLying (fun vs H Q E h => ?_) (fun cdv A outer s H vs Q E hr h => ?_)
  · obtain ⟨s,b,ks,x,t,T0,U,rfl,_⟩ := h
    rfl
  obtain ⟨s,b,ks,x,t,T0,U,rfl,⟨dx,r,rs,h1,h2,h3⟩,tx,tt,q⟩ := h
  have len3 := Paired.length h3
  refine ⟨_,pss_cons (ps_if (PW.pt (pw_or (pt_not (pt_val (pe_cD DW hr rfl (pa_cons (pv 1) (pa_cons pe_int pa_nil))))) (pw_or (pt_cmpR op_ge (pv 1) (pe_callB call_len_seq rfl B.len PySem.boot_len (pa_cons (pe_fld (pv 0) rfl) pa_nil)) (nomark _))
      (pw_or1 (pt_not (pt_val (pe_cD DU hr rfl (pa_cons (pv 2) pa_nil)))))))) (pss_one (ps_ret pe_bl)) pss_nil)
    (pss_one (ps_ret (pe_or (pe_not (pv 2)) (pe_one (pe_cD DT hr rfl (pa_cons (pe_ix ix_tup (pe_fld (pv 0) rfl) (pv 1) (fun _ _ => rfl)) pa_nil)))))),?_⟩
  refine ⟨_,rfl,x,_,0,rfl,tx,_,rfl,?_⟩
  cases hw : whole x 0 with
  | false =>
    have e : isLy ks x t = false := by
      cases x with
      | int i =>
        have h0 : decide (0 ≤ i) = false := hw
        cases t <;> first | rfl | (show (decide (0 ≤ i) && _) = false; rw [h0,Bool.false_and])
      | _ => rfl
    rw [e] at q
    exact iteT (iteT q)
  | true =>
    have ex : ∃ i,x = .int i ∧ 0 ≤ i := by
      cases x with
      | int i => exact ⟨i,rfl,of_decide_eq_true hw⟩
      | _ => cases hw
    obtain ⟨i,rfl,i0⟩ := ex
    refine iteF ⟨_,rfl,_,rfl,s,C,dx,_,_,rfl,h1,T.cl,T.nK,flds_rows _ _,r,rs,rfl,.inr (SqT.of h2),i,_,rfl,rfl,_,rfl,?_⟩
    by_cases hi : (rs.length : Int) ≤ i
    · rw [decide_eq_true hi]
      have e : isLy ks (.int i) t = false := by
        have hn : ks[i.toNat]? = none := List.getElem?_eq_none (by omega)
        cases t <;> first | rfl | (show (decide (0 ≤ i) && match ks[i.toNat]? with | some k => _ | none => false) = false; rw [hn,Bool.and_false])
      rw [e] at q
      exact iteT (iteT q)
    · rw [decide_eq_false hi]
      refine iteF ⟨_,rfl,t,_,rfl,tt,_,rfl,?_⟩
      have hlt : i.toNat < ks.length := by omega
      cases hb : isBl t with
      | false =>
        have e : isLy ks (.int i) t = false := by cases t <;> first | rfl | cases hb
        rw [e] at q
        exact iteT q
      | true =>
        have ex : ∃ c,t = .bl c := by cases t <;> first | exact ⟨_,rfl⟩ | cases hb
        obtain ⟨c,rfl⟩ := ex
        obtain ⟨y,hy⟩ : ∃ y,rs[i.toNat]? = some y := ⟨rs[i.toNat]'(by omega),by simp [show i.toNat < rs.length by omega]⟩
        obtain ⟨k,hk,a,rfl,ha⟩ := Paired.getR h3 hy
        have e : isLy ks (.int i) (.bl c) = (!c || turnable k) := by
          show (decide (0 ≤ i) && match ks[i.toNat]? with | some k => (!c || turnable k) | none => false) = _
          rw [hk,decide_eq_true i0,Bool.true_and]
        rw [e] at q
        refine iteF ⟨_,rfl,c,rfl,_,rfl,?_⟩
        refine ite2 (fun d => ?_) (fun d => ?_)
        · rw [d,Bool.true_or] at q
          exact q
        · have d' : (!c) = false := by simpa using d
          rw [d',Bool.false_or] at q
          have at' : atI rs i = some (.ref a) := by
            have en : ixN rs.length i = some i.toNat := by
              unfold ixN
              rw [if_pos i0,if_pos (by omega)]
            unfold atI
            rw [en]
            exact hy
          exact ⟨_,rfl,s,C,dx,_,_,rfl,h1,T.cl,T.nK,flds_rows _ _,_,rfl,r,rs,i,_,rfl,rfl,SqT.of h2,at',a,k,rfl,ha,q⟩
end
def sidesV (k : Kd) (c : Bool) : List V := if c = true then [.int k.h,.int k.w] else [.int k.w,.int k.h]
def spSides (K : PySem.W.Frag) (C NL : Addr) : Sp := fun vs H Q E => ∃ (s : Addr) (b : Int) (ks : List Kd) (x t : V) (T U : String),vs = [.ref s,x,t] ∧ ShopAt C H s b ks ∧ Ty K H x T ∧ Ty K H t U ∧
  (isLy ks x t = false → E (.ref NL) none H) ∧ ∀ (i : Int) (c : Bool) (k : Kd) (p : Addr),x = .int i → t = .bl c → ks[i.toNat]? = some k → isLy ks x t = true → H p = none → Q (.ref p) (upd H p (.tup (sidesV k c)))
theorem isLy_true {ks : List Kd} {x t : V} (h : isLy ks x t = true) : ∃ (i : Int) (c : Bool) (k : Kd),x = .int i ∧ t = .bl c ∧ 0 ≤ i ∧ ks[i.toNat]? = some k := by
  unfold isLy at h
  split at h
  · rename_i i c
    rw [Bool.and_eq_true] at h
    obtain ⟨h1,h2⟩ := h
    split at h2
    · rename_i k hk
      exact ⟨i,c,k,rfl,rfl,of_decide_eq_true h1,hk⟩
    · cases h2
  · cases h
theorem atI_of {rs : List V} {i : Int} {v : V} (i0 : 0 ≤ i) (h : rs[i.toNat]? = some v) : atI rs i = some v := by
  have en : ixN rs.length i = some i.toNat := by
    unfold ixN
    have := (List.getElem?_eq_some_iff.mp h).1
    rw [if_pos i0,if_pos (by omega)]
  unfold atI
  rw [en]
  exact h
section
variable {P : Program} {w : World} {K : PySem.W.Frag} {mg : Str → Option Value} {base : Heap}
theorem scSides : FnScope ["self","kind","turned","row"] ["self","kind","turned"] (defScope sShopSides) := ⟨rfl,rfl,rfl,by decide +kernel,rfl,by decide +kernel,by decide +kernel⟩
theorem ok_sides {f C NL : Addr} {fd : FuncData} (F : Fun K "sides" "Shop.sides" sShopSides f fd) (T : ShopTxt K C) (ML : Mn P w K mg base C "is_lying" ["self","kind","turned"] 2 (spIsLying K C)) (mn : mg "NoLying" = some (.ref NL)) (ec : ExcC K NL) :
    FnOk P w K mg base (CXx P w) 3 f fd ["self","kind","turned"] (spSides K C NL) := by
  refine F.okX scSides (fun vs H Q E h => ?_) (fun cdv A outer s H vs Q E hr h => ?_)
  · obtain ⟨s,b,ks,x,t,T0,U,rfl,_⟩ := h
    rfl
  obtain ⟨s,b,ks,x,t,T0,U,rfl,S,tx,tt,he,hq⟩ := h
  have nd := scSides.nd
  refine ⟨_,pss_cons (ps_if (pt_not (pt_val (pe_mD (pv 0) T.cl ML hr (pa_cons (pv 1) (pa_cons (pv 2) pa_nil))))) (pss_one (ps_raise (R := fun c H => E c none H) rfl rfl mn ec (pa_cons pe_str pa_nil) raise_ends)) pss_nil)
    (pss_cons (ps_set (i := 3) nd rfl (Or.inl rfl) (pe_ix ix_tup (pe_fld (pv 0) rfl) (pv 1) (fun _ _ => rfl)))
    (pss_cons (ps_if (pt_val (pv 2)) (pss_one (ps_ret (pe_tup (pa_cons (pe_ix ix_tup (pv 3) pe_int (fun _ _ => rfl)) (pa_cons (pe_ix ix_tup (pv 3) pe_int (fun _ _ => rfl)) pa_nil))))) pss_nil)
    (pss_one (ps_ret (pe_tup (pa_cons (pe_ix ix_tup (pv 3) pe_int (fun _ _ => rfl)) (pa_cons (pe_ix ix_tup (pv 3) pe_int (fun _ _ => rfl)) pa_nil))))))),?_⟩
  obtain ⟨dx,r,rs,h1,h2,h3⟩ := id S
  refine ⟨_,rfl,s,dx,_,rfl,h1,flds_no _ _ (by decide +kernel) (by decide +kernel),_,rfl,_,rfl,s,b,ks,x,t,T0,U,rfl,S,tx,tt,_,rfl,?_⟩
  cases hl : isLy ks x t with
  | false =>
    refine iteT ?_
    exact ⟨(by show 1 ≤ sizeLine; decide),he hl⟩
  | true =>
    obtain ⟨i,c,k,rfl,rfl,i0,hk⟩ := isLy_true hl
    have len3 := Paired.length h3
    have hik := (List.getElem?_eq_some_iff.mp hk).1
    obtain ⟨y,hy⟩ : ∃ y,rs[i.toNat]? = some y := ⟨rs[i.toNat]'(by omega),by simp [show i.toNat < rs.length by omega]⟩
    obtain ⟨k',hk',a,rfl,ha⟩ := Paired.getR h3 hy
    rw [hk] at hk'
    obtain rfl := Option.some.inj hk'
    refine iteF ?_
    refine ⟨_,rfl,s,C,dx,_,_,rfl,h1,T.cl,T.nK,flds_rows _ _,_,rfl,r,rs,i,_,rfl,rfl,SqT.of h2,atI_of i0 hy,?_⟩
    refine ⟨_,rfl,_,rfl,?_⟩
    cases c with
    | true =>
      refine iteT ?_
      refine ⟨_,rfl,a,_,1,_,rfl,rfl,SqT.of ha,rfl,_,rfl,a,_,0,_,rfl,rfl,SqT.of ha,rfl,(by show 2 ≤ sizeLine; decide),fun p hp => ?_⟩
      exact hq i true k p rfl rfl hk hl hp
    | false =>
      refine iteF ?_
      refine ⟨_,rfl,a,_,0,_,rfl,rfl,SqT.of ha,rfl,_,rfl,a,_,1,_,rfl,rfl,SqT.of ha,rfl,(by show 2 ≤ sizeLine; decide),fun p hp => ?_⟩
      exact hq i false k p rfl rfl hk hl hp
end
section
variable {P : Program} {w : World} {K : PySem.W.Frag} {mg : Str → Option Value} {base : Heap}
def sd1 (k : Kd) (c : Bool) : Int := if c = true then k.h else k.w
def sd2 (k : Kd) (c : Bool) : Int := if c = true then k.w else k.h
theorem sides_eq (k : Kd) (c : Bool) : sidesV k c = [.int (sd1 k c),.int (sd2 k c)] := by cases c <;> rfl
def fits (k : Kd) (c : Bool) (w h : Int) : Bool := decide (sd1 k c ≤ w) && decide (sd2 k c ≤ h)
def spCP : Sp := fun vs H Q _ => ∃ (w h : Int),vs = [.int w,.int h] ∧ 1 ≤ w ∧ 1 ≤ h ∧ Q .non H
def spCS : Sp := fun vs H Q _ => ∃ (w h m : Int),vs = [.int w,.int h,.int m] ∧ w ≤ m ∧ h ≤ m ∧ Q .non H
def spLies (C : Addr) : Sp := fun vs H Q _ => ∃ (s : Addr) (b : Int) (ks : List Kd) (w h i : Int) (c : Bool) (k : Kd),vs = [.ref s,.int w,.int h,.int i,.bl c,.int 0,.int 0] ∧ ShopAt C H s b ks ∧ isLy ks (.int i) (.bl c) = true ∧ ks[i.toNat]? = some k ∧ ∀ H',Same H H' → Q (.bl (fits k c w h)) H'
theorem sccplate : FnScope ["wide","high"] ["wide","high"] (defScope sCheckPlate) := ⟨rfl,rfl,rfl,by decide +kernel,rfl,by decide +kernel,by decide +kernel⟩
theorem ok_cplate {f : Addr} {fd : FuncData} (F : Fun K "check_plate" "check_plate" sCheckPlate f fd) (DW : Dn P w K mg base "is_whole" ["thing","least"] 1 (spWhole K)) : FnOk P w K mg base CX0 2 f fd ["wide","high"] (spCP) := by
  refine F.ok sccplate (fun vs H Q E h => ?_) (fun cdv A outer s H vs Q E hr h => ?_)
  · obtain ⟨w1,h1,rfl,_⟩ := h
    rfl
  obtain ⟨w1,h1,rfl,hw,hh,q⟩ := h
  have nd := sccplate.nd
  refine ⟨_,(@pss_one _ _ _ (@ps_if _ _ _ _ _ _ _ _ (PW.pt (pw_or (@pt_not _ _ _ _ (@pt_val _ _ _ (@pe_cD _ _ _ _ _ _ _ _ _ _ DW hr rfl (@pa_cons _ _ _ _ _ (pv 0) (@pa_cons _ _ _ _ _ pe_int pa_nil rfl) rfl) (by decide) rfl rfl) (by intro _; rfl))) (pw_or1 (@pt_not _ _ _ _ (@pt_val _ _ _ (@pe_cD _ _ _ _ _ _ _ _ _ _ DW hr rfl (@pa_cons _ _ _ _ _ (pv 1) (@pa_cons _ _ _ _ _ pe_int pa_nil rfl) rfl) (by decide) rfl rfl) (by intro _; rfl)))))) (@pss_one _ _ _ ps_never) pss_nil)),?_⟩
  refine ⟨_,rfl,.int w1,"int",1,rfl,Ty.int,_,rfl,?_⟩
  rw [show whole (.int w1) 1 = true from decide_eq_true hw]
  refine iteF ⟨_,rfl,.int h1,"int",1,rfl,Ty.int,_,rfl,?_⟩
  rw [show whole (.int h1) 1 = true from decide_eq_true hh]
  exact iteF q
theorem sccsides : FnScope ["wide","high","most"] ["wide","high","most"] (defScope sCheckSides) := ⟨rfl,rfl,rfl,by decide +kernel,rfl,by decide +kernel,by decide +kernel⟩
theorem ok_csides {f : Addr} {fd : FuncData} (F : Fun K "check_sides" "check_sides" sCheckSides f fd)  : FnOk P w K mg base CX0 1 f fd ["wide","high","most"] (spCS) := by
  refine F.ok sccsides (fun vs H Q E h => ?_) (fun cdv A outer s H vs Q E hr h => ?_)
  · obtain ⟨w1,h1,m,rfl,_⟩ := h
    rfl
  obtain ⟨w1,h1,m,rfl,hw,hh,q⟩ := h
  have nd := sccsides.nd
  refine ⟨_,(@pss_one _ _ _ (@ps_if _ _ _ _ _ _ _ _ (PW.pt (pw_or (@pt_cmpR _ _ _ _ _ _ _ _ op_gt (pv 0) (pv 2) (nomark _)) (pw_or1 (@pt_cmpR _ _ _ _ _ _ _ _ op_gt (pv 1) (pv 2) (nomark _))))) (@pss_one _ _ _ ps_never) pss_nil)),?_⟩
  refine ⟨_,rfl,_,rfl,_,_,rfl,rfl,_,rfl,?_⟩
  rw [decide_eq_false (show ¬ m < w1 by omega)]
  refine iteF ⟨_,rfl,_,rfl,_,_,rfl,rfl,_,rfl,?_⟩
  rw [decide_eq_false (show ¬ m < h1 by omega)]
  exact iteF q
theorem sclies : FnScope ["shop","wide","high","kind","turned","x","y","piece_wide","piece_high"] ["shop","wide","high","kind","turned","x","y"] (defScope sLiesIn) := ⟨rfl,rfl,rfl,by decide +kernel,rfl,by decide +kernel,by decide +kernel⟩
theorem ok_lies {f C NL : Addr} {fd : FuncData} (F : Fun K "lies_in" "lies_in" sLiesIn f fd) (T : ShopTxt K C) (DW : Dn P w K mg base "is_whole" ["thing","least"] 1 (spWhole K)) (MI : Mn P w K mg base C "is_lying" ["self","kind","turned"] 2 (spIsLying K C)) (MS : MnX P w K mg base C "sides" ["self","kind","turned"] 3 (spSides K C NL)) : FnOk P w K mg base CX0 4 f fd ["shop","wide","high","kind","turned","x","y"] (spLies C) := by
  refine F.ok sclies (fun vs H Q E h => ?_) (fun cdv A outer s H vs Q E hr h => ?_)
  · obtain ⟨s,b,ks,w,h,i,c,k,rfl,_⟩ := h
    rfl
  obtain ⟨s,b,ks,w,h,i,c,k,rfl,S,ly,hk,q⟩ := h
  have nd := sclies.nd
  have hr1 := hr.mono (show 1 ≤ 3 by decide)
  have hr2 := hr.mono (show 2 ≤ 3 by decide)
  refine ⟨_,(@pss_cons _ _ _ _ _ (@ps_if _ _ _ _ _ _ _ _ (PW.pt (pw_or (@pt_not _ _ _ _ (@pt_val _ _ _ (pe_mD (pv 0) T.cl MI hr2 (@pa_cons _ _ _ _ _ (pv 3) (@pa_cons _ _ _ _ _ (pv 4) pa_nil rfl) rfl)) (by intro _; rfl))) (pw_or (@pt_not _ _ _ _ (@pt_val _ _ _ (@pe_cD _ _ _ _ _ _ _ _ _ _ DW hr1 rfl (@pa_cons _ _ _ _ _ (pv 5) (@pa_cons _ _ _ _ _ pe_int pa_nil rfl) rfl) (by decide) rfl rfl) (by intro _; rfl))) (pw_or1 (@pt_not _ _ _ _ (@pt_val _ _ _ (@pe_cD _ _ _ _ _ _ _ _ _ _ DW hr1 rfl (@pa_cons _ _ _ _ _ (pv 6) (@pa_cons _ _ _ _ _ pe_int pa_nil rfl) rfl) (by decide) rfl rfl) (by intro _; rfl))))))) (@pss_one _ _ _ (@ps_ret _ _ _ _ pe_bl)) pss_nil) (@pss_cons _ _ _ _ _ (@ps_asg _ _ _ _ _ _ (pe_mDX (pv 0) T.cl MS hr (@pa_cons _ _ _ _ _ (pv 3) (@pa_cons _ _ _ _ _ (pv 4) pa_nil rfl) rfl)) (pg_tup rfl (pgs_cons (pg_name (i := 7) nd rfl (Or.inl rfl)) (pgs_cons (pg_name (i := 8) nd rfl (Or.inl rfl)) pgs_nil))) rfl rfl rfl) (@pss_one _ _ _ (@ps_ret _ _ _ _ (pe_and (@pe_cmpR _ _ _ _ _ _ _ _ op_le (@pe_op _ _ _ _ _ _ _ _ op_add (pv 5) (pv 7)) (pv 1) (nomark _)) (pe_one (@pe_cmpR _ _ _ _ _ _ _ _ op_le (@pe_op _ _ _ _ _ _ _ _ op_add (pv 6) (pv 8)) (pv 2) (nomark _)))))))),?_⟩
  obtain ⟨dx,r,rs,h1,h2,h3⟩ := id S
  refine ⟨_,rfl,s,dx,_,rfl,h1,flds_no _ _ (by decide +kernel) (by decide +kernel),_,rfl,_,rfl,s,b,ks,.int i,.bl c,"int","bool",rfl,S,Ty.int,Ty.bl,_,rfl,?_⟩
  rw [ly]
  refine iteF ⟨_,rfl,.int 0,"int",0,rfl,Ty.int,_,rfl,iteF ⟨_,rfl,.int 0,"int",0,rfl,Ty.int,_,rfl,iteF ?_⟩⟩
  refine ⟨_, rfl, s, dx, _, rfl, h1, flds_no _ _ (by decide +kernel) (by decide +kernel), _, rfl, _, rfl, s, b, ks, .int i, .bl c, "int", "bool", rfl, S, Ty.int, Ty.bl, fun z => absurd z (by rw [ly]; decide), fun i' c' k' p e1 e2 hk' _ hp => ?_⟩
  cases e1
  cases e2
  rw [hk] at hk'
  cases hk'
  rw [sides_eq]
  have q1 := q _ (Same.new hp (o := .tup [.int (sd1 k c),.int (sd2 k c)]))
  refine ⟨p,_,rfl,SqT.of upd_same,rfl,_,_,rfl,_,_,rfl,rfl,?_⟩
  refine ⟨_,rfl,_,rfl,_,_,rfl,rfl,_,rfl,_,_,rfl,rfl,_,rfl,?_⟩
  unfold fits at q1
  refine ite2 (fun cc => ?_) (fun cc => ?_)
  · refine ⟨_,rfl,_,rfl,_,_,rfl,rfl,_,rfl,_,_,rfl,rfl,?_⟩
    rw [Int.zero_add] at cc ⊢
    rw [cc] at q1
    exact q1
  · rw [Int.zero_add] at cc
    rw [show decide (sd1 k c ≤ w) = false by simpa using cc] at q1
    exact q1
end
section
variable {P : Program} {w : World} {K : PySem.W.Frag} {mg : Str → Option Value} {base : Heap}
theorem leS2 {a b c : St} (h1 : leS a b) (h2 : leS b c) : leS a c := ⟨h2.1.trans h1.1,fun i v e => h2.2 i v (h1.2 i v e)⟩
theorem lyT_mem {i : Nat} {k : Kd} {q : Nat × Bool} (h : q ∈ lyT i k) : q.1 = i ∧ (q.2 = false ∨ turnable k = true) := by
  unfold lyT at h
  rcases List.mem_cons.mp h with rfl | h
  · exact ⟨rfl,.inl rfl⟩
  · by_cases c : turnable k = true
    · rw [if_pos c] at h
      rw [List.mem_singleton.mp h]
      exact ⟨rfl,.inr c⟩
    · rw [if_neg c] at h
      simp at h
theorem lyK_mem : ∀ {ks : List Kd} {i : Nat} {q : Nat × Bool},q ∈ lyK ks i → i ≤ q.1 ∧ ∃ k,ks[q.1 - i]? = some k ∧ (q.2 = false ∨ turnable k = true)
  | [],_,_,h => by simp [lyK] at h
  | k :: r,i,q,h => by
    rcases List.mem_append.mp h with h | h
    · obtain ⟨h1,h2⟩ := lyT_mem h
      exact ⟨by omega,k,by rw [h1,Nat.sub_self]; rfl,h2⟩
    · obtain ⟨h1,k',h2,h3⟩ := lyK_mem h
      refine ⟨by omega,k',?_,h3⟩
      rw [show q.1 - i = (q.1 - (i + 1)) + 1 by omega]
      exact h2
theorem ly_true {ks : List Kd} {q : Nat × Bool} (h : q ∈ lyK ks 0) : isLy ks (.int q.1) (.bl q.2) = true ∧ ∃ k,ks[q.1]? = some k := by
  obtain ⟨_,k,h2,h3⟩ := lyK_mem h
  rw [Nat.sub_zero] at h2
  refine ⟨?_,k,h2⟩
  unfold isLy
  simp only [Int.toNat_natCast,h2,Bool.and_eq_true]
  refine ⟨decide_eq_true (by omega),?_⟩
  rcases h3 with e | e
  · rw [e]; rfl
  · rw [e,Bool.or_true]
def fitP (ks : List Kd) (w h : Int) (q : Nat × Bool) : Bool := match ks[q.1]? with
  | some k => fits k q.2 w h
  | none => false
def spLyIn (C : Addr) : Sp := fun vs H Q _ => ∃ (s t : Addr) (b : Int) (ks : List Kd) (w h : Int),vs = [.ref s,.ref t] ∧ ShopAt C H s b ks ∧ ks.length ≤ 8 ∧ H t = some (.tup [.int w,.int h]) ∧
  ∀ (l : Addr) (ys : List V) (H' : Hp),H l = none → H' l = some (.lst ys) → Lys H' ys ((lyK ks 0).filter (fitP ks w h)) → Same H H' → Q (.ref l) H'
theorem sclyin : FnScope ["shop","part","wide","high"] ["shop","part"] (defScope sLyingsIn) := ⟨rfl,rfl,rfl,by decide +kernel,rfl,by decide +kernel,by decide +kernel⟩
theorem ok_lyin {f C : Addr} {fd : FuncData} (F : Fun K "lyings_in" "lyings_in" sLyingsIn f fd) (T : ShopTxt K C) (ML : Mn P w K mg base C "lyings" ["self"] 2 (spLyings C)) (DLI : Dn P w K mg base "lies_in" ["shop","wide","high","kind","turned","x","y"] 4 (spLies C)) : FnOk P w K mg base CX0 5 f fd ["shop","part"] (spLyIn C) := by
  refine F.ok sclyin (fun vs H Q E h => ?_) (fun cdv A outer s H vs Q E hr h => ?_)
  · obtain ⟨s,t,b,ks,w,h,rfl,_⟩ := h
    rfl
  obtain ⟨s,t,b,ks,w,h,rfl,S,k8,ht,q⟩ := h
  have nd := sclyin.nd
  have hr2 := hr.mono (show 2 ≤ 4 by decide)
  refine ⟨_,(@pss_cons _ _ _ _ _ (@ps_asg _ _ _ _ _ _ (pv 1) (pg_tup rfl (pgs_cons (pg_name (i := 2) nd rfl (Or.inr rfl)) (pgs_cons (pg_name (i := 3) nd rfl (Or.inr rfl)) pgs_nil))) rfl rfl rfl) (@pss_one _ _ _ (@ps_ret _ _ _ _ (pe_comp (own := ["kind","turned"]) (cs := ["shop","wide","high"]) (cap := [0,2,3]) rfl (pi_list (pe_mD0 (pv 0) T.cl ML hr2)) (compOk_of (sc := defScope sLyingsIn) (N := ["shop","part","wide","high"]) rfl rfl (by decide +kernel)) (fun _ _ _ _ _ => pg_two K rfl rfl (by show List.Nodup (["kind","turned","shop","wide","high"] : List Str) ; decide +kernel) rfl rfl rfl rfl) (fun _ _ _ _ _ => (pifs_one (@pt_val _ _ _ (@pe_cD _ _ _ _ _ _ _ _ _ _ DLI hr rfl (@pa_cons _ _ _ _ _ (pv 2) (@pa_cons _ _ _ _ _ (pv 3) (@pa_cons _ _ _ _ _ (pv 4) (@pa_cons _ _ _ _ _ (pv 0) (@pa_cons _ _ _ _ _ (pv 1) (@pa_cons _ _ _ _ _ pe_int (@pa_cons _ _ _ _ _ pe_int pa_nil rfl) rfl) rfl) rfl) rfl) rfl) rfl) (by decide) rfl rfl) (by intro _; rfl)))) (fun _ _ _ _ _ => (@pe_tup _ _ _ _ _ (@pa_cons _ _ _ _ _ (pv 0) (@pa_cons _ _ _ _ _ (pv 1) pa_nil rfl) rfl))))))),?_⟩
  have sz : (100 : Nat) < sizeLine := by decide
  obtain ⟨dx,r,rs,h1,h2,h3⟩ := id S
  refine ⟨_,rfl,t,_,rfl,SqT.of ht,rfl,_,_,rfl,_,_,rfl,rfl,?_⟩
  refine ⟨_,rfl,s,dx,_,rfl,h1,flds_no _ _ (by decide +kernel) (by decide +kernel),s,b,ks,rfl,S,k8,fun l1 ys H1 hl1 l1' ly s1 => ?_⟩
  have lyl := lyK_len ks 0
  have ylen := Paired.length ly
  refine ⟨l1,rfl,⟨_,SqL.of l1'⟩,(comp_seq (K := K) (.inl l1') (fun i zs H4 => Same H1 H4 ∧ zs.length ≤ i ∧ Lys H4 zs (((lyK ks 0).take i).filter (fitP ks w h))) (fun i zs H4 _ ⟨s4,_⟩ o e => s4 _ _ e) ⟨Same.refl _,Nat.le_refl _,.nil⟩ ?_ ?_).1 l1'⟩
  · rintro i y zs H4 hi ⟨s4,zl,lz⟩
    have hin : i < ys.length := (List.getElem?_eq_some_iff.mp hi).1
    obtain ⟨qq,hq,a,rfl,ha⟩ := Paired.getR ly hi
    obtain ⟨li,k,hk⟩ := ly_true (List.mem_of_getElem? hq)
    refine ⟨by omega,a,_,rfl,SqT.of (s4 _ _ ha),rfl,_,_,rfl,_,_,rfl,rfl,?_⟩
    refine ⟨leS2 (leS.set rfl) (leS.set rfl),?_⟩
    have S4 : ShopAt C H4 s b ks := S.keep (fun c o e => s4 _ _ (s1 _ _ e)) (fun c C' d fs e => s4 _ _ (s1 _ _ e))
    refine ⟨_,rfl,_,rfl,_,rfl,_,rfl,_,rfl,s,b,ks,w,h,(qq.1 : Int),qq.2,k,rfl,S4,li,(by rw [Int.toNat_natCast]; exact hk),fun H5 s5 => ⟨_,rfl,?_⟩⟩
    have st : ((lyK ks 0).take (i + 1)).filter (fitP ks w h) = ((lyK ks 0).take i).filter (fitP ks w h) ++ (if fits k qq.2 w h = true then [qq] else []) := by
      rw [List.take_add_one,hq,List.filter_append]
      simp only [Option.toList_some,List.filter_cons,List.filter_nil]
      rw [show fitP ks w h qq = fits k qq.2 w h by unfold fitP; rw [hk]]
    dsimp only
    refine ite2 (fun cc => ?_) (fun cc => ?_)
    · rw [cc,if_pos rfl] at st
      refine ⟨_,rfl,_,rfl,(by show 2 ≤ sizeLine; decide),fun p hp => Nx.of hin ⟨(s4.trans s5).trans (Same.new hp),by rw [List.length_append]; show _ + 1 ≤ _; omega,?_⟩⟩
      rw [st]
      refine Paired.snoc (Lys.keep (fun c o e => ?_) lz) ⟨p,rfl,upd_same⟩
      have e5 := s5 _ _ e
      rw [upd_ne (ne_of_none e5 hp)]; exact e5
    · rw [if_neg cc,List.append_nil] at st
      refine Nx.of hin ⟨s4.trans s5,by omega,?_⟩
      rw [st]
      exact Lys.keep (fun c o e => s5 _ _ e) lz
  · rintro zs H4 ⟨s4,zl,lz⟩
    rw [ylen,List.take_length] at lz
    refine ⟨by omega,fun p hp => q p zs _ ((s1.trans s4).free hp) upd_same (Lys.keep (fun c o e => ?_) lz) ((s1.trans s4).trans (Same.new hp))⟩
    rw [upd_ne (ne_of_none e hp)]; exact e
end
def PtAt (H : Hp) (v : V) (p : Int × Int) : Prop := ∃ q,v = .ref q ∧ H q = some (.tup [.int p.1,.int p.2])
theorem PtAt.keep {H H' : Hp} (s : Same H H') {v : V} {p : Int × Int} (h : PtAt H v p) : PtAt H' v p := by
  obtain ⟨q,e,h⟩ := h
  exact ⟨q,e,s _ _ h⟩
def rowP (a : Int) (n : Nat) : List (Int × Int) := (List.range n).map fun (c : Nat) => (a,1 + (c : Int))
def partsL (m n : Nat) : List (Int × Int) := (List.range m).flatMap fun (a : Nat) => rowP (1 + (a : Int)) n
theorem rowP_len (a : Int) (n : Nat) : (rowP a n).length = n := by unfold rowP; rw [List.length_map,List.length_range]
theorem partsL_succ (m n : Nat) : partsL (m + 1) n = partsL m n ++ rowP (1 + (m : Int)) n := by
  unfold partsL
  rw [List.range_succ,List.flatMap_append]
  simp
theorem rowP_succ (a : Int) (n : Nat) : rowP a (n + 1) = rowP a n ++ [(a,1 + (n : Int))] := by
  unfold rowP
  rw [List.range_succ,List.map_append]
  rfl
theorem partsL_len (m n : Nat) : (partsL m n).length = m * n := by
  induction m with
  | zero => simp [partsL]
  | succ m ih => rw [partsL_succ,List.length_append,ih,rowP_len,Nat.succ_mul]
section
variable {P : Program} {w : World} {K : PySem.W.Frag} {mg : Str → Option Value} {base : Heap}
def spParts : Sp := fun vs H Q _ => ∃ (m n : Nat),vs = [.int m,.int n] ∧ m ≤ 16 ∧ n ≤ 16 ∧ ∀ (l : Addr) (ys : List V) (H' : Hp),H' l = some (.lst ys) → Paired (PtAt H') ys (partsL m n) → Same H H' → Q (.ref l) H'
theorem scparts : FnScope ["wide","high"] ["wide","high"] (defScope sPartsUpTo) := ⟨rfl,rfl,rfl,by decide +kernel,rfl,by decide +kernel,by decide +kernel⟩
theorem ok_parts {f : Addr} {fd : FuncData} (F : Fun K "parts_up_to" "parts_up_to" sPartsUpTo f fd) (B : Blt mg) : FnOk P w K mg base CX0 1 f fd ["wide","high"] (spParts) := by
  refine F.ok scparts (fun vs H Q E h => ?_) (fun cdv A outer s H vs Q E hr h => ?_)
  · obtain ⟨m,n,rfl,_⟩ := h
    rfl
  obtain ⟨m,n,rfl,m16,n16,q⟩ := h
  have nd := scparts.nd
  refine ⟨_,(@pss_one _ _ _ (@ps_ret _ _ _ _ (pe_comp2 (own := ["a","b"]) (cs := ["high"]) (cap := [1]) rfl (pi_range2 rfl B.range (@pa_cons _ _ _ _ _ pe_int (@pa_cons _ _ _ _ _ (@pe_op _ _ _ _ _ _ _ _ op_add (pv 0) pe_int) pa_nil rfl) rfl)) (compOk_of (sc := defScope sPartsUpTo) (N := ["wide","high"]) rfl rfl (by decide +kernel)) (fun _ _ _ _ _ => pg_name (i := 0) (by show List.Nodup (["a","b","high"] : List Str) ; decide +kernel) rfl (Or.inl rfl) (Or.inr rfl)) (fun _ _ _ _ _ => pifs_nil) (fun _ _ _ _ _ => (pi_range2 rfl B.range (@pa_cons _ _ _ _ _ pe_int (@pa_cons _ _ _ _ _ (@pe_op _ _ _ _ _ _ _ _ op_add (pv 2) pe_int) pa_nil rfl) rfl))) (fun _ _ _ _ _ => pg_name (i := 1) (by show List.Nodup (["a","b","high"] : List Str) ; decide +kernel) rfl (Or.inl rfl) (Or.inr rfl)) (fun _ _ _ _ _ => pifs_nil) (fun _ _ _ _ _ => (@pe_tup _ _ _ _ _ (@pa_cons _ _ _ _ _ (pv 0) (@pa_cons _ _ _ _ _ (pv 1) pa_nil rfl) rfl)))))),?_⟩
  have z4 : 4096 ≤ sizeLine := by decide
  refine ⟨_,rfl,_,_,rfl,rfl,1,_,rfl,⟨by decide,by decide,by show -(2 ^ 62) ≤ (m : Int) + 1; omega,by show (m : Int) + 1 < 2 ^ 62; omega⟩,?_⟩
  have em : ((m : Int) + 1 - 1).toNat = m := by omega
  show ∃ W,_ ∧ CompW2 _ _ _ (Itr 1 ((m : Int) + 1 - 1).toNat) _ _ _ _ _ _ _ W
  rw [em]
  refine comp2_rng (lo := 1) (n := m) (fun i ys Hx => Same H Hx ∧ Paired (PtAt Hx) ys (partsL i n)) ⟨Same.refl _,.nil⟩ ?_ ?_
  · rintro i ys Hx hi ⟨sx,py⟩
    refine ⟨leS.set rfl,tYes_ite ?_⟩
    refine ⟨_,rfl,_,_,rfl,rfl,1,_,rfl,⟨by decide,by decide,by show -(2 ^ 62) ≤ (n : Int) + 1; omega,by show (n : Int) + 1 < 2 ^ 62; omega⟩,?_⟩
    have en : ((n : Int) + 1 - 1).toNat = n := by omega
    show ∃ W2,_ ∧ CompIn _ (Itr 1 ((n : Int) + 1 - 1).toNat) _ _ _ _ W2
    rw [en]
    refine in_rng (lo := 1) (n := n) (fun j zs Hy => Same H Hy ∧ Paired (PtAt Hy) zs (partsL i n ++ rowP (1 + (i : Int)) j)) ⟨sx,by show Paired _ _ (_ ++ []); rw [List.append_nil]; exact py⟩ ?_ ?_
    · rintro j zs Hy hj ⟨sy,pz⟩
      have pl := Paired.length pz
      rw [List.length_append,partsL_len,rowP_len] at pl
      have : i * n ≤ 16 * 16 := Nat.mul_le_mul (by omega) (by omega)
      refine ⟨by omega,leS.set rfl,tYes_ite ?_⟩
      refine ⟨_,rfl,_,rfl,(by show 2 ≤ sizeLine; decide),fun t ht => ?_⟩
      obtain ⟨Hz,e1,k1,s1⟩ : ∃ H',upd Hy t (.tup [.int (1 + i),.int (1 + j)]) = H' ∧ H' t = some (.tup [.int (1 + i),.int (1 + j)]) ∧ Same Hy H' := ⟨_,rfl,upd_same,Same.new ht⟩
      rw [show upd Hy t _ = Hz from e1]
      refine Nx.of hj ⟨sy.trans s1,?_⟩
      rw [rowP_succ,← List.append_assoc]
      exact Paired.app (Paired.mapP pz fun v p h => h.keep s1) (.cons ⟨t,rfl,k1⟩ .nil)
    · rintro zs Hy ⟨sy,pz⟩
      refine Nx.of hi ⟨sy,?_⟩
      rw [partsL_succ]
      exact pz
  · rintro ys Hx ⟨sx,py⟩
    have pl := Paired.length py
    rw [partsL_len] at pl
    have : m * n ≤ 16 * 16 := Nat.mul_le_mul (by omega) (by omega)
    refine ⟨by omega,fun l hl => ?_⟩
    obtain ⟨Hz,e2,k2,s2⟩ : ∃ H',upd Hx l (.lst ys) = H' ∧ H' l = some (.lst ys) ∧ Same Hx H' := ⟨_,rfl,upd_same,Same.new hl⟩
    rw [show upd Hx l _ = Hz from e2]
    exact q l ys Hz k2 (Paired.mapP py fun v p h => h.keep s2) (sx.trans s2)
end
structure BeC (K : PySem.W.Frag) (mg : Str → Option Value) (wa : Addr) : Prop where
  dn : ∃ t,mg "DOWN" = some (.str "down" t)
  rs : ∃ t,mg "REST" = some (.str "rest" t)
  pc : ∃ t,mg "PIECE" = some (.str "piece" t)
  ac : ∃ t,mg "ACROSS" = some (.str "across" t)
  ms : ∃ t,mg "MOST_SIDE" = some (.int 16 t)
  wy : mg "WAYS" = some (.ref wa)
  wq : ∀ H,SqT K H wa [.str "down",.str "across"]
abbrev wv (dn : Bool) : V := .str (if dn = true then "down" else "across")
def WpAt (H : Hp) (v : V) (x : Bool × Int) : Prop := ∃ q,v = .ref q ∧ H q = some (.tup [wv x.1,.int x.2])
theorem WpAt.keep {H H' : Hp} (s : Same H H') {v : V} {x : Bool × Int} (h : WpAt H v x) : WpAt H' v x := by
  obtain ⟨q,e,h⟩ := h
  exact ⟨q,e,s _ _ h⟩
def wpL (dn : Bool) (n : Nat) : List (Bool × Int) := (List.range n).map fun (j : Nat) => (dn,1 + (j : Int))
theorem wpL_len (dn : Bool) (n : Nat) : (wpL dn n).length = n := by unfold wpL; rw [List.length_map,List.length_range]
theorem wpL_succ (dn : Bool) (n : Nat) : wpL dn (n + 1) = wpL dn n ++ [(dn,1 + (n : Int))] := by
  unfold wpL
  rw [List.range_succ,List.map_append]
  rfl
def cutsL (b w h : Int) : List (Bool × Int) := wpL true (w - b - 1).toNat ++ wpL false (h - b - 1).toNat
def fstP (w h : Int) (x : Bool × Int) : Int × Int := if x.1 = true then (x.2,h) else (w,x.2)
def sndP (b w h : Int) (x : Bool × Int) : Int × Int := if x.1 = true then (w - x.2 - b,h) else (w,h - x.2 - b)
def CutAt (b w h : Int) (H : Hp) (v : V) (x : Bool × Int) : Prop := ∃ q t1 t2,v = .ref q ∧ H q = some (.tup [wv x.1,.int x.2,.ref t1,.ref t2]) ∧ H t1 = some (.tup [.int (fstP w h x).1,.int (fstP w h x).2]) ∧ H t2 = some (.tup [.int (sndP b w h x).1,.int (sndP b w h x).2])
theorem CutAt.keep {b w h : Int} {H H' : Hp} (s : Same H H') {v : V} {x : Bool × Int} (c : CutAt b w h H v x) : CutAt b w h H' v x := by
  obtain ⟨q,t1,t2,e,h1,h2,h3⟩ := c
  exact ⟨q,t1,t2,e,s _ _ h1,s _ _ h2,s _ _ h3⟩
section
variable {P : Program} {w : World} {K : PySem.W.Frag} {mg : Str → Option Value} {base : Heap}
def spParts2 : Sp := fun vs H Q _ => ∃ (b w h p : Int) (t : Addr) (dn : Bool),vs = [.int b,.ref t,.str (if dn = true then "down" else "across"),.int p] ∧ H t = some (.tup [.int w,.int h]) ∧
  ∀ (u t1 t2 : Addr) (H' : Hp),H' u = some (.tup [.ref t1,.ref t2]) → H' t1 = some (.tup (if dn = true then [.int p,.int h] else [.int w,.int p])) → H' t2 = some (.tup (if dn = true then [.int (w - p - b),.int h] else [.int w,.int (h - p - b)])) → Same H H' → Q (.ref u) H'
def spCuts : Sp := fun vs H Q _ => ∃ (b w h : Int) (t : Addr),vs = [.int b,.ref t] ∧ H t = some (.tup [.int w,.int h]) ∧ w ≤ 16 ∧ h ≤ 16 ∧ 0 ≤ b ∧ ∀ (l : Addr) (ys : List V) (H' : Hp),H' l = some (.lst ys) → Paired (CutAt b w h H') ys (cutsL b w h) → Same H H' → Q (.ref l) H'
theorem scparts2 : FnScope ["blade","part","way","p","wide","high"] ["blade","part","way","p"] (defScope sCutParts) := ⟨rfl,rfl,rfl,by decide +kernel,rfl,by decide +kernel,by decide +kernel⟩
theorem ok_parts2 {f wa : Addr} {fd : FuncData} (F : Fun K "cut_parts" "cut_parts" sCutParts f fd) (Z : BeC K mg wa) : FnOk P w K mg base CX0 1 f fd ["blade","part","way","p"] (spParts2) := by
  refine F.ok scparts2 (fun vs H Q E h => ?_) (fun cdv A outer s H vs Q E hr h => ?_)
  · obtain ⟨b,w1,h1,p1,t,dn,rfl,_⟩ := h
    rfl
  obtain ⟨b,w1,h1,p1,t,dn,rfl,ht,q⟩ := h
  have nd := scparts2.nd
  obtain ⟨tdn,hdn⟩ := Z.dn
  obtain ⟨trs,hrs⟩ := Z.rs
  obtain ⟨tpc,hpc⟩ := Z.pc
  refine ⟨_,(@pss_cons _ _ _ _ _ (@ps_asg _ _ _ _ _ _ (pv 1) (pg_tup rfl (pgs_cons (pg_name (i := 4) nd rfl (Or.inl rfl)) (pgs_cons (pg_name (i := 5) nd rfl (Or.inl rfl)) pgs_nil))) rfl rfl rfl) (@pss_cons _ _ _ _ _ (@ps_if _ _ _ _ _ _ _ _ (@pt_cmpR _ _ _ _ _ _ _ _ op_eq (pv 2) (pe_glob (v := .str "down") rfl hdn ⟨tdn,rfl⟩) (nomark _)) (@pss_one _ _ _ (@ps_ret _ _ _ _ (@pe_tup _ _ _ _ _ (@pa_cons _ _ _ _ _ (@pe_tup _ _ _ _ _ (@pa_cons _ _ _ _ _ (pv 3) (@pa_cons _ _ _ _ _ (pv 5) pa_nil rfl) rfl)) (@pa_cons _ _ _ _ _ (@pe_tup _ _ _ _ _ (@pa_cons _ _ _ _ _ (@pe_op _ _ _ _ _ _ _ _ op_sub (@pe_op _ _ _ _ _ _ _ _ op_sub (pv 4) (pv 3)) (pv 0)) (@pa_cons _ _ _ _ _ (pv 5) pa_nil rfl) rfl)) pa_nil rfl) rfl)))) pss_nil) (@pss_one _ _ _ (@ps_ret _ _ _ _ (@pe_tup _ _ _ _ _ (@pa_cons _ _ _ _ _ (@pe_tup _ _ _ _ _ (@pa_cons _ _ _ _ _ (pv 4) (@pa_cons _ _ _ _ _ (pv 3) pa_nil rfl) rfl)) (@pa_cons _ _ _ _ _ (@pe_tup _ _ _ _ _ (@pa_cons _ _ _ _ _ (pv 4) (@pa_cons _ _ _ _ _ (@pe_op _ _ _ _ _ _ _ _ op_sub (@pe_op _ _ _ _ _ _ _ _ op_sub (pv 5) (pv 3)) (pv 0)) pa_nil rfl) rfl)) pa_nil rfl) rfl)))))),?_⟩
  refine ⟨_,rfl,t,_,rfl,SqT.of ht,rfl,_,_,rfl,_,_,rfl,rfl,?_⟩
  cases dn with
  | true =>
    refine ⟨_,rfl,rfl,_,rfl,iteT ?_⟩
    refine ⟨_,rfl,_,rfl,(by show 2 ≤ sizeLine; decide),fun t1 h1' => ?_⟩
    have sa : Same H (upd H t1 (.tup [.int p1,.int h1])) := Same.new h1'
    have ka : (upd H t1 (.tup [.int p1,.int h1])) t1 = some (.tup [.int p1,.int h1]) := upd_same
    generalize upd H t1 (.tup [.int p1,.int h1]) = Ha at sa ka ⊢
    refine ⟨_,rfl,_,rfl,_,_,rfl,rfl,_,rfl,_,_,rfl,rfl,_,rfl,(by show 2 ≤ sizeLine; decide),fun t2 h2' => ?_⟩
    have sb : Same Ha (upd Ha t2 (.tup [.int (w1 - p1 - b),.int h1])) := Same.new h2'
    have kb : (upd Ha t2 (.tup [.int (w1 - p1 - b),.int h1])) t2 = some (.tup [.int (w1 - p1 - b),.int h1]) := upd_same
    generalize upd Ha t2 (.tup [.int (w1 - p1 - b),.int h1]) = Hb at sb kb ⊢
    refine ⟨(by show 2 ≤ sizeLine; decide),fun u hu => ?_⟩
    have sc : Same Hb (upd Hb u (.tup [.ref t1,.ref t2])) := Same.new hu
    have kc : (upd Hb u (.tup [.ref t1,.ref t2])) u = some (.tup [.ref t1,.ref t2]) := upd_same
    generalize upd Hb u (.tup [.ref t1,.ref t2]) = Hc at sc kc ⊢
    exact q u t1 t2 Hc kc (sc _ _ (sb _ _ ka)) (sc _ _ kb) ((sa.trans sb).trans sc)
  | false =>
    refine ⟨_,rfl,rfl,_,rfl,iteF ?_⟩
    refine ⟨_,rfl,_,rfl,(by show 2 ≤ sizeLine; decide),fun t1 h1' => ?_⟩
    have sa : Same H (upd H t1 (.tup [.int w1,.int p1])) := Same.new h1'
    have ka : (upd H t1 (.tup [.int w1,.int p1])) t1 = some (.tup [.int w1,.int p1]) := upd_same
    generalize upd H t1 (.tup [.int w1,.int p1]) = Ha at sa ka ⊢
    refine ⟨_,rfl,_,rfl,_,rfl,_,_,rfl,rfl,_,rfl,_,_,rfl,rfl,(by show 2 ≤ sizeLine; decide),fun t2 h2' => ?_⟩
    have sb : Same Ha (upd Ha t2 (.tup [.int w1,.int (h1 - p1 - b)])) := Same.new h2'
    have kb : (upd Ha t2 (.tup [.int w1,.int (h1 - p1 - b)])) t2 = some (.tup [.int w1,.int (h1 - p1 - b)]) := upd_same
    generalize upd Ha t2 (.tup [.int w1,.int (h1 - p1 - b)]) = Hb at sb kb ⊢
    refine ⟨(by show 2 ≤ sizeLine; decide),fun u hu => ?_⟩
    have sc : Same Hb (upd Hb u (.tup [.ref t1,.ref t2])) := Same.new hu
    have kc : (upd Hb u (.tup [.ref t1,.ref t2])) u = some (.tup [.ref t1,.ref t2]) := upd_same
    generalize upd Hb u (.tup [.ref t1,.ref t2]) = Hc at sc kc ⊢
    exact q u t1 t2 Hc kc (sc _ _ (sb _ _ ka)) (sc _ _ kb) ((sa.trans sb).trans sc)
theorem sccuts : FnScope ["blade","part","down","across"] ["blade","part"] (defScope sCutsOf) := ⟨rfl,rfl,rfl,by decide +kernel,rfl,by decide +kernel,by decide +kernel⟩
theorem ok_cuts {f wa : Addr} {fd : FuncData} (F : Fun K "cuts_of" "cuts_of" sCutsOf f fd) (B : Blt mg) (Z : BeC K mg wa) (DP : Dn P w K mg base "cut_parts" ["blade","part","way","p"] 1 (spParts2)) : FnOk P w K mg base CX0 2 f fd ["blade","part"] (spCuts) := by
  refine F.ok sccuts (fun vs H Q E h => ?_) (fun cdv A outer s H vs Q E hr h => ?_)
  · obtain ⟨b,w1,h1,t,rfl,_⟩ := h
    rfl
  obtain ⟨b,w1,h1,t,rfl,ht,w16,h16,b0,q⟩ := h
  have nd := sccuts.nd
  obtain ⟨tdn,hdn⟩ := Z.dn
  obtain ⟨tac,hac⟩ := Z.ac
  refine ⟨_,(@pss_cons _ _ _ _ _ (ps_comp (i := 2) (own := ["p"]) (cs := []) (cap := []) rfl nd rfl rfl rfl (pi_range2N rfl B.range (@pa_cons _ _ _ _ _ pe_int (@pa_cons _ _ _ _ _ (@pe_op _ _ _ _ _ _ _ _ op_sub (@pe_ix _ _ _ _ _ _ _ ix_tup (pv 1) pe_int (fun _ _ => rfl)) (pv 0)) pa_nil rfl) rfl)) (compOk_of (sc := defScope sCutsOf) (N := ["blade","part","down","across"]) rfl rfl (by decide +kernel)) (fun _ _ _ _ _ => pg_name (i := 0) (by show List.Nodup (["p"] : List Str) ; decide +kernel) rfl (Or.inl rfl) (Or.inr rfl)) (fun _ _ _ _ _ => pifs_nil) (fun _ _ _ _ _ => (@pe_tup _ _ _ _ _ (@pa_cons _ _ _ _ _ (pe_glob (v := .str "down") rfl hdn ⟨tdn,rfl⟩) (@pa_cons _ _ _ _ _ (pv 0) pa_nil rfl) rfl)))) (@pss_cons _ _ _ _ _ (ps_comp (i := 3) (own := ["p"]) (cs := []) (cap := []) rfl nd rfl rfl rfl (pi_range2N rfl B.range (@pa_cons _ _ _ _ _ pe_int (@pa_cons _ _ _ _ _ (@pe_op _ _ _ _ _ _ _ _ op_sub (@pe_ix _ _ _ _ _ _ _ ix_tup (pv 1) pe_int (fun _ _ => rfl)) (pv 0)) pa_nil rfl) rfl)) (compOk_of (sc := defScope sCutsOf) (N := ["blade","part","down","across"]) rfl rfl (by decide +kernel)) (fun _ _ _ _ _ => pg_name (i := 0) (by show List.Nodup (["p"] : List Str) ; decide +kernel) rfl (Or.inl rfl) (Or.inr rfl)) (fun _ _ _ _ _ => pifs_nil) (fun _ _ _ _ _ => (@pe_tup _ _ _ _ _ (@pa_cons _ _ _ _ _ (pe_glob (v := .str "across") rfl hac ⟨tac,rfl⟩) (@pa_cons _ _ _ _ _ (pv 0) pa_nil rfl) rfl)))) (@pss_one _ _ _ (@ps_ret _ _ _ _ (pe_comp (own := ["way","p"]) (cs := ["blade","part"]) (cap := [0,1]) rfl (pi_list (@pe_op _ _ _ _ _ _ _ _ op_cat (pv 2) (pv 3))) (compOk_of (sc := defScope sCutsOf) (N := ["blade","part","down","across"]) rfl rfl (by decide +kernel)) (fun _ _ _ _ _ => pg_two K rfl rfl (by show List.Nodup (["way","p","blade","part"] : List Str) ; decide +kernel) rfl rfl rfl rfl) (fun _ _ _ _ _ => pifs_nil) (fun _ _ _ _ _ => (pe_op (r := rCatT K) op_catT (@pe_tup _ _ _ _ _ (@pa_cons _ _ _ _ _ (pv 0) (@pa_cons _ _ _ _ _ (pv 1) pa_nil rfl) rfl)) (@pe_cD _ _ _ _ _ _ _ _ _ _ DP hr rfl (@pa_cons _ _ _ _ _ (pv 2) (@pa_cons _ _ _ _ _ (pv 3) (@pa_cons _ _ _ _ _ (pv 0) (@pa_cons _ _ _ _ _ (pv 1) pa_nil rfl) rfl) rfl) rfl) (by decide) rfl rfl)))))))),?_⟩
  have z4 : 4096 ≤ sizeLine := by decide
  have wn : (w1 - b - 1).toNat ≤ 16 := by omega
  have hn : (h1 - b - 1).toNat ≤ 16 := by omega
  refine seqCut (fun σ' H' => ∃ (dl : Addr) (ys : List V),σ' = [some (.int b),some (.ref t),some (.ref dl),none] ∧ H' dl = some (.lst ys) ∧ Paired (WpAt H') ys (wpL true (w1 - b - 1).toNat) ∧ Same H H') (fun R hR => ?_) ?_
  · refine ⟨_,rfl,t,_,0,_,rfl,rfl,SqT.of ht,rfl,_,rfl,_,_,rfl,rfl,1,_,rfl,⟨by decide,by decide,by show w1 - b < 2 ^ 62; omega⟩,?_⟩
    show ∃ W,_ ∧ CompW _ _ _ (Itr 1 (w1 - b - 1).toNat) _ _ _ _ W
    generalize (w1 - b - 1).toNat = n at *
    refine comp_rng (lo := 1) (n := n) (fun i ys Hx => Same H Hx ∧ Paired (WpAt Hx) ys (wpL true i)) ⟨Same.refl _,.nil⟩ ?_ ?_
    · rintro i ys Hx hi ⟨sx,py⟩
      have pl := Paired.length py
      rw [wpL_len] at pl
      refine ⟨by omega,leS.set rfl,tYes_ite ?_⟩
      refine ⟨_,rfl,(by show 2 ≤ sizeLine; decide),fun q' hq => ?_⟩
      obtain ⟨Hy, e9, k9, s9⟩ : ∃ H', upd Hx q' (.tup [.str "down", .int (1 + i)]) = H' ∧ H' q' = some (.tup [.str "down", .int (1 + i)]) ∧ Same Hx H' := ⟨_, rfl, upd_same, Same.new hq⟩
      rw [show upd Hx q' _ = Hy from e9]
      refine Nx.of hi ⟨sx.trans s9,?_⟩
      rw [wpL_succ]
      exact Paired.app (Paired.mapP py fun v p h => h.keep s9) (.cons ⟨q',rfl,k9⟩ .nil)
    · rintro ys Hx ⟨sx,py⟩
      have pl := Paired.length py
      rw [wpL_len] at pl
      refine ⟨by omega,fun l hl => ?_⟩
      obtain ⟨Hy,e9,k9,s9⟩ : ∃ H',upd Hx l (.lst ys) = H' ∧ H' l = some (.lst ys) ∧ Same Hx H' := ⟨_,rfl,upd_same,Same.new hl⟩
      rw [show upd Hx l _ = Hy from e9]
      exact hR _ _ ⟨l,ys,rfl,k9,Paired.mapP py fun v p h => h.keep s9,sx.trans s9⟩
  rintro _ H1 ⟨dl,ys,rfl,kd,pd,s1⟩
  refine seqCut (fun σ' H' => ∃ (al : Addr) (zs : List V),σ' = [some (.int b),some (.ref t),some (.ref dl),some (.ref al)] ∧ H' al = some (.lst zs) ∧ Paired (WpAt H') zs (wpL false (h1 - b - 1).toNat) ∧ Same H1 H') (fun R hR => ?_) ?_
  · refine ⟨_,rfl,t,_,1,_,rfl,rfl,SqT.of (s1 _ _ ht),rfl,_,rfl,_,_,rfl,rfl,1,_,rfl,⟨by decide,by decide,by show h1 - b < 2 ^ 62; omega⟩,?_⟩
    show ∃ W,_ ∧ CompW _ _ _ (Itr 1 (h1 - b - 1).toNat) _ _ _ _ W
    generalize (h1 - b - 1).toNat = n at *
    refine comp_rng (lo := 1) (n := n) (fun i ys Hx => Same H1 Hx ∧ Paired (WpAt Hx) ys (wpL false i)) ⟨Same.refl _,.nil⟩ ?_ ?_
    · rintro i ys Hx hi ⟨sx,py⟩
      have pl := Paired.length py
      rw [wpL_len] at pl
      refine ⟨by omega,leS.set rfl,tYes_ite ?_⟩
      refine ⟨_,rfl,(by show 2 ≤ sizeLine; decide),fun q' hq => ?_⟩
      obtain ⟨Hy, e9, k9, s9⟩ : ∃ H', upd Hx q' (.tup [.str "across", .int (1 + i)]) = H' ∧ H' q' = some (.tup [.str "across", .int (1 + i)]) ∧ Same Hx H' := ⟨_, rfl, upd_same, Same.new hq⟩
      rw [show upd Hx q' _ = Hy from e9]
      refine Nx.of hi ⟨sx.trans s9,?_⟩
      rw [wpL_succ]
      exact Paired.app (Paired.mapP py fun v p h => h.keep s9) (.cons ⟨q',rfl,k9⟩ .nil)
    · rintro ys Hx ⟨sx,py⟩
      have pl := Paired.length py
      rw [wpL_len] at pl
      refine ⟨by omega,fun l hl => ?_⟩
      obtain ⟨Hy,e9,k9,s9⟩ : ∃ H',upd Hx l (.lst ys) = H' ∧ H' l = some (.lst ys) ∧ Same Hx H' := ⟨_,rfl,upd_same,Same.new hl⟩
      rw [show upd Hx l _ = Hy from e9]
      exact hR _ _ ⟨l,ys,rfl,k9,Paired.mapP py fun v p h => h.keep s9,sx.trans s9⟩
  rintro _ H2 ⟨al,zs,rfl,ka,pa,s2⟩
  have s02 := s1.trans s2
  have ht2 := s02 _ _ ht
  have pd2 : Paired (WpAt H2) ys (wpL true (w1 - b - 1).toNat) := Paired.mapP pd fun v p h => h.keep s2
  have l1 := Paired.length pd2
  have l2 := Paired.length pa
  rw [wpL_len] at l1 l2
  have pc : Paired (WpAt H2) (ys ++ zs) (cutsL b w1 h1) := Paired.app pd2 pa
  refine ⟨_,rfl,_,rfl,dl,al,_,_,rfl,rfl,s2 _ _ kd,ka,by omega,fun cl hcl => ?_⟩
  obtain ⟨H3,e3,k3,s3⟩ : ∃ H',upd H2 cl (.lst (ys ++ zs)) = H' ∧ H' cl = some (.lst (ys ++ zs)) ∧ Same H2 H' := ⟨_,rfl,upd_same,Same.new hcl⟩
  rw [show upd H2 cl _ = H3 from e3]
  have pc3 : Paired (WpAt H3) (ys ++ zs) (cutsL b w1 h1) := Paired.mapP pc fun v p h => h.keep s3
  have cl32 : (ys ++ zs).length ≤ 32 := by rw [List.length_append]; omega
  refine ⟨cl,rfl,⟨_,SqL.of k3⟩,(comp_seq (K := K) (.inl k3) (fun i us Hx => Same H3 Hx ∧ Paired (CutAt b w1 h1 Hx) us ((cutsL b w1 h1).take i)) (fun i us Hx _ ⟨sx,_⟩ o e => sx _ _ e) ⟨Same.refl _,.nil⟩ ?_ ?_).1 k3⟩
  · rintro i y us Hx hi ⟨sx,pu⟩
    have hin : i < (ys ++ zs).length := (List.getElem?_eq_some_iff.mp hi).1
    obtain ⟨⟨dn,p⟩,hq,a,rfl,ha⟩ := Paired.getR pc3 hi
    have ul := Paired.length pu
    rw [List.length_take] at ul
    have hax := sx _ _ ha
    refine ⟨by omega,a,_,rfl,SqT.of hax,rfl,_,_,rfl,_,_,rfl,rfl,?_⟩
    refine ⟨leS2 (leS.set rfl) (leS.set rfl),tYes_ite ?_⟩
    refine ⟨_,rfl,_,rfl,(by show 2 ≤ sizeLine; decide),fun x hx => ?_⟩
    obtain ⟨Hy,e4,k4,s4⟩ : ∃ H',upd Hx x (.tup [wv dn,.int p]) = H' ∧ H' x = some (.tup [wv dn,.int p]) ∧ Same Hx H' := ⟨_,rfl,upd_same,Same.new hx⟩
    rw [show upd Hx x _ = Hy from e4]
    refine ⟨_,rfl,_,rfl,_,rfl,_,rfl,b,w1,h1,p,t,dn,rfl,s4 _ _ (sx _ _ (s3 _ _ ht2)),fun u t1 t2 Hz ku k1 k2 s5 => ?_⟩
    refine ⟨x,u,_,_,rfl,rfl,SqT.of (s5 _ _ k4),SqT.of ku,List.cons_ne_nil _ _,(by show 4 ≤ sizeLine; decide),(fun z => by cases z),fun _ m hm => ?_⟩
    rw [show [wv dn,V.int p] ++ [V.ref t1,V.ref t2] = [wv dn,V.int p,V.ref t1,V.ref t2] from rfl]
    obtain ⟨Hw,e6,k6,s6⟩ : ∃ H',upd Hz m (.tup [wv dn,.int p,.ref t1,.ref t2]) = H' ∧ H' m = some (.tup [wv dn,.int p,.ref t1,.ref t2]) ∧ Same Hz H' := ⟨_,rfl,upd_same,Same.new hm⟩
    rw [show upd Hz m _ = Hw from e6]
    have sxw := s4.trans (s5.trans s6)
    refine Nx.of hin ⟨sx.trans sxw,?_⟩
    rw [List.take_add_one,hq]
    refine Paired.app (Paired.mapP pu fun v p h => h.keep sxw) (.cons ⟨m,t1,t2,rfl,k6,?_,?_⟩ .nil)
    · cases dn <;> exact s6 _ _ k1
    · cases dn <;> exact s6 _ _ k2
  · rintro us Hx ⟨sx,pu⟩
    have pl := Paired.length pc3
    rw [pl,List.take_length] at pu
    have ul := Paired.length pu
    refine ⟨by omega,fun l hl => ?_⟩
    obtain ⟨Hy,e7,k7,s7⟩ : ∃ H',upd Hx l (.lst us) = H' ∧ H' l = some (.lst us) ∧ Same Hx H' := ⟨_,rfl,upd_same,Same.new hl⟩
    rw [show upd Hx l _ = Hy from e7]
    exact q l us Hy k7 (Paired.mapP pu fun v p h => h.keep s7) (s02.trans (s3.trans (sx.trans s7)))
end
inductive Tr where
  | rest
  | piece (i : Nat) (c : Bool) (x y : Int)
  | cut (dn : Bool) (p : Int) (l r : Tr)
def toD : Tr → PyData
  | .rest => .tuple [.str "rest"]
  | .piece i c x y => .tuple [.str "piece",.int i,.bool c,.int x,.int y]
  | .cut dn p l r => .tuple [.str (if dn = true then "down" else "across"),.int p,toD l,toD r]
def TrV (H : Hp) : Tr → V → Prop
  | .rest,v => ∃ a,v = .ref a ∧ H a = some (.tup [.str "rest"])
  | .piece i c x y,v => ∃ a,v = .ref a ∧ H a = some (.tup [.str "piece",.int i,.bl c,.int x,.int y])
  | .cut dn p l r,v => ∃ a x y,v = .ref a ∧ H a = some (.tup [.str (if dn = true then "down" else "across"),.int p,x,y]) ∧ TrV H l x ∧ TrV H r y
theorem TrV.keep {H H' : Hp} (k : ∀ a xs,H a = some (.tup xs) → H' a = some (.tup xs)) : ∀ (t : Tr) {v : V},TrV H t v → TrV H' t v
  | .rest,_,⟨a,e,h⟩ => ⟨a,e,k _ _ h⟩
  | .piece ..,_,⟨a,e,h⟩ => ⟨a,e,k _ _ h⟩
  | .cut _ _ l r,_,⟨a,x,y,e,h,h1,h2⟩ => ⟨a,x,y,e,k _ _ h,TrV.keep k l h1,TrV.keep k r h2⟩
theorem TrV.dat {K : PySem.W.Frag} {H : Hp} : ∀ (t : Tr) {v : V},TrV H t v → DatV K H v (toD t)
  | .rest,_,⟨a,e,h⟩ => by subst e; exact .tup (SqT.of h) (.cons (.str _) .nil)
  | .piece ..,_,⟨a,e,h⟩ => by subst e; exact .tup (SqT.of h) (.cons (.str _) (.cons (.int _) (.cons (.bl _) (.cons (.int _) (.cons (.int _) .nil)))))
  | .cut _ _ l r,_,⟨a,x,y,e,h,h1,h2⟩ => by subst e; exact .tup (SqT.of h) (.cons (.str _) (.cons (.int _) (.cons (TrV.dat l h1) (.cons (TrV.dat r h2) .nil))))
def dpt : Tr → Nat
  | .cut _ _ l r => max (dpt l) (dpt r) + 1
  | _ => 0
theorem toD_depth : ∀ t : Tr,(toD t).depth ≤ dpt t + 1
  | .rest => by decide +kernel
  | .piece i c x y => by
    show PyData.depthAll [.str "piece",.int i,.bool c,.int x,.int y] + 1 ≤ 0 + 1
    simp only [PyData.depthAll,PyData.depth]
    omega
  | .cut dn p l r => by
    have h1 := toD_depth l
    have h2 := toD_depth r
    show PyData.depthAll [.str (if dn = true then "down" else "across"),.int p,toD l,toD r] + 1 ≤ max (dpt l) (dpt r) + 1 + 1
    simp only [PyData.depthAll,PyData.depth]
    omega
theorem toD_lay : ∀ t : Tr,PyData.canLay0 (toD t) = true
  | .rest => by decide +kernel
  | .piece i c x y => by
    show (PyData.canLay0 (.str "piece") && (true && (true && (true && (true && true))))) = true
    decide +kernel
  | .cut dn p l r => by
    have h1 := toD_lay l
    have h2 := toD_lay r
    show (PyData.canLay0 (.str (if dn = true then "down" else "across")) && (true && (PyData.canLay0 (toD l) && (PyData.canLay0 (toD r) && true)))) = true
    rw [h1,h2]
    cases dn <;> decide +kernel
def wq (ks : List Kd) (q : Nat × Bool) : Int := match ks[q.1]? with
  | some k => k.wo
  | none => 0
def mxL {α : Type} (f : α → Int) (l : List α) (x : Int) : Int := l.foldl (fun m q => max m (f q)) x
theorem mxL_take {α : Type} (f : α → Int) (l : List α) (x : Int) {i : Nat} {q : α} (h : l[i]? = some q) : mxL f (l.take (i + 1)) x = max (mxL f (l.take i) x) (f q) := by
  unfold mxL
  rw [List.take_add_one,h,List.foldl_append]
  rfl
def lfW (ks : List Kd) (w h : Int) : Int := mxL (wq ks) ((lyK ks 0).filter (fitP ks w h)) 0
def LfV (H : Hp) (v : V) : Prop := ∃ (q : Addr) (y : Str) (r : List V),v = .ref q ∧ H q = some (.tup (.str y :: r)) ∧ inV (V.str y) [V.str "down",V.str "across"] = false
def lfF (ks : List Kd) (m : Int × Tr) (q : Nat × Bool) : Int × Tr := if m.1 < wq ks q then (wq ks q,.piece q.1 q.2 0 0) else m
def lfP (ks : List Kd) (l : List (Nat × Bool)) : Int × Tr := l.foldl (lfF ks) (0,.rest)
theorem lfF_fst (ks : List Kd) : ∀ (l : List (Nat × Bool)) (m : Int × Tr),(l.foldl (lfF ks) m).1 = mxL (wq ks) l m.1
  | [],_ => rfl
  | q :: l,m => by
    show (l.foldl (lfF ks) (lfF ks m q)).1 = mxL (wq ks) l (max m.1 (wq ks q))
    rw [lfF_fst ks l]
    unfold lfF
    split
    · rw [show max m.1 (wq ks q) = wq ks q by omega]
    · rw [show max m.1 (wq ks q) = m.1 by omega]
theorem lfP_fst (ks : List Kd) (l : List (Nat × Bool)) : (lfP ks l).1 = mxL (wq ks) l 0 := lfF_fst ks l _
theorem lfP_take (ks : List Kd) (l : List (Nat × Bool)) {i : Nat} {q : Nat × Bool} (h : l[i]? = some q) : lfP ks (l.take (i + 1)) = lfF ks (lfP ks (l.take i)) q := by
  unfold lfP
  rw [List.take_add_one,h,List.foldl_append]
  rfl
def isLf : Tr → Bool
  | .cut .. => false
  | _ => true
theorem lfF_leaf (ks : List Kd) : ∀ (l : List (Nat × Bool)) (m : Int × Tr),isLf m.2 = true → isLf (l.foldl (lfF ks) m).2 = true
  | [],_,h => h
  | q :: l,m,h => by
    refine lfF_leaf ks l _ ?_
    unfold lfF
    split
    · rfl
    · exact h
def lfT (ks : List Kd) (w h : Int) : Tr := (lfP ks ((lyK ks 0).filter (fitP ks w h))).2
theorem lfT_leaf (ks : List Kd) (w h : Int) : isLf (lfT ks w h) = true := lfF_leaf ks _ _ rfl
theorem TrV.lf {H : Hp} {v : V} : ∀ {t : Tr},isLf t = true → TrV H t v → LfV H v
  | .rest,_,⟨a,e,h⟩ => ⟨a,_,_,e,h,by decide +kernel⟩
  | .piece ..,_,⟨a,e,h⟩ => ⟨a,_,_,e,h,by decide +kernel⟩
def stF (g : Bool × Int → Int) (m : Int × Option (Bool × Int)) (c : Bool × Int) : Int × Option (Bool × Int) := if m.1 < g c then (g c,some c) else m
def stP (g : Bool × Int → Int) (cs : List (Bool × Int)) (x : Int) : Int × Option (Bool × Int) := cs.foldl (stF g) (x,none)
def stC (g : Bool × Int → Int) (cs : List (Bool × Int)) (x : Int) : Option (Bool × Int) := (stP g cs x).2
theorem stF_fst (g : Bool × Int → Int) : ∀ (l : List (Bool × Int)) (m : Int × Option (Bool × Int)),(l.foldl (stF g) m).1 = mxL g l m.1
  | [],_ => rfl
  | q :: l,m => by
    show (l.foldl (stF g) (stF g m q)).1 = mxL g l (max m.1 (g q))
    rw [stF_fst g l]
    unfold stF
    split
    · rw [show max m.1 (g q) = g q by omega]
    · rw [show max m.1 (g q) = m.1 by omega]
theorem stP_take (g : Bool × Int → Int) (l : List (Bool × Int)) (x : Int) {i : Nat} {q : Bool × Int} (h : l[i]? = some q) : stP g (l.take (i + 1)) x = stF g (stP g (l.take i) x) q := by
  unfold stP
  rw [List.take_add_one,h,List.foldl_append]
  rfl
theorem stF_mem (g : Bool × Int → Int) : ∀ (l : List (Bool × Int)) (m : Int × Option (Bool × Int)) {c : Bool × Int},(l.foldl (stF g) m).2 = some c → c ∈ l ∨ m.2 = some c
  | [],_,_,h => .inr h
  | q :: l,m,c,h => by
    rcases stF_mem g l _ h with h | h
    · exact .inl (List.mem_cons_of_mem _ h)
    · unfold stF at h
      split at h
      · cases h
        exact .inl List.mem_cons_self
      · exact .inr h
theorem stC_mem {g : Bool × Int → Int} {l : List (Bool × Int)} {x : Int} {c : Bool × Int} (h : stC g l x = some c) : c ∈ l := by
  rcases stF_mem g l _ h with h | h
  · exact h
  · cases h
def StV (b w h : Int) (H : Hp) (lv v : V) : Option (Bool × Int) → Prop
  | none => v = lv
  | some c => CutAt b w h H v c
theorem StV.keep {b w h : Int} {H H' : Hp} (s : Same H H') {lv v : V} : ∀ {o : Option (Bool × Int)},StV b w h H lv v o → StV b w h H' lv v o
  | none,e => e
  | some _,e => CutAt.keep s e
abbrev pk (p : Int × Int) : List Key := [.inl p.1,.inl p.2]
section
variable {P : Program} {w : World} {K : PySem.W.Frag} {mg : Str → Option Value} {base : Heap}
def spBLeaf (C : Addr) : Sp := fun vs H Q _ => ∃ (s t : Addr) (b : Int) (ks : List Kd) (w h : Int),vs = [.ref s,.ref t] ∧ ShopAt C H s b ks ∧ ks.length ≤ 8 ∧ H t = some (.tup [.int w,.int h]) ∧ ∀ (r : Addr) (v : V) (H' : Hp),H' r = some (.tup [.int (lfW ks w h),v]) → TrV H' (lfT ks w h) v → Same H H' → Q (.ref r) H'
def spStep : Sp := fun vs H Q _ => ∃ (lf cl wt : Addr) (x : Int) (lv : V) (ys : List V) (b w h : Int) (cs : List (Bool × Int)) (f : Int × Int → Int) (kvs : List (List Key × V)),vs = [.ref lf,.ref cl,.ref wt] ∧ H lf = some (.tup [.int x,lv]) ∧ H cl = some (.lst ys) ∧ Paired (CutAt b w h H) ys cs ∧ H wt = some (.dT kvs) ∧ (∀ c ∈ cs,valV kvs (pk (fstP w h c)) = some (.int (f (fstP w h c))) ∧ valV kvs (pk (sndP b w h c)) = some (.int (f (sndP b w h c)))) ∧
  ∀ (r : Addr) (v : V) (H' : Hp),H' r = some (.tup [.int (mxL (fun c => f (fstP w h c) + f (sndP b w h c)) cs x),v]) → StV b w h H' lv v (stC (fun c => f (fstP w h c) + f (sndP b w h c)) cs x) → Same H H' → Q (.ref r) H'
theorem scbleaf : FnScope ["shop","part","worth","leaf","kinds","kind","turned"] ["shop","part"] (defScope sBestLeaf) := ⟨rfl,rfl,rfl,by decide +kernel,rfl,by decide +kernel,by decide +kernel⟩
theorem ok_bleaf {f wa C : Addr} {fd : FuncData} (F : Fun K "best_leaf" "best_leaf" sBestLeaf f fd) (Z : BeC K mg wa) (T : ShopTxt K C) (MK : Mn P w K mg base C "kinds" ["self"] 1 (spKinds C)) (DL : Dn P w K mg base "lyings_in" ["shop","part"] 5 (spLyIn C)) : FnOk P w K mg base CX0 6 f fd ["shop","part"] (spBLeaf C) := by
  refine F.ok scbleaf (fun vs H Q E h => ?_) (fun cdv A outer s H vs Q E hr h => ?_)
  · obtain ⟨s,t,b,ks,w1,h1,rfl,_⟩ := h
    rfl
  obtain ⟨s,t,b,ks,w1,h1,rfl,S0,k8,ht,q⟩ := h
  have nd := scbleaf.nd
  obtain ⟨trs,hrs⟩ := Z.rs
  obtain ⟨tpc,hpc⟩ := Z.pc
  refine ⟨_,(@pss_cons _ _ _ _ _ (ps_par rfl nd rfl rfl (i := 2) (j := 3) (by decide) rfl rfl (@pa_cons _ _ _ _ _ pe_int (@pa_cons _ _ _ _ _ (@pe_tup _ _ _ _ _ (@pa_cons _ _ _ _ _ (pe_glob (v := .str "rest") rfl hrs ⟨trs,rfl⟩) pa_nil rfl)) pa_nil rfl) rfl) rfl) (@pss_cons _ _ _ _ _ (@ps_set _ _ 4 _ _ _ _ nd rfl (Or.inl rfl) (pe_mD0 (pv 0) T.cl MK (hr.mono (by decide))) rfl (Or.inl rfl)) (@pss_cons _ _ _ _ _ (@ps_for _ _ _ _ _ _ _ _ PassesOwn.never rfl (pi_list (@pe_cD _ _ _ _ _ _ _ _ _ _ DL hr rfl (@pa_cons _ _ _ _ _ (pv 0) (@pa_cons _ _ _ _ _ (pv 1) pa_nil rfl) rfl) (by decide) rfl rfl)) (pg_tup rfl (pgs_cons (pg_name (i := 5) nd rfl (Or.inl rfl)) (pgs_cons (pg_name (i := 6) nd rfl (Or.inl rfl)) pgs_nil))) (@pss_one _ _ _ (@ps_if _ _ _ _ _ _ _ _ (@pt_cmpR _ _ _ _ _ _ _ _ op_gt (@pe_ix _ _ _ _ _ _ _ ix_tup (@pe_ix _ _ _ _ _ _ _ ix_list (pv 4) (pv 5) (fun _ _ => rfl)) pe_int (fun _ _ => rfl)) (pv 2) (nomark _)) (@pss_one _ _ _ (ps_par rfl nd rfl rfl (i := 2) (j := 3) (by decide) rfl rfl (@pa_cons _ _ _ _ _ (@pe_ix _ _ _ _ _ _ _ ix_tup (@pe_ix _ _ _ _ _ _ _ ix_list (pv 4) (pv 5) (fun _ _ => rfl)) pe_int (fun _ _ => rfl)) (@pa_cons _ _ _ _ _ (@pe_tup _ _ _ _ _ (@pa_cons _ _ _ _ _ (pe_glob (v := .str "piece") rfl hpc ⟨tpc,rfl⟩) (@pa_cons _ _ _ _ _ (pv 5) (@pa_cons _ _ _ _ _ (pv 6) (@pa_cons _ _ _ _ _ pe_int (@pa_cons _ _ _ _ _ pe_int pa_nil rfl) rfl) rfl) rfl) rfl)) pa_nil rfl) rfl) rfl)) pss_nil)) (by intro _; rfl)) (@pss_one _ _ _ (@ps_ret _ _ _ _ (@pe_tup _ _ _ _ _ (@pa_cons _ _ _ _ _ (pv 2) (@pa_cons _ _ _ _ _ (pv 3) pa_nil rfl) rfl))))))),?_⟩
  have z4 : 4096 ≤ sizeLine := by decide
  refine seqCut (fun σ' H' => ∃ lv,σ' = [some (.ref s),some (.ref t),some (.int 0),some lv,none,none,none] ∧ TrV H' .rest lv ∧ Same H H') (fun R hR => ?_) ?_
  · refine ⟨(by show 1 ≤ sizeLine; decide),fun x hx => ?_⟩
    obtain ⟨H1, e1, k1, s1⟩ : ∃ H', upd H x (.tup [.str "rest"]) = H' ∧ H' x = some (.tup [.str "rest"]) ∧ Same H H' := ⟨_, rfl, upd_same, Same.new hx⟩
    rw [show upd H x _ = H1 from e1]
    exact ⟨_,_,rfl,hR _ _ ⟨_,rfl,⟨x,rfl,k1⟩,s1⟩⟩
  rintro _ H1 ⟨lv,rfl,hlv,s1⟩
  have S1 := S0.keep (fun c o e => s1 _ _ e) (fun c C' d fs e => s1 _ _ e)
  obtain ⟨dx,r0,rs0,g1,g2,g3⟩ := id S1
  refine seqCut (fun σ' H' => ∃ (kl : Addr) (rs : List V),σ' = [some (.ref s),some (.ref t),some (.int 0),some lv,some (.ref kl),none,none] ∧ H' kl = some (.lst rs) ∧ Tups H' rs ks ∧ Same H1 H') (fun R hR => ?_) ?_
  · refine ⟨_,rfl,s,dx,_,rfl,g1,flds_no _ _ (by decide +kernel) (by decide +kernel),s,b,ks,rfl,S1,fun kl rs hkl tp => ?_⟩
    obtain ⟨H2,e2,k2,s2⟩ : ∃ H',upd H1 kl (.lst rs) = H' ∧ H' kl = some (.lst rs) ∧ Same H1 H' := ⟨_,rfl,upd_same,Same.new hkl⟩
    rw [show upd H1 kl _ = H2 from e2]
    exact hR _ _ ⟨kl,rs,rfl,k2,Tups.keep (fun c o e => s2 _ _ e) tp,s2⟩
  rintro _ H2 ⟨kl,rs,rfl,kk2,tp2,s2⟩
  have s02 := s1.trans s2
  have S2 := S0.keep (fun c o e => s02 _ _ e) (fun c C' d fs e => s02 _ _ e)
  refine seqCut (fun σ' H' => ∃ (lv : V) (v5 v6 : Option V),σ' = [some (.ref s),some (.ref t),some (.int (lfW ks w1 h1)),some lv,some (.ref kl),v5,v6] ∧ TrV H' (lfT ks w1 h1) lv ∧ Same H2 H') (fun R hR => ?_) ?_
  · refine ⟨_,rfl,_,rfl,s,t,b,ks,w1,h1,rfl,S2,k8,s02 _ _ ht,fun l ys H3 hl hl3 ly s3 => ?_⟩
    have kk := s3 _ _ kk2
    have tp3 : Tups H3 rs ks := Tups.keep (fun c o e => s3 _ _ e) tp2
    have yl := Paired.length ly
    refine ⟨l,rfl,⟨_,SqL.of hl3⟩,for_list (xs := ys) (fun i σ' H' => ∃ (lv : V) (v5 v6 : Option V),σ' = [some (.ref s),some (.ref t),some (.int (mxL (wq ks) (((lyK ks 0).filter (fitP ks w1 h1)).take i) 0)),some lv,some (.ref kl),v5,v6] ∧ TrV H' (lfP ks (((lyK ks 0).filter (fitP ks w1 h1)).take i)).2 lv ∧ Same H3 H') ⟨lv,none,none,rfl,TrV.keep (fun a xs e => (s2.trans s3) _ _ e) _ hlv,Same.refl _⟩ (fun i σ Hx _ ⟨_,_,_,_,_,sx⟩ => SqL.of (sx _ _ hl3)) ?_ ?_⟩
    · rintro i x σ Hx hi ⟨lv,v5,v6,rfl,hlv,sx⟩
      obtain ⟨⟨ki,c⟩,hq,qa,rfl,hqa⟩ := Paired.getR ly hi
      obtain ⟨_,k,hk⟩ := ly_true (List.mem_filter.mp (List.mem_of_getElem? hq)).1
      have hk : ks[ki]? = some k := hk
      obtain ⟨vv,hvv,hva⟩ := Paired.getL tp3 hk
      obtain ⟨a,rfl,ha2⟩ := hva
      have hat : atI rs (ki : Int) = some (.ref a) := atI_int (by omega) (by rw [Int.toNat_natCast]; exact hvv)
      have ewq : wq ks (ki,c) = k.wo := by unfold wq; simp only [hk]
      have hmx := mxL_take (wq ks) ((lyK ks 0).filter (fitP ks w1 h1)) 0 hq
      rw [ewq] at hmx
      have hlt := lfP_take ks ((lyK ks 0).filter (fitP ks w1 h1)) hq
      have hlf := lfP_fst ks (((lyK ks 0).filter (fitP ks w1 h1)).take i)
      refine ⟨qa,_,rfl,SqT.of (sx _ _ hqa),rfl,_,_,rfl,_,_,rfl,rfl,?_⟩
      obtain ⟨m,hm⟩ : ∃ m,mxL (wq ks) (((lyK ks 0).filter (fitP ks w1 h1)).take i) 0 = m := ⟨_,rfl⟩
      rw [hm] at hmx hlf ⊢
      unfold lfF at hlt
      rw [hlf,ewq] at hlt
      refine ⟨_,rfl,_,rfl,kl,_,_,_,rfl,rfl,SqL.of (sx _ _ kk),hat,a,_,2,_,rfl,rfl,SqT.of (sx _ _ ha2),rfl,_,rfl,_,_,rfl,rfl,_,rfl,?_⟩
      by_cases c1 : m < k.wo
      · rw [show decide (m < k.wo) = true from decide_eq_true c1]
        refine iteT ⟨_,rfl,_,rfl,kl,_,_,_,rfl,rfl,SqL.of (sx _ _ kk),hat,a,_,2,_,rfl,rfl,SqT.of (sx _ _ ha2),rfl,_,rfl,_,rfl,(by show 5 ≤ sizeLine; decide),fun x hx => ?_⟩
        obtain ⟨Hy, e4, k4, s4⟩ : ∃ H', upd Hx x (.tup [.str "piece", .int ki, .bl c, .int 0, .int 0]) = H' ∧ H' x = some (.tup [.str "piece", .int ki, .bl c, .int 0, .int 0]) ∧ Same Hx H' := ⟨_, rfl, upd_same, Same.new hx⟩
        rw [show upd Hx x _ = Hy from e4]
        refine ⟨_,_,rfl,.ref x,some (.int ki),some (.bl c),?_,by rw [hlt,if_pos c1]; exact ⟨x,rfl,k4⟩,sx.trans s4⟩
        rw [hmx,show max m k.wo = k.wo by omega]
        rfl
      · rw [show decide (m < k.wo) = false from decide_eq_false c1]
        refine iteF ⟨lv,some (.int ki),some (.bl c),?_,by rw [hlt,if_neg c1]; exact hlv,sx⟩
        rw [hmx,show max m k.wo = m by omega]
        rfl
    · rintro σ Hx ⟨lv,v5,v6,rfl,hlv,sx⟩
      rw [yl,List.take_length] at hlv
      refine hR _ _ ⟨lv,v5,v6,?_,hlv,s3.trans sx⟩
      rw [yl,List.take_length]
      rfl
  rintro _ H3 ⟨lv,v5,v6,rfl,hlv,s3⟩
  refine ⟨_,rfl,_,rfl,(by show 2 ≤ sizeLine; decide),fun x hx => ?_⟩
  obtain ⟨H4,e5,k5,s5⟩ : ∃ H',upd H3 x (.tup [.int (lfW ks w1 h1),lv]) = H' ∧ H' x = some (.tup [.int (lfW ks w1 h1),lv]) ∧ Same H3 H' := ⟨_,rfl,upd_same,Same.new hx⟩
  rw [show upd H3 x _ = H4 from e5]
  exact q x lv H4 k5 (TrV.keep (fun a xs e => s5 _ _ e) _ hlv) (s02.trans (s3.trans s5))
theorem scbstep : FnScope ["leaf_found","cuts","worths","worth","step","cut","together"] ["leaf_found","cuts","worths"] (defScope sBestStep) := ⟨rfl,rfl,rfl,by decide +kernel,rfl,by decide +kernel,by decide +kernel⟩
theorem ok_bstep {f : Addr} {fd : FuncData} (F : Fun K "best_step" "best_step" sBestStep f fd)  : FnOk P w K mg base CX0 1 f fd ["leaf_found","cuts","worths"] (spStep) := by
  refine F.ok scbstep (fun vs H Q E h => ?_) (fun cdv A outer s H vs Q E hr h => ?_)
  · obtain ⟨lf,cl,wt,x0,lv,ys,b,w1,h1,cs,f0,kvs,rfl,_⟩ := h
    rfl
  obtain ⟨lf,cl,wt,x0,lv,ys,b,w1,h1,cs,f0,kvs,rfl,hlf,hcl,pc,hwt,hv,q⟩ := h
  have nd := scbstep.nd
  have hu := hr.units
  have hu1 := Nat.lt_of_le_of_lt (Nat.add_le_add_left (show 1 ≤ 64 by decide) _) hu
  refine ⟨_,(@pss_cons _ _ _ _ _ (@ps_asg _ _ _ _ _ _ (pv 0) (pg_tup rfl (pgs_cons (pg_name (i := 3) nd rfl (Or.inl rfl)) (pgs_cons (pg_name (i := 4) nd rfl (Or.inl rfl)) pgs_nil))) rfl rfl rfl) (@pss_cons _ _ _ _ _ (@ps_for _ _ _ _ _ _ _ _ PassesOwn.never rfl (pi_list (pv 1)) (pg_name (i := 5) nd rfl (Or.inl rfl)) (@pss_cons _ _ _ _ _ (@ps_set _ _ 6 _ _ _ _ nd rfl (Or.inl rfl) (@pe_op _ _ _ _ _ _ _ _ op_add (pe_dget hu1 (pv 2) (@pe_ix _ _ _ _ _ _ _ ix_tup (pv 5) pe_int (fun _ _ => rfl)) (fun _ _ => rfl)) (pe_dget hu1 (pv 2) (@pe_ix _ _ _ _ _ _ _ ix_tup (pv 5) pe_int (fun _ _ => rfl)) (fun _ _ => rfl))) rfl (Or.inl rfl)) (@pss_one _ _ _ (@ps_if _ _ _ _ _ _ _ _ (@pt_cmpR _ _ _ _ _ _ _ _ op_gt (pv 6) (pv 3) (nomark _)) (@pss_one _ _ _ (ps_par rfl nd rfl rfl (i := 3) (j := 4) (by decide) rfl rfl (@pa_cons _ _ _ _ _ (pv 6) (@pa_cons _ _ _ _ _ (pv 5) pa_nil rfl) rfl) rfl)) pss_nil))) (by intro _; rfl)) (@pss_one _ _ _ (@ps_ret _ _ _ _ (@pe_tup _ _ _ _ _ (@pa_cons _ _ _ _ _ (pv 3) (@pa_cons _ _ _ _ _ (pv 4) pa_nil rfl) rfl)))))),?_⟩
  have z4 : 4096 ≤ sizeLine := by decide
  refine seqCut (fun σ' H' => σ' = [some (.ref lf),some (.ref cl),some (.ref wt),some (.int x0),some lv,none,none] ∧ H = H') (fun R hR => ?_) ?_
  · exact ⟨_,rfl,lf,_,rfl,SqT.of hlf,rfl,_,_,rfl,_,_,rfl,rfl,hR _ _ ⟨rfl,rfl⟩⟩
  rintro _ _ ⟨rfl,rfl⟩
  have cln := Paired.length pc
  refine seqCut (fun σ' H' => ∃ (sv : V) (v5 v6 : Option V),σ' = [some (.ref lf),some (.ref cl),some (.ref wt),some (.int (mxL (fun c => f0 (fstP w1 h1 c) + f0 (sndP b w1 h1 c)) cs x0)),some sv,v5,v6] ∧ StV b w1 h1 H lv sv (stC (fun c => f0 (fstP w1 h1 c) + f0 (sndP b w1 h1 c)) cs x0) ∧ H = H') (fun R hR => ?_) ?_
  · refine ⟨_,rfl,cl,rfl,⟨_,SqL.of hcl⟩,for_list (xs := ys) (fun i σ' H' => ∃ (sv : V) (v5 v6 : Option V),σ' = [some (.ref lf),some (.ref cl),some (.ref wt),some (.int (mxL (fun c => f0 (fstP w1 h1 c) + f0 (sndP b w1 h1 c)) (cs.take i) x0)),some sv,v5,v6] ∧ StV b w1 h1 H lv sv (stC (fun c => f0 (fstP w1 h1 c) + f0 (sndP b w1 h1 c)) (cs.take i) x0) ∧ H = H') ⟨lv,none,none,rfl,rfl,rfl⟩ (fun i σ Hx _ ⟨_,_,_,_,_,e⟩ => by subst e; exact SqL.of hcl) ?_ ?_⟩
    · rintro i x σ Hx hi ⟨sv,v5,v6,rfl,hsv,rfl⟩
      obtain ⟨c,hc,ca⟩ := Paired.getR pc hi
      obtain ⟨q',t1,t2,rfl,h1',h2',h3'⟩ := id ca
      have cm := List.mem_of_getElem? hc
      obtain ⟨e1,e2⟩ := hv c cm
      have hmx := mxL_take (fun c => f0 (fstP w1 h1 c) + f0 (sndP b w1 h1 c)) cs x0 hc
      have hst := stP_take (fun c => f0 (fstP w1 h1 c) + f0 (sndP b w1 h1 c)) cs x0 hc
      have hsf : (stP (fun c => f0 (fstP w1 h1 c) + f0 (sndP b w1 h1 c)) (cs.take i) x0).1 = _ := stF_fst (fun c => f0 (fstP w1 h1 c) + f0 (sndP b w1 h1 c)) (cs.take i) (x0,none)
      have hsf : (stP (fun c => f0 (fstP w1 h1 c) + f0 (sndP b w1 h1 c)) (cs.take i) x0).1 = mxL (fun c => f0 (fstP w1 h1 c) + f0 (sndP b w1 h1 c)) (cs.take i) x0 := hsf
      obtain ⟨m,hm⟩ : ∃ m,mxL (fun c => f0 (fstP w1 h1 c) + f0 (sndP b w1 h1 c)) (cs.take i) x0 = m := ⟨_,rfl⟩
      rw [hm] at hmx hsf ⊢
      unfold stF at hst
      rw [hsf] at hst
      refine ⟨_,rfl,_,rfl,q',_,2,_,rfl,rfl,SqT.of h1',rfl,wt,_,rfl,e1 ▸ DGet.t (k := pk (fstP w1 h1 c)) hwt h2',_,rfl,_,rfl,q',_,3,_,rfl,rfl,SqT.of h1',rfl,wt,_,rfl,e2 ▸ DGet.t (k := pk (sndP b w1 h1 c)) hwt h3',_,_,rfl,rfl,?_⟩
      refine ⟨_,rfl,_,rfl,_,_,rfl,rfl,_,rfl,?_⟩
      by_cases c1 : m < (f0 (fstP w1 h1 c) + f0 (sndP b w1 h1 c))
      · rw [show decide (m < (f0 (fstP w1 h1 c) + f0 (sndP b w1 h1 c))) = true from decide_eq_true c1]
        refine iteT ⟨_,rfl,_,rfl,_,_,rfl,.ref q',some (.ref q'),some (.int (f0 (fstP w1 h1 c) + f0 (sndP b w1 h1 c))),?_,by unfold stC; rw [hst,if_pos c1]; exact ca,rfl⟩
        rw [hmx,show max m (f0 (fstP w1 h1 c) + f0 (sndP b w1 h1 c)) = (f0 (fstP w1 h1 c) + f0 (sndP b w1 h1 c)) by omega]
        rfl
      · rw [show decide (m < (f0 (fstP w1 h1 c) + f0 (sndP b w1 h1 c))) = false from decide_eq_false c1]
        refine iteF ⟨sv,some (.ref q'),some (.int (f0 (fstP w1 h1 c) + f0 (sndP b w1 h1 c))),?_,by unfold stC; rw [hst,if_neg c1]; exact hsv,rfl⟩
        rw [hmx,show max m (f0 (fstP w1 h1 c) + f0 (sndP b w1 h1 c)) = m by omega]
        rfl
    · rintro σ Hx ⟨sv,v5,v6,rfl,hsv,rfl⟩
      rw [cln,List.take_length] at hsv
      refine hR _ _ ⟨sv,v5,v6,?_,hsv,rfl⟩
      rw [cln,List.take_length]
  rintro _ _ ⟨sv,v5,v6,rfl,hsv,rfl⟩
  refine ⟨_,rfl,_,rfl,(by show 2 ≤ sizeLine; decide),fun x hx => ?_⟩
  obtain ⟨H4,e5,k5,s5⟩ : ∃ H',upd H x (.tup [.int (mxL (fun c => f0 (fstP w1 h1 c) + f0 (sndP b w1 h1 c)) cs x0),sv]) = H' ∧ H' x = some (.tup [.int (mxL (fun c => f0 (fstP w1 h1 c) + f0 (sndP b w1 h1 c)) cs x0),sv]) ∧ Same H H' := ⟨_,rfl,upd_same,Same.new hx⟩
  rw [show upd H x _ = H4 from e5]
  exact q x sv H4 k5 (hsv.keep s5) s5
end
def msr (p : Int × Int) : Nat := (p.1 + p.2).toNat
theorem wpL_mem {dn : Bool} {n : Nat} {x : Bool × Int} (h : x ∈ wpL dn n) : x.1 = dn ∧ 1 ≤ x.2 ∧ x.2 ≤ n := by
  unfold wpL at h
  obtain ⟨j,hj,rfl⟩ := List.mem_map.mp h
  have := List.mem_range.mp hj
  exact ⟨rfl,by show 1 ≤ 1 + (j : Int); omega,by show 1 + (j : Int) ≤ n; omega⟩
theorem cutsL_mem {b w h : Int} {x : Bool × Int} (m : x ∈ cutsL b w h) : 1 ≤ x.2 ∧ (if x.1 = true then x.2 + b < w else x.2 + b < h) := by
  unfold cutsL at m
  rcases List.mem_append.mp m with m | m
  · obtain ⟨e,h1,h2⟩ := wpL_mem m
    rw [e,if_pos rfl]
    exact ⟨h1,by omega⟩
  · obtain ⟨e,h1,h2⟩ := wpL_mem m
    rw [e,if_neg Bool.false_ne_true]
    exact ⟨h1,by omega⟩
theorem cut_less {b w h : Int} {x : Bool × Int} (b0 : 0 ≤ b) (w0 : 1 ≤ w) (h0 : 1 ≤ h) (m : x ∈ cutsL b w h) :
    (1 ≤ (fstP w h x).1 ∧ 1 ≤ (fstP w h x).2 ∧ (fstP w h x).1 ≤ w ∧ (fstP w h x).2 ≤ h ∧ ((fstP w h x).1 < w ∨ (fstP w h x).1 = w ∧ (fstP w h x).2 < h) ∧ msr (fstP w h x) < msr (w,h)) ∧
    (1 ≤ (sndP b w h x).1 ∧ 1 ≤ (sndP b w h x).2 ∧ (sndP b w h x).1 ≤ w ∧ (sndP b w h x).2 ≤ h ∧ ((sndP b w h x).1 < w ∨ (sndP b w h x).1 = w ∧ (sndP b w h x).2 < h) ∧ msr (sndP b w h x) < msr (w,h)) := by
  obtain ⟨h1,h2⟩ := cutsL_mem m
  obtain ⟨dn,p⟩ := x
  cases dn with
  | true =>
    have h2 : p + b < w := h2
    have h1 : 1 ≤ p := h1
    show (1 ≤ p ∧ 1 ≤ h ∧ p ≤ w ∧ h ≤ h ∧ (p < w ∨ p = w ∧ h < h) ∧ (p + h).toNat < (w + h).toNat) ∧ (1 ≤ w - p - b ∧ 1 ≤ h ∧ w - p - b ≤ w ∧ h ≤ h ∧ (w - p - b < w ∨ w - p - b = w ∧ h < h) ∧ (w - p - b + h).toNat < (w + h).toNat)
    refine ⟨⟨?_,?_,?_,?_,?_,?_⟩,⟨?_,?_,?_,?_,?_,?_⟩⟩ <;> omega
  | false =>
    have h2 : p + b < h := h2
    have h1 : 1 ≤ p := h1
    show (1 ≤ w ∧ 1 ≤ p ∧ w ≤ w ∧ p ≤ h ∧ (w < w ∨ w = w ∧ p < h) ∧ (w + p).toNat < (w + h).toNat) ∧ (1 ≤ w ∧ 1 ≤ h - p - b ∧ w ≤ w ∧ h - p - b ≤ h ∧ (w < w ∨ w = w ∧ h - p - b < h) ∧ (w + (h - p - b)).toNat < (w + h).toNat)
    refine ⟨⟨?_,?_,?_,?_,?_,?_⟩,⟨?_,?_,?_,?_,?_,?_⟩⟩ <;> omega
theorem mxL_congr {α : Type} {f g : α → Int} : ∀ {l : List α} {x : Int},(∀ a ∈ l,f a = g a) → mxL f l x = mxL g l x
  | [],_,_ => rfl
  | a :: r,x,h => by
    show mxL f r (max x (f a)) = mxL g r (max x (g a))
    rw [h a List.mem_cons_self]
    exact mxL_congr fun b hb => h b (List.mem_cons_of_mem _ hb)
def bF (b : Int) (ks : List Kd) : Nat → Int × Int → Int
  | 0,_ => 0
  | n + 1,p => mxL (fun c => bF b ks n (fstP p.1 p.2 c) + bF b ks n (sndP b p.1 p.2 c)) (cutsL b p.1 p.2) (lfW ks p.1 p.2)
theorem bF_stable {b : Int} {ks : List Kd} (b0 : 0 ≤ b) : ∀ (n m : Nat) (p : Int × Int),msr p < n → msr p < m → 1 ≤ p.1 → 1 ≤ p.2 → bF b ks n p = bF b ks m p
  | 0,_,_,h,_,_,_ => absurd h (Nat.not_lt_zero _)
  | _ + 1,0,_,_,h,_,_ => absurd h (Nat.not_lt_zero _)
  | n + 1,m + 1,p,h1,h2,p1,p2 => by
    show mxL _ _ _ = mxL _ _ _
    refine mxL_congr fun c hc => ?_
    obtain ⟨⟨a1,a2,_,_,_,a3⟩,⟨c1,c2,_,_,_,c3⟩⟩ := cut_less b0 p1 p2 hc
    have e : msr (p.1,p.2) = msr p := rfl
    rw [bF_stable b0 n m _ (by omega) (by omega) a1 a2,bF_stable b0 n m _ (by omega) (by omega) c1 c2]
def bW (b : Int) (ks : List Kd) (p : Int × Int) : Int := bF b ks (msr p + 1) p
theorem bW_eq {b : Int} {ks : List Kd} (b0 : 0 ≤ b) (p : Int × Int) (p1 : 1 ≤ p.1) (p2 : 1 ≤ p.2) : bW b ks p = mxL (fun c => bW b ks (fstP p.1 p.2 c) + bW b ks (sndP b p.1 p.2 c)) (cutsL b p.1 p.2) (lfW ks p.1 p.2) := by
  show mxL _ _ _ = mxL _ _ _
  refine mxL_congr fun c hc => ?_
  obtain ⟨⟨a1,a2,_,_,_,a3⟩,⟨c1,c2,_,_,_,c3⟩⟩ := cut_less b0 p1 p2 hc
  have e : msr (p.1,p.2) = msr p := rfl
  unfold bW
  rw [bF_stable b0 (msr p) (msr (fstP p.1 p.2 c) + 1) _ (by omega) (by omega) a1 a2,bF_stable b0 (msr p) (msr (sndP b p.1 p.2 c) + 1) _ (by omega) (by omega) c1 c2]
def ltP (p q : Int × Int) : Prop := p.1 < q.1 ∨ p.1 = q.1 ∧ p.2 < q.2
theorem rowP_mem {a : Int} {n : Nat} {p : Int × Int} : p ∈ rowP a n ↔ p.1 = a ∧ 1 ≤ p.2 ∧ p.2 ≤ n := by
  unfold rowP
  constructor
  · intro h
    obtain ⟨j,hj,rfl⟩ := List.mem_map.mp h
    have := List.mem_range.mp hj
    exact ⟨rfl,by show 1 ≤ 1 + (j : Int); omega,by show 1 + (j : Int) ≤ n; omega⟩
  · rintro ⟨e,h1,h2⟩
    refine List.mem_map.mpr ⟨(p.2 - 1).toNat,List.mem_range.mpr (by omega),?_⟩
    rw [← e,show 1 + ((p.2 - 1).toNat : Int) = p.2 by omega]
theorem partsL_mem {n : Nat} {p : Int × Int} : ∀ {m : Nat},p ∈ partsL m n ↔ (1 ≤ p.1 ∧ p.1 ≤ m) ∧ 1 ≤ p.2 ∧ p.2 ≤ n
  | 0 => by
    constructor
    · intro h; simp [partsL] at h
    · rintro ⟨⟨h1,h2⟩,_⟩; exfalso; have h2 : p.1 ≤ 0 := h2; omega
  | m + 1 => by
    rw [partsL_succ,List.mem_append,partsL_mem (m := m),rowP_mem]
    constructor
    · rintro (⟨⟨h1,h2⟩,h3⟩ | ⟨h1,h2⟩)
      · exact ⟨⟨h1,by omega⟩,h3⟩
      · exact ⟨⟨by omega,by omega⟩,h2⟩
    · rintro ⟨⟨h1,h2⟩,h3⟩
      by_cases e : p.1 = 1 + (m : Int)
      · exact .inr ⟨e,h3⟩
      · exact .inl ⟨⟨h1,by omega⟩,h3⟩
theorem rowP_pair (a : Int) : ∀ n : Nat,(rowP a n).Pairwise ltP
  | 0 => List.Pairwise.nil
  | n + 1 => by
    rw [rowP_succ,List.pairwise_append]
    refine ⟨rowP_pair a n,List.pairwise_singleton _ _,fun p hp q hq => ?_⟩
    rw [List.mem_singleton.mp hq]
    obtain ⟨e,_,h⟩ := rowP_mem.mp hp
    exact .inr ⟨e,by show p.2 < 1 + (n : Int); omega⟩
theorem partsL_pair (n : Nat) : ∀ m : Nat,(partsL m n).Pairwise ltP
  | 0 => List.Pairwise.nil
  | m + 1 => by
    rw [partsL_succ,List.pairwise_append]
    refine ⟨partsL_pair n m,rowP_pair _ n,fun p hp q hq => ?_⟩
    obtain ⟨⟨_,h⟩,_⟩ := partsL_mem.mp hp
    obtain ⟨e,_⟩ := rowP_mem.mp hq
    exact .inl (by omega)
theorem partsL_take {m n i : Nat} {p q : Int × Int} (hi : (partsL m n)[i]? = some p) (hq : q ∈ partsL m n) (hl : ltP q p) : q ∈ (partsL m n).take i := by
  obtain ⟨j,hj⟩ := List.mem_iff_getElem?.mp hq
  obtain ⟨i1,i2⟩ := List.getElem?_eq_some_iff.mp hi
  obtain ⟨j1,j2⟩ := List.getElem?_eq_some_iff.mp hj
  by_cases h : j < i
  · refine List.mem_iff_getElem?.mpr ⟨j,?_⟩
    rw [List.getElem?_take_of_lt h]; exact hj
  · exfalso
    rcases Nat.lt_or_ge i j with h' | h'
    · have := List.pairwise_iff_getElem.mp (partsL_pair n m) i j i1 j1 h'
      rw [i2,j2] at this
      unfold ltP at this hl
      omega
    · have e : i = j := by omega
      subst e
      rw [hi] at hj
      cases hj
      unfold ltP at hl
      omega
theorem partsL_new {m n i : Nat} {p : Int × Int} (hi : (partsL m n)[i]? = some p) : p ∉ (partsL m n).take i := fun h => by
  obtain ⟨j,hj⟩ := List.mem_iff_getElem?.mp h
  obtain ⟨j0,_⟩ := List.getElem?_eq_some_iff.mp hj
  rw [List.length_take] at j0
  rw [List.getElem?_take_of_lt (by omega)] at hj
  obtain ⟨i1,i2⟩ := List.getElem?_eq_some_iff.mp hi
  obtain ⟨j1,j2⟩ := List.getElem?_eq_some_iff.mp hj
  have := List.pairwise_iff_getElem.mp (partsL_pair n m) j i j1 i1 (by omega)
  rw [i2,j2] at this
  unfold ltP at this
  omega
theorem pk_inj {p q : Int × Int} (h : pk p = pk q) : p = q := by
  obtain ⟨a,b⟩ := p
  obtain ⟨c,d⟩ := q
  have h : ([.inl a,.inl b] : List Key) = [.inl c,.inl d] := h
  injection h with h1 h2
  injection h1 with h1
  injection h2 with h2 _
  injection h2 with h2
  rw [h1,h2]
def byP (ss : List ((Int × Int) × V)) : List (List Key × V) := ss.map fun s => (pk s.1,s.2)
theorem byP_put {ss : List ((Int × Int) × V)} {p : Int × Int} {v : V} (h : p ∉ ss.map (·.1)) : putK (byP ss) (pk p) v = byP (ss ++ [(p,v)]) := by
  unfold putK
  rw [if_neg,byP,byP,List.map_append]
  · rfl
  · intro e
    obtain ⟨x,hx,e⟩ := List.any_eq_true.mp e
    obtain ⟨s,hs,rfl⟩ := List.mem_map.mp hx
    have : s.1 = p := pk_inj (of_decide_eq_true e)
    exact h (List.mem_map.mpr ⟨s,hs,this⟩)
theorem byP_get : ∀ {ss : List ((Int × Int) × V)} {p : Int × Int},p ∈ ss.map (·.1) → ∃ v,valV (byP ss) (pk p) = some v ∧ (p,v) ∈ ss
  | s :: r,p,h => by
    by_cases e : s.1 = p
    · refine ⟨s.2,valV_pos (by show pk s.1 = pk p; rw [e]),?_⟩
      rw [← e]
      exact List.mem_cons_self
    · have h : p ∈ r.map (·.1) := (List.mem_cons.mp h).resolve_left (fun z => e z.symm)
      obtain ⟨v,h1,h2⟩ := byP_get h
      refine ⟨v,?_,List.mem_cons_of_mem _ h2⟩
      show valV ((pk s.1,s.2) :: byP r) (pk p) = some v
      rw [valV_neg (fun z => e (pk_inj z))]
      exact h1
def tabS (b : Int) (ks : List Kd) (ps : List (Int × Int)) : List ((Int × Int) × V) := ps.map fun p => (p,.int (bW b ks p))
theorem tabS_fst (b : Int) (ks : List Kd) (ps : List (Int × Int)) : (tabS b ks ps).map (·.1) = ps := by
  unfold tabS
  rw [List.map_map]
  exact List.map_id' ps
theorem tabS_get {b : Int} {ks : List Kd} {ps : List (Int × Int)} {p : Int × Int} (h : p ∈ ps) : valV (byP (tabS b ks ps)) (pk p) = some (.int (bW b ks p)) := by
  obtain ⟨v,h1,h2⟩ := byP_get (ss := tabS b ks ps) (p := p) (by rw [tabS_fst]; exact h)
  unfold tabS at h2
  obtain ⟨q,_,e⟩ := List.mem_map.mp h2
  cases e
  exact h1
def bC (b : Int) (ks : List Kd) (p : Int × Int) : Option (Bool × Int) := stC (fun c => bW b ks (fstP p.1 p.2 c) + bW b ks (sndP b p.1 p.2 c)) (cutsL b p.1 p.2) (lfW ks p.1 p.2)
def bT (b : Int) (ks : List Kd) : Nat → Int × Int → Tr
  | 0,_ => .rest
  | n + 1,p => match bC b ks p with
    | none => lfT ks p.1 p.2
    | some c => .cut c.1 c.2 (bT b ks n (fstP p.1 p.2 c)) (bT b ks n (sndP b p.1 p.2 c))
def StOk (b : Int) (ks : List Kd) (H : Hp) (ss : List ((Int × Int) × V)) : Prop := ∀ p v,(p,v) ∈ ss → (bC b ks p = none ∧ TrV H (lfT ks p.1 p.2) v) ∨ ∃ x : Bool × Int,bC b ks p = some x ∧ CutAt b p.1 p.2 H v x ∧ fstP p.1 p.2 x ∈ ss.map (·.1) ∧ sndP b p.1 p.2 x ∈ ss.map (·.1) ∧ msr (fstP p.1 p.2 x) < msr p ∧ msr (sndP b p.1 p.2 x) < msr p
theorem StOk.keep {b : Int} {ks : List Kd} {H H' : Hp} {ss : List ((Int × Int) × V)} (s : ∀ a xs,H a = some (.tup xs) → H' a = some (.tup xs)) (h : StOk b ks H ss) : StOk b ks H' ss := fun p v hm => by
  rcases h p v hm with ⟨e,h1⟩ | ⟨x,ec,⟨q,t1,t2,e,c1,c2,c3⟩,h1⟩
  · exact .inl ⟨e,TrV.keep s _ h1⟩
  · exact .inr ⟨x,ec,⟨q,t1,t2,e,s _ _ c1,s _ _ c2,s _ _ c3⟩,h1⟩
theorem wv_in (dn : Bool) : inV (wv dn) [V.str "down",V.str "across"] = true := by cases dn <;> decide +kernel
section
variable {P : Program} {w : World} {K : PySem.W.Frag} {mg : Str → Option Value} {base : Heap}
def spTBS (n : Nat) : Sp := fun vs H Q _ => ∃ (st kt : Addr) (b : Int) (ks : List Kd) (ss : List ((Int × Int) × V)) (p : Int × Int),vs = [.ref st,.ref kt] ∧ H st = some (.dT (byP ss)) ∧ H kt = some (.tup [.int p.1,.int p.2]) ∧ StOk b ks H ss ∧ p ∈ ss.map (·.1) ∧ msr p < n ∧ ∀ v' H',TrV H' (bT b ks n p) v' → Same H H' → Q v' H'
def spBestOf (C : Addr) : Sp := fun vs H Q _ => ∃ (s : Addr) (b : Int) (ks : List Kd) (m n : Nat),vs = [.ref s,.int m,.int n] ∧ ShopAt C H s b ks ∧ ks.length ≤ 8 ∧ 0 ≤ b ∧ 1 ≤ m ∧ m ≤ 16 ∧ 1 ≤ n ∧ n ≤ 16 ∧
  ∀ (r tb : Addr) (v : V) (H' : Hp),H tb = none → H' r = some (.tup [.int (bW b ks (m,n)),v,.ref tb]) → H' tb = some (.dT (byP (tabS b ks (partsL m n)))) → TrV H' (bT b ks 33 (m,n)) v → Same H H' → Q (.ref r) H'
theorem sctbs : FnScope ["steps","key","step","way","p","first","second"] ["steps","key"] (defScope sTreeBySteps) := ⟨rfl,rfl,rfl,by decide +kernel,rfl,by decide +kernel,by decide +kernel⟩
theorem ok_tbs {f wa : Addr} {fd : FuncData} (F : Fun K "tree_by_steps" "tree_by_steps" sTreeBySteps f fd) (n : Nat) (Z : BeC K mg wa) (DT : Dn P w K mg base "tree_by_steps" ["steps","key"] (1 + n) (spTBS n)) : FnOk P w K mg base CX0 (1 + (n + 1)) f fd ["steps","key"] (spTBS (n + 1)) := by
  refine F.ok sctbs (fun vs H Q E h => ?_) (fun cdv A outer s H vs Q E hr h => ?_)
  · obtain ⟨st,kt,b,ks,ss,p,rfl,_⟩ := h
    rfl
  obtain ⟨st,kt,b,ks,ss,p,rfl,hst,hkt,ok0,hp,hn,q⟩ := h
  have nd := sctbs.nd
  have hu := hr.units
  have hu1 := Nat.lt_of_le_of_lt (Nat.add_le_add_left (show 1 ≤ 64 by decide) _) hu
  refine ⟨_,(@pss_cons _ _ _ _ _ (@ps_set _ _ 2 _ _ _ _ nd rfl (Or.inl rfl) (pe_dget hu1 (pv 0) (pv 1) (fun _ _ => rfl)) rfl (Or.inl rfl)) (@pss_cons _ _ _ _ _ (@ps_if _ _ _ _ _ _ _ _ (@pt_cmpR _ _ _ _ _ _ _ _ op_notIn_seq (@pe_ix _ _ _ _ _ _ _ ix_tup (pv 2) pe_int (fun _ _ => rfl)) (pe_glob (v := .ref wa) rfl Z.wy rfl) rfl) (@pss_one _ _ _ (@ps_ret _ _ _ _ (pv 2))) pss_nil) (@pss_cons _ _ _ _ _ (@ps_asg _ _ _ _ _ _ (pv 2) (pg_tup rfl (pgs_cons (pg_name (i := 3) nd rfl (Or.inl rfl)) (pgs_cons (pg_name (i := 4) nd rfl (Or.inl rfl)) (pgs_cons (pg_name (i := 5) nd rfl (Or.inl rfl)) (pgs_cons (pg_name (i := 6) nd rfl (Or.inl rfl)) pgs_nil))))) rfl rfl rfl) (@pss_one _ _ _ (@ps_ret _ _ _ _ (@pe_tup _ _ _ _ _ (@pa_cons _ _ _ _ _ (pv 3) (@pa_cons _ _ _ _ _ (pv 4) (@pa_cons _ _ _ _ _ (@pe_cD _ _ _ _ _ _ _ _ _ _ DT hr rfl (@pa_cons _ _ _ _ _ (pv 0) (@pa_cons _ _ _ _ _ (pv 5) pa_nil rfl) rfl) (by decide) rfl rfl) (@pa_cons _ _ _ _ _ (@pe_cD _ _ _ _ _ _ _ _ _ _ DT hr rfl (@pa_cons _ _ _ _ _ (pv 0) (@pa_cons _ _ _ _ _ (pv 6) pa_nil rfl) rfl) (by decide) rfl rfl) pa_nil rfl) rfl) rfl) rfl))))))),?_⟩
  obtain ⟨v,hv,hm⟩ := byP_get hp
  refine seqCut (fun σ' H' => σ' = [some (.ref st),some (.ref kt),some v,none,none,none,none] ∧ H = H') (fun R hR => ?_) ?_
  · exact ⟨_,rfl,_,rfl,st,_,rfl,hv ▸ DGet.t (k := pk p) hst hkt,hR _ _ ⟨rfl,rfl⟩⟩
  rintro _ _ ⟨rfl,rfl⟩
  rcases ok0 p v hm with ⟨ec,hlt⟩ | ⟨x,ec,⟨qa,t1,t2,rfl,c1,c2,c3⟩,m1,m2,l1,l2⟩
  · obtain ⟨qa,y,r,rfl,h1,h2⟩ := TrV.lf (lfT_leaf ks _ _) hlt
    refine seqCut (fun σ' H' => False) (fun R hR => ?_) (fun _ _ z => z.elim)
    refine ⟨_,rfl,qa,_,0,_,rfl,rfl,SqT.of h1,atI_int (Int.le_refl _) rfl,wa,_,rfl,.inr (Z.wq _),rfl,rfl,_,rfl,?_⟩
    rw [show (if true = true then !inV (V.str y) [V.str "down",V.str "across"] else inV (V.str y) [V.str "down",V.str "across"]) = true by rw [if_pos rfl,h2]; rfl]
    exact iteT ⟨_,rfl,q _ H (by unfold bT; rw [ec]; exact hlt) (Same.refl _)⟩
  refine seqCut (fun σ' H' => σ' = [some (.ref st),some (.ref kt),some (.ref qa),none,none,none,none] ∧ H = H') (fun R hR => ?_) ?_
  · refine ⟨_,rfl,qa,_,0,_,rfl,rfl,SqT.of c1,rfl,wa,_,rfl,.inr (Z.wq _),rfl,rfl,_,rfl,?_⟩
    rw [show (if true = true then !inV (wv x.1) [V.str "down",V.str "across"] else inV (wv x.1) [V.str "down",V.str "across"]) = false by rw [if_pos rfl,wv_in]; rfl]
    exact iteF (hR _ _ ⟨rfl,rfl⟩)
  rintro _ _ ⟨rfl,rfl⟩
  refine seqCut (fun σ' H' => σ' = [some (.ref st),some (.ref kt),some (.ref qa),some (wv x.1),some (.int x.2),some (.ref t1),some (.ref t2)] ∧ H = H') (fun R hR => ?_) ?_
  · exact ⟨_,rfl,qa,_,rfl,SqT.of c1,rfl,_,_,rfl,_,_,rfl,_,_,rfl,_,_,rfl,rfl,hR _ _ ⟨rfl,rfl⟩⟩
  rintro _ _ ⟨rfl,rfl⟩
  refine ⟨_,rfl,_,rfl,_,rfl,_,rfl,st,t1,b,ks,ss,fstP p.1 p.2 x,rfl,hst,c2,ok0,m1,by omega,fun v1 H1 hv1 s1 => ?_⟩
  refine ⟨_,rfl,_,rfl,st,t2,b,ks,ss,sndP b p.1 p.2 x,rfl,s1 _ _ hst,s1 _ _ c3,ok0.keep (fun a xs e => s1 _ _ e),m2,by omega,fun v2 H2 hv2 s2 => ?_⟩
  exact ⟨(by show 4 ≤ sizeLine; decide),fun t ht => q _ _ (by
    have sn : Same H2 (upd H2 t (.tup [wv x.1,.int x.2,v1,v2])) := Same.new ht
    unfold bT
    rw [ec]
    exact ⟨t,v1,v2,rfl,upd_same,TrV.keep (fun a xs e => sn _ _ (s2 _ _ e)) _ hv1,TrV.keep (fun a xs e => sn _ _ e) _ hv2⟩) ((s1.trans s2).trans (Same.new ht))⟩
theorem ok_tbs0 {f : Addr} {fd : FuncData} (F : Fun K "tree_by_steps" "tree_by_steps" sTreeBySteps f fd) : FnOk P w K mg base CX0 1 f fd ["steps","key"] (spTBS 0) := by
  refine F.ok sctbs (fun vs H Q E h => ?_) (fun cdv A outer s H vs Q E hr h => ?_)
  · obtain ⟨st,kt,b,ks,ss,p,rfl,_⟩ := h
    rfl
  · obtain ⟨st,kt,b,ks,ss,p,_,_,_,_,_,z,_⟩ := h
    exact absurd z (Nat.not_lt_zero _)
theorem ok_tbsN {f wa : Addr} {fd : FuncData} (F : Fun K "tree_by_steps" "tree_by_steps" sTreeBySteps f fd) (Z : BeC K mg wa) (mk : ∀ n,FnOk P w K mg base CX0 (1 + n) f fd ["steps","key"] (spTBS n) → Dn P w K mg base "tree_by_steps" ["steps","key"] (1 + n) (spTBS n)) : ∀ n,FnOk P w K mg base CX0 (1 + n) f fd ["steps","key"] (spTBS n)
  | 0 => ok_tbs0 F
  | n + 1 => ok_tbs F n Z (mk n (ok_tbsN F Z mk n))
theorem scbestof : FnScope ["shop","wide","high","blade","table","steps","part","worth","step","plate"] ["shop","wide","high"] (defScope sBestOf) := ⟨rfl,rfl,rfl,by decide +kernel,rfl,by decide +kernel,by decide +kernel⟩
theorem ok_bestof {f wa C : Addr} {fd : FuncData} (F : Fun K "best_of" "best_of" sBestOf f fd) (Z : BeC K mg wa) (T : ShopTxt K C) (MB : Mn P w K mg base C "blade" ["self"] 1 (spBlade C)) (DCP : Dn P w K mg base "check_plate" ["wide","high"] 2 (spCP)) (DCS : Dn P w K mg base "check_sides" ["wide","high","most"] 1 (spCS)) (DPu : Dn P w K mg base "parts_up_to" ["wide","high"] 1 (spParts)) (DCu : Dn P w K mg base "cuts_of" ["blade","part"] 2 (spCuts)) (DBL : Dn P w K mg base "best_leaf" ["shop","part"] 6 (spBLeaf C)) (DBS : Dn P w K mg base "best_step" ["leaf_found","cuts","worths"] 1 (spStep)) (DTB : Dn P w K mg base "tree_by_steps" ["steps","key"] 34 (spTBS 33)) : FnOk P w K mg base CX0 35 f fd ["shop","wide","high"] (spBestOf C) := by
  refine F.ok scbestof (fun vs H Q E h => ?_) (fun cdv A outer s H vs Q E hr h => ?_)
  · obtain ⟨s,b,ks,m,n,rfl,_⟩ := h
    rfl
  obtain ⟨s,b,ks,m,n,rfl,S0,k8,b0,m1,m16,n1,n16,q⟩ := h
  have nd := scbestof.nd
  have hu := hr.units
  have hu1 := Nat.lt_of_le_of_lt (Nat.add_le_add_left (show 1 ≤ 64 by decide) _) hu
  obtain ⟨tms,hms⟩ := Z.ms
  refine ⟨_,(@pss_cons _ _ _ _ _ (@ps_expr _ _ _ _ (@pe_cD _ _ _ _ _ _ _ _ _ _ DCP (hr.mono (by decide)) rfl (@pa_cons _ _ _ _ _ (pv 1) (@pa_cons _ _ _ _ _ (pv 2) pa_nil rfl) rfl) (by decide) rfl rfl) rfl) (@pss_cons _ _ _ _ _ (@ps_expr _ _ _ _ (@pe_cD _ _ _ _ _ _ _ _ _ _ DCS (hr.mono (by decide)) rfl (@pa_cons _ _ _ _ _ (pv 1) (@pa_cons _ _ _ _ _ (pv 2) (@pa_cons _ _ _ _ _ (pe_glob (v := .int 16) rfl hms ⟨tms,rfl⟩) pa_nil rfl) rfl) rfl) (by decide) rfl rfl) rfl) (@pss_cons _ _ _ _ _ (@ps_set _ _ 3 _ _ _ _ nd rfl (Or.inl rfl) (pe_mD0 (pv 0) T.cl MB (hr.mono (by decide))) rfl (Or.inl rfl)) (@pss_cons _ _ _ _ _ (@ps_set _ _ 4 _ _ _ _ nd rfl (Or.inl rfl) pe_dnewT rfl (Or.inl rfl)) (@pss_cons _ _ _ _ _ (@ps_set _ _ 5 _ _ _ _ nd rfl (Or.inl rfl) pe_dnewT rfl (Or.inl rfl)) (@pss_cons _ _ _ _ _ (@ps_for _ _ _ _ _ _ _ _ PassesOwn.never rfl (pi_list (@pe_cD _ _ _ _ _ _ _ _ _ _ DPu (hr.mono (by decide)) rfl (@pa_cons _ _ _ _ _ (pv 1) (@pa_cons _ _ _ _ _ (pv 2) pa_nil rfl) rfl) (by decide) rfl rfl)) (pg_name (i := 6) nd rfl (Or.inl rfl)) (@pss_cons _ _ _ _ _ (@ps_asg _ _ _ _ _ _ (@pe_cD _ _ _ _ _ _ _ _ _ _ DBS (hr.mono (by decide)) rfl (@pa_cons _ _ _ _ _ (@pe_cD _ _ _ _ _ _ _ _ _ _ DBL (hr.mono (by decide)) rfl (@pa_cons _ _ _ _ _ (pv 0) (@pa_cons _ _ _ _ _ (pv 6) pa_nil rfl) rfl) (by decide) rfl rfl) (@pa_cons _ _ _ _ _ (@pe_cD _ _ _ _ _ _ _ _ _ _ DCu (hr.mono (by decide)) rfl (@pa_cons _ _ _ _ _ (pv 3) (@pa_cons _ _ _ _ _ (pv 6) pa_nil rfl) rfl) (by decide) rfl rfl) (@pa_cons _ _ _ _ _ (pv 4) pa_nil rfl) rfl) rfl) (by decide) rfl rfl) (pg_tup rfl (pgs_cons (pg_name (i := 7) nd rfl (Or.inl rfl)) (pgs_cons (pg_name (i := 8) nd rfl (Or.inl rfl)) pgs_nil))) rfl rfl rfl) (@pss_cons _ _ _ _ _ (ps_dput hu1 (pv 4) (pv 6) (pv 7) rfl) (@pss_one _ _ _ (ps_dput hu1 (pv 5) (pv 6) (pv 8) rfl)))) (by intro _; rfl)) (@pss_cons _ _ _ _ _ (@ps_set _ _ 9 _ _ _ _ nd rfl (Or.inl rfl) (@pe_tup _ _ _ _ _ (@pa_cons _ _ _ _ _ (pv 1) (@pa_cons _ _ _ _ _ (pv 2) pa_nil rfl) rfl)) rfl (Or.inl rfl)) (@pss_one _ _ _ (@ps_ret _ _ _ _ (@pe_tup _ _ _ _ _ (@pa_cons _ _ _ _ _ (pe_dget hu1 (pv 4) (pv 9) (fun _ _ => rfl)) (@pa_cons _ _ _ _ _ (@pe_cD _ _ _ _ _ _ _ _ _ _ DTB (hr.mono (by decide)) rfl (@pa_cons _ _ _ _ _ (pv 5) (@pa_cons _ _ _ _ _ (pv 9) pa_nil rfl) rfl) (by decide) rfl rfl) (@pa_cons _ _ _ _ _ (pv 4) pa_nil rfl) rfl) rfl))))))))))),?_⟩
  have z4 : 4096 ≤ sizeLine := by decide
  refine seqCut (fun σ' H' => σ' = [some (.ref s),some (.int m),some (.int n),none,none,none,none,none,none,none] ∧ H = H') (fun R hR => ?_) ?_
  · exact ⟨_,rfl,_,rfl,m,n,rfl,by omega,by omega,hR _ _ ⟨rfl,rfl⟩⟩
  rintro _ _ ⟨rfl,rfl⟩
  refine seqCut (fun σ' H' => σ' = [some (.ref s),some (.int m),some (.int n),none,none,none,none,none,none,none] ∧ H = H') (fun R hR => ?_) ?_
  · exact ⟨_,rfl,_,rfl,m,n,16,rfl,by omega,by omega,hR _ _ ⟨rfl,rfl⟩⟩
  rintro _ _ ⟨rfl,rfl⟩
  obtain ⟨dx,r0,rs0,g1,g2,g3⟩ := id S0
  refine seqCut (fun σ' H' => σ' = [some (.ref s),some (.int m),some (.int n),some (.int b),none,none,none,none,none,none] ∧ H = H') (fun R hR => ?_) ?_
  · exact ⟨_,rfl,s,dx,_,rfl,g1,flds_no _ _ (by decide +kernel) (by decide +kernel),s,b,ks,rfl,S0,hR _ _ ⟨rfl,rfl⟩⟩
  rintro _ _ ⟨rfl,rfl⟩
  refine seqCut (fun σ' H' => ∃ tb : Addr,σ' = [some (.ref s),some (.int m),some (.int n),some (.int b),some (.ref tb),none,none,none,none,none] ∧ H tb = none ∧ H' tb = some (.dT []) ∧ Same H H') (fun R hR => ?_) ?_
  · intro tb htb
    obtain ⟨H1,e1,k1,s1⟩ : ∃ H',upd H tb (.dT []) = H' ∧ H' tb = some (.dT []) ∧ Same H H' := ⟨_,rfl,upd_same,Same.new htb⟩
    rw [show upd H tb _ = H1 from e1]
    exact hR _ _ ⟨tb,rfl,htb,k1,s1⟩
  rintro _ H1 ⟨tb,rfl,htb,k1,s1⟩
  refine seqCut (fun σ' H' => ∃ st : Addr,σ' = [some (.ref s),some (.int m),some (.int n),some (.int b),some (.ref tb),some (.ref st),none,none,none,none] ∧ H1 st = none ∧ H' st = some (.dT []) ∧ Same H1 H') (fun R hR => ?_) ?_
  · intro st hst
    obtain ⟨H2,e2,k2,s2⟩ : ∃ H',upd H1 st (.dT []) = H' ∧ H' st = some (.dT []) ∧ Same H1 H' := ⟨_,rfl,upd_same,Same.new hst⟩
    rw [show upd H1 st _ = H2 from e2]
    exact hR _ _ ⟨st,rfl,hst,k2,s2⟩
  rintro _ H2 ⟨st,rfl,hst1,k2,s2⟩
  have hst : H st = none := s1.free hst1
  have nts : tb ≠ st := ne_of_none k1 hst1
  have s02 := s1.trans s2
  refine seqCut (fun σ' H' => ∃ (ss : List ((Int × Int) × V)) (v6 v7 v8 : Option V),σ' = [some (.ref s),some (.int m),some (.int n),some (.int b),some (.ref tb),some (.ref st),v6,v7,v8,none] ∧ H' tb = some (.dT (byP (tabS b ks (partsL m n)))) ∧ H' st = some (.dT (byP ss)) ∧ ss.map (·.1) = partsL m n ∧ StOk b ks H' ss ∧ Same H H') (fun R hR => ?_) ?_
  · refine ⟨_,rfl,_,rfl,m,n,rfl,m16,n16,fun pl ys H3 hpl pys s3 => ?_⟩
    have pln := Paired.length pys
    have p256 : (partsL m n).length ≤ 256 := by rw [partsL_len]; exact Nat.mul_le_mul m16 n16
    refine ⟨pl,rfl,⟨_,SqL.of hpl⟩,for_list (xs := ys) (fun i σ' H' => ∃ (ss : List ((Int × Int) × V)) (v6 v7 v8 : Option V),σ' = [some (.ref s),some (.int m),some (.int n),some (.int b),some (.ref tb),some (.ref st),v6,v7,v8,none] ∧ H' tb = some (.dT (byP (tabS b ks ((partsL m n).take i)))) ∧ H' st = some (.dT (byP ss)) ∧ ss.map (·.1) = (partsL m n).take i ∧ StOk b ks H' ss ∧ Paired (PtAt H') ys (partsL m n) ∧ H' pl = some (.lst ys) ∧ Same H H') ⟨[],none,none,none,rfl,s3 _ _ (s2 _ _ k1),s3 _ _ k2,rfl,(fun p v h => by simp at h),pys,hpl,s02.trans s3⟩ (fun i σ Hx _ ⟨_,_,_,_,_,_,_,_,_,_,h,_⟩ => SqL.of h) ?_ ?_⟩
    · rintro i x σ Hx hi ⟨ss,v6,v7,v8,rfl,ht,hs,es,so,py,hl,sx⟩
      obtain ⟨p,hp,ta,rfl,hta⟩ := Paired.getR py hi
      have pm := List.mem_of_getElem? hp
      obtain ⟨⟨p1,p2⟩,p3,p4⟩ := partsL_mem.mp pm
      have pnew := partsL_new hp
      have il : i < (partsL m n).length := (List.getElem?_eq_some_iff.mp hp).1
      have tl : (tabS b ks ((partsL m n).take i)).length ≤ 256 := by
        unfold tabS
        rw [List.length_map,List.length_take]; omega
      have sl : ss.length ≤ 256 := by
        have := congrArg List.length es
        rw [List.length_map,List.length_take] at this
        omega
      have cutIn : ∀ c ∈ cutsL b p.1 p.2,fstP p.1 p.2 c ∈ (partsL m n).take i ∧ sndP b p.1 p.2 c ∈ (partsL m n).take i := fun c hc => by
        obtain ⟨⟨a1,a2,a3,a4,a5,_⟩,⟨c1,c2,c3,c4,c5,_⟩⟩ := cut_less b0 p1 p3 hc
        exact ⟨partsL_take hp (partsL_mem.mpr ⟨⟨a1,by omega⟩,a2,by omega⟩) a5,partsL_take hp (partsL_mem.mpr ⟨⟨c1,by omega⟩,c2,by omega⟩) c5⟩
      refine seqCut (fun σ' H' => ∃ (sv : V),σ' = [some (.ref s),some (.int m),some (.int n),some (.int b),some (.ref tb),some (.ref st),some (.ref ta),some (.int (bW b ks p)),some sv,none] ∧ ((bC b ks p = none ∧ TrV H' (lfT ks p.1 p.2) sv) ∨ ∃ c,bC b ks p = some c ∧ CutAt b p.1 p.2 H' sv c) ∧ Same Hx H') (fun R hR => ?_) ?_
      · have Sx := S0.keep (fun c o e => sx _ _ e) (fun c C' d fs e => sx _ _ e)
        refine ⟨_,rfl,_,rfl,s,ta,b,ks,p.1,p.2,rfl,Sx,k8,hta,fun lf lv Ha hlf hlv sa => ?_⟩
        refine ⟨_,rfl,_,rfl,b,p.1,p.2,ta,rfl,sa _ _ hta,by omega,by omega,b0,fun cl cy Hb hcl pc sb => ?_⟩
        have sab := sa.trans sb
        refine ⟨_,rfl,lf,cl,tb,lfW ks p.1 p.2,lv,cy,b,p.1,p.2,cutsL b p.1 p.2,bW b ks,_,rfl,sb _ _ hlf,hcl,pc,sab _ _ ht,fun c hc => ⟨tabS_get (cutIn c hc).1,tabS_get (cutIn c hc).2⟩,fun r sv Hc hr hsv sc => ?_⟩
        rw [← bW_eq b0 p p1 p3] at hr
        exact ⟨r,_,rfl,SqT.of hr,rfl,_,_,rfl,_,_,rfl,rfl,hR _ _ ⟨sv,rfl,(by
          change StV b p.1 p.2 Hc lv sv (bC b ks p) at hsv
          cases ec : bC b ks p with
          | none => rw [ec] at hsv; exact .inl ⟨rfl,(show sv = lv from hsv) ▸ TrV.keep (fun a xs e => sc _ _ (sb _ _ e)) _ hlv⟩
          | some c => rw [ec] at hsv; exact .inr ⟨c,rfl,hsv⟩),sab.trans sc⟩⟩
      rintro _ Hy ⟨sv,rfl,hsv,sxy⟩
      have ktu : ∀ {Hz : Hp} {d : Addr} {o o' : HO} {k : List (List Key × V)},Hz d = some (.dT k) → ∀ a xs,Hz a = some (.tup xs) → (upd Hz d o) a = some (.tup xs) := fun {Hz d o o' k} hd a xs e => by
        rw [upd_ne (fun z => by rw [z,hd] at e; cases e)]; exact e
      have hty := sxy _ _ ht
      have hsy := sxy _ _ hs
      refine seqCut (fun σ' H' => σ' = [some (.ref s),some (.int m),some (.int n),some (.int b),some (.ref tb),some (.ref st),some (.ref ta),some (.int (bW b ks p)),some sv,none] ∧ H' = upd Hy tb (.dT (byP (tabS b ks ((partsL m n).take (i + 1)))))) (fun R hR => ?_) ?_
      · refine ⟨_,rfl,_,rfl,_,rfl,tb,_,rfl,DPut.t (k := pk p) hty (sxy _ _ hta) (by unfold byP; rw [List.length_map]; omega),hR _ _ ⟨rfl,?_⟩⟩
        rw [byP_put (by rw [tabS_fst]; exact pnew),List.take_add_one,hp]
        unfold tabS
        rw [List.map_append]
        rfl
      rintro _ Hz ⟨rfl,eHz⟩
      have tz : Hz tb = some (.dT (byP (tabS b ks ((partsL m n).take (i + 1))))) := by rw [eHz]; exact upd_same
      have sz : Hz st = some (.dT (byP ss)) := by rw [eHz,upd_ne (Ne.symm nts)]; exact hsy
      have kz : ∀ a xs,Hy a = some (.tup xs) → Hz a = some (.tup xs) := fun a xs e => by rw [eHz,upd_ne (fun z => by rw [z,hty] at e; cases e)]; exact e
      have s0z : Same H Hz := fun c o e => by rw [eHz,upd_ne (ne_of_none e htb)]; exact sxy _ _ (sx _ _ e)
      have lz : Hz pl = some (.lst ys) := by rw [eHz,upd_ne (fun z => by rw [z,ht] at hl; cases hl)]; exact sxy _ _ hl
      refine ⟨_,rfl,_,rfl,_,rfl,st,_,rfl,DPut.t (k := pk p) sz (kz _ _ (sxy _ _ hta)) (by unfold byP; rw [List.length_map]; omega),ss ++ [(p,sv)],_,_,_,rfl,?_,?_,?_,?_,?_,?_,?_⟩
      · rw [upd_ne nts]; exact tz
      · rw [byP_put (by rw [es]; exact pnew)]; exact upd_same
      · rw [List.map_append,es,List.take_add_one,hp]; rfl
      · have kw : ∀ a xs,Hy a = some (.tup xs) → (upd Hz st (.dT (putK (byP ss) (pk p) sv))) a = some (.tup xs) := fun a xs e => by
          have e' := kz _ _ e
          rw [upd_ne (fun z => by rw [z,sz] at e'; cases e')]; exact e'
        intro p' v' hm
        rcases List.mem_append.mp hm with hm | hm
        · rcases (so.keep (fun a xs e => kw _ _ (sxy _ _ e))) p' v' hm with h | ⟨x,hc,h1,h2,h3,h4⟩
          · exact .inl h
          · exact .inr ⟨x,hc,h1,by rw [List.map_append]; exact List.mem_append_left _ h2,by rw [List.map_append]; exact List.mem_append_left _ h3,h4⟩
        · rw [List.mem_singleton] at hm
          cases hm
          rcases hsv with ⟨ec,hl'⟩ | ⟨c,ec,⟨q',t1,t2,e,c1,c2,c3⟩⟩
          · exact .inl ⟨ec,TrV.keep kw _ hl'⟩
          · have hc := stC_mem ec
            obtain ⟨⟨_,_,_,_,_,l1⟩,⟨_,_,_,_,_,l2⟩⟩ := cut_less b0 p1 p3 hc
            obtain ⟨i1,i2⟩ := cutIn c hc
            exact .inr ⟨c,ec,⟨q',t1,t2,e,kw _ _ c1,kw _ _ c2,kw _ _ c3⟩,by rw [List.map_append,es]; exact List.mem_append_left _ i1,by rw [List.map_append,es]; exact List.mem_append_left _ i2,l1,l2⟩
      · refine Paired.mapP py fun v p ⟨q',e,h⟩ => ⟨q',e,?_⟩
        have e' := kz _ _ (sxy _ _ h)
        rw [upd_ne (fun z => by rw [z,sz] at e'; cases e')]; exact e'
      · rw [upd_ne (fun z => by rw [z,sz] at lz; cases lz)]; exact lz
      · exact fun c o e => by rw [upd_ne (ne_of_none e hst)]; exact s0z _ _ e
    · rintro σ Hx ⟨ss,v6,v7,v8,rfl,ht,hs,es,so,py,hl,sx⟩
      rw [pln,List.take_length] at ht es
      exact hR _ _ ⟨ss,v6,v7,v8,rfl,ht,hs,es,so,sx⟩
  rintro _ H3 ⟨ss,v6,v7,v8,rfl,ht,hs,es,so,s03⟩
  have pmem : ((m : Int),(n : Int)) ∈ partsL m n := partsL_mem.mpr ⟨⟨by show (1 : Int) ≤ m; omega,Int.le_refl _⟩,by show (1 : Int) ≤ n; omega,Int.le_refl _⟩
  refine seqCut (fun σ' H' => ∃ pa : Addr,σ' = [some (.ref s),some (.int m),some (.int n),some (.int b),some (.ref tb),some (.ref st),v6,v7,v8,some (.ref pa)] ∧ H' pa = some (.tup [.int m,.int n]) ∧ Same H3 H') (fun R hR => ?_) ?_
  · refine ⟨_,rfl,_,rfl,(by show 2 ≤ sizeLine; decide),fun pa hpa => ?_⟩
    obtain ⟨H4,e4,k4,s4⟩ : ∃ H',upd H3 pa (.tup [.int m,.int n]) = H' ∧ H' pa = some (.tup [.int m,.int n]) ∧ Same H3 H' := ⟨_,rfl,upd_same,Same.new hpa⟩
    rw [show upd H3 pa _ = H4 from e4]
    exact hR _ _ ⟨pa,rfl,k4,s4⟩
  rintro _ H4 ⟨pa,rfl,hpa,s34⟩
  refine ⟨_,rfl,_,rfl,tb,_,rfl,tabS_get pmem ▸ DGet.t (k := pk (m,n)) (s34 _ _ ht) hpa,?_⟩
  refine ⟨_,rfl,_,rfl,st,pa,b,ks,ss,((m : Int),(n : Int)),rfl,s34 _ _ hs,hpa,so.keep (fun a xs e => s34 _ _ e),(by rw [es]; exact pmem),(by show ((m : Int) + n).toNat < 33; omega),fun v5 H5 hv5 s45 => ?_⟩
  refine ⟨_,rfl,(by show 3 ≤ sizeLine; decide),fun r hr => ?_⟩
  obtain ⟨H6,e6,k6,s6⟩ : ∃ H',upd H5 r (.tup [.int (bW b ks (m,n)),v5,.ref tb]) = H' ∧ H' r = some (.tup [.int (bW b ks (m,n)),v5,.ref tb]) ∧ Same H5 H' := ⟨_,rfl,upd_same,Same.new hr⟩
  rw [show upd H5 r _ = H6 from e6]
  have s36 := s34.trans (s45.trans s6)
  exact q r tb v5 H6 htb k6 (s36 _ _ ht) (TrV.keep (fun a xs e => s6 _ _ e) _ hv5) (s03.trans s36)
end
abbrev TC := (Bool × Int) × Nat
def cbt1 (wa : Bool) (left : Nat) (c : Bool × Int) : Option TC := if c.1 = wa then some (c,left) else if left = 0 then none else some (c,left - 1)
def cbt (cs : List (Bool × Int)) (wa : Bool) (left : Nat) : List TC := cs.filterMap (cbt1 wa left)
theorem cbt_take {cs : List (Bool × Int)} {wa : Bool} {left i : Nat} {c : Bool × Int} (h : cs[i]? = some c) : cbt (cs.take (i + 1)) wa left = cbt (cs.take i) wa left ++ (cbt1 wa left c).toList := by
  unfold cbt
  rw [List.take_add_one,h,List.filterMap_append]
  congr 1
theorem cbt_mem {cs : List (Bool × Int)} {wa : Bool} {left : Nat} {x : TC} (h : x ∈ cbt cs wa left) : x.1 ∈ cs ∧ x.2 ≤ left ∧ (x.1.1 = wa → x.2 = left) ∧ (x.1.1 ≠ wa → x.2 + 1 = left) := by
  unfold cbt at h
  obtain ⟨c,hc,e⟩ := List.mem_filterMap.mp h
  unfold cbt1 at e
  split at e
  · rename_i hw
    cases e
    exact ⟨hc,Nat.le_refl _,fun _ => rfl,fun n => absurd hw n⟩
  · rename_i hw
    split at e
    · cases e
    · cases e
      exact ⟨hc,by show left - 1 ≤ left; omega,fun z => absurd z hw,fun _ => by show left - 1 + 1 = left; omega⟩
theorem mem_cbt {cs : List (Bool × Int)} {wa : Bool} {left l : Nat} {c : Bool × Int} (hc : c ∈ cs) (h : (c.1 = wa ∧ l = left) ∨ (c.1 ≠ wa ∧ l + 1 = left)) : (c,l) ∈ cbt cs wa left := by
  refine List.mem_filterMap.mpr ⟨c,hc,?_⟩
  unfold cbt1
  rcases h with ⟨h1,rfl⟩ | ⟨h1,rfl⟩
  · rw [if_pos h1]
  · rw [if_neg h1,if_neg (by omega)]; rfl
theorem cbt_len (cs : List (Bool × Int)) (wa : Bool) (left : Nat) : (cbt cs wa left).length ≤ cs.length := List.length_filterMap_le _ _
def wS (dn : Bool) : Str := if dn = true then "down" else "across"
theorem wS_inj {a b : Bool} (h : wS a = wS b) : a = b := by
  cases a <;> cases b <;> first | rfl | exact absurd h (by decide +kernel)
def nk (p : Int × Int) (dn : Bool) (l : Nat) : NK := ([.inl p.1,.inl p.2],[.inr (wS dn),.inl (l : Int)])
theorem nk_inj {p p' : Int × Int} {dn dn' : Bool} {l l' : Nat} (h : nk p dn l = nk p' dn' l') : p = p' ∧ dn = dn' ∧ l = l' := by
  unfold nk at h
  injection h with h1 h2
  injection h1 with a1 a2
  injection a1 with a1
  injection a2 with a2 _
  injection a2 with a2
  injection h2 with c1 c2
  injection c1 with c1
  injection c2 with c2 _
  injection c2 with c2
  exact ⟨Prod.ext a1 a2,wS_inj c1,by omega⟩
def TcAt (b w h : Int) (H : Hp) (v : V) (x : TC) : Prop := ∃ q p1 p2,v = .ref q ∧ H q = some (.tup [wv x.1.1,.int x.1.2,.ref p1,.ref p2]) ∧ NkAt H p1 (nk (fstP w h x.1) x.1.1 x.2) ∧ NkAt H p2 (nk (sndP b w h x.1) x.1.1 x.2)
theorem TcAt.keep {b w h : Int} {H H' : Hp} (t : ∀ c xs,H c = some (.tup xs) → H' c = some (.tup xs)) {v : V} {x : TC} (c : TcAt b w h H v x) : TcAt b w h H' v x := by
  obtain ⟨q,p1,p2,e,h1,h2,h3⟩ := c
  exact ⟨q,p1,p2,e,t _ _ h1,h2.keep t,h3.keep t⟩
def stFg {α : Type} (g : α → Int) (m : Int × Option α) (c : α) : Int × Option α := if m.1 < g c then (g c,some c) else m
def stPg {α : Type} (g : α → Int) (cs : List α) (x : Int) : Int × Option α := cs.foldl (stFg g) (x,none)
def stCg {α : Type} (g : α → Int) (cs : List α) (x : Int) : Option α := (stPg g cs x).2
theorem stFg_fst {α : Type} (g : α → Int) : ∀ (l : List α) (m : Int × Option α),(l.foldl (stFg g) m).1 = mxL g l m.1
  | [],_ => rfl
  | q :: l,m => by
    show (l.foldl (stFg g) (stFg g m q)).1 = mxL g l (max m.1 (g q))
    rw [stFg_fst g l]
    unfold stFg
    split
    · rw [show max m.1 (g q) = g q by omega]
    · rw [show max m.1 (g q) = m.1 by omega]
theorem stPg_take {α : Type} (g : α → Int) (l : List α) (x : Int) {i : Nat} {q : α} (h : l[i]? = some q) : stPg g (l.take (i + 1)) x = stFg g (stPg g (l.take i) x) q := by
  unfold stPg
  rw [List.take_add_one,h,List.foldl_append]
  rfl
theorem stFg_mem {α : Type} (g : α → Int) : ∀ (l : List α) (m : Int × Option α) {c : α},(l.foldl (stFg g) m).2 = some c → (c ∈ l ∧ (l.foldl (stFg g) m).1 = g c) ∨ (m.2 = some c ∧ (l.foldl (stFg g) m).1 = m.1)
  | [],_,_,h => .inr ⟨h,rfl⟩
  | q :: l,m,c,h => by
    show (c ∈ q :: l ∧ (l.foldl (stFg g) (stFg g m q)).1 = g c) ∨ (m.2 = some c ∧ (l.foldl (stFg g) (stFg g m q)).1 = m.1)
    rcases stFg_mem g l _ h with ⟨h1,h2⟩ | ⟨h1,h2⟩
    · exact .inl ⟨List.mem_cons_of_mem _ h1,h2⟩
    · rw [h2]
      unfold stFg at h1 ⊢
      split at h1
      · rename_i hc
        cases h1
        exact .inl ⟨List.mem_cons_self,by rw [if_pos hc]⟩
      · rename_i hc
        exact .inr ⟨h1,by rw [if_neg hc]⟩
theorem stCg_mem {α : Type} {g : α → Int} {l : List α} {x : Int} {c : α} (h : stCg g l x = some c) : c ∈ l ∧ mxL g l x = g c := by
  rcases stFg_mem g l _ h with ⟨h1,h2⟩ | ⟨h1,h2⟩
  · exact ⟨h1,(stFg_fst g l (x,none)).symm.trans h2⟩
  · cases h1
theorem stFg_none {α : Type} (g : α → Int) : ∀ (l : List α) (m : Int × Option α),(l.foldl (stFg g) m).2 = none → (l.foldl (stFg g) m).1 = m.1
  | [],_,_ => rfl
  | q :: l,m,h => by
    have h1 := stFg_none g l (stFg g m q) h
    show (l.foldl (stFg g) (stFg g m q)).1 = m.1
    rw [h1]
    unfold stFg
    split
    · rename_i hc
      exfalso
      have some2 : ∀ (l : List α) (m : Int × Option α),m.2 ≠ none → (l.foldl (stFg g) m).2 ≠ none := by
        intro l
        induction l with
        | nil => intro m hm; exact hm
        | cons a r ih =>
          intro m hm
          refine ih (stFg g m a) ?_
          unfold stFg
          split
          · exact fun z => by cases z
          · exact hm
      refine some2 l (stFg g m q) ?_ h
      unfold stFg
      rw [if_pos hc]
      exact fun z => by cases z
    · rfl
theorem stCg_none {α : Type} {g : α → Int} {l : List α} {x : Int} (h : stCg g l x = none) : mxL g l x = x := (stFg_fst g l (x,none)).symm.trans (stFg_none g l _ h)
def StVN (b w h : Int) (H : Hp) (lv v : V) : Option TC → Prop
  | none => v = lv
  | some c => TcAt b w h H v c
theorem StVN.keep {b w h : Int} {H H' : Hp} (s : Same H H') {lv v : V} : ∀ {o : Option TC},StVN b w h H lv v o → StVN b w h H' lv v o
  | none,e => e
  | some _,e => TcAt.keep (fun c xs e => s _ _ e) e
def tcW (b : Int) (f : Int × Int → Bool → Nat → Int) (w h : Int) (x : TC) : Int := f (fstP w h x.1) x.1.1 x.2 + f (sndP b w h x.1) x.1.1 x.2
section
variable {P : Program} {w : World} {K : PySem.W.Frag} {mg : Str → Option Value} {base : Heap}
def spCbt : Sp := fun vs H Q _ => ∃ (cl : Addr) (ys : List V) (b w h : Int) (cs : List (Bool × Int)) (wa : Bool) (left : Nat),vs = [.ref cl,wv wa,.int (left : Int)] ∧ H cl = some (.lst ys) ∧ Paired (CutAt b w h H) ys cs ∧ cs.length ≤ 32 ∧ ∀ (l : Addr) (ys' : List V) (H' : Hp),H' l = some (.lst ys') → Paired (TcAt b w h H') ys' (cbt cs wa left) → Same H H' → Q (.ref l) H'
def spStepN (P : Program) (w : World) : Sp := fun vs H Q _ => ∃ (lf cl wt : Addr) (x : Int) (lv : V) (ys : List V) (b w1 h1 : Int) (cs : List TC) (f : Int × Int → Bool → Nat → Int) (kvs : List (NK × V)),vs = [.ref lf,.ref cl,.ref wt] ∧ H lf = some (.tup [.int x,lv]) ∧ H cl = some (.lst ys) ∧ Paired (TcAt b w1 h1 H) ys cs ∧ NDict P w H wt kvs ∧ (∀ c ∈ cs,valV kvs (nk (fstP w1 h1 c.1) c.1.1 c.2) = some (.int (f (fstP w1 h1 c.1) c.1.1 c.2)) ∧ valV kvs (nk (sndP b w1 h1 c.1) c.1.1 c.2) = some (.int (f (sndP b w1 h1 c.1) c.1.1 c.2))) ∧
  ∀ (r : Addr) (v : V) (H' : Hp),H' r = some (.tup [.int (mxL (tcW b f w1 h1) cs x),v]) → StVN b w1 h1 H' lv v (stCg (tcW b f w1 h1) cs x) → Same H H' → Q (.ref r) H'
theorem sccbt : FnScope ["cuts","way_ahead","left","allowed","way","p","first","second","still_left"] ["cuts","way_ahead","left"] (defScope sCutsByTurns) := ⟨rfl,rfl,rfl,by decide +kernel,rfl,by decide +kernel,by decide +kernel⟩
theorem ok_cbt {f : Addr} {fd : FuncData} (F : Fun K "cuts_by_turns" "cuts_by_turns" sCutsByTurns f fd)  : FnOk P w K mg base CX0 1 f fd ["cuts","way_ahead","left"] (spCbt) := by
  refine F.ok sccbt (fun vs H Q E h => ?_) (fun cdv A outer s H vs Q E hr h => ?_)
  · obtain ⟨cl,ys,b,w1,h1,cs,wa,left,rfl,_⟩ := h
    rfl
  obtain ⟨cl,ys,b,w1,h1,cs,wa,left,rfl,hcl,pc,c32,q⟩ := h
  have nd := sccbt.nd
  refine ⟨_,(@pss_cons _ _ _ _ _ (@ps_set _ _ 3 _ _ _ _ nd rfl (Or.inl rfl) (@pe_lst _ _ _ _ pa_nil) rfl (Or.inl rfl)) (@pss_cons _ _ _ _ _ (@ps_for _ _ _ _ _ _ _ _ PassesOwn.never rfl (pi_list (pv 0)) (pg_tup rfl (pgs_cons (pg_name (i := 4) nd rfl (Or.inl rfl)) (pgs_cons (pg_name (i := 5) nd rfl (Or.inl rfl)) (pgs_cons (pg_name (i := 6) nd rfl (Or.inl rfl)) (pgs_cons (pg_name (i := 7) nd rfl (Or.inl rfl)) pgs_nil))))) (@pss_cons _ _ _ _ _ (@ps_set _ _ 8 _ _ _ _ nd rfl (Or.inl rfl) (pe_ifExp (@pt_cmpR _ _ _ _ _ _ _ _ op_eq (pv 4) (pv 1) (nomark _)) (pv 2) (@pe_op _ _ _ _ _ _ _ _ op_sub (pv 2) pe_int)) rfl (Or.inl rfl)) (@pss_one _ _ _ (@ps_if _ _ _ _ _ _ _ _ (@pt_cmpR _ _ _ _ _ _ _ _ op_ge (pv 8) pe_int (nomark _)) (@pss_one _ _ _ (@ps_expr _ _ _ _ (@pe_bm _ _ _ _ _ _ _ _ _ _ _ _ PySem.F.plainAttrs_list PySem.F.slot_list_append PySem.F.type_list_append mt_append (pv 3) (@pa_cons _ _ _ _ _ (@pe_tup _ _ _ _ _ (@pa_cons _ _ _ _ _ (pv 4) (@pa_cons _ _ _ _ _ (pv 5) (@pa_cons _ _ _ _ _ (@pe_tup _ _ _ _ _ (@pa_cons _ _ _ _ _ (pv 6) (@pa_cons _ _ _ _ _ (pv 4) (@pa_cons _ _ _ _ _ (pv 8) pa_nil rfl) rfl) rfl)) (@pa_cons _ _ _ _ _ (@pe_tup _ _ _ _ _ (@pa_cons _ _ _ _ _ (pv 7) (@pa_cons _ _ _ _ _ (pv 4) (@pa_cons _ _ _ _ _ (pv 8) pa_nil rfl) rfl) rfl)) pa_nil rfl) rfl) rfl) rfl)) pa_nil rfl) rfl rfl rfl rfl rfl) rfl)) pss_nil))) (by intro _; rfl)) (@pss_one _ _ _ (@ps_ret _ _ _ _ (pv 3))))),?_⟩
  have z4 : 4096 ≤ sizeLine := by decide
  refine seqCut (fun σ' H' => ∃ l : Addr,σ' = [some (.ref cl),some (wv wa),some (.int (left : Int)),some (.ref l),none,none,none,none,none] ∧ H l = none ∧ H' l = some (.lst []) ∧ Same H H') (fun R hR => ?_) ?_
  · refine ⟨by decide,fun l hl => ?_⟩
    obtain ⟨H1,e1,k1,s1⟩ : ∃ H',upd H l (.lst []) = H' ∧ H' l = some (.lst []) ∧ Same H H' := ⟨_,rfl,upd_same,Same.new hl⟩
    rw [show upd H l _ = H1 from e1]
    exact hR _ _ ⟨l,rfl,hl,k1,s1⟩
  rintro _ H1 ⟨l,rfl,hl,l1,s1⟩
  have ncl : cl ≠ l := ne_of_none hcl hl
  have yl := Paired.length pc
  refine seqCut (fun σ' H' => (∃ v4 v5 v6 v7 v8 : Option V,σ' = [some (.ref cl),some (wv wa),some (.int (left : Int)),some (.ref l),v4,v5,v6,v7,v8]) ∧ (∃ us,H' l = some (.lst us) ∧ Paired (TcAt b w1 h1 H') us (cbt cs wa left)) ∧ But l H1 H') (fun R hR => ?_) ?_
  · refine ⟨_,rfl,cl,rfl,⟨_,SqL.of (s1 _ _ hcl)⟩,for_list (xs := ys) (fun i σ' H' => (∃ v4 v5 v6 v7 v8 : Option V,σ' = [some (.ref cl),some (wv wa),some (.int (left : Int)),some (.ref l),v4,v5,v6,v7,v8]) ∧ (∃ us,H' l = some (.lst us) ∧ Paired (TcAt b w1 h1 H') us (cbt (cs.take i) wa left)) ∧ But l H1 H') ⟨⟨_,_,_,_,_,rfl⟩,⟨[],l1,.nil⟩,But.refl⟩ (fun i σ Hx _ ⟨_,_,bx⟩ => SqL.of (bx _ _ ncl (s1 _ _ hcl))) ?_ ?_⟩
    · rintro i x σ H2 hi ⟨⟨v4,v5,v6,v7,v8,rfl⟩,⟨us,l2,pu⟩,b2⟩
      obtain ⟨c,hc,q0,t1,t2,rfl,g1,g2,g3⟩ := Paired.getR pc hi
      have il : i < ys.length := (List.getElem?_eq_some_iff.mp hi).1
      have g1' := b2 _ _ (ne_of_none g1 hl) (s1 _ _ g1)
      have g2' := b2 _ _ (ne_of_none g2 hl) (s1 _ _ g2)
      have g3' := b2 _ _ (ne_of_none g3 hl) (s1 _ _ g3)
      have ul := Paired.length pu
      have ul2 := cbt_len (cs.take i) wa left
      rw [List.length_take] at ul2
      have ct := cbt_take (wa := wa) (left := left) hc
      refine ⟨q0,_,rfl,SqT.of g1',rfl,_,_,rfl,_,_,rfl,_,_,rfl,_,_,rfl,rfl,?_⟩
      refine seqCut (fun σ' H' => (∃ st : Int,σ' = [some (.ref cl),some (wv wa),some (.int (left : Int)),some (.ref l),some (wv c.1),some (.int c.2),some (.ref t1),some (.ref t2),some (.int st)] ∧ ((0 ≤ st ∧ ∃ n : Nat,st = n ∧ cbt1 wa left c = some (c,n)) ∨ (st < 0 ∧ cbt1 wa left c = none))) ∧ H2 = H') (fun R hR => ?_) ?_
      · refine ⟨_,rfl,_,rfl,rfl,_,rfl,?_⟩
        by_cases hw : c.1 = wa
        · rw [show decide (wv c.1 = wv wa) = true by rw [hw]; exact decide_eq_true rfl]
          refine iteT ⟨_,rfl,hR _ _ ⟨⟨left,rfl,.inl ⟨by omega,left,rfl,by unfold cbt1; rw [if_pos hw]⟩⟩,rfl⟩⟩
        · rw [show decide (wv c.1 = wv wa) = false from decide_eq_false fun z => hw (wS_inj (V.str.inj z))]
          refine iteF ⟨_,rfl,_,_,rfl,rfl,hR _ _ ⟨⟨left - 1,rfl,?_⟩,rfl⟩⟩
          by_cases h0 : left = 0
          · exact .inr ⟨by omega,by unfold cbt1; rw [if_neg hw,if_pos h0]⟩
          · exact .inl ⟨by omega,left - 1,by omega,by unfold cbt1; rw [if_neg hw,if_neg h0]⟩
      rintro _ _ ⟨⟨st,rfl,hst⟩,rfl⟩
      refine ⟨_,rfl,_,_,rfl,rfl,_,rfl,?_⟩
      rcases hst with ⟨s0,n,rfl,hcb⟩ | ⟨s0,hcb⟩
      · rw [show decide ((0 : Int) ≤ (n : Int)) = true from decide_eq_true s0]
        refine iteT ⟨_,rfl,.inl ⟨rfl,_,SqL.of l2⟩,_,rfl,_,rfl,_,rfl,_,rfl,_,rfl,(by show 3 ≤ sizeLine; decide),fun p1 hp1 => ?_⟩
        obtain ⟨H3,e3,k3,s3⟩ : ∃ H',upd H2 p1 (.tup [.ref t1,wv c.1,.int (n : Int)]) = H' ∧ H' p1 = some (.tup [.ref t1,wv c.1,.int (n : Int)]) ∧ Same H2 H' := ⟨_,rfl,upd_same,Same.new hp1⟩
        rw [show upd H2 p1 _ = H3 from e3]
        refine ⟨_,rfl,_,rfl,_,rfl,(by show 3 ≤ sizeLine; decide),fun p2 hp2 => ?_⟩
        obtain ⟨H4,e4,k4,s4⟩ : ∃ H',upd H3 p2 (.tup [.ref t2,wv c.1,.int (n : Int)]) = H' ∧ H' p2 = some (.tup [.ref t2,wv c.1,.int (n : Int)]) ∧ Same H3 H' := ⟨_,rfl,upd_same,Same.new hp2⟩
        rw [show upd H3 p2 _ = H4 from e4]
        refine ⟨(by show 4 ≤ sizeLine; decide),fun m hm => ?_⟩
        obtain ⟨H5,e5,k5,s5⟩ : ∃ H',upd H4 m (.tup [wv c.1,.int c.2,.ref p1,.ref p2]) = H' ∧ H' m = some (.tup [wv c.1,.int c.2,.ref p1,.ref p2]) ∧ Same H4 H' := ⟨_,rfl,upd_same,Same.new hm⟩
        rw [show upd H4 m _ = H5 from e5]
        have s25 := s3.trans (s4.trans s5)
        have l5 := s25 _ _ l2
        have kt : ∀ d xs,H5 d = some (.tup xs) → (upd H5 l (.lst (us ++ [.ref m]))) d = some (.tup xs) := fun d xs e => by
          rw [upd_ne (fun z => by rw [z,l5] at e; cases e)]; exact e
        refine ⟨l,_,_,rfl,rfl,l5,by omega,⟨_,_,_,_,_,rfl⟩,⟨_,upd_same,?_⟩,fun d o nn e => by rw [upd_ne nn]; exact s25 _ _ (b2 _ _ nn e)⟩
        rw [ct,hcb]
        exact Paired.app (Paired.mapP pu fun v x h => TcAt.keep (fun d xs e => kt _ _ (s25 _ _ e)) h) (.cons ⟨m,p1,p2,rfl,kt _ _ k5,⟨t1,kt _ _ (s5 _ _ (s4 _ _ k3)),kt _ _ (s25 _ _ g2')⟩,⟨t2,kt _ _ (s5 _ _ k4),kt _ _ (s25 _ _ g3')⟩⟩ .nil)
      · rw [show decide ((0 : Int) ≤ st) = false from decide_eq_false (by omega)]
        refine iteF ⟨⟨_,_,_,_,_,rfl⟩,⟨us,l2,?_⟩,b2⟩
        rw [ct,hcb]
        exact (List.append_nil _).symm ▸ pu
    · rintro σ H2 ⟨e,⟨us,l2,pu⟩,b2⟩
      rw [yl,List.take_length] at pu
      exact hR _ _ ⟨e,⟨us,l2,pu⟩,b2⟩
  rintro _ H2 ⟨⟨v4,v5,v6,v7,v8,rfl⟩,⟨us,l2,pu⟩,b2⟩
  exact ⟨_,rfl,q l us H2 l2 pu (fun c o e => b2 _ _ (ne_of_none e hl) (s1 _ _ e))⟩
theorem scbstepn : FnScope ["leaf_found","cuts","worths","worth","step","cut","together"] ["leaf_found","cuts","worths"] (defScope sBestStep) := ⟨rfl,rfl,rfl,by decide +kernel,rfl,by decide +kernel,by decide +kernel⟩
theorem ok_bstepn {f : Addr} {fd : FuncData} (F : Fun K "best_step" "best_step" sBestStep f fd)  : FnOk P w K mg base CX0 1 f fd ["leaf_found","cuts","worths"] (spStepN P w) := by
  refine F.ok scbstepn (fun vs H Q E h => ?_) (fun cdv A outer s H vs Q E hr h => ?_)
  · obtain ⟨lf,cl,wt,x0,lv,ys,b,w1,h1,cs,f0,kvs,rfl,_⟩ := h
    rfl
  obtain ⟨lf,cl,wt,x0,lv,ys,b,w1,h1,cs,f0,kvs,rfl,hlf,hcl,pc,hwt,hv,q⟩ := h
  have nd := scbstepn.nd
  have hu2 := Nat.lt_of_le_of_lt (Nat.add_le_add_left (show 2 ≤ 64 by decide) _) hr.units
  refine ⟨_,(@pss_cons _ _ _ _ _ (@ps_asg _ _ _ _ _ _ (pv 0) (pg_tup rfl (pgs_cons (pg_name (i := 3) nd rfl (Or.inl rfl)) (pgs_cons (pg_name (i := 4) nd rfl (Or.inl rfl)) pgs_nil))) rfl rfl rfl) (@pss_cons _ _ _ _ _ (@ps_for _ _ _ _ _ _ _ _ PassesOwn.never rfl (pi_list (pv 1)) (pg_name (i := 5) nd rfl (Or.inl rfl)) (@pss_cons _ _ _ _ _ (@ps_set _ _ 6 _ _ _ _ nd rfl (Or.inl rfl) (@pe_op _ _ _ _ _ _ _ _ op_add (pe_nget hu2 (pv 2) (@pe_ix _ _ _ _ _ _ _ ix_tup (pv 5) pe_int (fun _ _ => rfl)) (fun _ _ => rfl)) (pe_nget hu2 (pv 2) (@pe_ix _ _ _ _ _ _ _ ix_tup (pv 5) pe_int (fun _ _ => rfl)) (fun _ _ => rfl))) rfl (Or.inl rfl)) (@pss_one _ _ _ (@ps_if _ _ _ _ _ _ _ _ (@pt_cmpR _ _ _ _ _ _ _ _ op_gt (pv 6) (pv 3) (nomark _)) (@pss_one _ _ _ (ps_par rfl nd rfl rfl (i := 3) (j := 4) (by decide) rfl rfl (@pa_cons _ _ _ _ _ (pv 6) (@pa_cons _ _ _ _ _ (pv 5) pa_nil rfl) rfl) rfl)) pss_nil))) (by intro _; rfl)) (@pss_one _ _ _ (@ps_ret _ _ _ _ (@pe_tup _ _ _ _ _ (@pa_cons _ _ _ _ _ (pv 3) (@pa_cons _ _ _ _ _ (pv 4) pa_nil rfl) rfl)))))),?_⟩
  have z4 : 4096 ≤ sizeLine := by decide
  refine seqCut (fun σ' H' => σ' = [some (.ref lf),some (.ref cl),some (.ref wt),some (.int x0),some lv,none,none] ∧ H = H') (fun R hR => ?_) ?_
  · exact ⟨_,rfl,lf,_,rfl,SqT.of hlf,rfl,_,_,rfl,_,_,rfl,rfl,hR _ _ ⟨rfl,rfl⟩⟩
  rintro _ _ ⟨rfl,rfl⟩
  have cln := Paired.length pc
  refine seqCut (fun σ' H' => ∃ (sv : V) (v5 v6 : Option V),σ' = [some (.ref lf),some (.ref cl),some (.ref wt),some (.int (mxL (tcW b f0 w1 h1) cs x0)),some sv,v5,v6] ∧ StVN b w1 h1 H lv sv (stCg (tcW b f0 w1 h1) cs x0) ∧ H = H') (fun R hR => ?_) ?_
  · refine ⟨_,rfl,cl,rfl,⟨_,SqL.of hcl⟩,for_list (xs := ys) (fun i σ' H' => ∃ (sv : V) (v5 v6 : Option V),σ' = [some (.ref lf),some (.ref cl),some (.ref wt),some (.int (mxL (tcW b f0 w1 h1) (cs.take i) x0)),some sv,v5,v6] ∧ StVN b w1 h1 H lv sv (stCg (tcW b f0 w1 h1) (cs.take i) x0) ∧ H = H') ⟨lv,none,none,rfl,rfl,rfl⟩ (fun i σ Hx _ ⟨_,_,_,_,_,e⟩ => by subst e; exact SqL.of hcl) ?_ ?_⟩
    · rintro i x σ Hx hi ⟨sv,v5,v6,rfl,hsv,rfl⟩
      obtain ⟨c,hc,ca⟩ := Paired.getR pc hi
      obtain ⟨q',t1,t2,rfl,h1',h2',h3'⟩ := id ca
      have cm := List.mem_of_getElem? hc
      obtain ⟨e1,e2⟩ := hv c cm
      have hmx := mxL_take (tcW b f0 w1 h1) cs x0 hc
      have hst := stPg_take (tcW b f0 w1 h1) cs x0 hc
      have hsf : (stPg (tcW b f0 w1 h1) (cs.take i) x0).1 = _ := stFg_fst (tcW b f0 w1 h1) (cs.take i) (x0,none)
      have hsf : (stPg (tcW b f0 w1 h1) (cs.take i) x0).1 = mxL (tcW b f0 w1 h1) (cs.take i) x0 := hsf
      obtain ⟨m,hm⟩ : ∃ m,mxL (tcW b f0 w1 h1) (cs.take i) x0 = m := ⟨_,rfl⟩
      rw [hm] at hmx hsf ⊢
      unfold stFg at hst
      rw [hsf] at hst
      refine ⟨_,rfl,_,rfl,q',_,2,_,rfl,rfl,SqT.of h1',rfl,wt,_,_,_,t1,rfl,rfl,hwt,h2',e1,_,rfl,_,rfl,q',_,3,_,rfl,rfl,SqT.of h1',rfl,wt,_,_,_,t2,rfl,rfl,hwt,h3',e2,_,_,rfl,rfl,?_⟩
      have gg : f0 (fstP w1 h1 c.1) c.1.1 c.2 + f0 (sndP b w1 h1 c.1) c.1.1 c.2 = (tcW b f0 w1 h1) c := rfl
      refine ⟨_,rfl,_,rfl,_,_,rfl,rfl,_,rfl,?_⟩
      by_cases c1 : m < (tcW b f0 w1 h1) c
      · rw [show decide (m < (f0 (fstP w1 h1 c.1) c.1.1 c.2 + f0 (sndP b w1 h1 c.1) c.1.1 c.2)) = true from decide_eq_true c1]
        refine iteT ⟨_,rfl,_,rfl,_,_,rfl,.ref q',some (.ref q'),some (.int ((tcW b f0 w1 h1) c)),?_,by unfold stCg; rw [hst,if_pos c1]; exact ca,rfl⟩
        rw [hmx,show max m ((tcW b f0 w1 h1) c) = (tcW b f0 w1 h1) c by omega]
        rfl
      · rw [show decide (m < (f0 (fstP w1 h1 c.1) c.1.1 c.2 + f0 (sndP b w1 h1 c.1) c.1.1 c.2)) = false from decide_eq_false c1]
        refine iteF ⟨sv,some (.ref q'),some (.int ((tcW b f0 w1 h1) c)),?_,by unfold stCg; rw [hst,if_neg c1]; exact hsv,rfl⟩
        rw [hmx,show max m ((tcW b f0 w1 h1) c) = m by omega]
        rfl
    · rintro σ Hx ⟨sv,v5,v6,rfl,hsv,rfl⟩
      rw [cln,List.take_length] at hsv
      refine hR _ _ ⟨sv,v5,v6,?_,hsv,rfl⟩
      rw [cln,List.take_length]
  rintro _ _ ⟨sv,v5,v6,rfl,hsv,rfl⟩
  refine ⟨_,rfl,_,rfl,(by show 2 ≤ sizeLine; decide),fun x hx => ?_⟩
  obtain ⟨H4,e5,k5,s5⟩ : ∃ H',upd H x (.tup [.int (mxL (tcW b f0 w1 h1) cs x0),sv]) = H' ∧ H' x = some (.tup [.int (mxL (tcW b f0 w1 h1) cs x0),sv]) ∧ Same H H' := ⟨_,rfl,upd_same,Same.new hx⟩
  rw [show upd H x _ = H4 from e5]
  exact q x sv H4 k5 (hsv.keep s5) s5
end
def tF (b : Int) (ks : List Kd) : Nat → Int × Int → Bool → Nat → Int
  | 0,_,_,_ => 0
  | n + 1,p,wa,l => mxL (tcW b (tF b ks n) p.1 p.2) (cbt (cutsL b p.1 p.2) wa l) (lfW ks p.1 p.2)
theorem tF_stable {b : Int} {ks : List Kd} (b0 : 0 ≤ b) : ∀ (n m : Nat) (p : Int × Int) (wa : Bool) (l : Nat),msr p < n → msr p < m → 1 ≤ p.1 → 1 ≤ p.2 → tF b ks n p wa l = tF b ks m p wa l
  | 0,_,_,_,_,h,_,_,_ => absurd h (Nat.not_lt_zero _)
  | _ + 1,0,_,_,_,_,h,_,_ => absurd h (Nat.not_lt_zero _)
  | n + 1,m + 1,p,wa,l,h1,h2,p1,p2 => by
    show mxL _ _ _ = mxL _ _ _
    refine mxL_congr fun c hc => ?_
    obtain ⟨⟨a1,a2,_,_,_,a3⟩,⟨c1,c2,_,_,_,c3⟩⟩ := cut_less b0 p1 p2 (cbt_mem hc).1
    have e : msr (p.1,p.2) = msr p := rfl
    unfold tcW
    rw [tF_stable b0 n m _ _ _ (by omega) (by omega) a1 a2,tF_stable b0 n m _ _ _ (by omega) (by omega) c1 c2]
def tW (b : Int) (ks : List Kd) (p : Int × Int) (wa : Bool) (l : Nat) : Int := tF b ks (msr p + 1) p wa l
theorem tW_eq {b : Int} {ks : List Kd} (b0 : 0 ≤ b) (p : Int × Int) (wa : Bool) (l : Nat) (p1 : 1 ≤ p.1) (p2 : 1 ≤ p.2) : tW b ks p wa l = mxL (tcW b (tW b ks) p.1 p.2) (cbt (cutsL b p.1 p.2) wa l) (lfW ks p.1 p.2) := by
  show mxL _ _ _ = mxL _ _ _
  refine mxL_congr fun c hc => ?_
  obtain ⟨⟨a1,a2,_,_,_,a3⟩,⟨c1,c2,_,_,_,c3⟩⟩ := cut_less b0 p1 p2 (cbt_mem hc).1
  have e : msr (p.1,p.2) = msr p := rfl
  unfold tcW tW
  rw [tF_stable b0 (msr p) (msr (fstP p.1 p.2 c.1) + 1) _ _ _ (by omega) (by omega) a1 a2,tF_stable b0 (msr p) (msr (sndP b p.1 p.2 c.1) + 1) _ _ _ (by omega) (by omega) c1 c2]
def tC (b : Int) (ks : List Kd) (p : Int × Int) (wa : Bool) (l : Nat) : Option TC := stCg (tcW b (tW b ks) p.1 p.2) (cbt (cutsL b p.1 p.2) wa l) (lfW ks p.1 p.2)
def tT (b : Int) (ks : List Kd) : Nat → Int × Int → Bool → Nat → Tr
  | 0,_,_,_ => .rest
  | n + 1,p,wa,l => match tC b ks p wa l with
    | none => lfT ks p.1 p.2
    | some x => .cut x.1.1 x.1.2 (tT b ks n (fstP p.1 p.2 x.1) x.1.1 x.2) (tT b ks n (sndP b p.1 p.2 x.1) x.1.1 x.2)
theorem dpt_leaf' : ∀ {t : Tr},isLf t = true → dpt t = 0
  | .rest,_ => rfl
  | .piece ..,_ => rfl
theorem tT_dpt (b : Int) (ks : List Kd) : ∀ n p wa l,dpt (tT b ks n p wa l) ≤ n
  | 0,_,_,_ => Nat.le_refl _
  | n + 1,p,wa,l => by
    unfold tT
    split
    · rw [dpt_leaf' (lfT_leaf ks _ _)]; omega
    · rename_i x _
      have h1 := tT_dpt b ks n (fstP p.1 p.2 x.1) x.1.1 x.2
      have h2 := tT_dpt b ks n (sndP b p.1 p.2 x.1) x.1.1 x.2
      show max _ _ + 1 ≤ n + 1
      omega
def StepN (b : Int) (ks : List Kd) (H : Hp) (p : Int × Int) (wa : Bool) (l : Nat) (v : V) : Prop := (tC b ks p wa l = none ∧ TrV H (lfT ks p.1 p.2) v) ∨ ∃ x,tC b ks p wa l = some x ∧ TcAt b p.1 p.2 H v x
theorem StepN.keep {b : Int} {ks : List Kd} {H H' : Hp} (t : ∀ c xs,H c = some (.tup xs) → H' c = some (.tup xs)) {p : Int × Int} {wa : Bool} {l : Nat} {v : V} (h : StepN b ks H p wa l v) : StepN b ks H' p wa l v := by
  rcases h with ⟨e,h⟩ | ⟨x,e,h⟩
  · exact .inl ⟨e,TrV.keep t _ h⟩
  · exact .inr ⟨x,e,h.keep t⟩
abbrev DoneT := Int × Int → Bool → Nat → Prop
def TWd (b : Int) (ks : List Kd) (D : DoneT) (kvs : List (NK × V)) : Prop := ∀ p wa l,D p wa l → valV kvs (nk p wa l) = some (.int (tW b ks p wa l))
def TSd (b : Int) (ks : List Kd) (H : Hp) (D : DoneT) (kws : List (NK × V)) : Prop := ∀ p wa l,D p wa l → ∃ v,valV kws (nk p wa l) = some v ∧ StepN b ks H p wa l v
theorem TWd.put {b : Int} {ks : List Kd} {D D' : DoneT} {kvs : List (NK × V)} {p0 : Int × Int} {wa0 : Bool} {l0 : Nat} (h : TWd b ks D kvs) (hd : ∀ p wa l,D' p wa l → D p wa l ∨ (p = p0 ∧ wa = wa0 ∧ l = l0)) : TWd b ks D' (putK kvs (nk p0 wa0 l0) (.int (tW b ks p0 wa0 l0))) := fun p wa l d => by
  rw [valV_put]
  by_cases e : nk p wa l = nk p0 wa0 l0
  · rw [if_pos e]
    obtain ⟨rfl,rfl,rfl⟩ := nk_inj e
    rfl
  · rw [if_neg e]
    rcases hd p wa l d with h1 | ⟨rfl,rfl,rfl⟩
    · exact h p wa l h1
    · exact absurd rfl e
theorem TSd.put {b : Int} {ks : List Kd} {H H' : Hp} {D D' : DoneT} {kvs : List (NK × V)} {p0 : Int × Int} {wa0 : Bool} {l0 : Nat} {v : V} (h : TSd b ks H D kvs) (t : ∀ c xs,H c = some (.tup xs) → H' c = some (.tup xs)) (hv : StepN b ks H' p0 wa0 l0 v) (hd : ∀ p wa l,D' p wa l → D p wa l ∨ (p = p0 ∧ wa = wa0 ∧ l = l0)) : TSd b ks H' D' (putK kvs (nk p0 wa0 l0) v) := fun p wa l d => by
  rw [valV_put]
  by_cases e : nk p wa l = nk p0 wa0 l0
  · rw [if_pos e]
    obtain ⟨rfl,rfl,rfl⟩ := nk_inj e
    exact ⟨v,rfl,hv⟩
  · rw [if_neg e]
    rcases hd p wa l d with h1 | ⟨rfl,rfl,rfl⟩
    · obtain ⟨u,h2,h3⟩ := h p wa l h1
      exact ⟨u,h2,h3.keep t⟩
    · exact absurd rfl e
theorem TSd.keep {b : Int} {ks : List Kd} {H H' : Hp} {D D' : DoneT} {kvs : List (NK × V)} (h : TSd b ks H D kvs) (t : ∀ c xs,H c = some (.tup xs) → H' c = some (.tup xs)) (hd : ∀ p wa l,D' p wa l → D p wa l) : TSd b ks H' D' kvs := fun p wa l d => by
  obtain ⟨u,h2,h3⟩ := h p wa l (hd p wa l d)
  exact ⟨u,h2,h3.keep t⟩
def DnT (m n k i j t : Nat) : DoneT := fun p wa l => (p ∈ (partsL m n).take i ∧ l ≤ k) ∨ ((partsL m n)[i]? = some p ∧ (l < j ∨ (l = j ∧ ((wa = true ∧ 1 ≤ t) ∨ (wa = false ∧ 2 ≤ t)))))
def tB (b : Int) (ks : List Kd) (p : Int × Int) (k : Nat) : Int := max (tW b ks p true k) (tW b ks p false k)
def tR (b : Int) (ks : List Kd) (p : Int × Int) (k : Nat) : Tr := if tW b ks p true k < tW b ks p false k then tT b ks 33 p false k else tT b ks 33 p true k
theorem wv_inN (dn : Bool) : inV (wv dn) [V.str "down",V.str "across"] = true := by cases dn <;> decide +kernel
section
variable {P : Program} {w : World} {K : PySem.W.Frag} {mg : Str → Option Value} {base : Heap}
def spTBSN (P : Program) (w : World) (n : Nat) : Sp := fun vs H Q _ => ∃ (st kt : Addr) (b : Int) (ks : List Kd) (kvs : List (NK × V)) (M N k : Nat) (p : Int × Int) (wa : Bool) (l : Nat),vs = [.ref st,.ref kt] ∧ NDict P w H st kvs ∧ NkAt H kt (nk p wa l) ∧ 0 ≤ b ∧ TSd b ks H (fun p _ l => p ∈ partsL M N ∧ l ≤ k) kvs ∧ p ∈ partsL M N ∧ l ≤ k ∧ msr p < n ∧ ∀ v' H',TrV H' (tT b ks n p wa l) v' → Same H H' → Q v' H'
def spByT (C : Addr) : Sp := fun vs H Q _ => ∃ (s : Addr) (b : Int) (ks : List Kd) (m n k : Nat),vs = [.ref s,.int (m : Int),.int (n : Int),.int (k : Int)] ∧ ShopAt C H s b ks ∧ ks.length ≤ 8 ∧ 0 ≤ b ∧ 1 ≤ m ∧ m ≤ 16 ∧ 1 ≤ n ∧ n ≤ 16 ∧ k ≤ 32 ∧
  ∀ (r : Addr) (v : V) (H' : Hp),H' r = some (.tup [.int (tB b ks (m,n) k),v]) → TrV H' (tR b ks (m,n) k) v → Same H H' → Q (.ref r) H'
theorem sctbsn : FnScope ["steps","key","step","way","p","first","second"] ["steps","key"] (defScope sTreeBySteps) := ⟨rfl,rfl,rfl,by decide +kernel,rfl,by decide +kernel,by decide +kernel⟩
theorem ok_tbsn {f wy : Addr} {fd : FuncData} (F : Fun K "tree_by_steps" "tree_by_steps" sTreeBySteps f fd) (n : Nat) (Z : BeC K mg wy) (DT : Dn P w K mg base "tree_by_steps" ["steps","key"] (1 + n) (spTBSN P w n)) : FnOk P w K mg base CX0 (1 + (n + 1)) f fd ["steps","key"] (spTBSN P w (n + 1)) := by
  refine F.ok sctbsn (fun vs H Q E h => ?_) (fun cdv A outer s H vs Q E hr h => ?_)
  · obtain ⟨st,kt,b,ks,kvs,M,N,k,p,wa,l,rfl,_⟩ := h
    rfl
  obtain ⟨st,kt,b,ks,kvs,M,N,k,p,wa,l,rfl,hst,hkt,b0,hts,hp,hl,hn,q⟩ := h
  have nd := sctbsn.nd
  have hu2 := Nat.lt_of_le_of_lt (Nat.add_le_add_left (show 2 ≤ 64 by decide) _) hr.units
  refine ⟨_,(@pss_cons _ _ _ _ _ (@ps_set _ _ 2 _ _ _ _ nd rfl (Or.inl rfl) (pe_nget hu2 (pv 0) (pv 1) (fun _ _ => rfl)) rfl (Or.inl rfl)) (@pss_cons _ _ _ _ _ (@ps_if _ _ _ _ _ _ _ _ (@pt_cmpR _ _ _ _ _ _ _ _ op_notIn_seq (@pe_ix _ _ _ _ _ _ _ ix_tup (pv 2) pe_int (fun _ _ => rfl)) (pe_glob (v := .ref wy) rfl Z.wy rfl) rfl) (@pss_one _ _ _ (@ps_ret _ _ _ _ (pv 2))) pss_nil) (@pss_cons _ _ _ _ _ (@ps_asg _ _ _ _ _ _ (pv 2) (pg_tup rfl (pgs_cons (pg_name (i := 3) nd rfl (Or.inl rfl)) (pgs_cons (pg_name (i := 4) nd rfl (Or.inl rfl)) (pgs_cons (pg_name (i := 5) nd rfl (Or.inl rfl)) (pgs_cons (pg_name (i := 6) nd rfl (Or.inl rfl)) pgs_nil))))) rfl rfl rfl) (@pss_one _ _ _ (@ps_ret _ _ _ _ (@pe_tup _ _ _ _ _ (@pa_cons _ _ _ _ _ (pv 3) (@pa_cons _ _ _ _ _ (pv 4) (@pa_cons _ _ _ _ _ (@pe_cD _ _ _ _ _ _ _ _ _ _ DT hr rfl (@pa_cons _ _ _ _ _ (pv 0) (@pa_cons _ _ _ _ _ (pv 5) pa_nil rfl) rfl) (by decide) rfl rfl) (@pa_cons _ _ _ _ _ (@pe_cD _ _ _ _ _ _ _ _ _ _ DT hr rfl (@pa_cons _ _ _ _ _ (pv 0) (@pa_cons _ _ _ _ _ (pv 6) pa_nil rfl) rfl) (by decide) rfl rfl) pa_nil rfl) rfl) rfl) rfl))))))),?_⟩
  obtain ⟨v,hv,hm⟩ := hts p wa l ⟨hp,hl⟩
  obtain ⟨⟨pp1,pp2⟩,pp3,pp4⟩ := partsL_mem.mp hp
  refine seqCut (fun σ' H' => σ' = [some (.ref st),some (.ref kt),some v,none,none,none,none] ∧ H = H') (fun R hR => ?_) ?_
  · exact ⟨_,rfl,_,rfl,st,_,_,_,kt,rfl,rfl,hst,hkt,hv,hR _ _ ⟨rfl,rfl⟩⟩
  rintro _ _ ⟨rfl,rfl⟩
  rcases hm with ⟨ec,hlt⟩ | ⟨x,ec,⟨qa,t1,t2,rfl,c1,c2,c3⟩⟩
  · obtain ⟨qa,y,r,rfl,h1,h2⟩ := TrV.lf (lfT_leaf ks _ _) hlt
    refine seqCut (fun σ' H' => False) (fun R hR => ?_) (fun _ _ z => z.elim)
    refine ⟨_,rfl,qa,_,0,_,rfl,rfl,SqT.of h1,atI_int (Int.le_refl _) rfl,wy,_,rfl,.inr (Z.wq _),rfl,rfl,_,rfl,?_⟩
    rw [show (if true = true then !inV (V.str y) [V.str "down",V.str "across"] else inV (V.str y) [V.str "down",V.str "across"]) = true by rw [if_pos rfl,h2]; rfl]
    exact iteT ⟨_,rfl,q _ H (by unfold tT; rw [ec]; exact hlt) (Same.refl _)⟩
  have hx := cbt_mem (stCg_mem ec).1
  obtain ⟨⟨a1,a2,a3,a4,_,a5⟩,⟨d1,d2,d3,d4,_,d5⟩⟩ := cut_less b0 pp1 pp3 hx.1
  have em : msr (p.1,p.2) = msr p := rfl
  have m1 : fstP p.1 p.2 x.1 ∈ partsL M N := partsL_mem.mpr ⟨⟨a1,by omega⟩,a2,by omega⟩
  have m2 : sndP b p.1 p.2 x.1 ∈ partsL M N := partsL_mem.mpr ⟨⟨d1,by omega⟩,d2,by omega⟩
  have lx : x.2 ≤ k := Nat.le_trans hx.2.1 hl
  refine seqCut (fun σ' H' => σ' = [some (.ref st),some (.ref kt),some (.ref qa),none,none,none,none] ∧ H = H') (fun R hR => ?_) ?_
  · refine ⟨_,rfl,qa,_,0,_,rfl,rfl,SqT.of c1,rfl,wy,_,rfl,.inr (Z.wq _),rfl,rfl,_,rfl,?_⟩
    rw [show (if true = true then !inV (wv x.1.1) [V.str "down",V.str "across"] else inV (wv x.1.1) [V.str "down",V.str "across"]) = false by rw [if_pos rfl,wv_inN]; rfl]
    exact iteF (hR _ _ ⟨rfl,rfl⟩)
  rintro _ _ ⟨rfl,rfl⟩
  refine seqCut (fun σ' H' => σ' = [some (.ref st),some (.ref kt),some (.ref qa),some (wv x.1.1),some (.int x.1.2),some (.ref t1),some (.ref t2)] ∧ H = H') (fun R hR => ?_) ?_
  · exact ⟨_,rfl,qa,_,rfl,SqT.of c1,rfl,_,_,rfl,_,_,rfl,_,_,rfl,_,_,rfl,rfl,hR _ _ ⟨rfl,rfl⟩⟩
  rintro _ _ ⟨rfl,rfl⟩
  refine ⟨_,rfl,_,rfl,_,rfl,_,rfl,st,t1,b,ks,kvs,M,N,k,fstP p.1 p.2 x.1,x.1.1,x.2,rfl,hst,c2,b0,hts,m1,lx,by omega,fun v1 H1 hv1 s1 => ?_⟩
  refine ⟨_,rfl,_,rfl,st,t2,b,ks,kvs,M,N,k,sndP b p.1 p.2 x.1,x.1.1,x.2,rfl,hst.same s1,c3.keep (fun c xs e => s1 _ _ e),b0,hts.keep (fun c xs e => s1 _ _ e) (fun _ _ _ h => h),m2,lx,by omega,fun v2 H2 hv2 s2 => ?_⟩
  refine ⟨(by show 4 ≤ sizeLine; decide),fun t ht => q _ _ (?_) ((s1.trans s2).trans (Same.new ht))⟩
  have sn : Same H2 (upd H2 t (.tup [wv x.1.1,.int x.1.2,v1,v2])) := Same.new ht
  unfold tT
  rw [ec]
  exact ⟨t,v1,v2,rfl,upd_same,TrV.keep (fun a xs e => sn _ _ (s2 _ _ e)) _ hv1,TrV.keep (fun a xs e => sn _ _ e) _ hv2⟩
theorem ok_tbsn0 {f : Addr} {fd : FuncData} (F : Fun K "tree_by_steps" "tree_by_steps" sTreeBySteps f fd) : FnOk P w K mg base CX0 1 f fd ["steps","key"] (spTBSN P w 0) := by
  refine F.ok sctbsn (fun vs H Q E h => ?_) (fun cdv A outer s H vs Q E hr h => ?_)
  · obtain ⟨st,kt,b,ks,kvs,M,N,k,p,wa,l,rfl,_⟩ := h
    rfl
  · obtain ⟨st,kt,b,ks,kvs,M,N,k,p,wa,l,_,_,_,_,_,_,_,z,_⟩ := h
    exact absurd z (Nat.not_lt_zero _)
theorem ok_tbsnN {f wy : Addr} {fd : FuncData} (F : Fun K "tree_by_steps" "tree_by_steps" sTreeBySteps f fd) (Z : BeC K mg wy) (mk : ∀ n,FnOk P w K mg base CX0 (1 + n) f fd ["steps","key"] (spTBSN P w n) → Dn P w K mg base "tree_by_steps" ["steps","key"] (1 + n) (spTBSN P w n)) : ∀ n,FnOk P w K mg base CX0 (1 + n) f fd ["steps","key"] (spTBSN P w n)
  | 0 => ok_tbsn0 F
  | n + 1 => ok_tbsn F n Z (mk n (ok_tbsnN F Z mk n))
theorem scbyt : FnScope ["shop","wide","high","k","worths","steps","part","leaf_found","cuts","left","way","worth","step","key","other"] ["shop","wide","high","k"] (defScope sBestByTurns) := ⟨rfl,rfl,rfl,by decide +kernel,rfl,by decide +kernel,by decide +kernel⟩
theorem ok_byt {f wy C : Addr} {fd : FuncData} (F : Fun K "best_by_turns" "best_by_turns" sBestByTurns f fd) (Z : BeC K mg wy) (B : Blt mg) (mt : ∃ t,mg "MOST_TURNS" = some (.int 32 t)) (T : ShopTxt K C) (MB : Mn P w K mg base C "blade" ["self"] 1 (spBlade C)) (DW : Dn P w K mg base "is_whole" ["thing","least"] 1 (spWhole K)) (DCP : Dn P w K mg base "check_plate" ["wide","high"] 2 (spCP)) (DCS : Dn P w K mg base "check_sides" ["wide","high","most"] 1 (spCS)) (DPu : Dn P w K mg base "parts_up_to" ["wide","high"] 1 (spParts)) (DCu : Dn P w K mg base "cuts_of" ["blade","part"] 2 (spCuts)) (DBL : Dn P w K mg base "best_leaf" ["shop","part"] 6 (spBLeaf C)) (DCb : Dn P w K mg base "cuts_by_turns" ["cuts","way_ahead","left"] 1 (spCbt)) (DBS : Dn P w K mg base "best_step" ["leaf_found","cuts","worths"] 1 (spStepN P w)) (DTB : Dn P w K mg base "tree_by_steps" ["steps","key"] 34 (spTBSN P w 33)) : FnOk P w K mg base CX0 35 f fd ["shop","wide","high","k"] (spByT C) := by
  refine F.ok scbyt (fun vs H Q E h => ?_) (fun cdv A outer s H vs Q E hr h => ?_)
  · obtain ⟨s,b,ks,m,n,k,rfl,_⟩ := h
    rfl
  obtain ⟨s,b,ks,m,n,k,rfl,S0,k8,b0,m1,m16,n1,n16,k32,q⟩ := h
  have nd := scbyt.nd
  have hu2 := Nat.lt_of_le_of_lt (Nat.add_le_add_left (show 2 ≤ 64 by decide) _) hr.units
  obtain ⟨tms,hms⟩ := Z.ms
  obtain ⟨tmt,hmt⟩ := mt
  obtain ⟨tdn,hdn⟩ := Z.dn
  obtain ⟨tac,hac⟩ := Z.ac
  refine ⟨_,(@pss_cons _ _ _ _ _ (@ps_expr _ _ _ _ (@pe_cD _ _ _ _ _ _ _ _ _ _ DCP (hr.mono (by decide)) rfl (@pa_cons _ _ _ _ _ (pv 1) (@pa_cons _ _ _ _ _ (pv 2) pa_nil rfl) rfl) (by decide) rfl rfl) rfl) (@pss_cons _ _ _ _ _ (@ps_expr _ _ _ _ (@pe_cD _ _ _ _ _ _ _ _ _ _ DCS (hr.mono (by decide)) rfl (@pa_cons _ _ _ _ _ (pv 1) (@pa_cons _ _ _ _ _ (pv 2) (@pa_cons _ _ _ _ _ (pe_glob (v := .int 16) rfl hms ⟨tms,rfl⟩) pa_nil rfl) rfl) rfl) (by decide) rfl rfl) rfl) (@pss_cons _ _ _ _ _ (@ps_if _ _ _ _ _ _ _ _ (PW.pt (pw_or (@pt_not _ _ _ _ (@pt_val _ _ _ (@pe_cD _ _ _ _ _ _ _ _ _ _ DW (hr.mono (by decide)) rfl (@pa_cons _ _ _ _ _ (pv 3) (@pa_cons _ _ _ _ _ pe_int pa_nil rfl) rfl) (by decide) rfl rfl) (by intro _; rfl))) (pw_or1 (@pt_cmpR _ _ _ _ _ _ _ _ op_gt (pv 3) (pe_glob (v := .int 32) rfl hmt ⟨tmt,rfl⟩) (nomark _))))) (@pss_one _ _ _ ps_never) pss_nil) (@pss_cons _ _ _ _ _ (@ps_set _ _ 4 _ _ _ _ nd rfl (Or.inl rfl) pe_nnew rfl (Or.inl rfl)) (@pss_cons _ _ _ _ _ (@ps_set _ _ 5 _ _ _ _ nd rfl (Or.inl rfl) pe_nnew rfl (Or.inl rfl)) (@pss_cons _ _ _ _ _ (@ps_for _ _ _ _ _ _ _ _ PassesOwn.never rfl (pi_list (@pe_cD _ _ _ _ _ _ _ _ _ _ DPu (hr.mono (by decide)) rfl (@pa_cons _ _ _ _ _ (pv 1) (@pa_cons _ _ _ _ _ (pv 2) pa_nil rfl) rfl) (by decide) rfl rfl)) (pg_name (i := 6) nd rfl (Or.inl rfl)) (@pss_cons _ _ _ _ _ (@ps_set _ _ 7 _ _ _ _ nd rfl (Or.inl rfl) (@pe_cD _ _ _ _ _ _ _ _ _ _ DBL (hr.mono (by decide)) rfl (@pa_cons _ _ _ _ _ (pv 0) (@pa_cons _ _ _ _ _ (pv 6) pa_nil rfl) rfl) (by decide) rfl rfl) rfl (Or.inl rfl)) (@pss_cons _ _ _ _ _ (@ps_set _ _ 8 _ _ _ _ nd rfl (Or.inl rfl) (@pe_cD _ _ _ _ _ _ _ _ _ _ DCu (hr.mono (by decide)) rfl (@pa_cons _ _ _ _ _ (pe_mD0 (pv 0) T.cl MB (hr.mono (by decide))) (@pa_cons _ _ _ _ _ (pv 6) pa_nil rfl) rfl) (by decide) rfl rfl) rfl (Or.inl rfl)) (@pss_one _ _ _ (@ps_for _ _ _ _ _ _ _ _ PassesOwn.never rfl (pi_range1 rfl B.range (@pa_cons _ _ _ _ _ (@pe_op _ _ _ _ _ _ _ _ op_add (pv 3) pe_int) pa_nil rfl)) (pg_name (i := 9) nd rfl (Or.inl rfl)) (@pss_one _ _ _ (@ps_for _ _ _ _ _ _ _ _ PassesOwn.never rfl (pi_tup (pe_glob (v := .ref wy) rfl Z.wy rfl)) (pg_name (i := 10) nd rfl (Or.inl rfl)) (@pss_cons _ _ _ _ _ (@ps_asg _ _ _ _ _ _ (@pe_cD _ _ _ _ _ _ _ _ _ _ DBS (hr.mono (by decide)) rfl (@pa_cons _ _ _ _ _ (pv 7) (@pa_cons _ _ _ _ _ (@pe_cD _ _ _ _ _ _ _ _ _ _ DCb (hr.mono (by decide)) rfl (@pa_cons _ _ _ _ _ (pv 8) (@pa_cons _ _ _ _ _ (pv 10) (@pa_cons _ _ _ _ _ (pv 9) pa_nil rfl) rfl) rfl) (by decide) rfl rfl) (@pa_cons _ _ _ _ _ (pv 4) pa_nil rfl) rfl) rfl) (by decide) rfl rfl) (pg_tup rfl (pgs_cons (pg_name (i := 11) nd rfl (Or.inl rfl)) (pgs_cons (pg_name (i := 12) nd rfl (Or.inl rfl)) pgs_nil))) rfl rfl rfl) (@pss_cons _ _ _ _ _ (ps_nput hu2 (pv 4) (@pe_tup _ _ _ _ _ (@pa_cons _ _ _ _ _ (pv 6) (@pa_cons _ _ _ _ _ (pv 10) (@pa_cons _ _ _ _ _ (pv 9) pa_nil rfl) rfl) rfl)) (pv 11) rfl) (@pss_one _ _ _ (ps_nput hu2 (pv 5) (@pe_tup _ _ _ _ _ (@pa_cons _ _ _ _ _ (pv 6) (@pa_cons _ _ _ _ _ (pv 10) (@pa_cons _ _ _ _ _ (pv 9) pa_nil rfl) rfl) rfl)) (pv 12) rfl)))) (by intro _; rfl))) (by intro _; rfl))))) (by intro _; rfl)) (@pss_cons _ _ _ _ _ (@ps_set _ _ 13 _ _ _ _ nd rfl (Or.inl rfl) (@pe_tup _ _ _ _ _ (@pa_cons _ _ _ _ _ (@pe_tup _ _ _ _ _ (@pa_cons _ _ _ _ _ (pv 1) (@pa_cons _ _ _ _ _ (pv 2) pa_nil rfl) rfl)) (@pa_cons _ _ _ _ _ (pe_glob (v := .str "down") rfl hdn ⟨tdn,rfl⟩) (@pa_cons _ _ _ _ _ (pv 3) pa_nil rfl) rfl) rfl)) rfl (Or.inl rfl)) (@pss_cons _ _ _ _ _ (@ps_set _ _ 14 _ _ _ _ nd rfl (Or.inl rfl) (@pe_tup _ _ _ _ _ (@pa_cons _ _ _ _ _ (@pe_tup _ _ _ _ _ (@pa_cons _ _ _ _ _ (pv 1) (@pa_cons _ _ _ _ _ (pv 2) pa_nil rfl) rfl)) (@pa_cons _ _ _ _ _ (pe_glob (v := .str "across") rfl hac ⟨tac,rfl⟩) (@pa_cons _ _ _ _ _ (pv 3) pa_nil rfl) rfl) rfl)) rfl (Or.inl rfl)) (@pss_cons _ _ _ _ _ (@ps_if _ _ _ _ _ _ _ _ (@pt_cmpR _ _ _ _ _ _ _ _ op_gt (pe_nget hu2 (pv 4) (pv 14) (fun _ _ => rfl)) (pe_nget hu2 (pv 4) (pv 13) (fun _ _ => rfl)) (nomark _)) (@pss_one _ _ _ (@ps_set _ _ 13 _ _ _ _ nd rfl (Or.inl rfl) (pv 14) rfl (Or.inl rfl))) pss_nil) (@pss_one _ _ _ (@ps_ret _ _ _ _ (@pe_tup _ _ _ _ _ (@pa_cons _ _ _ _ _ (pe_nget hu2 (pv 4) (pv 13) (fun _ _ => rfl)) (@pa_cons _ _ _ _ _ (@pe_cD _ _ _ _ _ _ _ _ _ _ DTB (hr.mono (by decide)) rfl (@pa_cons _ _ _ _ _ (pv 5) (@pa_cons _ _ _ _ _ (pv 13) pa_nil rfl) rfl) (by decide) rfl rfl) pa_nil rfl) rfl))))))))))))),?_⟩
  have z4 : 40000 ≤ sizeLine := by decide
  refine seqCut (fun σ' H' => σ' = [some (.ref s),some (.int (m : Int)),some (.int (n : Int)),some (.int (k : Int)),none,none,none,none,none,none,none,none,none,none,none] ∧ H = H') (fun R hR => ?_) ?_
  · exact ⟨_,rfl,_,rfl,m,n,rfl,by omega,by omega,hR _ _ ⟨rfl,rfl⟩⟩
  rintro _ _ ⟨rfl,rfl⟩
  refine seqCut (fun σ' H' => σ' = [some (.ref s),some (.int (m : Int)),some (.int (n : Int)),some (.int (k : Int)),none,none,none,none,none,none,none,none,none,none,none] ∧ H = H') (fun R hR => ?_) ?_
  · exact ⟨_,rfl,_,rfl,m,n,16,rfl,by omega,by omega,hR _ _ ⟨rfl,rfl⟩⟩
  rintro _ _ ⟨rfl,rfl⟩
  refine seqCut (fun σ' H' => σ' = [some (.ref s),some (.int (m : Int)),some (.int (n : Int)),some (.int (k : Int)),none,none,none,none,none,none,none,none,none,none,none] ∧ H = H') (fun R hR => ?_) ?_
  · refine ⟨_,rfl,.int (k : Int),"int",0,rfl,⟨by decide,.int _⟩,_,rfl,iteF ⟨_,rfl,_,_,rfl,rfl,_,rfl,?_⟩⟩
    rw [show decide ((32 : Int) < (k : Int)) = false from decide_eq_false (by omega)]
    exact iteF (hR _ _ ⟨rfl,rfl⟩)
  rintro _ _ ⟨rfl,rfl⟩
  refine seqCut (fun σ' H' => ∃ wt : Addr,σ' = [some (.ref s),some (.int (m : Int)),some (.int (n : Int)),some (.int (k : Int)),some (.ref wt),none,none,none,none,none,none,none,none,none,none] ∧ H wt = none ∧ NDict P w H' wt [] ∧ Same H H') (fun R hR => ?_) ?_
  · exact fun wt hwt H1 nd s1 => hR _ _ ⟨wt,rfl,hwt,nd,s1⟩
  rintro _ H1 ⟨wt,rfl,hwt,nd1,s1⟩
  refine seqCut (fun σ' H' => ∃ st : Addr,σ' = [some (.ref s),some (.int (m : Int)),some (.int (n : Int)),some (.int (k : Int)),some (.ref wt),some (.ref st),none,none,none,none,none,none,none,none,none] ∧ H1 st = none ∧ NDict P w H' st [] ∧ Same H1 H') (fun R hR => ?_) ?_
  · exact fun st hst H2 nd s2 => hR _ _ ⟨st,rfl,hst,nd,s2⟩
  rintro _ H2 ⟨st,rfl,hst1,ns2,s2⟩
  have nd2 := nd1.same s2
  have hst : H st = none := s1.free hst1
  have nts : wt ≠ st := fun z => nd1.some (z ▸ hst1)
  have s02 := s1.trans s2
  have keepU : ∀ {Hx : Hp},(∀ c o,c ≠ wt → c ≠ st → H2 c = some o → Hx c = some o) → Same H Hx := fun {Hx} kx c o e => kx c o (ne_of_none e hwt) (ne_of_none e hst) (s02 _ _ e)
  obtain ⟨dx,r0,rs0,g1,g2,g3⟩ := id S0
  refine seqCut (fun σ' H' => (∃ v6 v7 v8 v9 v10 v11 v12 : Option V,σ' = [some (.ref s),some (.int (m : Int)),some (.int (n : Int)),some (.int (k : Int)),some (.ref wt),some (.ref st),v6,v7,v8,v9,v10,v11,v12,none,none]) ∧ (∃ kvs,NDict P w H' wt kvs ∧ TWd b ks (DnT m n k (m * n) 0 0) kvs ∧ kvs.length ≤ 16896) ∧ (∃ kws,NDict P w H' st kws ∧ TSd b ks H' (DnT m n k (m * n) 0 0) kws ∧ kws.length ≤ 16896) ∧ (∀ c o,c ≠ wt → c ≠ st → H2 c = some o → H' c = some o)) (fun R hR => ?_) ?_
  · refine ⟨_,rfl,_,rfl,m,n,rfl,m16,n16,fun pl ys H3 hpl pys s3 => ?_⟩
    have pln := Paired.length pys
    have p256 : (partsL m n).length ≤ 256 := by rw [partsL_len]; exact Nat.mul_le_mul m16 n16
    have kee3 : ∀ c o,c ≠ wt → c ≠ st → H2 c = some o → H3 c = some o := fun c o _ _ e => s3 _ _ e
    have npw : pl ≠ wt := fun z => by obtain ⟨_,e,_⟩ := nd2.same s3; rw [← z,hpl] at e; cases e
    have nps : pl ≠ st := fun z => by obtain ⟨_,e,_⟩ := ns2.same s3; rw [← z,hpl] at e; cases e
    have d0 : ∀ p wa l,DnT m n k 0 0 0 p wa l → False := fun p wa l h => by
      rcases h with ⟨h,_⟩ | ⟨_,h | ⟨_,⟨_,h⟩ | ⟨_,h⟩⟩⟩
      · simp at h
      · exact Nat.not_lt_zero _ h
      · omega
      · omega
    refine ⟨pl,rfl,⟨_,SqL.of hpl⟩,for_list (xs := ys) (fun i σ' H' => (∃ v6 v7 v8 v9 v10 v11 v12 : Option V,σ' = [some (.ref s),some (.int (m : Int)),some (.int (n : Int)),some (.int (k : Int)),some (.ref wt),some (.ref st),v6,v7,v8,v9,v10,v11,v12,none,none]) ∧ (∃ kvs,NDict P w H' wt kvs ∧ TWd b ks (DnT m n k i 0 0) kvs ∧ kvs.length ≤ 66 * i) ∧ (∃ kws,NDict P w H' st kws ∧ TSd b ks H' (DnT m n k i 0 0) kws ∧ kws.length ≤ 66 * i) ∧ (∀ c o,c ≠ wt → c ≠ st → H3 c = some o → H' c = some o)) ⟨⟨_,_,_,_,_,_,_,rfl⟩,⟨[],nd2.same s3,(fun p wa l h => (d0 p wa l h).elim),Nat.zero_le _⟩,⟨[],ns2.same s3,(fun p wa l h => (d0 p wa l h).elim),Nat.zero_le _⟩,fun c o _ _ e => e⟩ (fun i σ Hx _ ⟨_,_,_,kx⟩ => SqL.of (kx _ _ npw nps hpl)) ?_ ?_⟩
    · rintro i x σ Hx hi ⟨⟨v6,v7,v8,v9,v10,v11,v12,rfl⟩,⟨kvs,nd,tw,kl⟩,⟨kws,ns,ts,wl⟩,kx⟩
      obtain ⟨p,hp,ta,rfl,hta0⟩ := Paired.getR pys hi
      have pm := List.mem_of_getElem? hp
      obtain ⟨⟨p1,p2⟩,p3,p4⟩ := partsL_mem.mp pm
      have il : i < (partsL m n).length := (List.getElem?_eq_some_iff.mp hp).1
      have tupN : ∀ {Hz : Hp} {d : Addr} {kk} {c xs},NDict P w Hz d kk → Hz c = some (.tup xs) → c ≠ d := fun h e => h.tup e
      have nd3 := nd2.same s3
      have ns3 := ns2.same s3
      have hta := kx _ _ (nd3.tup hta0) (ns3.tup hta0) hta0
      have Sx : ShopAt C Hx s b ks := S0.keep (fun c o e => kx _ _ (ne_of_none e hwt) (ne_of_none e hst) (s3 _ _ (s02 _ _ e))) (fun c C' d fs e => kx _ _ (ne_of_none e hwt) (ne_of_none e hst) (s3 _ _ (s02 _ _ e)))
      obtain ⟨dx',r0',rs0',g1',_,_⟩ := id Sx
      have cutIn : ∀ c ∈ cutsL b p.1 p.2,fstP p.1 p.2 c ∈ (partsL m n).take i ∧ sndP b p.1 p.2 c ∈ (partsL m n).take i := fun c hc => by
        obtain ⟨⟨a1,a2,a3,a4,a5,_⟩,⟨c1,c2,c3,c4,c5,_⟩⟩ := cut_less b0 p1 p3 hc
        exact ⟨partsL_take hp (partsL_mem.mpr ⟨⟨a1,by omega⟩,a2,by omega⟩) a5,partsL_take hp (partsL_mem.mpr ⟨⟨c1,by omega⟩,c2,by omega⟩) c5⟩
      refine seqCut (fun σ' H' => ∃ (lf : Addr) (lv : V),σ' = [some (.ref s),some (.int (m : Int)),some (.int (n : Int)),some (.int (k : Int)),some (.ref wt),some (.ref st),some (.ref ta),some (.ref lf),v8,v9,v10,v11,v12,none,none] ∧ H' lf = some (.tup [.int (lfW ks p.1 p.2),lv]) ∧ TrV H' (lfT ks p.1 p.2) lv ∧ Same Hx H') (fun R hR => ?_) ?_
      · exact ⟨_,rfl,_,rfl,s,ta,b,ks,p.1,p.2,rfl,Sx,k8,hta,fun lf lv Ha hlf hlv sa => hR _ _ ⟨lf,lv,rfl,hlf,hlv,sa⟩⟩
      rintro _ Ha ⟨lf,lv,rfl,hlf,hlv,sa⟩
      refine seqCut (fun σ' H' => ∃ (cl : Addr) (cy : List V),σ' = [some (.ref s),some (.int (m : Int)),some (.int (n : Int)),some (.int (k : Int)),some (.ref wt),some (.ref st),some (.ref ta),some (.ref lf),some (.ref cl),v9,v10,v11,v12,none,none] ∧ H' cl = some (.lst cy) ∧ Paired (CutAt b p.1 p.2 H') cy (cutsL b p.1 p.2) ∧ Same Ha H') (fun R hR => ?_) ?_
      · have Sa : ShopAt C Ha s b ks := Sx.keep (fun c o e => sa _ _ e) (fun c C' d fs e => sa _ _ e)
        obtain ⟨dxa,_,_,ga,_,_⟩ := id Sa
        exact ⟨_,rfl,s,dxa,_,rfl,ga,flds_no _ _ (by decide +kernel) (by decide +kernel),s,b,ks,rfl,Sa,_,rfl,b,p.1,p.2,ta,rfl,sa _ _ hta,by omega,by omega,b0,fun cl cy Hb hcl pc sb => hR _ _ ⟨cl,cy,rfl,hcl,pc,sb⟩⟩
      rintro _ Hb ⟨cl,cy,rfl,hcl,pc,sb⟩
      have sab := sa.trans sb
      have htab := sab _ _ hta
      have hlfb := sb _ _ hlf
      have hlvb : TrV Hb (lfT ks p.1 p.2) lv := TrV.keep (fun c xs e => sb _ _ e) _ hlv
      have ndb := nd.same sab
      have nsb := ns.same sab
      have ncw : cl ≠ wt := fun z => by obtain ⟨_,e,_⟩ := id ndb; rw [← z,hcl] at e; cases e
      have ncs : cl ≠ st := fun z => by obtain ⟨_,e,_⟩ := id nsb; rw [← z,hcl] at e; cases e
      obtain ⟨kvsb,ndb'⟩ : ∃ kvsb,NDict P w Hb wt kvsb := ⟨_,ndb⟩
      obtain ⟨kwsb,nsb'⟩ : ∃ kwsb,NDict P w Hb st kwsb := ⟨_,nsb⟩
      have cl32 : (cutsL b p.1 p.2).length ≤ 32 := by
        unfold cutsL
        rw [List.length_append,wpL_len,wpL_len]; omega
      clear hta Sx hlf hlv
      refine ⟨_,rfl,_,_,rfl,rfl,_,rfl,by omega,by omega,?_⟩
      refine for_range (lo := 0) (n := ((k : Int) + 1).toNat) (fun j σ' H' => (∃ v9 v10 v11 v12 : Option V,σ' = [some (.ref s),some (.int (m : Int)),some (.int (n : Int)),some (.int (k : Int)),some (.ref wt),some (.ref st),some (.ref ta),some (.ref lf),some (.ref cl),v9,v10,v11,v12,none,none]) ∧ (∃ kvs,NDict P w H' wt kvs ∧ TWd b ks (DnT m n k i j 0) kvs ∧ kvs.length ≤ 66 * i + 2 * j) ∧ (∃ kws,NDict P w H' st kws ∧ TSd b ks H' (DnT m n k i j 0) kws ∧ kws.length ≤ 66 * i + 2 * j) ∧ (∀ c o,c ≠ wt → c ≠ st → Hb c = some o → H' c = some o)) ⟨⟨_,_,_,_,rfl⟩,⟨kvs,ndb,tw,by omega⟩,⟨kws,nsb,ts.keep (fun c xs e => sab _ _ e) (fun _ _ _ h => h),by omega⟩,fun c o _ _ e => e⟩ ?_ ?_
      · clear nd tw kl ns ts wl
        clear kvs kws ndb nsb
        rintro j σ Hc hj ⟨⟨v9,v10,v11,v12,rfl⟩,⟨kvs,nd,tw,kl⟩,⟨kws,ns,ts,wl⟩,kc⟩
        have wyq := Z.wq Hc
        refine ⟨wy, rfl, ⟨_, Z.wq Hc⟩, for_tup (xs := [.str "down", .str "across"]) (fun t σ' H' => (∃ v10 v11 v12 : Option V, σ' = [some (.ref s), some (.int (m : Int)), some (.int (n : Int)), some (.int (k : Int)), some (.ref wt), some (.ref st), some (.ref ta), some (.ref lf), some (.ref cl), some (.int (0 + (j : Int))), v10, v11, v12, none, none]) ∧ (∃ kvs, NDict P w H' wt kvs ∧ TWd b ks (DnT m n k i j t) kvs ∧ kvs.length ≤ 66 * i + 2 * j + t) ∧ (∃ kws, NDict P w H' st kws ∧ TSd b ks H' (DnT m n k i j t) kws ∧ kws.length ≤ 66 * i + 2 * j + t) ∧ (∀ c o, c ≠ wt → c ≠ st → Hb c = some o → H' c = some o)) ⟨⟨_, _, _, rfl⟩, ⟨kvs, nd, tw, by omega⟩, ⟨kws, ns, ts, by omega⟩, kc⟩ (fun t σ Hx _ _ => Z.wq _) ?_ ?_⟩
        · clear nd tw kl ns ts wl kc wyq
          clear kvs kws Hc v10 v11 v12
          rintro t x σ Hc ht ⟨⟨v10,v11,v12,rfl⟩,⟨kvs,nd,tw,kl⟩,⟨kws,ns,ts,wl⟩,kc⟩
          have t2 : t < 2 := (List.getElem?_eq_some_iff.mp ht).1
          obtain ⟨wa,rfl,hwa⟩ : ∃ wa : Bool,x = wv wa ∧ ((wa = true ∧ t = 0) ∨ (wa = false ∧ t = 1)) := by
            match t,t2 with
            | 0,_ => exact ⟨true,(Option.some.inj ht).symm,.inl ⟨rfl,rfl⟩⟩
            | 1,_ => exact ⟨false,(Option.some.inj ht).symm,.inr ⟨rfl,rfl⟩⟩
          have hclc := kc _ _ ncw ncs hcl
          have tpk : ∀ c xs,Hb c = some (.tup xs) → Hc c = some (.tup xs) := fun c xs e => kc _ _ (ndb'.tup e) (nsb'.tup e) e
          have pcc : Paired (CutAt b p.1 p.2 Hc) cy (cutsL b p.1 p.2) := Paired.mapP pc fun v c ⟨q',u1,u2,e,e1,e2,e3⟩ => ⟨q',u1,u2,e,tpk _ _ e1,tpk _ _ e2,tpk _ _ e3⟩
          have htac := tpk _ _ htab
          have hlfc := tpk _ _ hlfb
          have hlvc : TrV Hc (lfT ks p.1 p.2) lv := TrV.keep tpk _ hlvb
          refine seqCut (fun σ' H' => ∃ (sv : V),σ' = [some (.ref s),some (.int (m : Int)),some (.int (n : Int)),some (.int (k : Int)),some (.ref wt),some (.ref st),some (.ref ta),some (.ref lf),some (.ref cl),some (.int (0 + (j : Int))),some (wv wa),some (.int (tW b ks p wa j)),some sv,none,none] ∧ StepN b ks H' p wa j sv ∧ Same Hc H') (fun R hR => ?_) ?_
          · refine ⟨_,rfl,_,rfl,_,rfl,_,rfl,cl,cy,b,p.1,p.2,cutsL b p.1 p.2,wa,j,by rw [Int.zero_add]; rfl,hclc,pcc,cl32,fun l zs Hd hl pz sd => ?_⟩
            refine ⟨_,rfl,lf,l,wt,lfW ks p.1 p.2,lv,zs,b,p.1,p.2,_,tW b ks,kvs,rfl,sd _ _ hlfc,hl,pz,nd.same sd,(fun x hx => ?_),fun r sv He hr hsv se => ?_⟩
            · obtain ⟨h1,h2,_,_⟩ := cbt_mem hx
              obtain ⟨i1,i2⟩ := cutIn x.1 h1
              exact ⟨tw _ _ _ (.inl ⟨i1,by omega⟩),tw _ _ _ (.inl ⟨i2,by omega⟩)⟩
            · rw [← tW_eq b0 p wa j p1 p3] at hr
              refine ⟨r,_,rfl,SqT.of hr,rfl,_,_,rfl,_,_,rfl,rfl,hR _ _ ⟨sv,rfl,?_,sd.trans se⟩⟩
              change StVN b p.1 p.2 He lv sv (tC b ks p wa j) at hsv
              cases ec : tC b ks p wa j with
              | none => rw [ec] at hsv; exact .inl ⟨ec,(show sv = lv from hsv) ▸ TrV.keep (fun c xs e => se _ _ (sd _ _ e)) _ hlvc⟩
              | some x => rw [ec] at hsv; exact .inr ⟨x,ec,hsv⟩
          rintro _ Hd ⟨sv,rfl,hsv,scd⟩
          have upD : ∀ p' wa' l,DnT m n k i j (t + 1) p' wa' l → DnT m n k i j t p' wa' l ∨ (p' = p ∧ wa' = wa ∧ l = j) := fun p' wa' l h => by
            rcases h with h | ⟨h1,h2 | ⟨h2,h3⟩⟩
            · exact .inl (.inl h)
            · exact .inl (.inr ⟨h1,.inl h2⟩)
            · rw [hp] at h1
              cases h1
              subst h2
              rcases h3 with ⟨e1,e2⟩ | ⟨e1,e2⟩ <;> rcases hwa with ⟨w1,w2⟩ | ⟨w1,w2⟩
              · exact .inr ⟨rfl,by rw [e1,w1],rfl⟩
              · exact .inl (.inr ⟨hp,.inr ⟨rfl,.inl ⟨e1,by omega⟩⟩⟩)
              · omega
              · exact .inr ⟨rfl,by rw [e1,w1],rfl⟩
          have ndd := nd.same scd
          have nsd := ns.same scd
          refine seqCut (fun σ' H' => σ' = [some (.ref s),some (.int (m : Int)),some (.int (n : Int)),some (.int (k : Int)),some (.ref wt),some (.ref st),some (.ref ta),some (.ref lf),some (.ref cl),some (.int (0 + (j : Int))),some (wv wa),some (.int (tW b ks p wa j)),some sv,none,none] ∧ (∃ kvs,NDict P w H' wt kvs ∧ TWd b ks (DnT m n k i j (t + 1)) kvs ∧ kvs.length ≤ 66 * i + 2 * j + (t + 1)) ∧ (∃ kws,NDict P w H' st kws ∧ TSd b ks H' (DnT m n k i j t) kws ∧ kws.length ≤ 66 * i + 2 * j + t) ∧ StepN b ks H' p wa j sv ∧ H' ta = some (.tup [.int p.1,.int p.2]) ∧ (∀ c o,c ≠ wt → c ≠ st → Hb c = some o → H' c = some o)) (fun R hR => ?_) ?_
          · refine ⟨_,rfl,_,rfl,_,rfl,_,rfl,_,rfl,(by show 3 ≤ sizeLine; decide),fun ku hku => ?_⟩
            obtain ⟨He,e6,k6,s6⟩ : ∃ H',upd Hd ku (.tup [.ref ta,wv wa,.int (0 + (j : Int))]) = H' ∧ H' ku = some (.tup [.ref ta,wv wa,.int (0 + (j : Int))]) ∧ Same Hd H' := ⟨_,rfl,upd_same,Same.new hku⟩
            rw [show upd Hd ku _ = He from e6]
            refine ⟨wt,kvs,nk p wa j,ku,rfl,rfl,ndd.same s6,⟨ta,by rw [show (0 + (j : Int)) = (j : Int) by omega] at k6; exact k6,s6 _ _ (scd _ _ htac)⟩,by omega,fun Hf nf bf ff => ?_⟩
            have tdf : ∀ c xs,Hd c = some (.tup xs) → Hf c = some (.tup xs) := fun c xs e => bf _ _ ((ndd.same s6).tup (s6 _ _ e)) (s6 _ _ e)
            refine hR _ _ ⟨rfl,⟨_,nf,tw.put upD,?_⟩,⟨kws,nsd.keep (fun o e => bf _ _ (Ne.symm nts) (s6 _ _ e)) tdf,ts.keep (fun c xs e => tdf _ _ (scd _ _ e)) (fun _ _ _ h => h),wl⟩,hsv.keep tdf,tdf _ _ (scd _ _ htac),fun c o n1 n2 e => bf _ _ n1 (s6 _ _ (scd _ _ (kc _ _ n1 n2 e)))⟩
            have := length_putK kvs (nk p wa j) (.int (tW b ks p wa j))
            omega
          clear nd tw kl ns ts wl ndd nsd hsv scd hclc pcc htac hlfc hlvc tpk kc
          clear kvs kws Hc Hd
          rintro _ Hc ⟨rfl,⟨kvs,nd,tw,kl⟩,⟨kws,ns,ts,wl⟩,hsv,htac,kc⟩
          refine ⟨_,rfl,_,rfl,_,rfl,_,rfl,_,rfl,(by show 3 ≤ sizeLine; decide),fun ku hku => ?_⟩
          obtain ⟨He,e6,k6,s6⟩ : ∃ H',upd Hc ku (.tup [.ref ta,wv wa,.int (0 + (j : Int))]) = H' ∧ H' ku = some (.tup [.ref ta,wv wa,.int (0 + (j : Int))]) ∧ Same Hc H' := ⟨_,rfl,upd_same,Same.new hku⟩
          rw [show upd Hc ku _ = He from e6]
          refine ⟨st,kws,nk p wa j,ku,rfl,rfl,ns.same s6,⟨ta,by rw [show (0 + (j : Int)) = (j : Int) by omega] at k6; exact k6,s6 _ _ htac⟩,by omega,fun Hf nf bf ff => ?_⟩
          have tdf : ∀ c xs,Hc c = some (.tup xs) → Hf c = some (.tup xs) := fun c xs e => bf _ _ ((ns.same s6).tup (s6 _ _ e)) (s6 _ _ e)
          refine ⟨⟨_,_,_,rfl⟩,⟨kvs,nd.keep (fun o e => bf _ _ nts (s6 _ _ e)) tdf,tw,kl⟩,⟨_,nf,ts.put tdf (hsv.keep tdf) upD,?_⟩,fun c o n1 n2 e => bf _ _ n2 (s6 _ _ (kc _ _ n1 n2 e))⟩
          have := length_putK kws (nk p wa j) sv
          omega
        · rintro σ Hd ⟨⟨v10,v11,v12,rfl⟩,⟨kvs,nd,tw,kl⟩,⟨kws,ns,ts,wl⟩,kd⟩
          have up : ∀ p wa l,DnT m n k i (j + 1) 0 p wa l → DnT m n k i j 2 p wa l := fun p wa l h => by
            rcases h with h | ⟨h1,h2 | ⟨_,⟨_,h2⟩ | ⟨_,h2⟩⟩⟩
            · exact .inl h
            · refine .inr ⟨h1,?_⟩
              rcases Nat.lt_succ_iff_lt_or_eq.mp h2 with h3 | h3
              · exact .inl h3
              · cases wa with
                | true => exact .inr ⟨h3,.inl ⟨rfl,by decide⟩⟩
                | false => exact .inr ⟨h3,.inr ⟨rfl,by decide⟩⟩
            · omega
            · omega
          exact ⟨⟨_,_,_,_,rfl⟩,⟨kvs,nd,fun p wa l h => tw p wa l (up p wa l h),by have : kvs.length ≤ 66 * i + 2 * j + 2 := kl; omega⟩,⟨kws,ns,ts.keep (fun _ _ e => e) up,by have : kws.length ≤ 66 * i + 2 * j + 2 := wl; omega⟩,kd⟩
      · rintro σ Hd ⟨⟨v9,v10,v11,v12,rfl⟩,⟨kvs,nd,tw,kl⟩,⟨kws,ns,ts,wl⟩,kd⟩
        have ek : ((k : Int) + 1).toNat = k + 1 := by omega
        rw [ek] at tw ts kl wl
        have up : ∀ p' wa l,DnT m n k (i + 1) 0 0 p' wa l → DnT m n k i (k + 1) 0 p' wa l := fun p' wa l h => by
          rcases h with ⟨h,hl⟩ | ⟨_,h2 | ⟨_,⟨_,h2⟩ | ⟨_,h2⟩⟩⟩
          · rw [List.take_add_one,hp] at h
            rcases List.mem_append.mp h with h | h
            · exact .inl ⟨h,hl⟩
            · rw [List.mem_singleton.mp h]
              exact .inr ⟨hp,.inl (by omega)⟩
          · exact absurd h2 (Nat.not_lt_zero _)
          · omega
          · omega
        exact ⟨⟨_,_,_,_,_,_,_,rfl⟩,⟨kvs,nd,fun p wa l h => tw p wa l (up p wa l h),by omega⟩,⟨kws,ns,ts.keep (fun _ _ e => e) up,by omega⟩,fun c o n1 n2 e => kd _ _ n1 n2 (sab _ _ (kx _ _ n1 n2 e))⟩
    · rintro σ Hx ⟨e,⟨kvs,nd,tw,kl⟩,⟨kws,ns,ts,wl⟩,kx⟩
      have ey : ys.length = m * n := pln.trans (partsL_len m n)
      have mn := partsL_len m n
      rw [ey] at tw ts kl wl
      exact hR _ _ ⟨e,⟨kvs,nd,tw,by omega⟩,⟨kws,ns,ts,by omega⟩,fun c o n1 n2 e => kx _ _ n1 n2 (s3 _ _ e)⟩
  rintro _ H3 ⟨⟨v6,v7,v8,v9,v10,v11,v12,rfl⟩,⟨kvs,nd,tw,kl⟩,⟨kws,ns,ts,wl⟩,k23⟩
  have pmem : ((m : Int),(n : Int)) ∈ partsL m n := partsL_mem.mpr ⟨⟨by show (1 : Int) ≤ m; omega,Int.le_refl _⟩,by show (1 : Int) ≤ n; omega,Int.le_refl _⟩
  have all : ∀ p (wa : Bool) l,p ∈ partsL m n ∧ l ≤ k → DnT m n k (m * n) 0 0 p wa l := fun p wa l h => .inl ⟨by rw [List.take_of_length_le (by rw [partsL_len]; exact Nat.le_refl _)]; exact h.1,h.2⟩
  have twD := tw _ true k (all (m,n) true k ⟨pmem,Nat.le_refl _⟩)
  have twA := tw _ false k (all (m,n) false k ⟨pmem,Nat.le_refl _⟩)
  have s03 := keepU k23
  refine seqCut (fun σ' H' => ∃ kd : Addr,σ' = [some (.ref s),some (.int (m : Int)),some (.int (n : Int)),some (.int (k : Int)),some (.ref wt),some (.ref st),v6,v7,v8,v9,v10,v11,v12,some (.ref kd),none] ∧ NkAt H' kd (nk ((m : Int),(n : Int)) true k) ∧ Same H3 H') (fun R hR => ?_) ?_
  · refine ⟨_,rfl,_,rfl,(by show 2 ≤ sizeLine; decide),fun pa hpa => ?_⟩
    obtain ⟨H4,e4,k4,s4⟩ : ∃ H',upd H3 pa (.tup [.int (m : Int),.int (n : Int)]) = H' ∧ H' pa = some (.tup [.int (m : Int),.int (n : Int)]) ∧ Same H3 H' := ⟨_,rfl,upd_same,Same.new hpa⟩
    rw [show upd H3 pa _ = H4 from e4]
    refine ⟨_,rfl,(by show 3 ≤ sizeLine; decide),fun kd hkd => ?_⟩
    obtain ⟨H5, e5, k5, s5⟩ : ∃ H', upd H4 kd (.tup [.ref pa, .str "down", .int (k : Int)]) = H' ∧ H' kd = some (.tup [.ref pa, .str "down", .int (k : Int)]) ∧ Same H4 H' := ⟨_, rfl, upd_same, Same.new hkd⟩
    rw [show upd H4 kd _ = H5 from e5]
    exact hR _ _ ⟨kd,rfl,⟨pa,k5,s5 _ _ k4⟩,s4.trans s5⟩
  rintro _ H4 ⟨kd,rfl,hkd,s34⟩
  refine seqCut (fun σ' H' => ∃ ka : Addr,σ' = [some (.ref s),some (.int (m : Int)),some (.int (n : Int)),some (.int (k : Int)),some (.ref wt),some (.ref st),v6,v7,v8,v9,v10,v11,v12,some (.ref kd),some (.ref ka)] ∧ NkAt H' ka (nk ((m : Int),(n : Int)) false k) ∧ Same H4 H') (fun R hR => ?_) ?_
  · refine ⟨_,rfl,_,rfl,(by show 2 ≤ sizeLine; decide),fun pa hpa => ?_⟩
    obtain ⟨H5,e4,k4,s4⟩ : ∃ H',upd H4 pa (.tup [.int (m : Int),.int (n : Int)]) = H' ∧ H' pa = some (.tup [.int (m : Int),.int (n : Int)]) ∧ Same H4 H' := ⟨_,rfl,upd_same,Same.new hpa⟩
    rw [show upd H4 pa _ = H5 from e4]
    refine ⟨_,rfl,(by show 3 ≤ sizeLine; decide),fun ka hka => ?_⟩
    obtain ⟨H6, e5, k5, s5⟩ : ∃ H', upd H5 ka (.tup [.ref pa, .str "across", .int (k : Int)]) = H' ∧ H' ka = some (.tup [.ref pa, .str "across", .int (k : Int)]) ∧ Same H5 H' := ⟨_, rfl, upd_same, Same.new hka⟩
    rw [show upd H5 ka _ = H6 from e5]
    exact hR _ _ ⟨ka,rfl,⟨pa,k5,s5 _ _ k4⟩,s4.trans s5⟩
  rintro _ H5 ⟨ka,rfl,hka,s45⟩
  have s35 := s34.trans s45
  have hkd5 := hkd.keep (fun c xs e => s45 _ _ e)
  have nd5 := nd.same s35
  have ns5 := ns.same s35
  refine seqCut (fun σ' H' => ∃ (ky : Addr) (wa : Bool),σ' = [some (.ref s),some (.int (m : Int)),some (.int (n : Int)),some (.int (k : Int)),some (.ref wt),some (.ref st),v6,v7,v8,v9,v10,v11,v12,some (.ref ky),some (.ref ka)] ∧ NkAt H5 ky (nk ((m : Int),(n : Int)) wa k) ∧ tB b ks ((m : Int),(n : Int)) k = tW b ks ((m : Int),(n : Int)) wa k ∧ tR b ks ((m : Int),(n : Int)) k = tT b ks 33 ((m : Int),(n : Int)) wa k ∧ H5 = H') (fun R hR => ?_) ?_
  · refine ⟨_,rfl,_,rfl,wt,_,_,_,ka,rfl,rfl,nd5,hka,twA,_,rfl,_,rfl,wt,_,_,_,kd,rfl,rfl,nd5,hkd5,twD,_,_,rfl,rfl,_,rfl,?_⟩
    by_cases c : tW b ks ((m : Int),(n : Int)) true k < tW b ks ((m : Int),(n : Int)) false k
    · rw [decide_eq_true c]
      exact iteT ⟨_,rfl,hR _ _ ⟨ka,false,rfl,hka,by unfold tB; omega,by unfold tR; rw [if_pos c],rfl⟩⟩
    · rw [decide_eq_false c]
      exact iteF (hR _ _ ⟨kd,true,rfl,hkd5,by unfold tB; omega,by unfold tR; rw [if_neg c],rfl⟩)
  rintro _ _ ⟨ky,wa,rfl,hky,eB,eR,rfl⟩
  refine ⟨_,rfl,_,rfl,wt,_,_,_,ky,rfl,rfl,nd5,hky,tw _ wa k (all (m,n) wa k ⟨pmem,Nat.le_refl _⟩),?_⟩
  refine ⟨_,rfl,_,rfl,st,ky,b,ks,kws,m,n,k,((m : Int),(n : Int)),wa,k,rfl,ns5,hky,b0,ts.keep (fun c xs e => s35 _ _ e) all,pmem,Nat.le_refl _,(by show ((m : Int) + n).toNat < 33; omega),fun v6 H6 hv6 s56 => ?_⟩
  refine ⟨(by show 2 ≤ sizeLine; decide),fun r hr => ?_⟩
  obtain ⟨H7,e7,k7,s7⟩ : ∃ H',upd H6 r (.tup [.int (tW b ks ((m : Int),(n : Int)) wa k),v6]) = H' ∧ H' r = some (.tup [.int (tW b ks ((m : Int),(n : Int)) wa k),v6]) ∧ Same H6 H' := ⟨_,rfl,upd_same,Same.new hr⟩
  rw [show upd H6 r _ = H7 from e7]
  exact q r v6 H7 (by rw [eB]; exact k7) (by rw [eR]; exact TrV.keep (fun c xs e => s7 _ _ e) _ hv6) (s03.trans (s35.trans (s56.trans s7)))
end
def fitK (k : Kd) (w h : Int) : Bool := (decide (k.w ≤ w) && decide (k.h ≤ h)) || (k.tu && (decide (k.h ≤ w) && decide (k.w ≤ h)))
theorem mxL_ge {α : Type} {f : α → Int} : ∀ {l : List α} {x : Int},x ≤ mxL f l x ∧ ∀ a ∈ l,f a ≤ mxL f l x
  | [],_ => ⟨Int.le_refl _,fun a h => by simp at h⟩
  | a :: r,x => by
    obtain ⟨h1,h2⟩ := mxL_ge (f := f) (l := r) (x := max x (f a))
    have e : mxL f (a :: r) x = mxL f r (max x (f a)) := rfl
    rw [e]
    refine ⟨by omega,fun b hb => ?_⟩
    rcases List.mem_cons.mp hb with rfl | hb
    · omega
    · exact h2 b hb
theorem mxL_one {α : Type} {f : α → Int} : ∀ {l : List α} {x : Int},mxL f l x = x ∨ ∃ a ∈ l,mxL f l x = f a
  | [],_ => .inl rfl
  | a :: r,x => by
    have e : mxL f (a :: r) x = mxL f r (max x (f a)) := rfl
    rw [e]
    rcases mxL_one (f := f) (l := r) (x := max x (f a)) with h | ⟨b,hb,h⟩
    · by_cases c : x ≤ f a
      · exact .inr ⟨a,List.mem_cons_self,by rw [h]; omega⟩
      · exact .inl (by rw [h]; omega)
    · exact .inr ⟨b,List.mem_cons_of_mem _ hb,h⟩
theorem bW_leaf {b : Int} {ks : List Kd} (b0 : 0 ≤ b) {p : Int × Int} (p1 : 1 ≤ p.1) (p2 : 1 ≤ p.2) : lfW ks p.1 p.2 ≤ bW b ks p := by
  rw [bW_eq b0 p p1 p2]
  exact mxL_ge.1
theorem bW_cut {b : Int} {ks : List Kd} (b0 : 0 ≤ b) {p : Int × Int} (p1 : 1 ≤ p.1) (p2 : 1 ≤ p.2) {c : Bool × Int} (hc : c ∈ cutsL b p.1 p.2) : bW b ks (fstP p.1 p.2 c) + bW b ks (sndP b p.1 p.2 c) ≤ bW b ks p := by
  rw [bW_eq b0 p p1 p2]
  exact mxL_ge.2 c hc
theorem made_same {C x dx : Addr} {H : Hp} (hx : H x = none) (hd : H dx = none) : Same H (upd (upd H dx (.own x)) x (.ins C dx [])) := fun c o e => by
  rw [upd_ne (ne_of_none e hx),upd_ne (ne_of_none e hd)]; exact e
def But2 (p q : Addr) (H H' : Hp) : Prop := ∀ c o,c ≠ p → c ≠ q → H c = some o → H' c = some o
theorem But2.but {p q : Addr} {H H' : Hp} (a : But p H H') : But2 p q H H' := fun c o n1 _ e => a c o n1 e
theorem potL {H : Hp} {p : Addr} (h : PotB H p) : ∃ xs,H p = some (.lst xs) := by
  obtain ⟨_,_,_,_,_,e⟩ := h
  exact ⟨_,e⟩
theorem tupsB {p : Addr} {rs : List V} {ks : List Kd} {H H' : Hp} (b : But p H H') (pt : PotB H p) (h : Tups H rs ks) : Tups H' rs ks := by
  obtain ⟨_,hp⟩ := potL pt
  exact Tups.keep (fun x xs e => b _ _ (fun z => by rw [z,hp] at e; cases e) e) h
section
variable {P : Program} {w : World} {K : PySem.W.Frag} {mg : Str → Option Value} {base : Heap}
def spPlateB : Sp := fun vs H Q _ => ∃ (p : Addr),vs = [.ref p] ∧ PotB H p ∧ ∀ (t : Addr) (m n : Nat) (H' : Hp),H' t = some (.tup [.int (m : Int),.int (n : Int)]) → 1 ≤ m → m ≤ 16 → 1 ≤ n → n ≤ 16 → PotB H' p → But p H H' → Q (.ref t) H'
def spKindsB : Sp := fun vs H Q _ => ∃ (p : Addr),vs = [.ref p] ∧ PotB H p ∧ ∀ (kl : Addr) (rs : List V) (ks : List Kd) (H' : Hp),kl ≠ p → H kl = none → H' kl = some (.lst rs) → Tups H' rs ks → (∀ k ∈ ks,Good k) → 1 ≤ rs.length → rs.length ≤ 8 → PotB H' p → But p H H' → Q (.ref kl) H'
def spLeafW : Sp := fun vs H Q _ => ∃ (p kl : Addr) (rs : List V) (ks : List Kd) (w h : Int),vs = [.ref p,.ref kl,.int w,.int h] ∧ kl ≠ p ∧ H kl = some (.lst rs) ∧ Tups H rs ks ∧ rs.length ≤ 8 ∧ (∀ k ∈ ks,Good k) ∧ PotB H p ∧ ∀ (r : Int) (H' : Hp),0 ≤ r → r ≤ lfW ks w h → PotB H' p → But p H H' → Q (.int r) H'
def spGreatM : Sp := fun vs H Q _ => ∃ (p : Addr) (m : Int),vs = [.ref p,.int m] ∧ PotB H p ∧ 0 < m ∧ m ≤ 10 ^ 60 ∧ ∀ (r : Int) (H' : Hp),0 ≤ r → r < m → PotB H' p → But p H H' → Q (.int r) H'
def spSideB : Sp := fun vs H Q _ => ∃ (p : Addr),vs = [.ref p] ∧ PotB H p ∧ ∀ (r : Int) (H' : Hp),1 ≤ r → r < 10 ^ 60 → PotB H' p → But p H H' → Q (.int r) H'
theorem scpot : FnScope ["_law_cell"] ["_law_cell"] (defScope sPot) := ⟨rfl,rfl,rfl,by decide +kernel,rfl,by decide +kernel,by decide +kernel⟩
theorem ok_pot {f : Addr} {fd : FuncData} (F : Fun K "_law_pot" "_law_pot" sPot f fd) (B : Blt mg) : FnOk P w K mg base CX0 1 f fd ["_law_cell"] (spPotB) := by
  refine F.ok scpot (fun vs H Q E h => ?_) (fun cdv A outer s H vs Q E hr h => ?_)
  · obtain ⟨c,rfl,_⟩ := h
    rfl
  obtain ⟨c,rfl,q⟩ := h
  have nd := scpot.nd
  refine ⟨_,(@pss_one _ _ _ (@ps_ret _ _ _ _ (@pe_lst _ _ _ _ (@pa_cons _ _ _ _ _ (@pe_callB _ _ _ _ _ _ _ _ _ (call_max2 rfl) rfl B.max PyProof.Rows.boot_max (@pa_cons _ _ _ _ _ pe_int (@pa_cons _ _ _ _ _ (@pe_op _ _ _ _ _ _ _ _ op_sub (pv 0) (@pe_op _ _ _ _ _ _ _ _ op_pow pe_int pe_int)) pa_nil rfl) rfl) (by decide) (by decide) rfl rfl) (@pa_cons _ _ _ _ _ (@pe_op _ _ _ _ _ _ _ _ op_add (@pe_op _ _ _ _ _ _ _ _ op_mod (@pe_callB _ _ _ _ _ _ _ _ _ call_abs rfl B.abs PyProof.Rows.boot_abs (@pa_cons _ _ _ _ _ (pv 0) pa_nil rfl) (by decide) (by decide) rfl rfl) pe_int) pe_int) pa_nil rfl) rfl)))),?_⟩
  refine ⟨_,rfl,_,_,rfl,rfl,⟨by decide,by decide,by decide⟩,_,_,rfl,rfl,_,_,rfl,_,rfl,_,rfl,_,_,rfl,rfl,(by show (0 : Int) < 2147483629; decide),_,_,rfl,rfl,(by show 2 ≤ sizeLine; decide),fun p hp => ?_⟩
  refine q p _ hp ⟨_,_,?_,?_,?_,upd_same⟩ (Same.new hp)
  · split <;> omega
  · have := Int.emod_nonneg (if c < 0 then -c else c) (show (2147483629 : Int) ≠ 0 by decide)
    omega
  · have := Int.emod_lt_of_pos (if c < 0 then -c else c) (show (0 : Int) < 2147483629 by decide)
    omega
theorem scdraw : FnScope ["_law_pot_here","_law_many","_law_number"] ["_law_pot_here","_law_many"] (defScope sDraw) := ⟨rfl,rfl,rfl,by decide +kernel,rfl,by decide +kernel,by decide +kernel⟩
theorem ok_draw {f : Addr} {fd : FuncData} (F : Fun K "_law_draw" "_law_draw" sDraw f fd) (B : Blt mg) : FnOk P w K mg base CX0 1 f fd ["_law_pot_here","_law_many"] (spDrawB) := by
  refine F.ok scdraw (fun vs H Q E h => ?_) (fun cdv A outer s H vs Q E hr h => ?_)
  · obtain ⟨p,m,rfl,_⟩ := h
    rfl
  obtain ⟨p,m,rfl,⟨a,b,a0,b0,b1,hp⟩,m0,m1,q⟩ := h
  have nd := scdraw.nd
  refine ⟨_,(@pss_cons _ _ _ _ _ (@ps_if _ _ _ _ _ _ _ _ (@pt_cmpR _ _ _ _ _ _ _ _ op_gt (@pe_ix _ _ _ _ _ _ _ ix_list (pv 0) pe_int (fun _ _ => rfl)) pe_int (nomark _)) (@pss_cons _ _ _ _ _ (@ps_set _ _ 2 _ _ _ _ nd rfl (Or.inl rfl) (@pe_op _ _ _ _ _ _ _ _ op_mod (@pe_ix _ _ _ _ _ _ _ ix_list (pv 0) pe_int (fun _ _ => rfl)) (pv 1)) rfl (Or.inl rfl)) (@pss_cons _ _ _ _ _ (@ps_asg _ _ _ _ _ _ (@pe_op _ _ _ _ _ _ _ _ op_fdivB (@pe_ix _ _ _ _ _ _ _ ix_list (pv 0) pe_int (fun _ _ => rfl)) (pv 1)) (pg_sub (pv 0) pe_int set_list) rfl rfl rfl) (@pss_one _ _ _ (@ps_ret _ _ _ _ (pv 2))))) pss_nil) (@pss_cons _ _ _ _ _ (@ps_asg _ _ _ _ _ _ (@pe_op _ _ _ _ _ _ _ _ op_mod (@pe_op _ _ _ _ _ _ _ _ op_mul (@pe_ix _ _ _ _ _ _ _ ix_list (pv 0) pe_int (fun _ _ => rfl)) pe_int) pe_int) (pg_sub (pv 0) pe_int set_list) rfl rfl rfl) (@pss_one _ _ _ (@ps_ret _ _ _ _ (@pe_op _ _ _ _ _ _ _ _ op_mod (@pe_op _ _ _ _ _ _ _ _ op_fdivB (@pe_op _ _ _ _ _ _ _ _ op_mod (@pe_op _ _ _ _ _ _ _ _ op_mul (@pe_ix _ _ _ _ _ _ _ ix_list (pv 0) pe_int (fun _ _ => rfl)) (@pe_ix _ _ _ _ _ _ _ ix_list (pv 0) pe_int (fun _ _ => rfl))) pe_int) pe_int) (pv 1)))))),?_⟩
  have at0 : atI [V.int a,V.int b] 0 = some (.int a) := rfl
  have at1 : atI [V.int a,V.int b] 1 = some (.int b) := rfl
  refine ⟨_,rfl,p,_,_,_,rfl,rfl,SqL.of hp,at0,_,_,rfl,rfl,_,rfl,?_⟩
  refine ite2 (fun c => ?_) (fun c => ?_)
  · have c' : 0 < a := of_decide_eq_true c
    refine ⟨_,rfl,p,_,_,_,rfl,rfl,SqL.of hp,at0,_,rfl,_,_,rfl,rfl,m0,?_⟩
    refine ⟨_,rfl,p,_,_,_,rfl,rfl,SqL.of hp,at0,_,rfl,_,_,rfl,rfl,⟨m0,m1⟩,_,rfl,p,_,_,_,rfl,rfl,hp,rfl,?_⟩
    refine ⟨_,rfl,q _ _ (Int.emod_nonneg _ (by omega)) (Int.emod_lt_of_pos _ m0) ⟨a / m,b,Int.ediv_nonneg a0 (by omega),b0,b1,upd_same⟩ But.upd⟩
  · refine ⟨_,rfl,p,_,_,_,rfl,rfl,SqL.of hp,at1,_,_,rfl,rfl,.inr ⟨by decide,by decide⟩,_,_,rfl,rfl,(by show (0 : Int) < 2147483647; decide),_,rfl,p,_,_,_,rfl,rfl,hp,rfl,?_⟩
    have n0 : 0 ≤ (b * 48271) % 2147483647 := Int.emod_nonneg _ (by decide)
    have n1 : (b * 48271) % 2147483647 < 2147483647 := Int.emod_lt_of_pos _ (by decide)
    refine ⟨_,rfl,p,_,_,_,rfl,rfl,SqL.of upd_same,rfl,_,rfl,p,_,_,_,rfl,rfl,SqL.of upd_same,rfl,_,_,rfl,rfl,.inl ⟨by omega,by omega⟩,_,_,rfl,rfl,(by show (0 : Int) < 2147483629; decide),_,_,rfl,rfl,⟨by decide,by decide⟩,_,rfl,_,_,rfl,rfl,m0,?_⟩
    exact q _ _ (Int.emod_nonneg _ (by omega)) (Int.emod_lt_of_pos _ m0) ⟨a,_,a0,n0,by omega,upd_same⟩ But.upd
theorem scgreatm : FnScope ["_law_pot_here","_law_many","_law_found","_law_k"] ["_law_pot_here","_law_many"] (defScope sGreat) := ⟨rfl,rfl,rfl,by decide +kernel,rfl,by decide +kernel,by decide +kernel⟩
theorem ok_greatm {f : Addr} {fd : FuncData} (F : Fun K "_law_great" "_law_great" sGreat f fd) (B : Blt mg) (DD : Dn P w K mg base "_law_draw" ["_law_pot_here","_law_many"] 1 (spDrawB)) : FnOk P w K mg base CX0 2 f fd ["_law_pot_here","_law_many"] (spGreatM) := by
  refine F.ok scgreatm (fun vs H Q E h => ?_) (fun cdv A outer s H vs Q E hr h => ?_)
  · obtain ⟨p,m,rfl,_⟩ := h
    rfl
  obtain ⟨p,m,rfl,pt,m0,m1,q⟩ := h
  have nd := scgreatm.nd
  refine ⟨_,(@pss_cons _ _ _ _ _ (@ps_if _ _ _ _ _ _ _ _ (@pt_cmpR _ _ _ _ _ _ _ _ op_gt (@pe_ix _ _ _ _ _ _ _ ix_list (pv 0) pe_int (fun _ _ => rfl)) pe_int (nomark _)) (@pss_one _ _ _ (@ps_ret _ _ _ _ (@pe_cD _ _ _ _ _ _ _ _ _ _ DD hr rfl (@pa_cons _ _ _ _ _ (pv 0) (@pa_cons _ _ _ _ _ (pv 1) pa_nil rfl) rfl) (by decide) rfl rfl))) pss_nil) (@pss_cons _ _ _ _ _ (@ps_set _ _ 2 _ _ _ _ nd rfl (Or.inl rfl) pe_int rfl (Or.inl rfl)) (@pss_cons _ _ _ _ _ (@ps_for _ _ _ _ _ _ _ _ PassesOwn.never rfl (pi_range1 rfl B.range (@pa_cons _ _ _ _ _ pe_int pa_nil rfl)) (pg_name (i := 3) nd rfl (Or.inl rfl)) (@pss_one _ _ _ (@ps_set _ _ 2 _ _ _ _ nd rfl (Or.inl rfl) (@pe_op _ _ _ _ _ _ _ _ op_add (@pe_op _ _ _ _ _ _ _ _ op_mul (pv 2) pe_int) (@pe_cD _ _ _ _ _ _ _ _ _ _ DD hr rfl (@pa_cons _ _ _ _ _ (pv 0) (@pa_cons _ _ _ _ _ pe_int pa_nil rfl) rfl) (by decide) rfl rfl)) rfl (Or.inl rfl))) (by intro _; rfl)) (@pss_one _ _ _ (@ps_ret _ _ _ _ (@pe_op _ _ _ _ _ _ _ _ op_mod (pv 2) (pv 1))))))),?_⟩
  obtain ⟨a,b,a0,b0,b1,hp⟩ := id pt
  have at0 : atI [V.int a,V.int b] 0 = some (.int a) := rfl
  refine seqCut (fun σ' H' => σ' = [some (.ref p),some (.int m),none,none] ∧ H = H') (fun R hR => ?_) ?_
  · refine ⟨_,rfl,p,_,_,_,rfl,rfl,SqL.of hp,at0,_,_,rfl,rfl,_,rfl,?_⟩
    refine ite2 (fun c => ?_) (fun c => ?_)
    · exact ⟨_,rfl,_,rfl,p,m,rfl,pt,m0,m1,fun r H1 r0 r1 pt1 b1' => q r H1 r0 r1 pt1 b1'⟩
    · exact hR _ _ ⟨rfl,rfl⟩
  rintro _ _ ⟨rfl,rfl⟩
  refine seqCut (fun σ' H' => σ' = [some (.ref p),some (.int m),some (.int 0),none] ∧ H = H') (fun R hR => hR _ _ ⟨rfl,rfl⟩) ?_
  rintro _ _ ⟨rfl,rfl⟩
  refine seqCut (fun σ' H' => ∃ (f : Int) (v3 : Option V),σ' = [some (.ref p),some (.int m),some (.int f),v3] ∧ PotB H' p ∧ But p H H') (fun R hR => ?_) ?_
  · refine ⟨_,rfl,by decide,by decide,for_range (lo := 0) (n := 7) (fun i σ' H' => ∃ (f : Int) (v3 : Option V),σ' = [some (.ref p),some (.int m),some (.int f),v3] ∧ PotB H' p ∧ But p H H') ⟨0,none,rfl,pt,fun _ _ _ e => e⟩ ?_ (fun σ H1 ⟨f,v3,e,pt1,b1⟩ => hR _ _ ⟨f,v3,e,pt1,b1⟩)⟩
    rintro i σ H1 hi ⟨f,v3,rfl,pt1,b1⟩
    exact ⟨_,rfl,_,_,rfl,rfl,.inr ⟨by decide,by decide⟩,_,rfl,p,_,rfl,pt1,by decide,by decide,fun r H2 r0 r1 pt2 b2 => ⟨_,_,rfl,rfl,_,_,rfl,pt2,b1.trans b2⟩⟩
  rintro _ H1 ⟨f,v3,rfl,pt1,b1⟩
  exact ⟨_,rfl,_,rfl,_,_,rfl,rfl,m0,q _ _ (Int.emod_nonneg _ (by omega)) (Int.emod_lt_of_pos _ m0) pt1 b1⟩
theorem scsided : FnScope ["_law_pot_here"] ["_law_pot_here"] (defScope sSide) := ⟨rfl,rfl,rfl,by decide +kernel,rfl,by decide +kernel,by decide +kernel⟩
theorem ok_sided {f : Addr} {fd : FuncData} (F : Fun K "_law_side" "_law_side" sSide f fd) (B : Blt mg) (DD : Dn P w K mg base "_law_draw" ["_law_pot_here","_law_many"] 1 (spDrawB)) (DG : Dn P w K mg base "_law_great" ["_law_pot_here","_law_many"] 2 (spGreatM)) : FnOk P w K mg base CX0 3 f fd ["_law_pot_here"] (spSideB) := by
  refine F.ok scsided (fun vs H Q E h => ?_) (fun cdv A outer s H vs Q E hr h => ?_)
  · obtain ⟨p,rfl,_⟩ := h
    rfl
  obtain ⟨p,rfl,pt,q⟩ := h
  have nd := scsided.nd
  refine ⟨_,(@pss_cons _ _ _ _ _ (@ps_if _ _ _ _ _ _ _ _ (@pt_cmpR _ _ _ _ _ _ _ _ op_eq (@pe_cD _ _ _ _ _ _ _ _ _ _ DD (hr.mono (by decide)) rfl (@pa_cons _ _ _ _ _ (pv 0) (@pa_cons _ _ _ _ _ pe_int pa_nil rfl) rfl) (by decide) rfl rfl) pe_int (nomark _)) (@pss_one _ _ _ (@ps_ret _ _ _ _ (@pe_op _ _ _ _ _ _ _ _ op_add pe_int (@pe_cD _ _ _ _ _ _ _ _ _ _ DG hr rfl (@pa_cons _ _ _ _ _ (pv 0) (@pa_cons _ _ _ _ _ (@pe_op _ _ _ _ _ _ _ _ op_sub (@pe_op _ _ _ _ _ _ _ _ op_pow pe_int pe_int) pe_int) pa_nil rfl) rfl) (by decide) rfl rfl)))) pss_nil) (@pss_one _ _ _ (@ps_ret _ _ _ _ (@pe_op _ _ _ _ _ _ _ _ op_add pe_int (@pe_cD _ _ _ _ _ _ _ _ _ _ DD (hr.mono (by decide)) rfl (@pa_cons _ _ _ _ _ (pv 0) (@pa_cons _ _ _ _ _ pe_int pa_nil rfl) rfl) (by decide) rfl rfl))))),?_⟩
  have e60 : (100 : Int) < 10 ^ 60 := by decide
  refine seqCut (fun σ' H' => ∃ v : Option V,σ' = [some (.ref p)] ∧ PotB H' p ∧ But p H H') (fun R hR => ?_) ?_
  · refine ⟨_,rfl,p,16,rfl,pt,by decide,by decide,fun z H1 z0 z1 pt1 b1 => ⟨rfl,_,rfl,?_⟩⟩
    refine ite2 (fun cc => ?_) (fun cc => hR _ _ ⟨none,rfl,pt1,b1⟩)
    refine ⟨_,rfl,_,_,rfl,rfl,⟨by decide,by decide,by decide⟩,_,_,rfl,rfl,p,_,rfl,pt1,(by show (0 : Int) < 10 ^ (60 : Int).toNat - 1; decide),(by show (10 : Int) ^ (60 : Int).toNat - 1 ≤ 10 ^ 60; decide),fun r H2 r0 r1 pt2 b2 => ⟨_,_,rfl,rfl,q _ H2 (by omega) ?_ pt2 (b1.trans b2)⟩⟩
    have r1 : r < 10 ^ 60 - 1 := r1
    show 1 + r < 10 ^ 60
    omega
  rintro _ H1 ⟨_,rfl,pt1,b1⟩
  exact ⟨_,rfl,p,6,rfl,pt1,by decide,by decide,fun r H2 r0 r1 pt2 b2 => ⟨_,_,rfl,rfl,q _ H2 (by omega) (by omega) pt2 (b1.trans b2)⟩⟩
theorem sckindsd : FnScope ["_law_pot_here","_law_kinds_here","_law_k","_law_wide","_law_high","_law_worth_here"] ["_law_pot_here"] (defScope sKinds) := ⟨rfl,rfl,rfl,by decide +kernel,rfl,by decide +kernel,by decide +kernel⟩
theorem ok_kindsd {f : Addr} {fd : FuncData} (F : Fun K "_law_kinds" "_law_kinds" sKinds f fd) (B : Blt mg) (DD : Dn P w K mg base "_law_draw" ["_law_pot_here","_law_many"] 1 (spDrawB)) (DG : Dn P w K mg base "_law_great" ["_law_pot_here","_law_many"] 2 (spGreatM)) (DS : Dn P w K mg base "_law_side" ["_law_pot_here"] 3 (spSideB)) : FnOk P w K mg base CX0 4 f fd ["_law_pot_here"] (spKindsB) := by
  refine F.ok sckindsd (fun vs H Q E h => ?_) (fun cdv A outer s H vs Q E hr h => ?_)
  · obtain ⟨p,rfl,_⟩ := h
    rfl
  obtain ⟨p,rfl,pt,q⟩ := h
  have nd := sckindsd.nd
  refine ⟨_,(@pss_cons _ _ _ _ _ (@ps_set _ _ 1 _ _ _ _ nd rfl (Or.inl rfl) (@pe_lst _ _ _ _ pa_nil) rfl (Or.inl rfl)) (@pss_cons _ _ _ _ _ (@ps_for _ _ _ _ _ _ _ _ PassesOwn.never rfl (pi_range1 rfl B.range (@pa_cons _ _ _ _ _ (@pe_op _ _ _ _ _ _ _ _ op_add pe_int (@pe_cD _ _ _ _ _ _ _ _ _ _ DD (hr.mono (by decide)) rfl (@pa_cons _ _ _ _ _ (pv 0) (@pa_cons _ _ _ _ _ pe_int pa_nil rfl) rfl) (by decide) rfl rfl)) pa_nil rfl)) (pg_name (i := 2) nd rfl (Or.inl rfl)) (@pss_cons _ _ _ _ _ (ps_par rfl nd rfl rfl (i := 3) (j := 4) (by decide) rfl rfl (@pa_cons _ _ _ _ _ (@pe_cD _ _ _ _ _ _ _ _ _ _ DS hr rfl (@pa_cons _ _ _ _ _ (pv 0) pa_nil rfl) (by decide) rfl rfl) (@pa_cons _ _ _ _ _ (@pe_cD _ _ _ _ _ _ _ _ _ _ DS hr rfl (@pa_cons _ _ _ _ _ (pv 0) pa_nil rfl) (by decide) rfl rfl) pa_nil rfl) rfl) rfl) (@pss_cons _ _ _ _ _ (@ps_set _ _ 5 _ _ _ _ nd rfl (Or.inl rfl) (@pe_cD _ _ _ _ _ _ _ _ _ _ DD (hr.mono (by decide)) rfl (@pa_cons _ _ _ _ _ (pv 0) (@pa_cons _ _ _ _ _ pe_int pa_nil rfl) rfl) (by decide) rfl rfl) rfl (Or.inl rfl)) (@pss_cons _ _ _ _ _ (@ps_if _ _ _ _ _ _ _ _ (@pt_cmpR _ _ _ _ _ _ _ _ op_eq (@pe_cD _ _ _ _ _ _ _ _ _ _ DD (hr.mono (by decide)) rfl (@pa_cons _ _ _ _ _ (pv 0) (@pa_cons _ _ _ _ _ pe_int pa_nil rfl) rfl) (by decide) rfl rfl) pe_int (nomark _)) (@pss_one _ _ _ (@ps_set _ _ 5 _ _ _ _ nd rfl (Or.inl rfl) (@pe_cD _ _ _ _ _ _ _ _ _ _ DG (hr.mono (by decide)) rfl (@pa_cons _ _ _ _ _ (pv 0) (@pa_cons _ _ _ _ _ (@pe_op _ _ _ _ _ _ _ _ op_pow pe_int pe_int) pa_nil rfl) rfl) (by decide) rfl rfl) rfl (Or.inl rfl))) pss_nil) (@pss_one _ _ _ (@ps_expr _ _ _ _ (@pe_bm _ _ _ _ _ _ _ _ _ _ _ _ PySem.F.plainAttrs_list PySem.F.slot_list_append PySem.F.type_list_append mt_append (pv 1) (@pa_cons _ _ _ _ _ (@pe_tup _ _ _ _ _ (@pa_cons _ _ _ _ _ (pv 3) (@pa_cons _ _ _ _ _ (pv 4) (@pa_cons _ _ _ _ _ (pv 5) (@pa_cons _ _ _ _ _ (@pe_cD _ _ _ _ _ _ _ _ _ _ DD (hr.mono (by decide)) rfl (@pa_cons _ _ _ _ _ (pv 0) (@pa_cons _ _ _ _ _ pe_int pa_nil rfl) rfl) (by decide) rfl rfl) (@pa_cons _ _ _ _ _ (@pe_cmpR _ _ _ _ _ _ _ _ op_eq (@pe_cD _ _ _ _ _ _ _ _ _ _ DD (hr.mono (by decide)) rfl (@pa_cons _ _ _ _ _ (pv 0) (@pa_cons _ _ _ _ _ pe_int pa_nil rfl) rfl) (by decide) rfl rfl) pe_int (nomark _)) pa_nil rfl) rfl) rfl) rfl) rfl)) pa_nil rfl) rfl rfl rfl rfl rfl) rfl))))) (by intro _; rfl)) (@pss_one _ _ _ (@ps_ret _ _ _ _ (pv 1))))),?_⟩
  have z4 : 4096 ≤ sizeLine := by decide
  have e60 : (100 : Int) < 10 ^ 60 := by decide
  refine seqCut (fun σ' H' => ∃ kl : Addr,σ' = [some (.ref p),some (.ref kl),none,none,none,none] ∧ H kl = none ∧ kl ≠ p ∧ H' kl = some (.lst []) ∧ PotB H' p ∧ But p H H') (fun R hR => ?_) ?_
  · refine ⟨by decide,fun kl hkl => ?_⟩
    obtain ⟨H1,e1,k1,n1,s1,b1,pt1⟩ := put1 (o := .lst []) (But.refl (p := p) (H := H)) pt hkl
    rw [show upd H kl _ = H1 from e1]
    exact hR _ _ ⟨kl,rfl,hkl,n1,k1,pt1,b1⟩
  rintro _ H1 ⟨kl,rfl,hkl,nkp,k1,pt1,b1⟩
  refine seqCut (fun σ' H' => ∃ (rs : List V) (ks : List Kd) (v2 v3 v4 v5 : Option V),σ' = [some (.ref p),some (.ref kl),v2,v3,v4,v5] ∧ H' kl = some (.lst rs) ∧ Tups H' rs ks ∧ (∀ k ∈ ks,Good k) ∧ 1 ≤ rs.length ∧ rs.length ≤ 8 ∧ PotB H' p ∧ But2 p kl H1 H') (fun R hR => ?_) ?_
  · refine ⟨_,rfl,p,4,rfl,pt1,by decide,by decide,fun r H4 r0 r1 pt4 b14 => ⟨_,_,rfl,rfl,_,rfl,by omega,by omega,?_⟩⟩
    refine for_range (lo := 0) (n := (1 + r).toNat) (fun i σ' H' => ∃ (rs : List V) (ks : List Kd) (v2 v3 v4 v5 : Option V),σ' = [some (.ref p),some (.ref kl),v2,v3,v4,v5] ∧ H' kl = some (.lst rs) ∧ Tups H' rs ks ∧ (∀ k ∈ ks,Good k) ∧ rs.length = i ∧ PotB H' p ∧ But2 p kl H1 H') ⟨[],[],none,none,none,none,rfl,b14 _ _ nkp k1,.nil,(fun k hk => by simp at hk),rfl,pt4,But2.but b14⟩ ?_ ?_
    · rintro i σ H6 hi ⟨rs,ks,v2,v3,v4,v5,rfl,hk6,tp6,gk,rl,pt6,b16⟩
      refine seqCut (fun σ' H' => ∃ (w1 h1 : Int),σ' = [some (.ref p),some (.ref kl),some (.int (0 + i)),some (.int w1),some (.int h1),v5] ∧ 1 ≤ w1 ∧ w1 < 10 ^ 60 ∧ 1 ≤ h1 ∧ h1 < 10 ^ 60 ∧ PotB H' p ∧ But p H6 H') (fun R hR => ?_) ?_
      · exact ⟨_,rfl,p,rfl,pt6,fun w1 Ha w0 w60 pa ba => ⟨_,rfl,p,rfl,pa,fun h1 Hb h0 h60 pb bb => ⟨_,_,rfl,hR _ _ ⟨w1,h1,rfl,w0,w60,h0,h60,pb,ba.trans bb⟩⟩⟩⟩
      rintro _ H7 ⟨w1,h1,rfl,w0,w60,h0,h60,pt7,b7⟩
      refine seqCut (fun σ' H' => ∃ (x : Int),σ' = [some (.ref p),some (.ref kl),some (.int (0 + i)),some (.int w1),some (.int h1),some (.int x)] ∧ 0 ≤ x ∧ x < 10 ^ 60 ∧ PotB H' p ∧ But p H6 H') (fun R hR => ?_) ?_
      · exact ⟨_,rfl,p,10,rfl,pt7,by decide,by decide,fun x Ha x0 x1 pa ba => hR _ _ ⟨x,rfl,x0,by omega,pa,b7.trans ba⟩⟩
      rintro _ H8 ⟨x,rfl,x0,x60,pt8,b8⟩
      refine seqCut (fun σ' H' => ∃ (x : Int),σ' = [some (.ref p),some (.ref kl),some (.int (0 + i)),some (.int w1),some (.int h1),some (.int x)] ∧ 0 ≤ x ∧ x < 10 ^ 60 ∧ PotB H' p ∧ But p H6 H') (fun R hR => ?_) ?_
      · refine ⟨_,rfl,p,4,rfl,pt8,by decide,by decide,fun y Ha y0 y1 pa ba => ⟨rfl,_,rfl,?_⟩⟩
        refine ite2 (fun cc => ?_) (fun cc => hR _ _ ⟨x,rfl,x0,x60,pa,b8.trans ba⟩)
        exact ⟨_,rfl,_,_,rfl,rfl,⟨by decide,by decide,by decide⟩,p,_,rfl,pa,(by show (0 : Int) < 10 ^ (60 : Int).toNat; decide),(by show (10 : Int) ^ (60 : Int).toNat ≤ 10 ^ 60; decide),fun x' Hb x0' x1' pb bb => hR _ _ ⟨x',rfl,x0',x1',pb,b8.trans (ba.trans bb)⟩⟩
      clear pt8 b8 x0 x60
      clear x H8
      rintro _ H8 ⟨x,rfl,x0,x60,pt8,b8⟩
      refine ⟨_,rfl,.inl ⟨rfl,_,SqL.of (b8 _ _ nkp hk6)⟩,_,rfl,_,rfl,_,rfl,_,rfl,p,4,rfl,pt8,by decide,by decide,fun y1 Ha y10 y11 pa ba => ⟨_,rfl,p,2,rfl,pa,by decide,by decide,fun y2 Hb y20 y21 pb bb => ⟨rfl,(by show 5 ≤ sizeLine; decide),fun t ht => ?_⟩⟩⟩
      have b6b := b8.trans (ba.trans bb)
      obtain ⟨H9,e9,k9,n9,s9,b9,pt9⟩ := put1 (o := .tup [.int w1,.int h1,.int x,.int y1,.bl (decide (V.int y2 = V.int 1))]) b6b pb ht
      rw [show upd Hb t _ = H9 from e9]
      have tp9 : Tups H9 rs ks := tupsB b9 pt6 tp6
      have hk9 := b9 _ _ nkp hk6
      have kt : ∀ c xs,H9 c = some (.tup xs) → (upd H9 kl (.lst (rs ++ [.ref t]))) c = some (.tup xs) := fun c xs e => by
        rw [upd_ne (fun z => by rw [z,hk9] at e; cases e)]; exact e
      refine ⟨kl,_,_,rfl,rfl,hk9,by omega,rs ++ [.ref t],ks ++ [⟨w1,h1,x,y1,decide (V.int y2 = V.int 1)⟩],_,_,_,_,rfl,upd_same,Paired.app (Tups.keep kt tp9) (.cons ⟨t,rfl,kt _ _ (show H9 t = some (.tup (kdV ⟨w1,h1,x,y1,decide (V.int y2 = V.int 1)⟩)) from k9)⟩ .nil),fun k' hk' => ?_,by rw [List.length_append,rl]; rfl,?_,fun c o n1 n2 e => by rw [upd_ne n2]; exact b9 _ _ n1 (b16 _ _ n1 n2 e)⟩
      · rcases List.mem_append.mp hk' with h | h
        · exact gk k' h
        · rw [List.mem_singleton.mp h]
          exact ⟨w0,h0,x0,y10,w60,h60,x60,by show y1 < _; omega⟩
      · obtain ⟨x,y,q1,q2,q3,e⟩ := pt9
        exact ⟨x,y,q1,q2,q3,by rw [upd_ne (Ne.symm nkp)]; exact e⟩
    · rintro σ H5 ⟨rs,ks,v2,v3,v4,v5,rfl,hk5,tp5,gk,rl,pt5,b15⟩
      exact hR _ _ ⟨rs,ks,v2,v3,v4,v5,rfl,hk5,tp5,gk,by omega,by omega,pt5,b15⟩
  rintro _ H2 ⟨rs,ks,v2,v3,v4,v5,rfl,hk2,tp2,gk,r1,r8,pt2,b12⟩
  exact ⟨_,rfl,q kl rs ks H2 nkp hkl hk2 tp2 gk r1 r8 pt2 (fun c o n e => b12 _ _ n (ne_of_none e hkl) (b1 _ _ n e))⟩
end
theorem tW_ge {b : Int} {ks : List Kd} (b0 : 0 ≤ b) {p : Int × Int} {wa : Bool} {l : Nat} (p1 : 1 ≤ p.1) (p2 : 1 ≤ p.2) : lfW ks p.1 p.2 ≤ tW b ks p wa l ∧ ∀ x ∈ cbt (cutsL b p.1 p.2) wa l,tcW b (tW b ks) p.1 p.2 x ≤ tW b ks p wa l := by
  rw [tW_eq b0 p wa l p1 p2]
  exact mxL_ge
theorem tW_le {b : Int} {ks : List Kd} (b0 : 0 ≤ b) {p : Int × Int} {wa : Bool} {l : Nat} {x : Int} (p1 : 1 ≤ p.1) (p2 : 1 ≤ p.2) (h0 : lfW ks p.1 p.2 ≤ x) (h : ∀ y ∈ cbt (cutsL b p.1 p.2) wa l,tcW b (tW b ks) p.1 p.2 y ≤ x) : tW b ks p wa l ≤ x := by
  rw [tW_eq b0 p wa l p1 p2]
  rcases mxL_one (f := tcW b (tW b ks) p.1 p.2) (l := cbt (cutsL b p.1 p.2) wa l) (x := lfW ks p.1 p.2) with e | ⟨c,hc,e⟩
  · rw [e]; exact h0
  · rw [e]; exact h c hc
theorem tW_mono {b : Int} {ks : List Kd} (b0 : 0 ≤ b) : ∀ (n : Nat) (p : Int × Int) (dn : Bool) (l l' : Nat),msr p < n → 1 ≤ p.1 → 1 ≤ p.2 → l ≤ l' → tW b ks p dn l ≤ tW b ks p dn l'
  | 0,_,_,_,_,h,_,_,_ => absurd h (Nat.not_lt_zero _)
  | n + 1,p,dn,l,l',hn,p1,p2,hl => by
    obtain ⟨t0,t1⟩ := tW_ge (ks := ks) b0 (p := p) (wa := dn) (l := l') p1 p2
    refine tW_le b0 p1 p2 t0 fun y hy => ?_
    obtain ⟨h1,h2,h3,h4⟩ := cbt_mem hy
    obtain ⟨⟨a1,a2,_,_,_,a3⟩,⟨c1,c2,_,_,_,c3⟩⟩ := cut_less b0 p1 p2 h1
    have em : msr (p.1,p.2) = msr p := rfl
    have go : ∀ l2,y.2 ≤ l2 → (y.1,l2) ∈ cbt (cutsL b p.1 p.2) dn l' → tcW b (tW b ks) p.1 p.2 y ≤ tW b ks p dn l' := fun l2 h5 h6 => by
      have i1 := tW_mono (ks := ks) b0 n (fstP p.1 p.2 y.1) y.1.1 y.2 l2 (by omega) a1 a2 h5
      have i2 := tW_mono (ks := ks) b0 n (sndP b p.1 p.2 y.1) y.1.1 y.2 l2 (by omega) c1 c2 h5
      have := t1 _ h6
      unfold tcW at this ⊢
      have e : tW b ks (fstP p.1 p.2 y.1) y.1.1 l2 + tW b ks (sndP b p.1 p.2 y.1) y.1.1 l2 ≤ tW b ks p dn l' := this
      omega
    by_cases hw : y.1.1 = dn
    · exact go l' (by omega) (mem_cbt h1 (.inl ⟨hw,rfl⟩))
    · exact go (l' - 1) (by have := h4 hw; omega) (mem_cbt h1 (.inr ⟨hw,by have := h4 hw; omega⟩))
def swK (k : Kd) : Kd := ⟨k.h,k.w,k.wo,k.wa,k.tu⟩
def swP (p : Int × Int) : Int × Int := (p.2,p.1)
theorem tB_mono {b : Int} {ks : List Kd} (b0 : 0 ≤ b) {p : Int × Int} {l l' : Nat} (p1 : 1 ≤ p.1) (p2 : 1 ≤ p.2) (hl : l ≤ l') : tB b ks p l ≤ tB b ks p l' := by
  have h1 := tW_mono (ks := ks) b0 _ p true l l' (Nat.lt_succ_self _) p1 p2 hl
  have h2 := tW_mono (ks := ks) b0 _ p false l l' (Nat.lt_succ_self _) p1 p2 hl
  unfold tB
  omega
def tBd (b : Int) (ks : List Kd) (p : Int × Int) : Option Bool → Nat → Int
  | none,t => tB b ks p t
  | some d,t => tW b ks p d t
theorem tBd_leaf {b : Int} {ks : List Kd} (b0 : 0 ≤ b) {p : Int × Int} (p1 : 1 ≤ p.1) (p2 : 1 ≤ p.2) (o : Option Bool) (t : Nat) : lfW ks p.1 p.2 ≤ tBd b ks p o t := by
  cases o with
  | none =>
    have := (tW_ge (ks := ks) b0 (p := p) (wa := true) (l := t) p1 p2).1
    show _ ≤ tB b ks p t
    unfold tB
    omega
  | some d => exact (tW_ge b0 p1 p2).1
def ownT (o : Option Bool) (dn : Bool) : Nat := if o = some (!dn) then 1 else 0
theorem tBd_cut {b : Int} {ks : List Kd} (b0 : 0 ≤ b) {p : Int × Int} (p1 : 1 ≤ p.1) (p2 : 1 ≤ p.2) (o : Option Bool) {dn : Bool} {q : Int} (hc : (dn,q) ∈ cutsL b p.1 p.2) {r1 r2 : Int} {t1 t2 : Nat} (h1 : r1 ≤ tW b ks (fstP p.1 p.2 (dn,q)) dn t1) (h2 : r2 ≤ tW b ks (sndP b p.1 p.2 (dn,q)) dn t2) : r1 + r2 ≤ tBd b ks p o (ownT o dn + max t1 t2) := by
  obtain ⟨⟨a1,a2,_⟩,⟨c1,c2,_⟩⟩ := cut_less b0 p1 p2 hc
  have i1 := tW_mono (ks := ks) b0 _ (fstP p.1 p.2 (dn,q)) dn t1 (max t1 t2) (Nat.lt_succ_self _) a1 a2 (by omega)
  have i2 := tW_mono (ks := ks) b0 _ (sndP b p.1 p.2 (dn,q)) dn t2 (max t1 t2) (Nat.lt_succ_self _) c1 c2 (by omega)
  have go : ∀ d l,((dn,q),max t1 t2) ∈ cbt (cutsL b p.1 p.2) d l → r1 + r2 ≤ tW b ks p d l := fun d l hm => by
    have := (tW_ge (ks := ks) b0 (p := p) (wa := d) (l := l) p1 p2).2 _ hm
    unfold tcW at this
    have : tW b ks (fstP p.1 p.2 (dn,q)) dn (max t1 t2) + tW b ks (sndP b p.1 p.2 (dn,q)) dn (max t1 t2) ≤ tW b ks p d l := this
    omega
  cases o with
  | none =>
    have h := go dn (max t1 t2) (mem_cbt hc (.inl ⟨rfl,rfl⟩))
    show _ ≤ tB b ks p (ownT none dn + max t1 t2)
    rw [show ownT none dn = 0 from rfl,Nat.zero_add]
    unfold tB
    cases dn <;> omega
  | some d =>
    show _ ≤ tW b ks p d (ownT (some d) dn + max t1 t2)
    refine go d _ (mem_cbt hc ?_)
    unfold ownT
    by_cases e : dn = d
    · subst e
      rw [if_neg (fun z => by have := Option.some.inj z; cases dn <;> cases this)]
      exact .inl ⟨rfl,by omega⟩
    · have : d = !dn := by cases d <;> cases dn <;> simp_all
      rw [if_pos (by rw [this])]
      exact .inr ⟨e,by omega⟩
def lastV : Option Bool → V
  | none => .non
  | some d => wv d
def tval (ks : List Kd) : Tr → Int
  | .rest => 0
  | .piece i c _ _ => wq ks (i,c)
  | .cut _ _ l r => tval ks l + tval ks r
def okL (b : Int) (ks : List Kd) : Int → Int → Tr → Option Bool → Nat → Prop
  | _,_,.rest,_,_ => True
  | w,h,.piece i c x y,_,_ => x = 0 ∧ y = 0 ∧ ∃ k,ks[i]? = some k ∧ (c = false ∨ turnable k = true) ∧ fits k c w h = true
  | w,h,.cut dn q l r,o,left => (dn,q) ∈ cutsL b w h ∧ ownT o dn ≤ left ∧ okL b ks (fstP w h (dn,q)).1 (fstP w h (dn,q)).2 l (some dn) (left - ownT o dn) ∧ okL b ks (sndP b w h (dn,q)).1 (sndP b w h (dn,q)).2 r (some dn) (left - ownT o dn)
theorem wq_nn {ks : List Kd} (g : ∀ k ∈ ks,Good k) (q : Nat × Bool) : 0 ≤ wq ks q := by
  unfold wq
  cases e : ks[q.1]? with
  | none => exact Int.le_refl _
  | some k => exact (g k (List.mem_of_getElem? e)).wo
theorem tval_nn {ks : List Kd} (g : ∀ k ∈ ks,Good k) : ∀ t : Tr,0 ≤ tval ks t
  | .rest => Int.le_refl _
  | .piece .. => wq_nn g _
  | .cut _ _ l r => by
    have h1 := tval_nn g l
    have h2 := tval_nn g r
    show 0 ≤ tval ks l + tval ks r
    omega
theorem lfP_inv (ks : List Kd) (L : List (Nat × Bool)) : ∀ (l : List (Nat × Bool)),(∀ q ∈ l,q ∈ L) → ∀ m : Int × Tr,(m.1 = tval ks m.2 ∧ (m.2 = .rest ∨ ∃ q ∈ L,m.2 = .piece q.1 q.2 0 0)) → ((l.foldl (lfF ks) m).1 = tval ks (l.foldl (lfF ks) m).2 ∧ ((l.foldl (lfF ks) m).2 = .rest ∨ ∃ q ∈ L,(l.foldl (lfF ks) m).2 = .piece q.1 q.2 0 0))
  | [],_,_,h => h
  | q :: l,hl,m,h => by
    refine lfP_inv ks L l (fun x hx => hl x (List.mem_cons_of_mem _ hx)) (lfF ks m q) ?_
    unfold lfF
    split
    · exact ⟨rfl,.inr ⟨q,hl q List.mem_cons_self,rfl⟩⟩
    · exact h
theorem lfT_ok (b : Int) (ks : List Kd) (w h : Int) (o : Option Bool) (left : Nat) : okL b ks w h (lfT ks w h) o left ∧ tval ks (lfT ks w h) = lfW ks w h := by
  obtain ⟨h1,h2⟩ := lfP_inv ks _ ((lyK ks 0).filter (fitP ks w h)) (fun q hq => hq) (0,.rest) ⟨rfl,.inl rfl⟩
  have e : (lfP ks ((lyK ks 0).filter (fitP ks w h))).1 = lfW ks w h := lfP_fst ks _
  refine ⟨?_,h1.symm.trans e⟩
  rcases h2 with h2 | ⟨q,hq,h2⟩
  · rw [show lfT ks w h = .rest from h2]; exact True.intro
  · rw [show lfT ks w h = .piece q.1 q.2 0 0 from h2]
    obtain ⟨hm,hf⟩ := List.mem_filter.mp hq
    obtain ⟨_,k,hk,hc⟩ := lyK_mem hm
    rw [Nat.sub_zero] at hk
    refine ⟨rfl,rfl,k,hk,hc,?_⟩
    unfold fitP at hf
    simp only [hk] at hf
    exact hf
theorem tT_ok {b : Int} {ks : List Kd} (b0 : 0 ≤ b) : ∀ (n : Nat) (p : Int × Int) (wa : Bool) (l : Nat) (o : Option Bool) (left : Nat),msr p < n → 1 ≤ p.1 → 1 ≤ p.2 → (o = none ∨ o = some wa) → l ≤ left → okL b ks p.1 p.2 (tT b ks n p wa l) o left ∧ tval ks (tT b ks n p wa l) = tW b ks p wa l
  | 0,_,_,_,_,_,h,_,_,_,_ => absurd h (Nat.not_lt_zero _)
  | n + 1,p,wa,l,o,left,hn,p1,p2,ho,hl => by
    have e := tW_eq (ks := ks) b0 p wa l p1 p2
    unfold tT
    split
    · rename_i hc
      obtain ⟨h1,h2⟩ := lfT_ok b ks p.1 p.2 o left
      exact ⟨h1,by rw [h2,e]; exact (stCg_none hc).symm⟩
    · rename_i x hc
      obtain ⟨hm,hv⟩ := stCg_mem hc
      obtain ⟨⟨dn,q⟩,l'⟩ := x
      obtain ⟨h1,h2,h3,h4⟩ := cbt_mem hm
      obtain ⟨⟨a1,a2,_,_,_,a3⟩,⟨c1,c2,_,_,_,c3⟩⟩ := cut_less b0 p1 p2 h1
      have em : msr (p.1,p.2) = msr p := rfl
      have own : ownT o dn ≤ left ∧ l' ≤ left - ownT o dn := by
        rcases ho with rfl | rfl
        · exact ⟨Nat.zero_le _,by show l' ≤ left - 0; have : l' ≤ l := h2; omega⟩
        · by_cases hw : dn = wa
          · have e0 : ownT (some wa) dn = 0 := by
              unfold ownT
              rw [if_neg (fun z => by have := Option.some.inj z; rw [hw] at this; cases wa <;> cases this)]
            rw [e0]
            have : l' ≤ l := h2
            exact ⟨Nat.zero_le _,by omega⟩
          · have e0 : ownT (some wa) dn = 1 := by
              unfold ownT
              rw [if_pos (by cases wa <;> cases dn <;> simp_all)]
            rw [e0]
            have : l' + 1 = l := h4 hw
            exact ⟨by omega,by omega⟩
      obtain ⟨f1,f2⟩ := tT_ok b0 n (fstP p.1 p.2 (dn,q)) dn l' (some dn) (left - ownT o dn) (by have : msr (fstP p.1 p.2 (dn,q)) < msr (p.1,p.2) := a3; omega) a1 a2 (.inr rfl) own.2
      obtain ⟨g1,g2⟩ := tT_ok b0 n (sndP b p.1 p.2 (dn,q)) dn l' (some dn) (left - ownT o dn) (by have : msr (sndP b p.1 p.2 (dn,q)) < msr (p.1,p.2) := c3; omega) c1 c2 (.inr rfl) own.2
      refine ⟨⟨h1,own.1,f1,g1⟩,?_⟩
      show tval ks (tT b ks n (fstP p.1 p.2 (dn,q)) dn l') + tval ks (tT b ks n (sndP b p.1 p.2 (dn,q)) dn l') = _
      rw [f2,g2,e]
      exact hv.symm
theorem tR_ok {b : Int} {ks : List Kd} (b0 : 0 ≤ b) (p : Int × Int) (k : Nat) (h33 : msr p < 33) (p1 : 1 ≤ p.1) (p2 : 1 ≤ p.2) : okL b ks p.1 p.2 (tR b ks p k) none k ∧ tval ks (tR b ks p k) = tB b ks p k := by
  unfold tR tB
  by_cases c : tW b ks p true k < tW b ks p false k
  · rw [if_pos c]
    obtain ⟨h1,h2⟩ := tT_ok (ks := ks) b0 33 p false k none k h33 p1 p2 (.inl rfl) (Nat.le_refl _)
    exact ⟨h1,by omega⟩
  · rw [if_neg c]
    obtain ⟨h1,h2⟩ := tT_ok (ks := ks) b0 33 p true k none k h33 p1 p2 (.inl rfl) (Nat.le_refl _)
    exact ⟨h1,by omega⟩
theorem tR_dpt (b : Int) (ks : List Kd) (p : Int × Int) (k : Nat) : dpt (tR b ks p k) ≤ 33 := by
  unfold tR
  split <;> exact tT_dpt _ _ _ _ _ _
theorem tW_bW {b : Int} {ks : List Kd} (b0 : 0 ≤ b) : ∀ (n : Nat) (p : Int × Int) (wa : Bool) (l : Nat),msr p < n → 1 ≤ p.1 → 1 ≤ p.2 → tW b ks p wa l ≤ bW b ks p
  | 0,_,_,_,h,_,_ => absurd h (Nat.not_lt_zero _)
  | n + 1,p,wa,l,hn,p1,p2 => by
    refine tW_le b0 p1 p2 (bW_leaf b0 p1 p2) fun y hy => ?_
    obtain ⟨h1,_⟩ := cbt_mem hy
    obtain ⟨⟨a1,a2,_,_,_,a3⟩,⟨c1,c2,_,_,_,c3⟩⟩ := cut_less b0 p1 p2 h1
    have em : msr (p.1,p.2) = msr p := rfl
    have i1 := tW_bW b0 n (ks := ks) (fstP p.1 p.2 y.1) y.1.1 y.2 (by omega) a1 a2
    have i2 := tW_bW b0 n (ks := ks) (sndP b p.1 p.2 y.1) y.1.1 y.2 (by omega) c1 c2
    have s := bW_cut (ks := ks) b0 p1 p2 h1
    unfold tcW
    omega
theorem tB_le_bW {b : Int} {ks : List Kd} (b0 : 0 ≤ b) {p : Int × Int} (k : Nat) (p1 : 1 ≤ p.1) (p2 : 1 ≤ p.2) : tB b ks p k ≤ bW b ks p := by
  have h1 := tW_bW (ks := ks) b0 _ p true k (Nat.lt_succ_self _) p1 p2
  have h2 := tW_bW (ks := ks) b0 _ p false k (Nat.lt_succ_self _) p1 p2
  unfold tB
  omega
theorem cut_sum {b w h : Int} {x : Bool × Int} (b0 : 0 ≤ b) (m : x ∈ cutsL b w h) : (fstP w h x).1 + (fstP w h x).2 + 1 ≤ w + h ∧ (sndP b w h x).1 + (sndP b w h x).2 + 1 ≤ w + h := by
  obtain ⟨g1,g2⟩ := cutsL_mem m
  obtain ⟨dn,q⟩ := x
  cases dn
  · have g2 : q + b < h := g2
    have g1 : 1 ≤ q := g1
    show w + q + 1 ≤ w + h ∧ w + (h - q - b) + 1 ≤ w + h
    omega
  · have g2 : q + b < w := g2
    have g1 : 1 ≤ q := g1
    show q + h + 1 ≤ w + h ∧ w - q - b + h + 1 ≤ w + h
    omega
theorem bW_tW {b : Int} {ks : List Kd} (b0 : 0 ≤ b) : ∀ (n : Nat) (p : Int × Int) (wa : Bool) (l : Nat),msr p < n → 1 ≤ p.1 → 1 ≤ p.2 → p.1 + p.2 ≤ l + 2 → bW b ks p ≤ tW b ks p wa l
  | 0,_,_,_,h,_,_,_ => absurd h (Nat.not_lt_zero _)
  | n + 1,p,wa,l,hn,p1,p2,hs => by
    obtain ⟨t0,t1⟩ := tW_ge (ks := ks) b0 (p := p) (wa := wa) (l := l) p1 p2
    rw [bW_eq b0 p p1 p2]
    rcases mxL_one (f := fun c => bW b ks (fstP p.1 p.2 c) + bW b ks (sndP b p.1 p.2 c)) (l := cutsL b p.1 p.2) (x := lfW ks p.1 p.2) with e | ⟨c,hc,e⟩
    · rw [e]; exact t0
    · rw [e]
      obtain ⟨⟨a1,a2,_,_,_,a3⟩,⟨c1,c2,_,_,_,c3⟩⟩ := cut_less b0 p1 p2 hc
      obtain ⟨s1,s2⟩ := cut_sum b0 hc
      have em : msr (p.1,p.2) = msr p := rfl
      obtain ⟨l',hl',hm⟩ : ∃ l' : Nat,(l : Int) ≤ l' + 1 ∧ (c,l') ∈ cbt (cutsL b p.1 p.2) wa l := by
        by_cases hw : c.1 = wa
        · exact ⟨l,by omega,mem_cbt hc (.inl ⟨hw,rfl⟩)⟩
        · exact ⟨l - 1,by omega,mem_cbt hc (.inr ⟨hw,by omega⟩)⟩
      have i1 := bW_tW b0 n (ks := ks) (fstP p.1 p.2 c) c.1 l' (by omega) a1 a2 (by omega)
      have i2 := bW_tW b0 n (ks := ks) (sndP b p.1 p.2 c) c.1 l' (by omega) c1 c2 (by omega)
      have := t1 _ hm
      unfold tcW at this
      have : tW b ks (fstP p.1 p.2 c) c.1 l' + tW b ks (sndP b p.1 p.2 c) c.1 l' ≤ tW b ks p wa l := this
      show bW b ks (fstP p.1 p.2 c) + bW b ks (sndP b p.1 p.2 c) ≤ _
      omega
theorem tB_bW {b : Int} {ks : List Kd} (b0 : 0 ≤ b) {p : Int × Int} {k : Nat} (p1 : 1 ≤ p.1) (p2 : 1 ≤ p.2) (hs : p.1 + p.2 ≤ k + 3) : tB b ks p k = bW b ks p := by
  refine Int.le_antisymm (tB_le_bW b0 k p1 p2) ?_
  rw [bW_eq b0 p p1 p2]
  rcases mxL_one (f := fun c => bW b ks (fstP p.1 p.2 c) + bW b ks (sndP b p.1 p.2 c)) (l := cutsL b p.1 p.2) (x := lfW ks p.1 p.2) with e | ⟨c,hc,e⟩
  · rw [e]
    exact tBd_leaf b0 p1 p2 none k
  · rw [e]
    obtain ⟨⟨a1,a2,_,_,_,a3⟩,⟨c1,c2,_,_,_,c3⟩⟩ := cut_less b0 p1 p2 hc
    obtain ⟨s1,s2⟩ := cut_sum b0 hc
    have i1 := bW_tW b0 _ (ks := ks) (fstP p.1 p.2 c) c.1 k (Nat.lt_succ_self _) a1 a2 (by omega)
    have i2 := bW_tW b0 _ (ks := ks) (sndP b p.1 p.2 c) c.1 k (Nat.lt_succ_self _) c1 c2 (by omega)
    have := tBd_cut (ks := ks) b0 p1 p2 none (dn := c.1) (q := c.2) hc (t1 := k) (t2 := k) i1 i2
    rw [show ownT none c.1 = 0 from rfl,Nat.zero_add,Nat.max_self] at this
    exact this
theorem kit_ii {K : PySem.W.Frag} : PySem.W.kitOne K (.type "int") (.type "int") = some true := by kernel_rfl
theorem kit_ib {K : PySem.W.Frag} : PySem.W.kitOne K (.type "int") (.type "bool") = some false := by kernel_rfl
theorem kit_bb {K : PySem.W.Frag} : PySem.W.kitOne K (.type "bool") (.type "bool") = some true := by kernel_rfl
theorem kit_tt {K : PySem.W.Frag} : PySem.W.kitOne K (.type "tuple") (.type "tuple") = some true := by kernel_rfl
theorem kit_ss {K : PySem.W.Frag} : PySem.W.kitOne K (.type "str") (.type "str") = some true := by kernel_rfl
theorem toD_shaped' {t : Tr} (h : dpt t ≤ 60) : SeqAt.shaped (toD t) = true := by
  unfold SeqAt.shaped
  rw [toD_lay,decide_eq_true (by have := toD_depth t; omega)]; rfl
theorem eq_nil (t : Tr) : PyData.eqv (toD t) (.tuple []) = false := by cases t <;> rfl
theorem eq_rest : ∀ t : Tr,t ≠ .rest → PyData.eqv (toD t) (.tuple [.str "rest"]) = false
  | .rest,h => absurd rfl h
  | .piece ..,_ => by
    show (PyData.eqv (.str "piece") (.str "rest") && false) = false
    rw [Bool.and_false]
  | .cut dn p l r,_ => by
    show (PyData.eqv (.str (if dn = true then "down" else "across")) (.str "rest") && false) = false
    rw [Bool.and_false]
section
variable {P : Program} {w : World} {K : PySem.W.Frag} {mg : Str → Option Value} {base : Heap}
def spWholeL : Sp := fun vs H Q _ => ∃ i l : Int,vs = [.int i,.int l] ∧ Q (.bl (decide (l ≤ i))) H
def spPieceW : Sp := fun vs H Q _ => ∃ (kl pa : Addr) (rs : List V) (ks : List Kd) (w h : Int) (i : Nat) (c : Bool) (k : Kd),vs = [.ref kl,.int w,.int h,.ref pa] ∧ H kl = some (.lst rs) ∧ Tups H rs ks ∧ rs.length ≤ 8 ∧ H pa = some (.tup [.str "piece",.int (i : Int),.bl c,.int 0,.int 0]) ∧ ks[i]? = some k ∧ (c = false ∨ turnable k = true) ∧ fits k c w h = true ∧ Q (.int k.wo) H
def spWorthL (n : Nat) : Sp := fun vs H Q _ => ∃ (b : Int) (kl pa : Addr) (v : V) (rs : List V) (ks : List Kd) (w h : Int) (t : Tr) (o : Option Bool) (left : Nat),vs = [.int b,.ref kl,.ref pa,v,lastV o,.int (left : Int)] ∧ H kl = some (.lst rs) ∧ Tups H rs ks ∧ rs.length ≤ 8 ∧ (∀ k ∈ ks,Good k) ∧ H pa = some (.tup [.int w,.int h]) ∧ TrV H t v ∧ okL b ks w h t o left ∧ dpt t ≤ 60 ∧ dpt t < n ∧ 0 ≤ b ∧ 1 ≤ w ∧ 1 ≤ h ∧ ∀ H',Same H H' → Q (.int (tval ks t)) H'
theorem scwholel : FnScope ["_law_number","_law_least"] ["_law_number","_law_least"] (defScope sLWhole) := ⟨rfl,rfl,rfl,by decide +kernel,rfl,by decide +kernel,by decide +kernel⟩
theorem ok_wholel {f : Addr} {fd : FuncData} (F : Fun K "_law_whole" "_law_whole" sLWhole f fd) (B : Blt mg) : FnOk P w K mg base CX0 1 f fd ["_law_number","_law_least"] (spWholeL) := by
  refine F.ok scwholel (fun vs H Q E h => ?_) (fun cdv A outer s H vs Q E hr h => ?_)
  · obtain ⟨i,l,rfl,_⟩ := h
    rfl
  obtain ⟨i,l,rfl,q⟩ := h
  have nd := scwholel.nd
  refine ⟨_,(@pss_one _ _ _ (@ps_ret _ _ _ _ (pe_and (@pe_callB _ _ _ _ _ _ _ _ _ call_isinst rfl B.isi PyProof.Rows.boot_isinstance (@pa_cons _ _ _ _ _ (pv 0) (@pa_cons _ _ _ _ _ (pe_bltn (v := .ty "int") rfl B.int PyProof.Rows.boot_int rfl) pa_nil rfl) rfl) (by decide) (by decide) rfl rfl) (pe_and (pe_not (@pe_callB _ _ _ _ _ _ _ _ _ call_isinst rfl B.isi PyProof.Rows.boot_isinstance (@pa_cons _ _ _ _ _ (pv 0) (@pa_cons _ _ _ _ _ (pe_bltn (v := .ty "bool") rfl B.bool PyProof.Rows.boot_bool rfl) pa_nil rfl) rfl) (by decide) (by decide) rfl rfl)) (pe_one (@pe_cmpR _ _ _ _ _ _ _ _ op_ge (pv 0) (pv 1) (nomark _))))))),?_⟩
  refine ⟨_,rfl,_,_,_,_,_,rfl,.int i,rfl,kit_ii,_,rfl,iteT ?_⟩
  refine ⟨_,rfl,_,_,_,_,_,rfl,.int i,rfl,kit_ib,_,rfl,_,rfl,iteT ?_⟩
  exact ⟨_,rfl,_,rfl,_,_,rfl,rfl,q⟩
theorem scpiecew : FnScope ["_law_kinds_here","_law_wide","_law_high","_law_tree","_law_own_wide","_law_own_high","_law_worth_here","_law_wanted","_law_turns"] ["_law_kinds_here","_law_wide","_law_high","_law_tree"] (defScope sPieceWorth) := ⟨rfl,rfl,rfl,by decide +kernel,rfl,by decide +kernel,by decide +kernel⟩
theorem ok_piecew {f : Addr} {fd : FuncData} (F : Fun K "_law_piece_worth" "_law_piece_worth" sPieceWorth f fd) (B : Blt mg) (DW : Dn P w K mg base "_law_whole" ["_law_number","_law_least"] 1 (spWholeL)) : FnOk P w K mg base CX0 2 f fd ["_law_kinds_here","_law_wide","_law_high","_law_tree"] (spPieceW) := by
  refine F.ok scpiecew (fun vs H Q E h => ?_) (fun cdv A outer s H vs Q E hr h => ?_)
  · obtain ⟨kl,pa,rs,ks,w1,h1,i,c,k,rfl,_⟩ := h
    rfl
  obtain ⟨kl,pa,rs,ks,w1,h1,i,c,k,rfl,hk0,tp,r8,hpa,hi,hc,hf,q⟩ := h
  have nd := scpiecew.nd
  refine ⟨_,(@pss_cons _ _ _ _ _ (@ps_if _ _ _ _ _ _ _ _ (PW.pt (pw_or (@pt_cmpR _ _ _ _ _ _ _ _ op_ne (@pe_callB _ _ _ _ _ _ _ _ _ call_len_seq rfl B.len PySem.boot_len (@pa_cons _ _ _ _ _ (pv 3) pa_nil rfl) (by decide) (by decide) rfl rfl) pe_int (nomark _)) (pw_or (@pt_not _ _ _ _ (@pt_val _ _ _ (@pe_cD _ _ _ _ _ _ _ _ _ _ DW hr rfl (@pa_cons _ _ _ _ _ (@pe_ix _ _ _ _ _ _ _ ix_tup (pv 3) pe_int (fun _ _ => rfl)) (@pa_cons _ _ _ _ _ pe_int pa_nil rfl) rfl) (by decide) rfl rfl) (by intro _; rfl))) (pw_or (@pt_cmpR _ _ _ _ _ _ _ _ op_ge (@pe_ix _ _ _ _ _ _ _ ix_tup (pv 3) pe_int (fun _ _ => rfl)) (@pe_callB _ _ _ _ _ _ _ _ _ call_len_seq rfl B.len PySem.boot_len (@pa_cons _ _ _ _ _ (pv 0) pa_nil rfl) (by decide) (by decide) rfl rfl) (nomark _)) (pw_or1 (@pt_not _ _ _ _ (@pt_val _ _ _ (@pe_callB _ _ _ _ _ _ _ _ _ call_isinst rfl B.isi PyProof.Rows.boot_isinstance (@pa_cons _ _ _ _ _ (@pe_ix _ _ _ _ _ _ _ ix_tup (pv 3) pe_int (fun _ _ => rfl)) (@pa_cons _ _ _ _ _ (pe_bltn (v := .ty "bool") rfl B.bool PyProof.Rows.boot_bool rfl) pa_nil rfl) rfl) (by decide) (by decide) rfl rfl) (by intro _; rfl)))))))) (@pss_one _ _ _ (@ps_ret _ _ _ _ (@pe_un _ _ _ _ _ _ un_neg pe_int))) pss_nil) (@pss_cons _ _ _ _ _ (@ps_asg _ _ _ _ _ _ (@pe_ix _ _ _ _ _ _ _ ix_list (pv 0) (@pe_ix _ _ _ _ _ _ _ ix_tup (pv 3) pe_int (fun _ _ => rfl)) (fun _ _ => rfl)) (pg_tup rfl (pgs_cons (pg_name (i := 4) nd rfl (Or.inl rfl)) (pgs_cons (pg_name (i := 5) nd rfl (Or.inl rfl)) (pgs_cons (pg_name (i := 6) nd rfl (Or.inl rfl)) (pgs_cons (pg_name (i := 7) nd rfl (Or.inl rfl)) (pgs_cons (pg_name (i := 8) nd rfl (Or.inl rfl)) pgs_nil)))))) rfl rfl rfl) (@pss_cons _ _ _ _ _ (@ps_if _ _ _ _ _ _ _ _ (@pt_val _ _ _ (@pe_ix _ _ _ _ _ _ _ ix_tup (pv 3) pe_int (fun _ _ => rfl)) (by intro _; rfl)) (@pss_one _ _ _ (ps_par rfl nd rfl rfl (i := 4) (j := 5) (by decide) rfl rfl (@pa_cons _ _ _ _ _ (pv 5) (@pa_cons _ _ _ _ _ (pv 4) pa_nil rfl) rfl) rfl)) pss_nil) (@pss_cons _ _ _ _ _ (@ps_if _ _ _ _ _ _ _ _ (PW.pt (pw_or (PW.pt (pw_and (@pt_val _ _ _ (@pe_ix _ _ _ _ _ _ _ ix_tup (pv 3) pe_int (fun _ _ => rfl)) (by intro _; rfl)) (pw_and1 (PW.pt (pw_or (@pt_not _ _ _ _ (@pt_val _ _ _ (pv 8) (by intro _; rfl))) (pw_or1 (@pt_cmpR _ _ _ _ _ _ _ _ op_eq (pv 4) (pv 5) (nomark _)))))))) (pw_or (@pt_not _ _ _ _ (@pt_val _ _ _ (@pe_cD _ _ _ _ _ _ _ _ _ _ DW hr rfl (@pa_cons _ _ _ _ _ (@pe_ix _ _ _ _ _ _ _ ix_tup (pv 3) pe_int (fun _ _ => rfl)) (@pa_cons _ _ _ _ _ pe_int pa_nil rfl) rfl) (by decide) rfl rfl) (by intro _; rfl))) (pw_or1 (@pt_not _ _ _ _ (@pt_val _ _ _ (@pe_cD _ _ _ _ _ _ _ _ _ _ DW hr rfl (@pa_cons _ _ _ _ _ (@pe_ix _ _ _ _ _ _ _ ix_tup (pv 3) pe_int (fun _ _ => rfl)) (@pa_cons _ _ _ _ _ pe_int pa_nil rfl) rfl) (by decide) rfl rfl) (by intro _; rfl))))))) (@pss_one _ _ _ (@ps_ret _ _ _ _ (@pe_un _ _ _ _ _ _ un_neg pe_int))) pss_nil) (@pss_cons _ _ _ _ _ (@ps_if _ _ _ _ _ _ _ _ (PW.pt (pw_or (@pt_cmpR _ _ _ _ _ _ _ _ op_gt (@pe_op _ _ _ _ _ _ _ _ op_add (@pe_ix _ _ _ _ _ _ _ ix_tup (pv 3) pe_int (fun _ _ => rfl)) (pv 4)) (pv 1) (nomark _)) (pw_or1 (@pt_cmpR _ _ _ _ _ _ _ _ op_gt (@pe_op _ _ _ _ _ _ _ _ op_add (@pe_ix _ _ _ _ _ _ _ ix_tup (pv 3) pe_int (fun _ _ => rfl)) (pv 5)) (pv 2) (nomark _))))) (@pss_one _ _ _ (@ps_ret _ _ _ _ (@pe_un _ _ _ _ _ _ un_neg pe_int))) pss_nil) (@pss_one _ _ _ (@ps_ret _ _ _ _ (pv 6)))))))),?_⟩
  have il : i < ks.length := (List.getElem?_eq_some_iff.mp hi).1
  have rl := Paired.length tp
  have lk : (rs.length : Int) = ks.length := by rw [rl]
  obtain ⟨vv,hvv,ak,rfl,hak⟩ := Paired.getL tp hi
  have hak : H ak = some (.tup [.int k.w,.int k.h,.int k.wo,.int k.wa,.bl k.tu]) := hak
  have hat : atI rs (i : Int) = some (.ref ak) := atI_int (by omega) (by rw [Int.toNat_natCast]; exact hvv)
  refine seqCut (fun σ' H' => σ' = [some (.ref kl),some (.int w1),some (.int h1),some (.ref pa),none,none,none,none,none] ∧ H = H') (fun R hR => ?_) ?_
  · refine ⟨_,rfl,pa,_,rfl,.inr (SqT.of hpa),rfl,_,rfl,iteF ?_⟩
    refine ⟨_,rfl,pa,_,1,_,rfl,rfl,SqT.of hpa,rfl,i,0,rfl,_,rfl,?_⟩
    rw [show decide ((0 : Int) ≤ (i : Int)) = true from decide_eq_true (by omega)]
    refine iteF ⟨_,rfl,pa,_,1,_,rfl,rfl,SqT.of hpa,rfl,_,rfl,kl,_,rfl,.inl (SqL.of hk0),_,_,rfl,rfl,_,rfl,?_⟩
    rw [show decide ((rs.length : Int) ≤ (i : Int)) = false from decide_eq_false (by omega)]
    exact iteF ⟨_,rfl,pa,_,2,_,rfl,rfl,SqT.of hpa,rfl,_,_,_,_,_,rfl,.bl c,rfl,kit_bb,_,rfl,iteF (hR _ _ ⟨rfl,rfl⟩)⟩
  rintro _ _ ⟨rfl,rfl⟩
  refine seqCut (fun σ' H' => σ' = [some (.ref kl),some (.int w1),some (.int h1),some (.ref pa),some (.int k.w),some (.int k.h),some (.int k.wo),some (.int k.wa),some (.bl k.tu)] ∧ H = H') (fun R hR => ?_) ?_
  · exact ⟨_,rfl,_,rfl,pa,_,1,_,rfl,rfl,SqT.of hpa,rfl,kl,_,_,_,rfl,rfl,SqL.of hk0,hat,ak,_,rfl,SqT.of hak,rfl,_,_,rfl,_,_,rfl,_,_,rfl,_,_,rfl,_,_,rfl,rfl,hR _ _ ⟨rfl,rfl⟩⟩
  rintro _ _ ⟨rfl,rfl⟩
  refine seqCut (fun σ' H' => σ' = [some (.ref kl),some (.int w1),some (.int h1),some (.ref pa),some (.int (sd1 k c)),some (.int (sd2 k c)),some (.int k.wo),some (.int k.wa),some (.bl k.tu)] ∧ H = H') (fun R hR => ?_) ?_
  · refine ⟨_,rfl,pa,_,2,_,rfl,rfl,SqT.of hpa,rfl,_,rfl,?_⟩
    cases c with
    | true => exact iteT ⟨_,rfl,_,rfl,_,_,rfl,hR _ _ ⟨rfl,rfl⟩⟩
    | false => exact iteF (hR _ _ ⟨rfl,rfl⟩)
  rintro _ _ ⟨rfl,rfl⟩
  refine seqCut (fun σ' H' => σ' = [some (.ref kl),some (.int w1),some (.int h1),some (.ref pa),some (.int (sd1 k c)),some (.int (sd2 k c)),some (.int k.wo),some (.int k.wa),some (.bl k.tu)] ∧ H = H') (fun R hR => ?_) ?_
  · have z01 : decide ((0 : Int) ≤ 0) = true := rfl
    have tail : ∀ {A B : Prop},B → B := fun h => h
    refine ⟨_,rfl,pa,_,2,_,rfl,rfl,SqT.of hpa,rfl,_,rfl,?_⟩
    cases c with
    | false =>
      refine iteF (iteF ?_)
      refine ⟨_,rfl,pa,_,3,_,rfl,rfl,SqT.of hpa,rfl,0,0,rfl,_,rfl,iteF ?_⟩
      exact ⟨_,rfl,pa,_,4,_,rfl,rfl,SqT.of hpa,rfl,0,0,rfl,_,rfl,iteF (hR _ _ ⟨rfl,rfl⟩)⟩
    | true =>
      have ht : turnable k = true := hc.resolve_left (fun z => by cases z)
      unfold turnable at ht
      obtain ⟨ht1,ht2⟩ := Bool.and_eq_true_iff.mp ht
      refine iteT ⟨_,rfl,_,rfl,?_⟩
      rw [ht1]
      refine iteF ⟨_,rfl,_,rfl,rfl,_,rfl,?_⟩
      rw [show decide (V.int (sd1 k true) = V.int (sd2 k true)) = false from decide_eq_false (fun z => by
        have z : k.h = k.w := V.int.inj z
        rw [z] at ht2
        simp at ht2)]
      refine iteF ?_
      refine ⟨_,rfl,pa,_,3,_,rfl,rfl,SqT.of hpa,rfl,0,0,rfl,_,rfl,iteF ?_⟩
      exact ⟨_,rfl,pa,_,4,_,rfl,rfl,SqT.of hpa,rfl,0,0,rfl,_,rfl,iteF (hR _ _ ⟨by rw [ht1],rfl⟩)⟩
  rintro _ _ ⟨rfl,rfl⟩
  obtain ⟨f1,f2⟩ := Bool.and_eq_true_iff.mp hf
  have f1 := of_decide_eq_true f1
  have f2 := of_decide_eq_true f2
  refine seqCut (fun σ' H' => σ' = [some (.ref kl),some (.int w1),some (.int h1),some (.ref pa),some (.int (sd1 k c)),some (.int (sd2 k c)),some (.int k.wo),some (.int k.wa),some (.bl k.tu)] ∧ H = H') (fun R hR => ?_) ?_
  · refine ⟨_,rfl,pa,_,3,_,rfl,rfl,SqT.of hpa,rfl,_,rfl,_,_,rfl,rfl,_,rfl,_,_,rfl,rfl,_,rfl,?_⟩
    rw [show decide (w1 < 0 + sd1 k c) = false from decide_eq_false (by omega)]
    refine iteF ⟨_,rfl,pa,_,4,_,rfl,rfl,SqT.of hpa,rfl,_,rfl,_,_,rfl,rfl,_,rfl,_,_,rfl,rfl,_,rfl,?_⟩
    rw [show decide (h1 < 0 + sd2 k c) = false from decide_eq_false (by omega)]
    exact iteF (hR _ _ ⟨rfl,rfl⟩)
  rintro _ _ ⟨rfl,rfl⟩
  exact ⟨_,rfl,q⟩
theorem scworthl : FnScope ["_law_blade","_law_kinds_here","_law_part","_law_tree","_law_last","_law_left","_law_wide","_law_high","_law_behind","_law_some","_law_found"] ["_law_blade","_law_kinds_here","_law_part","_law_tree","_law_last","_law_left"] (defScope sWorth) := ⟨rfl,rfl,rfl,by decide +kernel,rfl,by decide +kernel,by decide +kernel⟩
theorem ok_worthl {f : Addr} {fd : FuncData} (F : Fun K "_law_worth" "_law_worth" sWorth f fd) (n : Nat) (B : Blt mg) (hst : mg "str" = none) (DW : Dn P w K mg base "_law_whole" ["_law_number","_law_least"] 1 (spWholeL)) (DPW : Dn P w K mg base "_law_piece_worth" ["_law_kinds_here","_law_wide","_law_high","_law_tree"] 2 (spPieceW)) (DT : Dn P w K mg base "_law_worth" ["_law_blade","_law_kinds_here","_law_part","_law_tree","_law_last","_law_left"] (3 + n) (spWorthL n)) : FnOk P w K mg base CX0 (3 + (n + 1)) f fd ["_law_blade","_law_kinds_here","_law_part","_law_tree","_law_last","_law_left"] (spWorthL (n + 1)) := by
  refine F.ok scworthl (fun vs H Q E h => ?_) (fun cdv A outer s H vs Q E hr h => ?_)
  · obtain ⟨b,kl,pa,v,rs,ks,w1,h1,t,o,left,rfl,_⟩ := h
    rfl
  obtain ⟨b,kl,pa,v,rs,ks,w1,h1,t,o,left,rfl,hk0,tp,r8,gk,hpa,hv,okl,hd60,hn,b0,w0,h0,q⟩ := h
  have nd := scworthl.nd
  have hu := hr.units
  refine ⟨_,(@pss_cons _ _ _ _ _ (@ps_asg _ _ _ _ _ _ (pv 2) (pg_tup rfl (pgs_cons (pg_name (i := 6) nd rfl (Or.inl rfl)) (pgs_cons (pg_name (i := 7) nd rfl (Or.inl rfl)) pgs_nil))) rfl rfl rfl) (@pss_cons _ _ _ _ _ (@ps_if _ _ _ _ _ _ _ _ (PW.pt (pw_or (@pt_not _ _ _ _ (@pt_val _ _ _ (@pe_callB _ _ _ _ _ _ _ _ _ call_isinst rfl B.isi PyProof.Rows.boot_isinstance (@pa_cons _ _ _ _ _ (pv 3) (@pa_cons _ _ _ _ _ (pe_bltn (v := .ty "tuple") rfl B.tuple PyProof.Rows.boot_tuple rfl) pa_nil rfl) rfl) (by decide) (by decide) rfl rfl) (by intro _; rfl))) (pw_or (@pt_cmpR _ _ _ _ _ _ _ _ (op_eqD hu) (pv 3) (@pe_tup _ _ _ _ _ pa_nil) (nomark _)) (pw_or1 (@pt_not _ _ _ _ (@pt_val _ _ _ (@pe_callB _ _ _ _ _ _ _ _ _ call_isinst rfl B.isi PyProof.Rows.boot_isinstance (@pa_cons _ _ _ _ _ (@pe_ix _ _ _ _ _ _ _ ix_tup (pv 3) pe_int (fun _ _ => rfl)) (@pa_cons _ _ _ _ _ (pe_bltn (v := .ty "str") rfl hst PyProof.Rows.boot_str rfl) pa_nil rfl) rfl) (by decide) (by decide) rfl rfl) (by intro _; rfl))))))) (@pss_one _ _ _ (@ps_ret _ _ _ _ (@pe_un _ _ _ _ _ _ un_neg pe_int))) pss_nil) (@pss_cons _ _ _ _ _ (@ps_if _ _ _ _ _ _ _ _ (@pt_cmpR _ _ _ _ _ _ _ _ (op_eqD hu) (pv 3) (@pe_tup _ _ _ _ _ (@pa_cons _ _ _ _ _ pe_str pa_nil rfl)) (nomark _)) (@pss_one _ _ _ (@ps_ret _ _ _ _ pe_int)) pss_nil) (@pss_cons _ _ _ _ _ (@ps_if _ _ _ _ _ _ _ _ (@pt_cmpR _ _ _ _ _ _ _ _ op_eq (@pe_ix _ _ _ _ _ _ _ ix_tup (pv 3) pe_int (fun _ _ => rfl)) pe_str (nomark _)) (@pss_one _ _ _ (@ps_ret _ _ _ _ (@pe_cD _ _ _ _ _ _ _ _ _ _ DPW (hr.mono (show 2 ≤ 3 + n by omega)) rfl (@pa_cons _ _ _ _ _ (pv 1) (@pa_cons _ _ _ _ _ (pv 6) (@pa_cons _ _ _ _ _ (pv 7) (@pa_cons _ _ _ _ _ (pv 3) pa_nil rfl) rfl) rfl) rfl) (by decide) rfl rfl))) pss_nil) (@pss_cons _ _ _ _ _ (@ps_if _ _ _ _ _ _ _ _ (PW.pt (pw_or (@pt_cmpR _ _ _ _ _ _ _ _ op_notIn_seq (@pe_ix _ _ _ _ _ _ _ ix_tup (pv 3) pe_int (fun _ _ => rfl)) (@pe_lst _ _ _ _ (@pa_cons _ _ _ _ _ pe_str (@pa_cons _ _ _ _ _ pe_str pa_nil rfl) rfl)) rfl) (pw_or (@pt_cmpR _ _ _ _ _ _ _ _ op_ne (@pe_callB _ _ _ _ _ _ _ _ _ call_len_seq rfl B.len PySem.boot_len (@pa_cons _ _ _ _ _ (pv 3) pa_nil rfl) (by decide) (by decide) rfl rfl) pe_int (nomark _)) (pw_or1 (@pt_not _ _ _ _ (@pt_val _ _ _ (@pe_cD _ _ _ _ _ _ _ _ _ _ DW (hr.mono (show 1 ≤ 3 + n by omega)) rfl (@pa_cons _ _ _ _ _ (@pe_ix _ _ _ _ _ _ _ ix_tup (pv 3) pe_int (fun _ _ => rfl)) (@pa_cons _ _ _ _ _ pe_int pa_nil rfl) rfl) (by decide) rfl rfl) (by intro _; rfl))))))) (@pss_one _ _ _ (@ps_ret _ _ _ _ (@pe_un _ _ _ _ _ _ un_neg pe_int))) pss_nil) (@pss_cons _ _ _ _ _ (@ps_if _ _ _ _ _ _ _ _ (PW.pt (pw_and (@pt_cmpR _ _ _ _ _ _ _ _ op_notN (pv 4) pe_non (nomark _)) (pw_and1 (@pt_cmpR _ _ _ _ _ _ _ _ op_ne (pv 4) (@pe_ix _ _ _ _ _ _ _ ix_tup (pv 3) pe_int (fun _ _ => rfl)) (nomark _))))) (@pss_one _ _ _ (@ps_set _ _ 5 _ _ _ _ nd rfl (Or.inr rfl) (@pe_op _ _ _ _ _ _ _ _ op_sub (pv 5) pe_int) rfl (Or.inl rfl))) pss_nil) (@pss_cons _ _ _ _ _ (@ps_set _ _ 8 _ _ _ _ nd rfl (Or.inl rfl) (@pe_op _ _ _ _ _ _ _ _ op_add (@pe_ix _ _ _ _ _ _ _ ix_tup (pv 3) pe_int (fun _ _ => rfl)) (pv 0)) rfl (Or.inl rfl)) (@pss_cons _ _ _ _ _ (@ps_if _ _ _ _ _ _ _ _ (PW.pt (pw_or (@pt_cmpR _ _ _ _ _ _ _ _ op_lt (pv 5) pe_int (nomark _)) (pw_or1 (@pt_cmpR _ _ _ _ _ _ _ _ op_ge (pv 8) (@pe_ix _ _ _ _ _ _ _ ix_list (@pe_lst _ _ _ _ (@pa_cons _ _ _ _ _ (pv 6) (@pa_cons _ _ _ _ _ (pv 7) pa_nil rfl) rfl)) (@pe_callTy _ _ _ _ _ _ _ _ _ call_int1 rfl B.int PyProof.Rows.boot_int (@pa_cons _ _ _ _ _ (@pe_cmpR _ _ _ _ _ _ _ _ op_eq (@pe_ix _ _ _ _ _ _ _ ix_tup (pv 3) pe_int (fun _ _ => rfl)) pe_str (nomark _)) pa_nil rfl) (by decide) (by decide) rfl rfl) (fun _ _ => rfl)) (nomark _))))) (@pss_one _ _ _ (@ps_ret _ _ _ _ (@pe_un _ _ _ _ _ _ un_neg pe_int))) pss_nil) (@pss_cons _ _ _ _ _ (@ps_set _ _ 9 _ _ _ _ nd rfl (Or.inr rfl) (@pe_lst _ _ _ _ (@pa_cons _ _ _ _ _ (@pe_tup _ _ _ _ _ (@pa_cons _ _ _ _ _ (@pe_ix _ _ _ _ _ _ _ ix_tup (pv 3) pe_int (fun _ _ => rfl)) (@pa_cons _ _ _ _ _ (pv 7) pa_nil rfl) rfl)) (@pa_cons _ _ _ _ _ (@pe_tup _ _ _ _ _ (@pa_cons _ _ _ _ _ (@pe_op _ _ _ _ _ _ _ _ op_sub (pv 6) (pv 8)) (@pa_cons _ _ _ _ _ (pv 7) pa_nil rfl) rfl)) pa_nil rfl) rfl)) rfl (Or.inl rfl)) (@pss_cons _ _ _ _ _ (@ps_if _ _ _ _ _ _ _ _ (@pt_cmpR _ _ _ _ _ _ _ _ op_eq (@pe_ix _ _ _ _ _ _ _ ix_tup (pv 3) pe_int (fun _ _ => rfl)) pe_str (nomark _)) (@pss_one _ _ _ (@ps_set _ _ 9 _ _ _ _ nd rfl (Or.inr rfl) (@pe_lst _ _ _ _ (@pa_cons _ _ _ _ _ (@pe_tup _ _ _ _ _ (@pa_cons _ _ _ _ _ (pv 6) (@pa_cons _ _ _ _ _ (@pe_ix _ _ _ _ _ _ _ ix_tup (pv 3) pe_int (fun _ _ => rfl)) pa_nil rfl) rfl)) (@pa_cons _ _ _ _ _ (@pe_tup _ _ _ _ _ (@pa_cons _ _ _ _ _ (pv 6) (@pa_cons _ _ _ _ _ (@pe_op _ _ _ _ _ _ _ _ op_sub (pv 7) (pv 8)) pa_nil rfl) rfl)) pa_nil rfl) rfl)) rfl (Or.inl rfl))) pss_nil) (@pss_cons _ _ _ _ _ (ps_comp (i := 10) (own := ["_law_k"]) (cs := ["_law_blade","_law_kinds_here","_law_tree","_law_left","_law_some"]) (cap := [0,1,3,5,9]) rfl nd rfl rfl rfl (pi_range1 rfl B.range (@pa_cons _ _ _ _ _ pe_int pa_nil rfl)) (compOk_of (sc := defScope sWorth) (N := ["_law_blade","_law_kinds_here","_law_part","_law_tree","_law_last","_law_left","_law_wide","_law_high","_law_behind","_law_some","_law_found"]) rfl rfl (by decide +kernel)) (fun _ _ _ _ _ => pg_name (i := 0) (by show List.Nodup (["_law_k","_law_blade","_law_kinds_here","_law_tree","_law_left","_law_some"] : List Str) ; decide +kernel) rfl (Or.inl rfl) (Or.inr rfl)) (fun _ _ _ _ _ => pifs_nil) (fun _ _ _ _ _ => (@pe_cD _ _ _ _ _ _ _ _ _ _ DT hr rfl (@pa_cons _ _ _ _ _ (pv 1) (@pa_cons _ _ _ _ _ (pv 2) (@pa_cons _ _ _ _ _ (pe_ix (r := rIxL K) ix_list (pv 5) (pv 0) (fun _ _ => rfl)) (@pa_cons _ _ _ _ _ (pe_ix (r := rIxT K) ix_tup (pv 3) (@pe_op _ _ _ _ _ _ _ _ op_add pe_int (pv 0)) (fun _ _ => rfl)) (@pa_cons _ _ _ _ _ (pe_ix (r := rIxT K) ix_tup (pv 3) pe_int (fun _ _ => rfl)) (@pa_cons _ _ _ _ _ (pv 4) pa_nil rfl) rfl) rfl) rfl) rfl) rfl) (by decide) rfl rfl))) (@pss_cons _ _ _ _ _ (@ps_if _ _ _ _ _ _ _ _ (@pt_cmpR _ _ _ _ _ _ _ _ op_lt (@pe_callB _ _ _ _ _ _ _ _ _ (call_minI rfl) rfl B.min PyProof.Rows.boot_min (@pa_cons _ _ _ _ _ (pv 10) pa_nil rfl) (by decide) (by decide) rfl rfl) pe_int (nomark _)) (@pss_one _ _ _ (@ps_ret _ _ _ _ (@pe_un _ _ _ _ _ _ un_neg pe_int))) pss_nil) (@pss_one _ _ _ (@ps_ret _ _ _ _ (@pe_op _ _ _ _ _ _ _ _ op_add (@pe_ix _ _ _ _ _ _ _ ix_list (pv 10) pe_int (fun _ _ => rfl)) (@pe_ix _ _ _ _ _ _ _ ix_list (pv 10) pe_int (fun _ _ => rfl))))))))))))))))),?_⟩
  have z4 : 4096 ≤ sizeLine := by decide
  refine seqCut (fun σ' H' => σ' = [some (.int b),some (.ref kl),some (.ref pa),some v,some (lastV o),some (.int (left : Int)),some (.int w1),some (.int h1),none,none,none] ∧ H = H') (fun R hR => ?_) ?_
  · exact ⟨_,rfl,pa,_,rfl,SqT.of hpa,rfl,_,_,rfl,_,_,rfl,rfl,hR _ _ ⟨rfl,rfl⟩⟩
  rintro _ _ ⟨rfl,rfl⟩
  obtain ⟨ta,y0,rr,rfl,hta⟩ : ∃ (ta : Addr) (y0 : Str) (rr : List V),v = .ref ta ∧ H ta = some (.tup (.str y0 :: rr)) := by
    cases t with
    | rest => obtain ⟨a,e,h⟩ := hv; exact ⟨a,_,_,e,h⟩
    | piece => obtain ⟨a,e,h⟩ := hv; exact ⟨a,_,_,e,h⟩
    | cut => obtain ⟨a,x,y,e,h,_⟩ := hv; exact ⟨a,_,_,e,h⟩
  have dat := TrV.dat (K := K) t hv
  have shp := toD_shaped' hd60
  refine seqCut (fun σ' H' => σ' = [some (.int b),some (.ref kl),some (.ref pa),some (.ref ta),some (lastV o),some (.int (left : Int)),some (.int w1),some (.int h1),none,none,none] ∧ Same H H') (fun R hR => ?_) ?_
  · refine ⟨_,rfl,_,_,_,_,_,rfl,.tup hta,rfl,kit_tt,_,rfl,iteF ?_⟩
    refine ⟨_,rfl,(by show 0 ≤ sizeLine; decide),fun e he => ?_⟩
    obtain ⟨H1,e1,k1,s1⟩ : ∃ H',upd H e (.tup []) = H' ∧ H' e = some (.tup []) ∧ Same H H' := ⟨_,rfl,upd_same,Same.new he⟩
    rw [show upd H e _ = H1 from e1]
    refine ⟨toD t,.tuple [],TrV.dat t (TrV.keep (fun a xs e => s1 _ _ e) t hv),.tup (SqT.of k1) .nil,shp,by decide +kernel,_,rfl,?_⟩
    rw [eq_nil]
    refine iteF ⟨_,rfl,ta,_,0,_,rfl,rfl,SqT.of (s1 _ _ hta),atI_int (Int.le_refl _) rfl,_,_,_,_,_,rfl,.str y0,rfl,kit_ss,_,rfl,iteF (hR _ _ ⟨rfl,s1⟩)⟩
  rintro _ H1 ⟨rfl,s1⟩
  have hv1 := TrV.keep (fun a xs e => s1 _ _ e) t hv
  have hta1 := s1 _ _ hta
  have hk1 := s1 _ _ hk0
  have tp1 : Tups H1 rs ks := Tups.keep (fun c xs e => s1 _ _ e) tp
  refine seqCut (fun σ' H' => σ' = [some (.int b),some (.ref kl),some (.ref pa),some (.ref ta),some (lastV o),some (.int (left : Int)),some (.int w1),some (.int h1),none,none,none] ∧ t ≠ .rest ∧ Same H H') (fun R hR => ?_) ?_
  · refine ⟨_,rfl,(by show 1 ≤ sizeLine; decide),fun e he => ?_⟩
    obtain ⟨H2, e2, k2, s2⟩ : ∃ H', upd H1 e (.tup [.str "rest"]) = H' ∧ H' e = some (.tup [.str "rest"]) ∧ Same H1 H' := ⟨_, rfl, upd_same, Same.new he⟩
    rw [show upd H1 e _ = H2 from e2]
    refine ⟨toD t,.tuple [.str "rest"],TrV.dat t (TrV.keep (fun a xs e => s2 _ _ e) t hv1),.tup (SqT.of k2) (.cons (.str _) .nil),shp,by decide +kernel,_,rfl,?_⟩
    by_cases hr : t = .rest
    · subst hr
      rw [show PyData.eqv (toD .rest) (.tuple [.str "rest"]) = true from PySem.SeqAt.eqv_refl _ (by decide +kernel)]
      exact iteT (q H2 (s1.trans s2))
    · rw [eq_rest t hr]
      exact iteF (hR _ _ ⟨rfl,hr,s1.trans s2⟩)
  clear hv1 hta1 hk1 tp1 s1
  clear H1
  rintro _ H1 ⟨rfl,hr,s1⟩
  have hv1 := TrV.keep (fun a xs e => s1 _ _ e) t hv
  have hta1 := s1 _ _ hta
  have hk1 := s1 _ _ hk0
  have tp1 : Tups H1 rs ks := Tups.keep (fun c xs e => s1 _ _ e) tp
  cases t with
  | rest => exact absurd rfl hr
  | piece i c x y =>
    obtain ⟨a,ea,hpp⟩ := hv1
    cases ea
    obtain ⟨rfl,rfl,k,hi,hc,hf⟩ := okl
    refine seqCut (fun σ' H' => False) (fun R hR => ?_) (fun _ _ z => z.elim)
    refine ⟨_,rfl,ta,_,0,_,rfl,rfl,SqT.of hpp,rfl,rfl,_,rfl,iteT ?_⟩
    refine ⟨_,rfl,_,rfl,_,rfl,_,rfl,kl,ta,rs,ks,w1,h1,i,c,k,rfl,hk1,tp1,r8,hpp,hi,hc,hf,?_⟩
    have e : tval ks (.piece i c 0 0) = k.wo := by show wq ks (i,c) = k.wo; unfold wq; simp only [hi]
    rw [← e]
    exact q H1 s1
  | cut dn qq l r =>
    obtain ⟨a,x,y,ea,hpp,hl,hr'⟩ := hv1
    cases ea
    obtain ⟨cm,own,okl1,okl2⟩ := okl
    obtain ⟨⟨g1,g2,g3,g4,_,_⟩,⟨g5,g6,g7,g8,_,_⟩⟩ := cut_less b0 w0 h0 cm
    obtain ⟨q1,q2⟩ := cutsL_mem cm
    have q1 : 1 ≤ qq := q1
    have dl : dpt l < n ∧ dpt r < n := by have : max (dpt l) (dpt r) + 1 < n + 1 := hn; omega
    have dl60 : dpt l ≤ 60 ∧ dpt r ≤ 60 := by have : max (dpt l) (dpt r) + 1 ≤ 60 := hd60; omega
    have nnl := tval_nn gk l
    have nnr := tval_nn gk r
    refine seqCut (fun σ' H' => σ' = [some (.int b),some (.ref kl),some (.ref pa),some (.ref ta),some (lastV o),some (.int (left : Int)),some (.int w1),some (.int h1),none,none,none] ∧ H1 = H') (fun R hR => ?_) ?_
    · refine ⟨_,rfl,ta,_,0,_,rfl,rfl,SqT.of hpp,rfl,rfl,_,rfl,?_⟩
      rw [show decide (wv dn = V.str "piece") = false by cases dn <;> decide +kernel]
      exact iteF (hR _ _ ⟨rfl,rfl⟩)
    rintro _ _ ⟨rfl,rfl⟩
    refine seqCut (fun σ' H' => σ' = [some (.int b),some (.ref kl),some (.ref pa),some (.ref ta),some (lastV o),some (.int (left : Int)),some (.int w1),some (.int h1),none,none,none] ∧ Same H H') (fun R hR => ?_) ?_
    · refine ⟨_,rfl,ta,_,0,_,rfl,rfl,SqT.of hpp,rfl,(by show 2 ≤ sizeLine; decide),fun e he => ?_⟩
      obtain ⟨H2, e2, k2, s2⟩ : ∃ H', upd H1 e (.lst [.str "down", .str "across"]) = H' ∧ H' e = some (.lst [.str "down", .str "across"]) ∧ Same H1 H' := ⟨_, rfl, upd_same, Same.new he⟩
      rw [show upd H1 e _ = H2 from e2]
      refine ⟨e,_,rfl,.inl (SqL.of k2),rfl,rfl,_,rfl,?_⟩
      rw [show (if true = true then !inV (wv dn) [V.str "down",V.str "across"] else inV (wv dn) [V.str "down",V.str "across"]) = false by rw [if_pos rfl,wv_inN]; rfl]
      have hp2 := s2 _ _ hpp
      refine iteF ⟨_,rfl,ta,_,rfl,.inr (SqT.of hp2),rfl,_,rfl,iteF ⟨_,rfl,ta,_,1,_,rfl,rfl,SqT.of hp2,rfl,qq,1,rfl,_,rfl,?_⟩⟩
      rw [show decide ((1 : Int) ≤ qq) = true from decide_eq_true q1]
      exact iteF (hR _ _ ⟨rfl,s1.trans s2⟩)
    clear hpp hl hr' hta1 hk1 tp1 s1
    clear H1
    rintro _ H1 ⟨rfl,s1⟩
    obtain ⟨a,x',y',ea,hpp,hl,hr'⟩ := TrV.keep (fun a xs e => s1 _ _ e) (.cut dn qq l r) hv
    cases ea
    refine seqCut (fun σ' H' => σ' = [some (.int b),some (.ref kl),some (.ref pa),some (.ref ta),some (lastV o),some (.int ((left - ownT o dn : Nat) : Int)),some (.int w1),some (.int h1),none,none,none] ∧ H1 = H') (fun R hR => ?_) ?_
    · refine ⟨_,rfl,rfl,_,rfl,?_⟩
      cases o with
      | none => exact iteF (iteF (hR _ _ ⟨rfl,rfl⟩))
      | some d =>
        refine iteT ⟨_,rfl,_,rfl,ta,_,0,_,rfl,rfl,SqT.of hpp,rfl,rfl,_,rfl,?_⟩
        by_cases e : d = dn
        · subst e
          have e0 : ownT (some d) d = 0 := by
            unfold ownT
            rw [if_neg (fun z => by have := Option.some.inj z; cases d <;> cases this)]
          refine (congrArg (fun z : Bool => if z = true then _ else _) (show (!decide (lastV (some d) = wv d)) = false by rw [show decide (lastV (some d) = wv d) = true from decide_eq_true rfl]; rfl)).mpr (iteF (hR _ _ ⟨?_,rfl⟩))
          rw [e0,Nat.sub_zero]
        · have e0 : ownT (some d) dn = 1 := by
            unfold ownT
            rw [if_pos (by cases d <;> cases dn <;> simp_all)]
          refine (congrArg (fun z : Bool => if z = true then _ else _) (show (!decide (lastV (some d) = wv dn)) = true by rw [show decide (lastV (some d) = wv dn) = false from decide_eq_false (fun z => e (wS_inj (V.str.inj z)))]; rfl)).mpr (iteT ⟨_,rfl,_,_,rfl,rfl,hR _ _ ⟨?_,rfl⟩⟩)
          rw [e0] at own ⊢
          rw [show ((left - 1 : Nat) : Int) = (left : Int) - 1 by omega]
          rfl
    rintro _ _ ⟨rfl,rfl⟩
    refine seqCut (fun σ' H' => σ' = [some (.int b),some (.ref kl),some (.ref pa),some (.ref ta),some (lastV o),some (.int ((left - ownT o dn : Nat) : Int)),some (.int w1),some (.int h1),some (.int (qq + b)),none,none] ∧ H1 = H') (fun R hR => ?_) ?_
    · exact ⟨_,rfl,ta,_,1,_,rfl,rfl,SqT.of hpp,rfl,_,rfl,_,_,rfl,rfl,hR _ _ ⟨rfl,rfl⟩⟩
    rintro _ _ ⟨rfl,rfl⟩
    refine seqCut (fun σ' H' => σ' = [some (.int b),some (.ref kl),some (.ref pa),some (.ref ta),some (lastV o),some (.int ((left - ownT o dn : Nat) : Int)),some (.int w1),some (.int h1),some (.int (qq + b)),none,none] ∧ Same H H') (fun R hR => ?_) ?_
    · refine ⟨_,rfl,_,_,rfl,rfl,_,rfl,?_⟩
      rw [show decide (((left - ownT o dn : Nat) : Int) < 0) = false from decide_eq_false (by omega)]
      refine iteF ⟨_,rfl,_,rfl,_,rfl,(by show 2 ≤ sizeLine; decide),fun e he => ?_⟩
      obtain ⟨H2,e2,k2,s2⟩ : ∃ H',upd H1 e (.lst [.int w1,.int h1]) = H' ∧ H' e = some (.lst [.int w1,.int h1]) ∧ Same H1 H' := ⟨_,rfl,upd_same,Same.new he⟩
      rw [show upd H1 e _ = H2 from e2]
      have hp2 := s2 _ _ hpp
      refine ⟨_,rfl,ta,_,0,_,rfl,rfl,SqT.of hp2,rfl,rfl,.inr ⟨_,rfl,?_⟩⟩
      obtain ⟨sd,hsd,hlt⟩ : ∃ sd : Int,atI [V.int w1,V.int h1] (if decide (wv dn = V.str "across") = true then (1 : Int) else 0) = some (.int sd) ∧ qq + b < sd := by
        cases dn with
        | true => exact ⟨w1,by rw [show decide (wv true = V.str "across") = false by decide +kernel]; rfl,q2⟩
        | false => exact ⟨h1,by rw [show decide (wv false = V.str "across") = true by decide +kernel]; rfl,q2⟩
      refine ⟨e,_,_,_,rfl,rfl,SqL.of k2,hsd,_,_,rfl,rfl,_,rfl,?_⟩
      rw [show decide (sd ≤ qq + b) = false from decide_eq_false (by omega)]
      exact iteF (hR _ _ ⟨rfl,s1.trans s2⟩)
    clear hpp hl hr' s1
    clear H1
    rintro _ H1 ⟨rfl,s1⟩
    obtain ⟨a,x',y',ea,hpp,hl,hr'⟩ := TrV.keep (fun a xs e => s1 _ _ e) (.cut dn qq l r) hv
    cases ea
    refine seqCut (fun σ' H' => ∃ so t1 t2 : Addr,σ' = [some (.int b),some (.ref kl),some (.ref pa),some (.ref ta),some (lastV o),some (.int ((left - ownT o dn : Nat) : Int)),some (.int w1),some (.int h1),some (.int (qq + b)),some (.ref so),none] ∧ H' so = some (.lst [.ref t1,.ref t2]) ∧ H' t1 = some (.tup [.int qq,.int h1]) ∧ H' t2 = some (.tup [.int (w1 - (qq + b)),.int h1]) ∧ Same H H') (fun R hR => ?_) ?_
    · refine ⟨_,rfl,ta,_,1,_,rfl,rfl,SqT.of hpp,rfl,_,rfl,(by show 2 ≤ sizeLine; decide),fun t1 ht1 => ?_⟩
      obtain ⟨X1,e3,k3,s3⟩ : ∃ H',upd H1 t1 (.tup [.int qq,.int h1]) = H' ∧ H' t1 = some (.tup [.int qq,.int h1]) ∧ Same H1 H' := ⟨_,rfl,upd_same,Same.new ht1⟩
      rw [show upd H1 t1 _ = X1 from e3]
      refine ⟨_,rfl,_,rfl,_,_,rfl,rfl,_,rfl,(by show 2 ≤ sizeLine; decide),fun t2 ht2 => ?_⟩
      obtain ⟨X2,e4,k4,s4⟩ : ∃ H',upd X1 t2 (.tup [.int (w1 - (qq + b)),.int h1]) = H' ∧ H' t2 = some (.tup [.int (w1 - (qq + b)),.int h1]) ∧ Same X1 H' := ⟨_,rfl,upd_same,Same.new ht2⟩
      rw [show upd X1 t2 _ = X2 from e4]
      refine ⟨(by show 2 ≤ sizeLine; decide),fun so hso => ?_⟩
      obtain ⟨X3,e5,k5,s5⟩ : ∃ H',upd X2 so (.lst [.ref t1,.ref t2]) = H' ∧ H' so = some (.lst [.ref t1,.ref t2]) ∧ Same X2 H' := ⟨_,rfl,upd_same,Same.new hso⟩
      rw [show upd X2 so _ = X3 from e5]
      exact hR _ _ ⟨so,t1,t2,rfl,k5,s5 _ _ (s4 _ _ k3),s5 _ _ k4,s1.trans (s3.trans (s4.trans s5))⟩
    clear hpp hl hr' s1
    clear H1
    rintro _ H1 ⟨so,t1,t2,rfl,hso,ht1,ht2,s1⟩
    obtain ⟨a,x',y',ea,hpp,hl,hr'⟩ := TrV.keep (fun a xs e => s1 _ _ e) (.cut dn qq l r) hv
    cases ea
    refine seqCut (fun σ' H' => ∃ so t1 t2 : Addr,σ' = [some (.int b),some (.ref kl),some (.ref pa),some (.ref ta),some (lastV o),some (.int ((left - ownT o dn : Nat) : Int)),some (.int w1),some (.int h1),some (.int (qq + b)),some (.ref so),none] ∧ H' so = some (.lst [.ref t1,.ref t2]) ∧ H' t1 = some (.tup [.int (fstP w1 h1 (dn,qq)).1,.int (fstP w1 h1 (dn,qq)).2]) ∧ H' t2 = some (.tup [.int (sndP b w1 h1 (dn,qq)).1,.int (sndP b w1 h1 (dn,qq)).2]) ∧ Same H H') (fun R hR => ?_) ?_
    · refine ⟨_,rfl,ta,_,0,_,rfl,rfl,SqT.of hpp,rfl,rfl,_,rfl,?_⟩
      cases dn with
      | true =>
        rw [show decide (wv true = V.str "across") = false by decide +kernel]
        refine iteF (hR _ _ ⟨so,t1,t2,rfl,hso,ht1,?_,s1⟩)
        show H1 t2 = some (.tup [.int (w1 - qq - b),.int h1])
        rw [show w1 - qq - b = w1 - (qq + b) by omega]
        exact ht2
      | false =>
        rw [show decide (wv false = V.str "across") = true by decide +kernel]
        refine iteT ⟨_,rfl,_,rfl,ta,_,1,_,rfl,rfl,SqT.of hpp,rfl,(by show 2 ≤ sizeLine; decide),fun t1 ht1 => ?_⟩
        obtain ⟨X1,e3,k3,s3⟩ : ∃ H',upd H1 t1 (.tup [.int w1,.int qq]) = H' ∧ H' t1 = some (.tup [.int w1,.int qq]) ∧ Same H1 H' := ⟨_,rfl,upd_same,Same.new ht1⟩
        rw [show upd H1 t1 _ = X1 from e3]
        refine ⟨_,rfl,_,rfl,_,rfl,_,_,rfl,rfl,(by show 2 ≤ sizeLine; decide),fun t2 ht2 => ?_⟩
        obtain ⟨X2,e4,k4,s4⟩ : ∃ H',upd X1 t2 (.tup [.int w1,.int (h1 - (qq + b))]) = H' ∧ H' t2 = some (.tup [.int w1,.int (h1 - (qq + b))]) ∧ Same X1 H' := ⟨_,rfl,upd_same,Same.new ht2⟩
        rw [show upd X1 t2 _ = X2 from e4]
        refine ⟨(by show 2 ≤ sizeLine; decide),fun so hso => ?_⟩
        obtain ⟨X3,e5,k5,s5⟩ : ∃ H',upd X2 so (.lst [.ref t1,.ref t2]) = H' ∧ H' so = some (.lst [.ref t1,.ref t2]) ∧ Same X2 H' := ⟨_,rfl,upd_same,Same.new hso⟩
        rw [show upd X2 so _ = X3 from e5]
        refine hR _ _ ⟨so,t1,t2,rfl,k5,s5 _ _ (s4 _ _ k3),?_,s1.trans (s3.trans (s4.trans s5))⟩
        show X3 t2 = some (.tup [.int w1,.int (h1 - qq - b)])
        rw [show h1 - qq - b = h1 - (qq + b) by omega]
        exact s5 _ _ k4
    clear hpp hl hr' hso ht1 ht2 s1
    clear so t1 t2 H1
    rintro _ H1 ⟨so,t1,t2,rfl,hso,ht1,ht2,s1⟩
    obtain ⟨a,x',y',ea,hpp,hl,hr'⟩ := TrV.keep (fun a xs e => s1 _ _ e) (.cut dn qq l r) hv
    cases ea
    have hk1 := s1 _ _ hk0
    have tp1 : Tups H1 rs ks := Tups.keep (fun c xs e => s1 _ _ e) tp
    refine seqCut (fun σ' H' => ∃ fo : Addr,σ' = [some (.int b),some (.ref kl),some (.ref pa),some (.ref ta),some (lastV o),some (.int ((left - ownT o dn : Nat) : Int)),some (.int w1),some (.int h1),some (.int (qq + b)),some (.ref so),some (.ref fo)] ∧ H' fo = some (.lst ([tval ks l,tval ks r].map V.int)) ∧ Same H H') (fun R hR => ?_) ?_
    · refine ⟨_,rfl,by decide,by decide,?_⟩
      refine comp_rng (lo := 0) (n := 2) (fun i us Hx => Same H1 Hx ∧ us = ([tval ks l,tval ks r].take i).map V.int) ⟨Same.refl _,rfl⟩ ?_ ?_
      · rintro i us Hx hi ⟨sx,rfl⟩
        refine ⟨by rw [List.length_map,List.length_take]; show min i 2 < _; omega,leS.set rfl,tYes_ite ?_⟩
        obtain ⟨tt,vt,pp,hat1,htt,hvt,okt,dpt1,dpt2,gp1,gp2,ett⟩ : ∃ (tt : Tr) (vt : V) (pp : Int × Int),True ∧ True ∧ TrV Hx tt vt ∧ okL b ks pp.1 pp.2 tt (some dn) (left - ownT o dn) ∧ dpt tt ≤ 60 ∧ dpt tt < n ∧ 1 ≤ pp.1 ∧ 1 ≤ pp.2 ∧ ((i = 0 ∧ tt = l ∧ vt = x' ∧ pp = (fstP w1 h1 (dn,qq))) ∨ (i = 1 ∧ tt = r ∧ vt = y' ∧ pp = (sndP b w1 h1 (dn,qq)))) := by
          match i,hi with
          | 0,_ => exact ⟨l,x',(fstP w1 h1 (dn,qq)),trivial,trivial,TrV.keep (fun a xs e => sx _ _ e) l hl,okl1,dl60.1,dl.1,g1,g2,.inl ⟨rfl,rfl,rfl,rfl⟩⟩
          | 1,_ => exact ⟨r,y',(sndP b w1 h1 (dn,qq)),trivial,trivial,TrV.keep (fun a xs e => sx _ _ e) r hr',okl2,dl60.2,dl.2,g5,g6,.inr ⟨rfl,rfl,rfl,rfl⟩⟩
        obtain ⟨tp',htp',hat'⟩ : ∃ tp' : Addr,Hx tp' = some (.tup [.int pp.1,.int pp.2]) ∧ atI [V.ref t1,V.ref t2] (0 + (i : Int)) = some (.ref tp') := by
          rcases ett with ⟨rfl,_,_,rfl⟩ | ⟨rfl,_,_,rfl⟩
          · exact ⟨t1,sx _ _ ht1,rfl⟩
          · exact ⟨t2,sx _ _ ht2,rfl⟩
        have hat2 : atI [wv dn,V.int qq,x',y'] (2 + (0 + (i : Int))) = some vt := by
          rcases ett with ⟨rfl,_,rfl,_⟩ | ⟨rfl,_,rfl,_⟩ <;> rfl
        have hppx := sx _ _ hpp
        refine ⟨_,rfl,_,rfl,_,rfl,_,rfl,so,_,_,_,rfl,rfl,SqL.of (sx _ _ hso),hat',_,rfl,_,rfl,_,_,rfl,rfl,ta,_,_,_,rfl,rfl,SqT.of hppx,hat2,_,rfl,ta,_,0,_,rfl,rfl,SqT.of hppx,rfl,_,rfl,b,kl,tp',vt,rs,ks,pp.1,pp.2,tt,some dn,left - ownT o dn,rfl,sx _ _ hk1,Tups.keep (fun c xs e => sx _ _ e) tp1,r8,gk,htp',hvt,okt,dpt1,dpt2,b0,gp1,gp2,fun Hy sy => Nx.of hi ⟨sx.trans sy,?_⟩⟩
        rcases ett with ⟨rfl,rfl,_,_⟩ | ⟨rfl,rfl,_,_⟩ <;> rfl
      · rintro us Hx ⟨sx,rfl⟩
        refine ⟨(by show 2 ≤ sizeLine; decide),fun fo hfo => ?_⟩
        obtain ⟨Hy,e3,k3,s3⟩ : ∃ H',upd Hx fo (.lst (([tval ks l,tval ks r].take 2).map V.int)) = H' ∧ H' fo = some (.lst (([tval ks l,tval ks r].take 2).map V.int)) ∧ Same Hx H' := ⟨_,rfl,upd_same,Same.new hfo⟩
        rw [show upd Hx fo _ = Hy from e3]
        exact hR _ _ ⟨fo,rfl,k3,s1.trans (sx.trans s3)⟩
    rintro _ H2 ⟨fo,rfl,hfo,s2⟩
    refine seqCut (fun σ' H' => σ' = [some (.int b),some (.ref kl),some (.ref pa),some (.ref ta),some (lastV o),some (.int ((left - ownT o dn : Nat) : Int)),some (.int w1),some (.int h1),some (.int (qq + b)),some (.ref so),some (.ref fo)] ∧ H2 = H') (fun R hR => ?_) ?_
    · refine ⟨_,rfl,fo,[tval ks l,tval ks r],rfl,SqL.of hfo,List.cons_ne_nil _ _,fun m hm hx => ⟨_,_,rfl,rfl,_,rfl,?_⟩⟩
      have m0 : 0 ≤ m := by
        rcases List.mem_cons.mp hm with h | h
        · omega
        · have := List.mem_singleton.mp h; omega
      rw [show decide (m < 0) = false from decide_eq_false (by omega)]
      exact iteF (hR _ _ ⟨rfl,rfl⟩)
    rintro _ _ ⟨rfl,rfl⟩
    exact ⟨_,rfl,fo,_,0,_,rfl,rfl,SqL.of hfo,rfl,_,rfl,fo,_,1,_,rfl,rfl,SqL.of hfo,rfl,_,_,rfl,rfl,q H2 s2⟩
theorem ok_worthl0 {f : Addr} {fd : FuncData} (F : Fun K "_law_worth" "_law_worth" sWorth f fd) : FnOk P w K mg base CX0 3 f fd ["_law_blade","_law_kinds_here","_law_part","_law_tree","_law_last","_law_left"] (spWorthL 0) := by
  refine F.ok scworthl (fun vs H Q E h => ?_) (fun cdv A outer s H vs Q E hr h => ?_)
  · obtain ⟨b,kl,pa,v,rs,ks,w1,h1,t,o,left,rfl,_⟩ := h
    rfl
  · obtain ⟨b,kl,pa,v,rs,ks,w1,h1,t,o,left,_,_,_,_,_,_,_,_,_,z,_⟩ := h
    exact absurd z (Nat.not_lt_zero _)
theorem ok_worthlN {f : Addr} {fd : FuncData} (F : Fun K "_law_worth" "_law_worth" sWorth f fd) (B : Blt mg) (hst : mg "str" = none) (DW : Dn P w K mg base "_law_whole" ["_law_number","_law_least"] 1 (spWholeL)) (DPW : Dn P w K mg base "_law_piece_worth" ["_law_kinds_here","_law_wide","_law_high","_law_tree"] 2 (spPieceW)) (mk : ∀ n,FnOk P w K mg base CX0 (3 + n) f fd ["_law_blade","_law_kinds_here","_law_part","_law_tree","_law_last","_law_left"] (spWorthL n) → Dn P w K mg base "_law_worth" ["_law_blade","_law_kinds_here","_law_part","_law_tree","_law_last","_law_left"] (3 + n) (spWorthL n)) : ∀ n,FnOk P w K mg base CX0 (3 + n) f fd ["_law_blade","_law_kinds_here","_law_part","_law_tree","_law_last","_law_left"] (spWorthL n)
  | 0 => ok_worthl0 F
  | n + 1 => ok_worthl F n B hst DW DPW (mk n (ok_worthlN F B hst DW DPW mk n))
end
theorem rdSame {H H' : Hp} {a : Addr} {u : HO} (h : Rd H a u) (s : Same H H') : Rd H' a u := h.imp (s _ _) fun ⟨o,e⟩ => ⟨o,s _ _ e⟩
theorem two_shaped {t : Tr} (h : dpt t ≤ 60) (x : Int) : SeqAt.shaped (.tuple [.int x,toD t]) = true := by
  unfold SeqAt.shaped
  rw [show PyData.canLay0 (.tuple [.int x,toD t]) = true by
    show (true && (PyData.canLay0 (toD t) && true)) = true
    rw [toD_lay]; rfl]
  rw [decide_eq_true (by
    have := toD_depth t
    show PyData.depthAll [.int x,toD t] + 1 ≤ _
    simp only [PyData.depthAll,PyData.depth]
    omega)]; rfl
structure Env (C p sh kl pl : Addr) (b : Int) (rs : List V) (ks : List Kd) (m n : Nat) (H : Hp) : Prop where
  po : PotB H p
  sh : ShopAt C H sh b ks
  kl : H kl = some (.lst rs)
  tp : Tups H rs ks
  pl : H pl = some (.tup [.int (m : Int),.int (n : Int)])
theorem Env.but {C p sh kl pl : Addr} {b : Int} {rs : List V} {ks : List Kd} {m n : Nat} {H H' : Hp} (e : Env C p sh kl pl b rs ks m n H) (nk : kl ≠ p) (po : PotB H' p) (bt : But p H H') : Env C p sh kl pl b rs ks m n H' := by
  have nt : ∀ {c o},H c = some o → (∀ xs,o ≠ .lst xs) → c ≠ p := fun {c o} h hn z => by
    obtain ⟨x,y,_,_,_,hp⟩ := e.po
    rw [z,hp] at h
    exact hn _ (Option.some.inj h).symm
  exact ⟨po,e.sh.keep (fun c xs h => bt _ _ (nt h (fun _ z => by cases z)) h) (fun c C' d fs h => bt _ _ (nt h (fun _ z => by cases z)) h),bt _ _ nk e.kl,tupsB bt e.po e.tp,bt _ _ (nt e.pl (fun _ z => by cases z)) e.pl⟩
theorem Env.same {C p sh kl pl : Addr} {b : Int} {rs : List V} {ks : List Kd} {m n : Nat} {H H' : Hp} (e : Env C p sh kl pl b rs ks m n H) (s : Same H H') : Env C p sh kl pl b rs ks m n H' :=
  ⟨e.po.same s,e.sh.keep (fun c xs h => s _ _ h) (fun c C' d fs h => s _ _ h),s _ _ e.kl,Tups.keep (fun c xs h => s _ _ h) e.tp,s _ _ e.pl⟩
section
variable {P : Program} {w : World} {K : PySem.W.Frag} {mg : Str → Option Value} {base : Heap}
def spToldT (C : Addr) : Sp := fun vs H Q _ => ∃ (sh kl pl : Addr) (b : Int) (rs : List V) (ks : List Kd) (m n k : Nat),vs = [.ref sh,.int b,.ref kl,.ref pl,.int (k : Int)] ∧ ShopAt C H sh b ks ∧ H kl = some (.lst rs) ∧ Tups H rs ks ∧ H pl = some (.tup [.int (m : Int),.int (n : Int)]) ∧ rs.length ≤ 8 ∧ (∀ k ∈ ks,Good k) ∧ 0 ≤ b ∧ 1 ≤ m ∧ m ≤ 16 ∧ 1 ≤ n ∧ n ≤ 16 ∧ k ≤ 32 ∧ ∀ H',Same H H' → Q (.int (tB b ks ((m : Int),(n : Int)) k)) H'
def spRight : Sp := fun vs H Q _ => ∃ (p : Addr),vs = [.ref p] ∧ PotB H p ∧ ∀ (H' : Hp),But p H H' → Q (.bl true) H'
def spLaw (K : PySem.W.Frag) : Sp := fun vs H Q _ => ∃ (a : Addr) (ns : List Int),vs = [.ref a] ∧ SqL K H a (ns.map V.int) ∧ ns.length ≤ 63 ∧ ∀ H',Q (.bl true) H'
theorem sctold : FnScope ["_law_shop","_law_blade","_law_kinds_here","_law_plate","_law_k","_law_told_here"] ["_law_shop","_law_blade","_law_kinds_here","_law_plate","_law_k"] (defScope sTold) := ⟨rfl,rfl,rfl,by decide +kernel,rfl,by decide +kernel,by decide +kernel⟩
theorem ok_told {f C : Addr} {fd : FuncData} (F : Fun K "_law_told" "_law_told" sTold f fd) (B : Blt mg) (DW : Dn P w K mg base "_law_whole" ["_law_number","_law_least"] 1 (spWholeL)) (DBy : Dn P w K mg base "best_by_turns" ["shop","wide","high","k"] 35 (spByT C)) (DWo : Dn P w K mg base "_law_worth" ["_law_blade","_law_kinds_here","_law_part","_law_tree","_law_last","_law_left"] 37 (spWorthL 34)) : FnOk P w K mg base CX0 38 f fd ["_law_shop","_law_blade","_law_kinds_here","_law_plate","_law_k"] (spToldT C) := by
  refine F.ok sctold (fun vs H Q E h => ?_) (fun cdv A outer s H vs Q E hr h => ?_)
  · obtain ⟨sh,kl,pl,b,rs,ks,m,n,k,rfl,_⟩ := h
    rfl
  obtain ⟨sh,kl,pl,b,rs,ks,m,n,k,rfl,hs,hk,tp,hpl,r8,gk,b0,m1,m16,n1,n16,k32,q⟩ := h
  have nd := sctold.nd
  refine ⟨_,(@pss_cons _ _ _ _ _ (@ps_set _ _ 5 _ _ _ _ nd rfl (Or.inl rfl) (@pe_cD _ _ _ _ _ _ _ _ _ _ DBy (hr.mono (by decide)) rfl (@pa_cons _ _ _ _ _ (pv 0) (@pa_cons _ _ _ _ _ (@pe_ix _ _ _ _ _ _ _ ix_tup (pv 3) pe_int (fun _ _ => rfl)) (@pa_cons _ _ _ _ _ (@pe_ix _ _ _ _ _ _ _ ix_tup (pv 3) pe_int (fun _ _ => rfl)) (@pa_cons _ _ _ _ _ (pv 4) pa_nil rfl) rfl) rfl) rfl) (by decide) rfl rfl) rfl (Or.inl rfl)) (@pss_cons _ _ _ _ _ (@ps_if _ _ _ _ _ _ _ _ (PW.pt (pw_or (@pt_not _ _ _ _ (@pt_val _ _ _ (@pe_callB _ _ _ _ _ _ _ _ _ call_isinst rfl B.isi PyProof.Rows.boot_isinstance (@pa_cons _ _ _ _ _ (pv 5) (@pa_cons _ _ _ _ _ (pe_bltn (v := .ty "tuple") rfl B.tuple PyProof.Rows.boot_tuple rfl) pa_nil rfl) rfl) (by decide) (by decide) rfl rfl) (by intro _; rfl))) (pw_or (@pt_cmpR _ _ _ _ _ _ _ _ op_ne (@pe_callB _ _ _ _ _ _ _ _ _ call_len_seq rfl B.len PySem.boot_len (@pa_cons _ _ _ _ _ (pv 5) pa_nil rfl) (by decide) (by decide) rfl rfl) pe_int (nomark _)) (pw_or1 (@pt_not _ _ _ _ (@pt_val _ _ _ (@pe_cD _ _ _ _ _ _ _ _ _ _ DW (hr.mono (by decide)) rfl (@pa_cons _ _ _ _ _ (@pe_ix _ _ _ _ _ _ _ ix_tup (pv 5) pe_int (fun _ _ => rfl)) (@pa_cons _ _ _ _ _ pe_int pa_nil rfl) rfl) (by decide) rfl rfl) (by intro _; rfl))))))) (@pss_one _ _ _ (@ps_ret _ _ _ _ (@pe_un _ _ _ _ _ _ un_neg pe_int))) pss_nil) (@pss_cons _ _ _ _ _ (@ps_if _ _ _ _ _ _ _ _ (@pt_cmpR _ _ _ _ _ _ _ _ op_ne (@pe_cD _ _ _ _ _ _ _ _ _ _ DWo hr rfl (@pa_cons _ _ _ _ _ (pv 1) (@pa_cons _ _ _ _ _ (pv 2) (@pa_cons _ _ _ _ _ (pv 3) (@pa_cons _ _ _ _ _ (@pe_ix _ _ _ _ _ _ _ ix_tup (pv 5) pe_int (fun _ _ => rfl)) (@pa_cons _ _ _ _ _ pe_non (@pa_cons _ _ _ _ _ (pv 4) pa_nil rfl) rfl) rfl) rfl) rfl) rfl) (by decide) rfl rfl) (@pe_ix _ _ _ _ _ _ _ ix_tup (pv 5) pe_int (fun _ _ => rfl)) (nomark _)) (@pss_one _ _ _ (@ps_ret _ _ _ _ (@pe_un _ _ _ _ _ _ un_neg pe_int))) pss_nil) (@pss_one _ _ _ (@ps_ret _ _ _ _ (@pe_ix _ _ _ _ _ _ _ ix_tup (pv 5) pe_int (fun _ _ => rfl))))))),?_⟩
  have k8 : ks.length ≤ 8 := by have := Paired.length tp; omega
  have wm : (1 : Int) ≤ m := by omega
  have wn : (1 : Int) ≤ n := by omega
  have m33 : msr ((m : Int),(n : Int)) < 33 := by show ((m : Int) + (n : Int)).toNat < 33; omega
  obtain ⟨okl,tv⟩ := tR_ok (ks := ks) b0 ((m : Int),(n : Int)) k m33 wm wn
  have dp := tR_dpt b ks ((m : Int),(n : Int)) k
  have nn : 0 ≤ (tB b ks ((m : Int),(n : Int)) k) := by rw [← tv]; exact tval_nn gk _
  refine seqCut (fun σ' H' => ∃ (r : Addr) (v : V),σ' = [some (.ref sh),some (.int b),some (.ref kl),some (.ref pl),some (.int (k : Int)),some (.ref r)] ∧ H' r = some (.tup [.int (tB b ks ((m : Int),(n : Int)) k),v]) ∧ TrV H' (tR b ks ((m : Int),(n : Int)) k) v ∧ Same H H') (fun R hR => ?_) ?_
  · exact ⟨_,rfl,_,rfl,pl,_,0,_,rfl,rfl,SqT.of hpl,rfl,_,rfl,pl,_,1,_,rfl,rfl,SqT.of hpl,rfl,_,rfl,sh,b,ks,m,n,k,rfl,hs,k8,b0,m1,m16,n1,n16,k32,fun r v H1 hr hv s1 => hR _ _ ⟨r,v,rfl,hr,hv,s1⟩⟩
  rintro _ H1 ⟨r,v,rfl,hr,hv,s1⟩
  refine seqCut (fun σ' H' => σ' = [some (.ref sh),some (.int b),some (.ref kl),some (.ref pl),some (.int (k : Int)),some (.ref r)] ∧ H1 = H') (fun R hR => ?_) ?_
  · refine ⟨_,rfl,_,_,_,_,_,rfl,.tup hr,rfl,kit_tt,_,rfl,iteF ?_⟩
    refine ⟨_,rfl,r,_,rfl,.inr (SqT.of hr),rfl,_,rfl,iteF ?_⟩
    refine ⟨_,rfl,r,_,0,_,rfl,rfl,SqT.of hr,rfl,(tB b ks ((m : Int),(n : Int)) k),0,rfl,_,rfl,?_⟩
    rw [show decide ((0 : Int) ≤ (tB b ks ((m : Int),(n : Int)) k)) = true from decide_eq_true nn]
    exact iteF (hR _ _ ⟨rfl,rfl⟩)
  rintro _ _ ⟨rfl,rfl⟩
  refine seqCut (fun σ' H' => σ' = [some (.ref sh),some (.int b),some (.ref kl),some (.ref pl),some (.int (k : Int)),some (.ref r)] ∧ Same H1 H') (fun R hR => ?_) ?_
  · refine ⟨_,rfl,_,rfl,_,rfl,_,rfl,r,_,1,_,rfl,rfl,SqT.of hr,rfl,_,rfl,b,kl,pl,v,rs,ks,m,n,(tR b ks ((m : Int),(n : Int)) k),none,k,rfl,s1 _ _ hk,Tups.keep (fun c xs e => s1 _ _ e) tp,r8,gk,s1 _ _ hpl,hv,okl,by omega,by omega,b0,wm,wn,fun H2 s2 => ?_⟩
    rw [tv]
    refine ⟨_,rfl,r,_,0,_,rfl,rfl,SqT.of (s2 _ _ hr),rfl,rfl,_,rfl,?_⟩
    rw [show decide (V.int (tB b ks ((m : Int),(n : Int)) k) = V.int (tB b ks ((m : Int),(n : Int)) k)) = true from decide_eq_true rfl]
    exact iteF (hR _ _ ⟨rfl,s2⟩)
  rintro _ H2 ⟨rfl,s2⟩
  exact ⟨_,rfl,r,_,0,_,rfl,rfl,SqT.of (s2 _ _ hr),rfl,q H2 (s1.trans s2)⟩
theorem scright : FnScope ["_law_pot_here","_law_blade","_law_kinds_here","_law_plate","_law_shop","_law_least","_law_k","_law_found","_law_many","_law_worth_here","_law_told_here"] ["_law_pot_here"] (defScope sRight) := ⟨rfl,rfl,rfl,by decide +kernel,rfl,by decide +kernel,by decide +kernel⟩
theorem ok_right {f C : Addr} {fd : FuncData} (F : Fun K "_law_right" "_law_right" sRight f fd) (B : Blt mg) (DD : Dn P w K mg base "_law_draw" ["_law_pot_here","_law_many"] 1 (spDrawB)) (DKs : Dn P w K mg base "_law_kinds" ["_law_pot_here"] 4 (spKindsB)) (DT : Dn P w K mg base "_law_told" ["_law_shop","_law_blade","_law_kinds_here","_law_plate","_law_k"] 38 (spToldT C)) (DBo : Dn P w K mg base "best_of" ["shop","wide","high"] 35 (spBestOf C)) (DBy : Dn P w K mg base "best_by_turns" ["shop","wide","high","k"] 35 (spByT C)) (DSh : Kn P w K mg base "Shop" C ["self","blade","kinds"] 3 (spInit C)) : FnOk P w K mg base CX0 39 f fd ["_law_pot_here"] (spRight) := by
  refine F.ok scright (fun vs H Q E h => ?_) (fun cdv A outer s H vs Q E hr h => ?_)
  · obtain ⟨p,rfl,_⟩ := h
    rfl
  obtain ⟨p,rfl,pt,q⟩ := h
  have nd := scright.nd
  have hu := hr.units
  refine ⟨_,(@pss_cons _ _ _ _ _ (@ps_set _ _ 1 _ _ _ _ nd rfl (Or.inl rfl) (@pe_cD _ _ _ _ _ _ _ _ _ _ DD (hr.mono (by decide)) rfl (@pa_cons _ _ _ _ _ (pv 0) (@pa_cons _ _ _ _ _ (@pe_ix _ _ _ _ _ _ _ ix_list (@pe_lst _ _ _ _ (@pa_cons _ _ _ _ _ pe_int (@pa_cons _ _ _ _ _ pe_int pa_nil rfl) rfl)) (@pe_callTy _ _ _ _ _ _ _ _ _ call_int1 rfl B.int PyProof.Rows.boot_int (@pa_cons _ _ _ _ _ (@pe_cmpR _ _ _ _ _ _ _ _ op_eq (@pe_cD _ _ _ _ _ _ _ _ _ _ DD (hr.mono (by decide)) rfl (@pa_cons _ _ _ _ _ (pv 0) (@pa_cons _ _ _ _ _ pe_int pa_nil rfl) rfl) (by decide) rfl rfl) pe_int (nomark _)) pa_nil rfl) (by decide) (by decide) rfl rfl) (fun _ _ => rfl)) pa_nil rfl) rfl) (by decide) rfl rfl) rfl (Or.inl rfl)) (@pss_cons _ _ _ _ _ (@ps_set _ _ 2 _ _ _ _ nd rfl (Or.inl rfl) (@pe_cD _ _ _ _ _ _ _ _ _ _ DKs (hr.mono (by decide)) rfl (@pa_cons _ _ _ _ _ (pv 0) pa_nil rfl) (by decide) rfl rfl) rfl (Or.inl rfl)) (@pss_cons _ _ _ _ _ (@ps_set _ _ 3 _ _ _ _ nd rfl (Or.inl rfl) (@pe_tup _ _ _ _ _ (@pa_cons _ _ _ _ _ (@pe_op _ _ _ _ _ _ _ _ op_add pe_int (@pe_cD _ _ _ _ _ _ _ _ _ _ DD (hr.mono (by decide)) rfl (@pa_cons _ _ _ _ _ (pv 0) (@pa_cons _ _ _ _ _ pe_int pa_nil rfl) rfl) (by decide) rfl rfl)) (@pa_cons _ _ _ _ _ (@pe_op _ _ _ _ _ _ _ _ op_add pe_int (@pe_cD _ _ _ _ _ _ _ _ _ _ DD (hr.mono (by decide)) rfl (@pa_cons _ _ _ _ _ (pv 0) (@pa_cons _ _ _ _ _ pe_int pa_nil rfl) rfl) (by decide) rfl rfl)) pa_nil rfl) rfl)) rfl (Or.inl rfl)) (@pss_cons _ _ _ _ _ (@ps_set _ _ 4 _ _ _ _ nd rfl (Or.inl rfl) (pe_kD DSh (hr.mono (by decide)) rfl (@pa_cons _ _ _ _ _ (pv 1) (@pa_cons _ _ _ _ _ (@pe_callTy _ _ _ _ _ _ _ _ _ call_list_of rfl B.list PyProof.Rows.boot_list (@pa_cons _ _ _ _ _ (pv 2) pa_nil rfl) (by decide) (by decide) rfl rfl) pa_nil rfl) rfl)) rfl (Or.inl rfl)) (@pss_cons _ _ _ _ _ (@ps_set _ _ 5 _ _ _ _ nd rfl (Or.inl rfl) (@pe_un _ _ _ _ _ _ un_neg pe_int) rfl (Or.inl rfl)) (@pss_cons _ _ _ _ _ (@ps_for _ _ _ _ _ _ _ _ PassesOwn.never rfl (pi_range1 rfl B.range (@pa_cons _ _ _ _ _ pe_int pa_nil rfl)) (pg_name (i := 6) nd rfl (Or.inl rfl)) (@pss_cons _ _ _ _ _ (@ps_set _ _ 7 _ _ _ _ nd rfl (Or.inl rfl) (@pe_cD _ _ _ _ _ _ _ _ _ _ DT hr rfl (@pa_cons _ _ _ _ _ (pv 4) (@pa_cons _ _ _ _ _ (pv 1) (@pa_cons _ _ _ _ _ (pv 2) (@pa_cons _ _ _ _ _ (pv 3) (@pa_cons _ _ _ _ _ (pv 6) pa_nil rfl) rfl) rfl) rfl) rfl) (by decide) rfl rfl) rfl (Or.inl rfl)) (@pss_cons _ _ _ _ _ (@ps_if _ _ _ _ _ _ _ _ (PW.pt (pw_or (@pt_cmpR _ _ _ _ _ _ _ _ op_lt (pv 7) pe_int (nomark _)) (pw_or1 (@pt_cmpR _ _ _ _ _ _ _ _ op_lt (pv 7) (pv 5) (nomark _))))) (@pss_one _ _ _ (@ps_ret _ _ _ _ pe_bl)) pss_nil) (@pss_one _ _ _ (@ps_set _ _ 5 _ _ _ _ nd rfl (Or.inl rfl) (pv 7) rfl (Or.inl rfl))))) (by intro _; rfl)) (@pss_cons _ _ _ _ _ (@ps_set _ _ 8 _ _ _ _ nd rfl (Or.inl rfl) (@pe_op _ _ _ _ _ _ _ _ op_add pe_int (@pe_cD _ _ _ _ _ _ _ _ _ _ DD (hr.mono (by decide)) rfl (@pa_cons _ _ _ _ _ (pv 0) (@pa_cons _ _ _ _ _ pe_int pa_nil rfl) rfl) (by decide) rfl rfl)) rfl (Or.inl rfl)) (@pss_cons _ _ _ _ _ (@ps_set _ _ 7 _ _ _ _ nd rfl (Or.inl rfl) (@pe_cD _ _ _ _ _ _ _ _ _ _ DT hr rfl (@pa_cons _ _ _ _ _ (pv 4) (@pa_cons _ _ _ _ _ (pv 1) (@pa_cons _ _ _ _ _ (pv 2) (@pa_cons _ _ _ _ _ (pv 3) (@pa_cons _ _ _ _ _ (pv 8) pa_nil rfl) rfl) rfl) rfl) rfl) (by decide) rfl rfl) rfl (Or.inl rfl)) (@pss_cons _ _ _ _ _ (@ps_set _ _ 9 _ _ _ _ nd rfl (Or.inl rfl) (@pe_ix _ _ _ _ _ _ _ ix_tup (@pe_cD _ _ _ _ _ _ _ _ _ _ DBo (hr.mono (by decide)) rfl (@pa_cons _ _ _ _ _ (pv 4) (@pa_cons _ _ _ _ _ (@pe_ix _ _ _ _ _ _ _ ix_tup (pv 3) pe_int (fun _ _ => rfl)) (@pa_cons _ _ _ _ _ (@pe_ix _ _ _ _ _ _ _ ix_tup (pv 3) pe_int (fun _ _ => rfl)) pa_nil rfl) rfl) rfl) (by decide) rfl rfl) pe_int (fun _ _ => rfl)) rfl (Or.inl rfl)) (@pss_cons _ _ _ _ _ (@ps_if _ _ _ _ _ _ _ _ (PW.pt (pw_or (@pt_cmpR _ _ _ _ _ _ _ _ op_lt (pv 7) (pv 5) (nomark _)) (pw_or1 (@pt_cmpR _ _ _ _ _ _ _ _ op_gt (pv 7) (pv 9) (nomark _))))) (@pss_one _ _ _ (@ps_ret _ _ _ _ pe_bl)) pss_nil) (@pss_cons _ _ _ _ _ (@ps_set _ _ 6 _ _ _ _ nd rfl (Or.inl rfl) (@pe_cD _ _ _ _ _ _ _ _ _ _ DD (hr.mono (by decide)) rfl (@pa_cons _ _ _ _ _ (pv 0) (@pa_cons _ _ _ _ _ (@pe_ix _ _ _ _ _ _ _ ix_list (@pe_lst _ _ _ _ (@pa_cons _ _ _ _ _ pe_int (@pa_cons _ _ _ _ _ pe_int pa_nil rfl) rfl)) (@pe_cD _ _ _ _ _ _ _ _ _ _ DD (hr.mono (by decide)) rfl (@pa_cons _ _ _ _ _ (pv 0) (@pa_cons _ _ _ _ _ pe_int pa_nil rfl) rfl) (by decide) rfl rfl) (fun _ _ => rfl)) pa_nil rfl) rfl) (by decide) rfl rfl) rfl (Or.inl rfl)) (@pss_cons _ _ _ _ _ (@ps_set _ _ 10 _ _ _ _ nd rfl (Or.inl rfl) (@pe_cD _ _ _ _ _ _ _ _ _ _ DBy (hr.mono (by decide)) rfl (@pa_cons _ _ _ _ _ (pv 4) (@pa_cons _ _ _ _ _ (@pe_ix _ _ _ _ _ _ _ ix_tup (pv 3) pe_int (fun _ _ => rfl)) (@pa_cons _ _ _ _ _ (@pe_ix _ _ _ _ _ _ _ ix_tup (pv 3) pe_int (fun _ _ => rfl)) (@pa_cons _ _ _ _ _ (pv 6) pa_nil rfl) rfl) rfl) rfl) (by decide) rfl rfl) rfl (Or.inl rfl)) (@pss_cons _ _ _ _ _ (@ps_if _ _ _ _ _ _ _ _ (@pt_cmpR _ _ _ _ _ _ _ _ op_ne (@pe_cD _ _ _ _ _ _ _ _ _ _ DT hr rfl (@pa_cons _ _ _ _ _ (pv 4) (@pa_cons _ _ _ _ _ (pv 1) (@pa_cons _ _ _ _ _ (pv 2) (@pa_cons _ _ _ _ _ (pv 3) (@pa_cons _ _ _ _ _ (@pe_op _ _ _ _ _ _ _ _ op_add pe_int (@pe_cD _ _ _ _ _ _ _ _ _ _ DD (hr.mono (by decide)) rfl (@pa_cons _ _ _ _ _ (pv 0) (@pa_cons _ _ _ _ _ pe_int pa_nil rfl) rfl) (by decide) rfl rfl)) pa_nil rfl) rfl) rfl) rfl) rfl) (by decide) rfl rfl) (pv 9) (nomark _)) (@pss_one _ _ _ (@ps_ret _ _ _ _ pe_bl)) pss_nil) (@pss_one _ _ _ (@ps_ret _ _ _ _ (@pe_cmpR _ _ _ _ _ _ _ _ (op_eqD hu) (@pe_cD _ _ _ _ _ _ _ _ _ _ DBy (hr.mono (by decide)) rfl (@pa_cons _ _ _ _ _ (pv 4) (@pa_cons _ _ _ _ _ (@pe_ix _ _ _ _ _ _ _ ix_tup (pv 3) pe_int (fun _ _ => rfl)) (@pa_cons _ _ _ _ _ (@pe_ix _ _ _ _ _ _ _ ix_tup (pv 3) pe_int (fun _ _ => rfl)) (@pa_cons _ _ _ _ _ (pv 6) pa_nil rfl) rfl) rfl) rfl) (by decide) rfl rfl) (pv 10) (nomark _))))))))))))))))),?_⟩
  have z4 : 4096 ≤ sizeLine := by decide
  have e60 : (100 : Int) < 10 ^ 60 := by decide
  refine seqCut (fun σ' H' => ∃ b : Int,σ' = [some (.ref p),some (.int b),none,none,none,none,none,none,none,none,none] ∧ 0 ≤ b ∧ PotB H' p ∧ But p H H') (fun R hR => ?_) ?_
  · refine ⟨_,rfl,(by show 2 ≤ sizeLine; decide),fun l hl => ?_⟩
    obtain ⟨H2,e2,k2,n2,s2,b2,pt2⟩ := put1 (o := .lst [.int 3,.int 20]) (But.refl (p := p) (H := H)) pt hl
    rw [show upd H l _ = H2 from e2]
    refine ⟨_,rfl,p,8,rfl,pt2,by decide,by decide,fun z H3 z0 z1 pt3 b3 => ⟨rfl,.inr ⟨_,rfl,?_⟩⟩⟩
    obtain ⟨nn,hnn,nn1,nn20⟩ : ∃ nn : Int,atI [V.int 3,V.int 20] (if decide (V.int z = V.int 7) = true then (1 : Int) else 0) = some (.int nn) ∧ 1 ≤ nn ∧ nn ≤ 20 := by
      by_cases c : V.int z = V.int 7
      · exact ⟨20,by rw [decide_eq_true c]; rfl,by decide,by decide⟩
      · exact ⟨3,by rw [decide_eq_false c]; rfl,by decide,by decide⟩
    exact ⟨l,_,_,_,rfl,rfl,SqL.of (b3 _ _ n2 k2),hnn,p,nn,rfl,pt3,by omega,by omega,fun r H4 r0 r1 pt4 b4 => hR _ _ ⟨r,rfl,r0,pt4,b2.trans (b3.trans b4)⟩⟩
  rintro _ H2 ⟨b,rfl,b0,pt2,b2⟩
  refine seqCut (fun σ' H' => ∃ (kl : Addr) (rs : List V) (ks : List Kd),σ' = [some (.ref p),some (.int b),some (.ref kl),none,none,none,none,none,none,none,none] ∧ kl ≠ p ∧ H' kl = some (.lst rs) ∧ Tups H' rs ks ∧ (∀ k ∈ ks,Good k) ∧ 1 ≤ rs.length ∧ rs.length ≤ 8 ∧ PotB H' p ∧ But p H H') (fun R hR => ?_) ?_
  · exact ⟨_,rfl,p,rfl,pt2,fun kl rs ks H3 nkp hkl hk tp gk r1 r8 pt3 b3 => hR _ _ ⟨kl,rs,ks,rfl,nkp,hk,tp,gk,r1,r8,pt3,b2.trans b3⟩⟩
  rintro _ H1 ⟨kl,rs,ks,rfl,nkp,hk1,tp1,gk,r1,r8,pt1,b1⟩
  clear pt2 b2
  clear H2
  refine seqCut (fun σ' H' => ∃ (pl : Addr) (m n : Nat),σ' = [some (.ref p),some (.int b),some (.ref kl),some (.ref pl),none,none,none,none,none,none,none] ∧ 1 ≤ m ∧ m ≤ 5 ∧ 1 ≤ n ∧ n ≤ 5 ∧ H' kl = some (.lst rs) ∧ Tups H' rs ks ∧ H' pl = some (.tup [.int (m : Int),.int (n : Int)]) ∧ PotB H' p ∧ But p H H') (fun R hR => ?_) ?_
  · refine ⟨_,rfl,p,5,rfl,pt1,by decide,by decide,fun z Ha z0 z1 pa ba => ⟨_,_,rfl,rfl,_,rfl,p,5,rfl,pa,by decide,by decide,fun y Hb y0 y1 pb bb => ⟨_,_,rfl,rfl,(by show 2 ≤ sizeLine; decide),fun t ht => ?_⟩⟩⟩
    have bab := ba.trans bb
    obtain ⟨H3,e3,k3,n3,s3,b3,pt3⟩ := put1 (o := .tup [.int (1 + z),.int (1 + y)]) bab pb ht
    rw [show upd Hb t _ = H3 from e3]
    have k3 : H3 t = some (.tup [.int (((1 + z).toNat : Nat) : Int),.int (((1 + y).toNat : Nat) : Int)]) := by
      rw [show (((1 + z).toNat : Nat) : Int) = 1 + z by omega,show (((1 + y).toNat : Nat) : Int) = 1 + y by omega]; exact k3
    exact hR _ _ ⟨t,(1 + z).toNat,(1 + y).toNat,rfl,by omega,by omega,by omega,by omega,b3 _ _ nkp hk1,tupsB b3 pt1 tp1,k3,pt3,b1.trans b3⟩
  rintro _ H2 ⟨pl,m,n,rfl,m1,m5,n1,n5,hk2,tp2,hpl2,pt2,b2⟩
  clear hk1 tp1 pt1 b1
  clear H1
  have k8 : ks.length ≤ 8 := by have := Paired.length tp2; omega
  have wm : (1 : Int) ≤ m := by omega
  have wn : (1 : Int) ≤ n := by omega
  have nn : ∀ k : Nat,0 ≤ (tB b ks ((m : Int),(n : Int)) k) := fun k => by
    rw [← (tR_ok (ks := ks) b0 ((m : Int),(n : Int)) k (by show ((m : Int) + (n : Int)).toNat < 33; omega) wm wn).2]; exact tval_nn gk _
  refine seqCut (fun σ' H' => ∃ sh : Addr,σ' = [some (.ref p),some (.int b),some (.ref kl),some (.ref pl),some (.ref sh),none,none,none,none,none,none] ∧ Env C p sh kl pl b rs ks m n H' ∧ But p H H') (fun R hR => ?_) ?_
  · refine ⟨_,rfl,_,rfl,kl,_,rfl,.inl (SqL.of hk2),fun l2 hl2 => ?_⟩
    obtain ⟨H3,e3,k3,s3⟩ : ∃ H',upd H2 l2 (.lst rs) = H' ∧ H' l2 = some (.lst rs) ∧ Same H2 H' := ⟨_,rfl,upd_same,Same.new hl2⟩
    rw [show upd H2 l2 _ = H3 from e3]
    refine fun x dx hx hdx ne0 => ?_
    have sm : Same H3 (upd (upd H3 dx (.own x)) x (.ins C dx [])) := made_same hx hdx
    refine ⟨x,dx,l2,b,rs,ks,rfl,upd_same,b0,.inl (sm _ _ k3),Paired.mapP (Tups.keep (fun c xs e => sm _ _ (s3 _ _ e)) tp2) (fun v k h => .inl h),gk,r1,r8,fun Hb Sb kb => ⟨rfl,?_⟩⟩
    have sb : Same H2 Hb := fun c o e => kb c o (ne_of_none (s3 _ _ e) hx) (sm _ _ (s3 _ _ e))
    exact hR _ _ ⟨x,rfl,⟨pt2.same sb,Sb,sb _ _ hk2,Tups.keep (fun c xs e => sb _ _ e) tp2,sb _ _ hpl2⟩,fun c o nn e => sb _ _ (b2 _ _ nn e)⟩
  rintro _ H3 ⟨sh,rfl,E3,b3⟩
  refine seqCut (fun σ' H' => σ' = [some (.ref p),some (.int b),some (.ref kl),some (.ref pl),some (.ref sh),some (.int (-1)),none,none,none,none,none] ∧ H3 = H') (fun R hR => ?_) ?_
  · exact ⟨1,rfl,hR _ _ ⟨rfl,rfl⟩⟩
  rintro _ _ ⟨rfl,rfl⟩
  refine seqCut (fun σ' H' => ∃ (le : Int) (v5 v6 : Option V),σ' = [some (.ref p),some (.int b),some (.ref kl),some (.ref pl),some (.ref sh),some (.int le),v5,v6,none,none,none] ∧ (∀ j : Nat,6 ≤ j + 1 → le ≤ (tB b ks ((m : Int),(n : Int)) j)) ∧ Env C p sh kl pl b rs ks m n H' ∧ But p H H') (fun R hR => ?_) ?_
  · refine ⟨_,rfl,by omega,by omega,?_⟩
    refine for_range (lo := 0) (n := 6) (fun i σ' H' => ∃ (le : Int) (v5 v6 : Option V),σ' = [some (.ref p),some (.int b),some (.ref kl),some (.ref pl),some (.ref sh),some (.int le),v5,v6,none,none,none] ∧ (∀ j : Nat,i ≤ j + 1 → le ≤ (tB b ks ((m : Int),(n : Int)) j)) ∧ Same H3 H') ⟨-1,none,none,rfl,(fun j _ => by have := nn j; omega),Same.refl _⟩ ?_ ?_
    · rintro i σ H6 hi ⟨le,v5,v6,rfl,hle,s6⟩
      have E6 := E3.same s6
      refine seqCut (fun σ' H' => σ' = [some (.ref p),some (.int b),some (.ref kl),some (.ref pl),some (.ref sh),some (.int le),some (.int (0 + (i : Int))),some (.int (tB b ks ((m : Int),(n : Int)) i)),none,none,none] ∧ Same H3 H') (fun R hR => ?_) ?_
      · exact ⟨_,rfl,_,rfl,_,rfl,_,rfl,_,rfl,sh,kl,pl,b,rs,ks,m,n,i,(by rw [Int.zero_add]; rfl),E6.sh,E6.kl,E6.tp,E6.pl,r8,gk,b0,m1,by omega,n1,by omega,by omega,fun H7 s7 => hR _ _ ⟨rfl,s6.trans s7⟩⟩
      rintro _ H7 ⟨rfl,s7⟩
      have hl := hle i (by omega)
      have h0 := nn i
      refine seqCut (fun σ' H' => σ' = [some (.ref p),some (.int b),some (.ref kl),some (.ref pl),some (.ref sh),some (.int le),some (.int (0 + (i : Int))),some (.int (tB b ks ((m : Int),(n : Int)) i)),none,none,none] ∧ H7 = H') (fun R hR => ?_) ?_
      · refine ⟨_,rfl,_,_,rfl,rfl,_,rfl,?_⟩
        rw [show decide ((tB b ks ((m : Int),(n : Int)) i) < 0) = false from decide_eq_false (by omega)]
        refine iteF ⟨_,rfl,_,rfl,_,_,rfl,rfl,_,rfl,?_⟩
        rw [show decide ((tB b ks ((m : Int),(n : Int)) i) < le) = false from decide_eq_false (by omega)]
        exact iteF (hR _ _ ⟨rfl,rfl⟩)
      rintro _ _ ⟨rfl,rfl⟩
      exact ⟨_,rfl,_,_,_,rfl,fun j hj => tB_mono b0 wm wn (by omega),s7⟩
    · rintro σ H6 ⟨le,v5,v6,rfl,hle,s6⟩
      exact hR _ _ ⟨le,v5,v6,rfl,hle,E3.same s6,fun c o nn e => s6 _ _ (b3 _ _ nn e)⟩
  rintro _ H4 ⟨le,v5,v6,rfl,hle,E4,b4⟩
  refine seqCut (fun σ' H' => ∃ ma : Nat,σ' = [some (.ref p),some (.int b),some (.ref kl),some (.ref pl),some (.ref sh),some (.int le),v5,v6,some (.int (ma : Int)),none,none] ∧ 5 ≤ ma ∧ ma ≤ 32 ∧ Env C p sh kl pl b rs ks m n H' ∧ But p H H') (fun R hR => ?_) ?_
  · refine ⟨_,rfl,p,28,rfl,E4.po,by decide,by decide,fun z Ha z0 z1 pa ba => ⟨_,_,rfl,rfl,hR _ _ ⟨(5 + z).toNat,?_,by omega,by omega,E4.but nkp pa ba,b4.trans ba⟩⟩⟩
    rw [show (((5 + z).toNat : Nat) : Int) = 5 + z by omega]; rfl
  rintro _ H5 ⟨ma,rfl,ma5,ma32,E5,b5⟩
  refine seqCut (fun σ' H' => σ' = [some (.ref p),some (.int b),some (.ref kl),some (.ref pl),some (.ref sh),some (.int le),v5,some (.int (tB b ks ((m : Int),(n : Int)) ma)),some (.int (ma : Int)),none,none] ∧ Env C p sh kl pl b rs ks m n H' ∧ But p H H') (fun R hR => ?_) ?_
  · exact ⟨_,rfl,_,rfl,_,rfl,_,rfl,_,rfl,sh,kl,pl,b,rs,ks,m,n,ma,rfl,E5.sh,E5.kl,E5.tp,E5.pl,r8,gk,b0,m1,by omega,n1,by omega,ma32,fun H7 s7 => hR _ _ ⟨rfl,E5.same s7,fun c o nn e => s7 _ _ (b5 _ _ nn e)⟩⟩
  rintro _ H6 ⟨rfl,E6,b6⟩
  refine seqCut (fun σ' H' => σ' = [some (.ref p),some (.int b),some (.ref kl),some (.ref pl),some (.ref sh),some (.int le),v5,some (.int (tB b ks ((m : Int),(n : Int)) ma)),some (.int (ma : Int)),some (.int (bW b ks ((m : Int),(n : Int)))),none] ∧ Env C p sh kl pl b rs ks m n H' ∧ But p H H') (fun R hR => ?_) ?_
  · refine ⟨_,rfl,_,rfl,pl,_,0,_,rfl,rfl,SqT.of E6.pl,rfl,_,rfl,pl,_,1,_,rfl,rfl,SqT.of E6.pl,rfl,sh,b,ks,m,n,rfl,E6.sh,k8,b0,m1,by omega,n1,by omega,fun r ta tv H7 hta hr ht hv s7 => ?_⟩
    exact ⟨r,_,0,_,rfl,rfl,SqT.of hr,rfl,hR _ _ ⟨rfl,E6.same s7,fun c o nn e => s7 _ _ (b6 _ _ nn e)⟩⟩
  rintro _ H7 ⟨rfl,E7,b7⟩
  refine seqCut (fun σ' H' => σ' = [some (.ref p),some (.int b),some (.ref kl),some (.ref pl),some (.ref sh),some (.int le),v5,some (.int (tB b ks ((m : Int),(n : Int)) ma)),some (.int (ma : Int)),some (.int (bW b ks ((m : Int),(n : Int)))),none] ∧ H7 = H') (fun R hR => ?_) ?_
  · have h1 := hle ma (by omega)
    have h2 := tB_le_bW (ks := ks) b0 (p := ((m : Int),(n : Int))) ma wm wn
    refine ⟨_,rfl,_,rfl,_,_,rfl,rfl,_,rfl,?_⟩
    rw [show decide ((tB b ks ((m : Int),(n : Int)) ma) < le) = false from decide_eq_false (by omega)]
    refine iteF ⟨_,rfl,_,rfl,_,_,rfl,rfl,_,rfl,?_⟩
    rw [show decide ((bW b ks ((m : Int),(n : Int))) < (tB b ks ((m : Int),(n : Int)) ma)) = false from decide_eq_false (by omega)]
    exact iteF (hR _ _ ⟨rfl,rfl⟩)
  rintro _ _ ⟨rfl,rfl⟩
  refine seqCut (fun σ' H' => ∃ k : Nat,σ' = [some (.ref p),some (.int b),some (.ref kl),some (.ref pl),some (.ref sh),some (.int le),some (.int (k : Int)),some (.int (tB b ks ((m : Int),(n : Int)) ma)),some (.int (ma : Int)),some (.int (bW b ks ((m : Int),(n : Int)))),none] ∧ k ≤ 32 ∧ Env C p sh kl pl b rs ks m n H' ∧ But p H H') (fun R hR => ?_) ?_
  · refine ⟨_,rfl,(by show 2 ≤ sizeLine; decide),fun l hl => ?_⟩
    obtain ⟨Ha,e2,k2,s2⟩ : ∃ H',upd H7 l (.lst [.int 33,.int 5]) = H' ∧ H' l = some (.lst [.int 33,.int 5]) ∧ Same H7 H' := ⟨_,rfl,upd_same,Same.new hl⟩
    rw [show upd H7 l _ = Ha from e2]
    have pta := E7.po.same s2
    have nlp : l ≠ p := Ne.symm (E7.po.ne hl)
    refine ⟨_,rfl,p,2,rfl,pta,by decide,by decide,fun z Hb z0 z1 ptb bb => ?_⟩
    obtain ⟨nn',hnn,nn1,nn33⟩ : ∃ nn : Int,atI [V.int 33,V.int 5] z = some (.int nn) ∧ 1 ≤ nn ∧ nn ≤ 33 := by
      rcases (by omega : z = 0 ∨ z = 1) with rfl | rfl
      · exact ⟨33,rfl,by decide,by decide⟩
      · exact ⟨5,rfl,by decide,by decide⟩
    refine ⟨l,_,_,_,rfl,rfl,SqL.of (bb _ _ nlp k2),hnn,p,nn',rfl,ptb,by omega,by omega,fun r Hc r0 r1 ptc bc => hR _ _ ⟨r.toNat,?_,by omega,((E7.same s2).but nkp ptb bb).but nkp ptc bc,fun c o nn e => bc _ _ nn (bb _ _ nn (s2 _ _ (b7 _ _ nn e)))⟩⟩
    rw [show ((r.toNat : Nat) : Int) = r by omega]; rfl
  rintro _ H8 ⟨k,rfl,k32,E8,b8⟩
  refine seqCut (fun σ' H' => ∃ (to : Addr) (tv : V),σ' = [some (.ref p),some (.int b),some (.ref kl),some (.ref pl),some (.ref sh),some (.int le),some (.int (k : Int)),some (.int (tB b ks ((m : Int),(n : Int)) ma)),some (.int (ma : Int)),some (.int (bW b ks ((m : Int),(n : Int)))),some (.ref to)] ∧ H' to = some (.tup [.int (tB b ks ((m : Int),(n : Int)) k),tv]) ∧ TrV H' (tR b ks ((m : Int),(n : Int)) k) tv ∧ Env C p sh kl pl b rs ks m n H' ∧ But p H H') (fun R hR => ?_) ?_
  · exact ⟨_,rfl,_,rfl,pl,_,0,_,rfl,rfl,SqT.of E8.pl,rfl,_,rfl,pl,_,1,_,rfl,rfl,SqT.of E8.pl,rfl,_,rfl,sh,b,ks,m,n,k,rfl,E8.sh,k8,b0,m1,by omega,n1,by omega,k32,fun r v H9 hr hv s9 => hR _ _ ⟨r,v,rfl,hr,hv,E8.same s9,fun c o nn e => s9 _ _ (b8 _ _ nn e)⟩⟩
  rintro _ H9 ⟨to,tv,rfl,hto,htv,E9,b9⟩
  have ntp : ∀ c xs,H9 c = some (.tup xs) → c ≠ p := fun c xs h z => by
    obtain ⟨x,y,_,_,_,hp⟩ := E9.po
    rw [z,hp] at h
    cases h
  refine seqCut (fun σ' H' => σ' = [some (.ref p),some (.int b),some (.ref kl),some (.ref pl),some (.ref sh),some (.int le),some (.int (k : Int)),some (.int (tB b ks ((m : Int),(n : Int)) ma)),some (.int (ma : Int)),some (.int (bW b ks ((m : Int),(n : Int)))),some (.ref to)] ∧ H' to = some (.tup [.int (tB b ks ((m : Int),(n : Int)) k),tv]) ∧ TrV H' (tR b ks ((m : Int),(n : Int)) k) tv ∧ Env C p sh kl pl b rs ks m n H' ∧ But p H H') (fun R hR => ?_) ?_
  · refine ⟨_,rfl,_,rfl,_,rfl,_,rfl,_,rfl,p,26,rfl,E9.po,by decide,by decide,fun z Ha z0 z1 pa ba => ?_⟩
    have Ea := E9.but nkp pa ba
    obtain ⟨j,hj,j7,j32⟩ : ∃ j : Nat,7 + z = (j : Int) ∧ 7 ≤ j ∧ j ≤ 32 := ⟨(7 + z).toNat,by omega,by omega,by omega⟩
    refine ⟨_,_,rfl,rfl,sh,kl,pl,b,rs,ks,m,n,j,(by rw [← hj]; rfl),Ea.sh,Ea.kl,Ea.tp,Ea.pl,r8,gk,b0,m1,by omega,n1,by omega,j32,fun Hb sb => ?_⟩
    rw [tB_bW (ks := ks) b0 (p := ((m : Int),(n : Int))) (k := j) wm wn (by show (m : Int) + (n : Int) ≤ _; omega)]
    refine ⟨_,rfl,rfl,_,rfl,?_⟩
    rw [show decide (V.int (bW b ks ((m : Int),(n : Int))) = V.int (bW b ks ((m : Int),(n : Int)))) = true from decide_eq_true rfl]
    exact iteF (hR _ _ ⟨rfl,sb _ _ (ba _ _ (ntp _ _ hto) hto),TrV.keep (fun c xs e => sb _ _ e) _ (TrV.keep (fun c xs e => ba _ _ (ntp _ _ e) e) _ htv),Ea.same sb,fun c o nn e => sb _ _ (ba _ _ nn (b9 _ _ nn e))⟩)
  rintro _ Ha ⟨rfl,hta,htva,Ea,ba⟩
  have dp : dpt (tR b ks ((m : Int),(n : Int)) k) ≤ 60 := Nat.le_trans (tR_dpt _ _ _ _) (by decide)
  refine ⟨_,rfl,_,rfl,pl,_,0,_,rfl,rfl,SqT.of Ea.pl,rfl,_,rfl,pl,_,1,_,rfl,rfl,SqT.of Ea.pl,rfl,_,rfl,sh,b,ks,m,n,k,rfl,Ea.sh,k8,b0,m1,by omega,n1,by omega,k32,fun r v Hb hr hv sb => ?_⟩
  refine ⟨_,rfl,.tuple [.int (tB b ks ((m : Int),(n : Int)) k),toD (tR b ks ((m : Int),(n : Int)) k)],.tuple [.int (tB b ks ((m : Int),(n : Int)) k),toD (tR b ks ((m : Int),(n : Int)) k)],.tup (SqT.of hr) (.cons (.int _) (.cons (TrV.dat _ hv) .nil)),.tup (SqT.of (sb _ _ hta)) (.cons (.int _) (.cons (TrV.dat _ (TrV.keep (fun c xs e => sb _ _ e) _ htva)) .nil)),two_shaped dp _,two_shaped dp _,?_⟩
  rw [PySem.SeqAt.eqv_refl _ (by
    show (true && (PyData.canLay0 (toD _) && true)) = true
    rw [toD_lay]; rfl)]
  exact q Hb fun c o nn e => sb _ _ (ba _ _ nn e)
theorem sclaw : FnScope ["_law_script","_law_cell"] ["_law_script"] (defScope sLaw) := ⟨rfl,rfl,rfl,by decide +kernel,rfl,by decide +kernel,by decide +kernel⟩
theorem ok_law {f : Addr} {fd : FuncData} (F : Fun K "law" "law" sLaw f fd) (B : Blt mg) (DP : Dn P w K mg base "_law_pot" ["_law_cell"] 1 (spPotB)) (DR : Dn P w K mg base "_law_right" ["_law_pot_here"] 39 (spRight)) : FnOk P w K mg base CX0 40 f fd ["_law_script"] (spLaw K) := by
  refine F.ok sclaw (fun vs H Q E h => ?_) (fun cdv A outer s H vs Q E hr h => ?_)
  · obtain ⟨a,ns,rfl,_⟩ := h
    rfl
  obtain ⟨a,ns,rfl,hS,n63,q⟩ := h
  have nd := sclaw.nd
  refine ⟨_,(@pss_cons _ _ _ _ _ (@ps_for _ _ _ _ _ _ _ _ PassesOwn.never rfl (pi_list (@pe_slice _ _ _ _ _ _ _ _ _ _ sl_list (@pe_op _ _ _ _ _ _ _ _ op_catS (pv 0) (@pe_lst _ _ _ _ (@pa_cons _ _ _ _ _ pe_int pa_nil rfl))) po_none (po_some pe_int))) (pg_name (i := 1) nd rfl (Or.inl rfl)) (@pss_one _ _ _ (@ps_if _ _ _ _ _ _ _ _ (@pt_not _ _ _ _ (@pt_val _ _ _ (@pe_cD _ _ _ _ _ _ _ _ _ _ DR hr rfl (@pa_cons _ _ _ _ _ (@pe_cD _ _ _ _ _ _ _ _ _ _ DP (hr.mono (by decide)) rfl (@pa_cons _ _ _ _ _ (pv 1) pa_nil rfl) (by decide) rfl rfl) pa_nil rfl) (by decide) rfl rfl) (by intro _; rfl))) (@pss_one _ _ _ (@ps_ret _ _ _ _ pe_bl)) pss_nil)) (by intro _; rfl)) (@pss_one _ _ _ (@ps_ret _ _ _ _ pe_bl))),?_⟩
  have z4 : 4096 ≤ sizeLine := by decide
  have ln : (ns.map V.int).length = ns.length := List.length_map _
  refine seqCut (fun σ' H' => ∃ v1 : Option V,σ' = [some (.ref a),v1]) (fun R hR => ?_) ?_
  · refine ⟨_,rfl,(by show 1 ≤ sizeLine; decide),fun u hu => ?_⟩
    obtain ⟨H1,e1,k1,s1⟩ : ∃ H',upd H u (.lst [.int 0]) = H' ∧ H' u = some (.lst [.int 0]) ∧ Same H H' := ⟨_,rfl,upd_same,Same.new hu⟩
    rw [show upd H u _ = H1 from e1]
    refine ⟨a,u,_,_,rfl,rfl,hS.imp (fun h => rdSame h s1) id,SqL.of k1,(by show _ + 1 ≤ _; omega),fun l hl => ?_⟩
    obtain ⟨H2,e2,k2,s2⟩ : ∃ H',upd H1 l (.lst (ns.map V.int ++ [.int 0])) = H' ∧ H' l = some (.lst (ns.map V.int ++ [.int 0])) ∧ Same H1 H' := ⟨_,rfl,upd_same,Same.new hl⟩
    rw [show upd H1 l _ = H2 from e2]
    refine ⟨_,rfl,l,_,rfl,SqL.of k2,fun v hv => ?_⟩
    obtain ⟨H3,e3,k3,s3⟩ : ∃ H',upd H2 v (.lst (cutV (ns.map V.int ++ [.int 0]) none (some 2))) = H' ∧ H' v = some (.lst (cutV (ns.map V.int ++ [.int 0]) none (some 2))) ∧ Same H2 H' := ⟨_,rfl,upd_same,Same.new hv⟩
    rw [show upd H2 v _ = H3 from e3]
    refine ⟨v,rfl,⟨_,SqL.of k3⟩,for_list (xs := cutV (ns.map V.int ++ [.int 0]) none (some 2)) (fun i σ' H' => (∃ v1 : Option V,σ' = [some (.ref a),v1]) ∧ Same H3 H') ⟨⟨none,rfl⟩,Same.refl _⟩ (fun i σ Hx _ ⟨_,s⟩ => SqL.of (s _ _ k3)) ?_ (fun σ Hx ⟨e,s⟩ => hR _ _ e)⟩
    rintro i x _ Hx hi ⟨⟨v1,rfl⟩,sx⟩
    obtain ⟨c,rfl⟩ : ∃ c,x = V.int c := by
      have h := List.mem_of_getElem? hi
      unfold cutV at h
      rcases List.mem_append.mp (List.mem_of_mem_drop (List.mem_of_mem_take h)) with h | h
      · obtain ⟨c,_,e⟩ := List.mem_map.mp h
        exact ⟨c,e.symm⟩
      · exact ⟨0,List.mem_singleton.mp h⟩
    refine ⟨_,rfl,c,rfl,fun p Hy hp pt sy => ⟨p,rfl,pt,fun Hz bz => ⟨_,rfl,iteF ⟨⟨_,rfl⟩,?_⟩⟩⟩⟩
    exact fun c o e => bz _ _ (ne_of_none (sx _ _ e) hp) (sy _ _ (sx _ _ e))
  rintro _ H1 ⟨v1,rfl⟩
  exact q H1
end
theorem len1 {α : Type} {us : List α} (h : us.length = 1) : ∃ a,us = [a] := by
  match us,h with
  | [a],_ => exact ⟨a,rfl⟩
theorem len2 {α : Type} {us : List α} (h : us.length = 2) : ∃ a b,us = [a,b] := by
  match us,h with
  | [a,b],_ => exact ⟨a,b,rfl⟩
theorem len3 {α : Type} {us : List α} (h : us.length = 3) : ∃ a b c,us = [a,b,c] := by
  match us,h with
  | [a,b,c],_ => exact ⟨a,b,c,rfl⟩
theorem len4 {α : Type} {us : List α} (h : us.length = 4) : ∃ a b c d,us = [a,b,c,d] := by
  match us,h with
  | [a,b,c,d],_ => exact ⟨a,b,c,d,rfl⟩
theorem len5 {α : Type} {us : List α} (h : us.length = 5) : ∃ a b c d e,us = [a,b,c,d,e] := by
  match us,h with
  | [a,b,c,d,e],_ => exact ⟨a,b,c,d,e,rfl⟩
theorem len6 {α : Type} {us : List α} (h : us.length = 6) : ∃ a b c d e f,us = [a,b,c,d,e,f] := by
  match us,h with
  | [a,b,c,d,e,f],_ => exact ⟨a,b,c,d,e,f,rfl⟩
theorem len7 {α : Type} {us : List α} (h : us.length = 7) : ∃ a b c d e f g,us = [a,b,c,d,e,f,g] := by
  match us,h with
  | [a,b,c,d,e,f,g],_ => exact ⟨a,b,c,d,e,f,g,rfl⟩
open PySem.W in
theorem all_mk {l : OpenLaw} {w : World} {K : Frag} {h : Heap} {mg : Str → Option Value} {fa f0 f1 f2 f3 f4 f5 f6 f7 f8 f9 f10 f11 f12 f13 f14 f15 f16 f17 f18 f19 f20 f21 f22 f23 f24 f25 f26 f27 f28 C fm0 fm1 fm2 fm3 fm4 fm5 xNoLying xWAYS : Addr} (X : K.In h) (G : h.Ns mainGlobals mg) (hfa : mg "law" = some (.ref fa))
    {od0 an0 : Option Addr} {sl0 : Array (Option Value)} {oc0 kV0 dc0 pm0 cd0 ct0 : Value} {od1 an1 : Option Addr} {sl1 : Array (Option Value)} {oc1 kV1 dc1 pm1 cd1 ct1 : Value} {od2 an2 : Option Addr} {sl2 : Array (Option Value)} {oc2 kV2 dc2 pm2 cd2 ct2 : Value} {od3 an3 : Option Addr} {sl3 : Array (Option Value)} {oc3 kV3 dc3 pm3 cd3 ct3 : Value} {od4 an4 : Option Addr} {sl4 : Array (Option Value)} {oc4 kV4 dc4 pm4 cd4 ct4 : Value} {od5 an5 : Option Addr} {sl5 : Array (Option Value)} {oc5 kV5 dc5 pm5 cd5 ct5 : Value} {od6 an6 : Option Addr} {sl6 : Array (Option Value)} {oc6 kV6 dc6 pm6 cd6 ct6 : Value} {od7 an7 : Option Addr} {sl7 : Array (Option Value)} {oc7 kV7 dc7 pm7 cd7 ct7 : Value} {od8 an8 : Option Addr} {sl8 : Array (Option Value)} {oc8 kV8 dc8 pm8 cd8 ct8 : Value} {od9 an9 : Option Addr} {sl9 : Array (Option Value)} {oc9 kV9 dc9 pm9 cd9 ct9 : Value} {od10 an10 : Option Addr} {sl10 : Array (Option Value)} {oc10 kV10 dc10 pm10 cd10 ct10 : Value} {od11 an11 : Option Addr} {sl11 : Array (Option Value)} {oc11 kV11 dc11 pm11 cd11 ct11 : Value} {od12 an12 : Option Addr} {sl12 : Array (Option Value)} {oc12 kV12 dc12 pm12 cd12 ct12 : Value} {od13 an13 : Option Addr} {sl13 : Array (Option Value)} {oc13 kV13 dc13 pm13 cd13 ct13 : Value} {od14 an14 : Option Addr} {sl14 : Array (Option Value)} {oc14 kV14 dc14 pm14 cd14 ct14 : Value} {od15 an15 : Option Addr} {sl15 : Array (Option Value)} {oc15 kV15 dc15 pm15 cd15 ct15 : Value} {od16 an16 : Option Addr} {sl16 : Array (Option Value)} {oc16 kV16 dc16 pm16 cd16 ct16 : Value} {od17 an17 : Option Addr} {sl17 : Array (Option Value)} {oc17 kV17 dc17 pm17 cd17 ct17 : Value} {od18 an18 : Option Addr} {sl18 : Array (Option Value)} {oc18 kV18 dc18 pm18 cd18 ct18 : Value} {od19 an19 : Option Addr} {sl19 : Array (Option Value)} {oc19 kV19 dc19 pm19 cd19 ct19 : Value} {od20 an20 : Option Addr} {sl20 : Array (Option Value)} {oc20 kV20 dc20 pm20 cd20 ct20 : Value} {od21 an21 : Option Addr} {sl21 : Array (Option Value)} {oc21 kV21 dc21 pm21 cd21 ct21 : Value} {od22 an22 : Option Addr} {sl22 : Array (Option Value)} {oc22 kV22 dc22 pm22 cd22 ct22 : Value} {od23 an23 : Option Addr} {sl23 : Array (Option Value)} {oc23 kV23 dc23 pm23 cd23 ct23 : Value} {od24 an24 : Option Addr} {sl24 : Array (Option Value)} {oc24 kV24 dc24 pm24 cd24 ct24 : Value} {od25 an25 : Option Addr} {sl25 : Array (Option Value)} {oc25 kV25 dc25 pm25 cd25 ct25 : Value} {od26 an26 : Option Addr} {sl26 : Array (Option Value)} {oc26 kV26 dc26 pm26 cd26 ct26 : Value} {od27 an27 : Option Addr} {sl27 : Array (Option Value)} {oc27 kV27 dc27 pm27 cd27 ct27 : Value} {od28 an28 : Option Addr} {sl28 : Array (Option Value)} {oc28 kV28 dc28 pm28 cd28 ct28 : Value} {odm0 anm0 : Option Addr} {slm0 : Array (Option Value)} {ocm0 kVm0 dcm0 pmm0 cdm0 ctm0 : Value} {odm1 anm1 : Option Addr} {slm1 : Array (Option Value)} {ocm1 kVm1 dcm1 pmm1 cdm1 ctm1 : Value} {odm2 anm2 : Option Addr} {slm2 : Array (Option Value)} {ocm2 kVm2 dcm2 pmm2 cdm2 ctm2 : Value} {odm3 anm3 : Option Addr} {slm3 : Array (Option Value)} {ocm3 kVm3 dcm3 pmm3 cdm3 ctm3 : Value} {odm4 anm4 : Option Addr} {slm4 : Array (Option Value)} {ocm4 kVm4 dcm4 pmm4 cdm4 ctm4 : Value} {odm5 anm5 : Option Addr} {slm5 : Array (Option Value)} {ocm5 kVm5 dcm5 pmm5 cdm5 ctm5 : Value} {tc0 : Tok} {tc1 : Tok} {tc2 : Tok} {tc3 : Tok} {tc4 : Tok} {tc5 : Tok} {tc6 : Tok} {tc7 : Tok}
    (a0 : nsIn K mainGlobals "is_whole" = some (some (.ref f0)))
    (l0 : K.lookup f0 = some ⟨oc0,od0,.func (fnOf "is_whole" "is_whole" (defArgs sWhole) (defBody sWhole) (defScope sWhole) .none kV0 dc0 pm0 an0 cd0 ct0),sl0⟩)
    (c0 : codeIn K cd0 "is_whole" = true)
    (k0 : keepIn K (.ref f0) = true)
    (a1 : nsIn K mainGlobals "is_truth" = some (some (.ref f1)))
    (l1 : K.lookup f1 = some ⟨oc1,od1,.func (fnOf "is_truth" "is_truth" (defArgs sTruth) (defBody sTruth) (defScope sTruth) .none kV1 dc1 pm1 an1 cd1 ct1),sl1⟩)
    (c1 : codeIn K cd1 "is_truth" = true)
    (k1 : keepIn K (.ref f1) = true)
    (a2 : nsIn K mainGlobals "is_row" = some (some (.ref f2)))
    (l2 : K.lookup f2 = some ⟨oc2,od2,.func (fnOf "is_row" "is_row" (defArgs sRow) (defBody sRow) (defScope sRow) .none kV2 dc2 pm2 an2 cd2 ct2),sl2⟩)
    (c2 : codeIn K cd2 "is_row" = true)
    (k2 : keepIn K (.ref f2) = true)
    (a3 : nsIn K mainGlobals "is_kind" = some (some (.ref f3)))
    (l3 : K.lookup f3 = some ⟨oc3,od3,.func (fnOf "is_kind" "is_kind" (defArgs sIsKind) (defBody sIsKind) (defScope sIsKind) .none kV3 dc3 pm3 an3 cd3 ct3),sl3⟩)
    (c3 : codeIn K cd3 "is_kind" = true)
    (k3 : keepIn K (.ref f3) = true)
    (a4 : nsIn K mainGlobals "can_lie_turned" = some (some (.ref f4)))
    (l4 : K.lookup f4 = some ⟨oc4,od4,.func (fnOf "can_lie_turned" "can_lie_turned" (defArgs sTurned) (defBody sTurned) (defScope sTurned) .none kV4 dc4 pm4 an4 cd4 ct4),sl4⟩)
    (c4 : codeIn K cd4 "can_lie_turned" = true)
    (k4 : keepIn K (.ref f4) = true)
    (a5 : nsIn K mainGlobals "check_plate" = some (some (.ref f5)))
    (l5 : K.lookup f5 = some ⟨oc5,od5,.func (fnOf "check_plate" "check_plate" (defArgs sCheckPlate) (defBody sCheckPlate) (defScope sCheckPlate) .none kV5 dc5 pm5 an5 cd5 ct5),sl5⟩)
    (c5 : codeIn K cd5 "check_plate" = true)
    (k5 : keepIn K (.ref f5) = true)
    (a6 : nsIn K mainGlobals "check_sides" = some (some (.ref f6)))
    (l6 : K.lookup f6 = some ⟨oc6,od6,.func (fnOf "check_sides" "check_sides" (defArgs sCheckSides) (defBody sCheckSides) (defScope sCheckSides) .none kV6 dc6 pm6 an6 cd6 ct6),sl6⟩)
    (c6 : codeIn K cd6 "check_sides" = true)
    (k6 : keepIn K (.ref f6) = true)
    (a7 : nsIn K mainGlobals "lies_in" = some (some (.ref f7)))
    (l7 : K.lookup f7 = some ⟨oc7,od7,.func (fnOf "lies_in" "lies_in" (defArgs sLiesIn) (defBody sLiesIn) (defScope sLiesIn) .none kV7 dc7 pm7 an7 cd7 ct7),sl7⟩)
    (c7 : codeIn K cd7 "lies_in" = true)
    (k7 : keepIn K (.ref f7) = true)
    (a8 : nsIn K mainGlobals "lyings_in" = some (some (.ref f8)))
    (l8 : K.lookup f8 = some ⟨oc8,od8,.func (fnOf "lyings_in" "lyings_in" (defArgs sLyingsIn) (defBody sLyingsIn) (defScope sLyingsIn) .none kV8 dc8 pm8 an8 cd8 ct8),sl8⟩)
    (c8 : codeIn K cd8 "lyings_in" = true)
    (k8 : keepIn K (.ref f8) = true)
    (a9 : nsIn K mainGlobals "parts_up_to" = some (some (.ref f9)))
    (l9 : K.lookup f9 = some ⟨oc9,od9,.func (fnOf "parts_up_to" "parts_up_to" (defArgs sPartsUpTo) (defBody sPartsUpTo) (defScope sPartsUpTo) .none kV9 dc9 pm9 an9 cd9 ct9),sl9⟩)
    (c9 : codeIn K cd9 "parts_up_to" = true)
    (k9 : keepIn K (.ref f9) = true)
    (a10 : nsIn K mainGlobals "cut_parts" = some (some (.ref f10)))
    (l10 : K.lookup f10 = some ⟨oc10,od10,.func (fnOf "cut_parts" "cut_parts" (defArgs sCutParts) (defBody sCutParts) (defScope sCutParts) .none kV10 dc10 pm10 an10 cd10 ct10),sl10⟩)
    (c10 : codeIn K cd10 "cut_parts" = true)
    (k10 : keepIn K (.ref f10) = true)
    (a11 : nsIn K mainGlobals "cuts_of" = some (some (.ref f11)))
    (l11 : K.lookup f11 = some ⟨oc11,od11,.func (fnOf "cuts_of" "cuts_of" (defArgs sCutsOf) (defBody sCutsOf) (defScope sCutsOf) .none kV11 dc11 pm11 an11 cd11 ct11),sl11⟩)
    (c11 : codeIn K cd11 "cuts_of" = true)
    (k11 : keepIn K (.ref f11) = true)
    (a12 : nsIn K mainGlobals "best_leaf" = some (some (.ref f12)))
    (l12 : K.lookup f12 = some ⟨oc12,od12,.func (fnOf "best_leaf" "best_leaf" (defArgs sBestLeaf) (defBody sBestLeaf) (defScope sBestLeaf) .none kV12 dc12 pm12 an12 cd12 ct12),sl12⟩)
    (c12 : codeIn K cd12 "best_leaf" = true)
    (k12 : keepIn K (.ref f12) = true)
    (a13 : nsIn K mainGlobals "best_step" = some (some (.ref f13)))
    (l13 : K.lookup f13 = some ⟨oc13,od13,.func (fnOf "best_step" "best_step" (defArgs sBestStep) (defBody sBestStep) (defScope sBestStep) .none kV13 dc13 pm13 an13 cd13 ct13),sl13⟩)
    (c13 : codeIn K cd13 "best_step" = true)
    (k13 : keepIn K (.ref f13) = true)
    (a14 : nsIn K mainGlobals "tree_by_steps" = some (some (.ref f14)))
    (l14 : K.lookup f14 = some ⟨oc14,od14,.func (fnOf "tree_by_steps" "tree_by_steps" (defArgs sTreeBySteps) (defBody sTreeBySteps) (defScope sTreeBySteps) .none kV14 dc14 pm14 an14 cd14 ct14),sl14⟩)
    (c14 : codeIn K cd14 "tree_by_steps" = true)
    (k14 : keepIn K (.ref f14) = true)
    (a15 : nsIn K mainGlobals "best_of" = some (some (.ref f15)))
    (l15 : K.lookup f15 = some ⟨oc15,od15,.func (fnOf "best_of" "best_of" (defArgs sBestOf) (defBody sBestOf) (defScope sBestOf) .none kV15 dc15 pm15 an15 cd15 ct15),sl15⟩)
    (c15 : codeIn K cd15 "best_of" = true)
    (k15 : keepIn K (.ref f15) = true)
    (a16 : nsIn K mainGlobals "cuts_by_turns" = some (some (.ref f16)))
    (l16 : K.lookup f16 = some ⟨oc16,od16,.func (fnOf "cuts_by_turns" "cuts_by_turns" (defArgs sCutsByTurns) (defBody sCutsByTurns) (defScope sCutsByTurns) .none kV16 dc16 pm16 an16 cd16 ct16),sl16⟩)
    (c16 : codeIn K cd16 "cuts_by_turns" = true)
    (k16 : keepIn K (.ref f16) = true)
    (a17 : nsIn K mainGlobals "best_by_turns" = some (some (.ref f17)))
    (l17 : K.lookup f17 = some ⟨oc17,od17,.func (fnOf "best_by_turns" "best_by_turns" (defArgs sBestByTurns) (defBody sBestByTurns) (defScope sBestByTurns) .none kV17 dc17 pm17 an17 cd17 ct17),sl17⟩)
    (c17 : codeIn K cd17 "best_by_turns" = true)
    (k17 : keepIn K (.ref f17) = true)
    (a18 : nsIn K mainGlobals "_law_pot" = some (some (.ref f18)))
    (l18 : K.lookup f18 = some ⟨oc18,od18,.func (fnOf "_law_pot" "_law_pot" (defArgs sPot) (defBody sPot) (defScope sPot) .none kV18 dc18 pm18 an18 cd18 ct18),sl18⟩)
    (c18 : codeIn K cd18 "_law_pot" = true)
    (k18 : keepIn K (.ref f18) = true)
    (a19 : nsIn K mainGlobals "_law_draw" = some (some (.ref f19)))
    (l19 : K.lookup f19 = some ⟨oc19,od19,.func (fnOf "_law_draw" "_law_draw" (defArgs sDraw) (defBody sDraw) (defScope sDraw) .none kV19 dc19 pm19 an19 cd19 ct19),sl19⟩)
    (c19 : codeIn K cd19 "_law_draw" = true)
    (k19 : keepIn K (.ref f19) = true)
    (a20 : nsIn K mainGlobals "_law_great" = some (some (.ref f20)))
    (l20 : K.lookup f20 = some ⟨oc20,od20,.func (fnOf "_law_great" "_law_great" (defArgs sGreat) (defBody sGreat) (defScope sGreat) .none kV20 dc20 pm20 an20 cd20 ct20),sl20⟩)
    (c20 : codeIn K cd20 "_law_great" = true)
    (k20 : keepIn K (.ref f20) = true)
    (a21 : nsIn K mainGlobals "_law_side" = some (some (.ref f21)))
    (l21 : K.lookup f21 = some ⟨oc21,od21,.func (fnOf "_law_side" "_law_side" (defArgs sSide) (defBody sSide) (defScope sSide) .none kV21 dc21 pm21 an21 cd21 ct21),sl21⟩)
    (c21 : codeIn K cd21 "_law_side" = true)
    (k21 : keepIn K (.ref f21) = true)
    (a22 : nsIn K mainGlobals "_law_kinds" = some (some (.ref f22)))
    (l22 : K.lookup f22 = some ⟨oc22,od22,.func (fnOf "_law_kinds" "_law_kinds" (defArgs sKinds) (defBody sKinds) (defScope sKinds) .none kV22 dc22 pm22 an22 cd22 ct22),sl22⟩)
    (c22 : codeIn K cd22 "_law_kinds" = true)
    (k22 : keepIn K (.ref f22) = true)
    (a23 : nsIn K mainGlobals "_law_whole" = some (some (.ref f23)))
    (l23 : K.lookup f23 = some ⟨oc23,od23,.func (fnOf "_law_whole" "_law_whole" (defArgs sLWhole) (defBody sLWhole) (defScope sLWhole) .none kV23 dc23 pm23 an23 cd23 ct23),sl23⟩)
    (c23 : codeIn K cd23 "_law_whole" = true)
    (k23 : keepIn K (.ref f23) = true)
    (a24 : nsIn K mainGlobals "_law_piece_worth" = some (some (.ref f24)))
    (l24 : K.lookup f24 = some ⟨oc24,od24,.func (fnOf "_law_piece_worth" "_law_piece_worth" (defArgs sPieceWorth) (defBody sPieceWorth) (defScope sPieceWorth) .none kV24 dc24 pm24 an24 cd24 ct24),sl24⟩)
    (c24 : codeIn K cd24 "_law_piece_worth" = true)
    (k24 : keepIn K (.ref f24) = true)
    (a25 : nsIn K mainGlobals "_law_worth" = some (some (.ref f25)))
    (l25 : K.lookup f25 = some ⟨oc25,od25,.func (fnOf "_law_worth" "_law_worth" (defArgs sWorth) (defBody sWorth) (defScope sWorth) .none kV25 dc25 pm25 an25 cd25 ct25),sl25⟩)
    (c25 : codeIn K cd25 "_law_worth" = true)
    (k25 : keepIn K (.ref f25) = true)
    (a26 : nsIn K mainGlobals "_law_told" = some (some (.ref f26)))
    (l26 : K.lookup f26 = some ⟨oc26,od26,.func (fnOf "_law_told" "_law_told" (defArgs sTold) (defBody sTold) (defScope sTold) .none kV26 dc26 pm26 an26 cd26 ct26),sl26⟩)
    (c26 : codeIn K cd26 "_law_told" = true)
    (k26 : keepIn K (.ref f26) = true)
    (a27 : nsIn K mainGlobals "_law_right" = some (some (.ref f27)))
    (l27 : K.lookup f27 = some ⟨oc27,od27,.func (fnOf "_law_right" "_law_right" (defArgs sRight) (defBody sRight) (defScope sRight) .none kV27 dc27 pm27 an27 cd27 ct27),sl27⟩)
    (c27 : codeIn K cd27 "_law_right" = true)
    (k27 : keepIn K (.ref f27) = true)
    (a28 : nsIn K mainGlobals "law" = some (some (.ref f28)))
    (l28 : K.lookup f28 = some ⟨oc28,od28,.func (fnOf "law" "law" (defArgs sLaw) (defBody sLaw) (defScope sLaw) .none kV28 dc28 pm28 an28 cd28 ct28),sl28⟩)
    (c28 : codeIn K cd28 "law" = true)
    (k28 : keepIn K (.ref f28) = true)
    (aC : nsIn K mainGlobals "Shop" = some (some (.ref C)))
    (am0 : findIn K (.ref C) "__init__" = some (some (.ref fm0)))
    (im0 : isFn K (.ref fm0) = true)
    (lm0 : K.lookup fm0 = some ⟨ocm0,odm0,.func (fnOf "__init__" "Shop.__init__" (defArgs sShopInit) (defBody sShopInit) (defScope sShopInit) .none kVm0 dcm0 pmm0 anm0 cdm0 ctm0),slm0⟩)
    (cm0 : codeIn K cdm0 "Shop.__init__" = true)
    (km0 : keepIn K (.ref fm0) = true)
    (am1 : findIn K (.ref C) "blade" = some (some (.ref fm1)))
    (im1 : isFn K (.ref fm1) = true)
    (lm1 : K.lookup fm1 = some ⟨ocm1,odm1,.func (fnOf "blade" "Shop.blade" (defArgs sShopBlade) (defBody sShopBlade) (defScope sShopBlade) .none kVm1 dcm1 pmm1 anm1 cdm1 ctm1),slm1⟩)
    (cm1 : codeIn K cdm1 "Shop.blade" = true)
    (km1 : keepIn K (.ref fm1) = true)
    (am2 : findIn K (.ref C) "kinds" = some (some (.ref fm2)))
    (im2 : isFn K (.ref fm2) = true)
    (lm2 : K.lookup fm2 = some ⟨ocm2,odm2,.func (fnOf "kinds" "Shop.kinds" (defArgs sShopKinds) (defBody sShopKinds) (defScope sShopKinds) .none kVm2 dcm2 pmm2 anm2 cdm2 ctm2),slm2⟩)
    (cm2 : codeIn K cdm2 "Shop.kinds" = true)
    (km2 : keepIn K (.ref fm2) = true)
    (am3 : findIn K (.ref C) "lyings" = some (some (.ref fm3)))
    (im3 : isFn K (.ref fm3) = true)
    (lm3 : K.lookup fm3 = some ⟨ocm3,odm3,.func (fnOf "lyings" "Shop.lyings" (defArgs sShopLyings) (defBody sShopLyings) (defScope sShopLyings) .none kVm3 dcm3 pmm3 anm3 cdm3 ctm3),slm3⟩)
    (cm3 : codeIn K cdm3 "Shop.lyings" = true)
    (km3 : keepIn K (.ref fm3) = true)
    (am4 : findIn K (.ref C) "is_lying" = some (some (.ref fm4)))
    (im4 : isFn K (.ref fm4) = true)
    (lm4 : K.lookup fm4 = some ⟨ocm4,odm4,.func (fnOf "is_lying" "Shop.is_lying" (defArgs sShopIsLying) (defBody sShopIsLying) (defScope sShopIsLying) .none kVm4 dcm4 pmm4 anm4 cdm4 ctm4),slm4⟩)
    (cm4 : codeIn K cdm4 "Shop.is_lying" = true)
    (km4 : keepIn K (.ref fm4) = true)
    (am5 : findIn K (.ref C) "sides" = some (some (.ref fm5)))
    (im5 : isFn K (.ref fm5) = true)
    (lm5 : K.lookup fm5 = some ⟨ocm5,odm5,.func (fnOf "sides" "Shop.sides" (defArgs sShopSides) (defBody sShopSides) (defScope sShopSides) .none kVm5 dcm5 pmm5 anm5 cdm5 ctm5),slm5⟩)
    (cm5 : codeIn K cdm5 "Shop.sides" = true)
    (km5 : keepIn K (.ref fm5) = true)
    (pg : plainGet K C Str.empty = true)
    (hd : hasDictIn K C = true)
    (po : plainOver K C = true)
    (sa : findIn K (.ref C) "__setattr__" = some (some (.builtin "object.__setattr__")))
    (mk : makesIn K C = true)
    (kc : keepIn K (.ref C) = true)
    (n0 : findIn K (.ref C) "blade_width" = some none)
    (n1 : findIn K (.ref C) "kind_rows" = some none)
    (eNoLying : nsIn K mainGlobals "NoLying" = some (some (.ref xNoLying)))
    (eWAYS : nsIn K mainGlobals "WAYS" = some (some (.ref xWAYS)))
    (cNoLying : excIn K xNoLying L2.bmVE "ValueError.__new__" = true)
    (lWAYS : ∃ (o : Obj) (its : Array Value) (n : Nat),K.lookup xWAYS = some o ∧ o.cls = .type "tuple" ∧ o.data = .seq its n ∧ its.size ≤ sizeLine ∧ Vals [.str "down",.str "across"] its.toList)
    (z0 : nsIn K mainGlobals "isinstance" = some none)
    (z1 : nsIn K mainGlobals "int" = some none)
    (z2 : nsIn K mainGlobals "bool" = some none)
    (z3 : nsIn K mainGlobals "list" = some none)
    (z4 : nsIn K mainGlobals "tuple" = some none)
    (z5 : nsIn K mainGlobals "len" = some none)
    (z6 : nsIn K mainGlobals "range" = some none)
    (z7 : nsIn K mainGlobals "max" = some none)
    (z8 : nsIn K mainGlobals "min" = some none)
    (z9 : nsIn K mainGlobals "abs" = some none)
    (z10 : nsIn K mainGlobals "divmod" = some none)
    (z11 : nsIn K mainGlobals "sum" = some none)
    (z12 : nsIn K mainGlobals "sorted" = some none)
    (z13 : nsIn K mainGlobals "all" = some none)
    (z14 : nsIn K mainGlobals "repr" = some none)
    (z15 : nsIn K mainGlobals "zip" = some none)
    (z16 : nsIn K mainGlobals "enumerate" = some none)
    (z17 : nsIn K mainGlobals "str" = some none)
    (uc0 : nsIn K mainGlobals "MOST_KINDS" = some (some (.int 8 tc0)))
    (uc1 : nsIn K mainGlobals "THINGS_OF_A_KIND" = some (some (.int 5 tc1)))
    (uc2 : nsIn K mainGlobals "DOWN" = some (some (.str "down" tc2)))
    (uc3 : nsIn K mainGlobals "REST" = some (some (.str "rest" tc3)))
    (uc4 : nsIn K mainGlobals "PIECE" = some (some (.str "piece" tc4)))
    (uc5 : nsIn K mainGlobals "ACROSS" = some (some (.str "across" tc5)))
    (uc6 : nsIn K mainGlobals "MOST_SIDE" = some (some (.int 16 tc6)))
    (uc7 : nsIn K mainGlobals "MOST_TURNS" = some (some (.int 32 tc7))) :
    ∃ fd : FuncData,(∀ (s : Shared) (v : Value),BindsTo s fd ⟨[v],[]⟩ [("_law_script",v)]) ∧ ∀ base : Heap,K.In base → base.Ns mainGlobals mg → FnOk l.prog w K mg base CX0 40 fa fd ["_law_script"] (spLaw K) := by
  have e := hfa.symm.trans (mg_of X G a28)
  cases e
  have F0 := fun_mk (st := sWhole) l0 c0 k0
  have b0 := F0.binds (ps := ["thing","least"]) fun _ _ _ _ _ _ us hl => by obtain ⟨_,_,rfl⟩ := len2 hl; rfl
  have F1 := fun_mk (st := sTruth) l1 c1 k1
  have b1 := F1.binds (ps := ["thing"]) fun _ _ _ _ _ _ us hl => by obtain ⟨_,rfl⟩ := len1 hl; rfl
  have F2 := fun_mk (st := sRow) l2 c2 k2
  have b2 := F2.binds (ps := ["thing"]) fun _ _ _ _ _ _ us hl => by obtain ⟨_,rfl⟩ := len1 hl; rfl
  have F3 := fun_mk (st := sIsKind) l3 c3 k3
  have b3 := F3.binds (ps := ["thing"]) fun _ _ _ _ _ _ us hl => by obtain ⟨_,rfl⟩ := len1 hl; rfl
  have F4 := fun_mk (st := sTurned) l4 c4 k4
  have b4 := F4.binds (ps := ["kind"]) fun _ _ _ _ _ _ us hl => by obtain ⟨_,rfl⟩ := len1 hl; rfl
  have F5 := fun_mk (st := sCheckPlate) l5 c5 k5
  have b5 := F5.binds (ps := ["wide","high"]) fun _ _ _ _ _ _ us hl => by obtain ⟨_,_,rfl⟩ := len2 hl; rfl
  have F6 := fun_mk (st := sCheckSides) l6 c6 k6
  have b6 := F6.binds (ps := ["wide","high","most"]) fun _ _ _ _ _ _ us hl => by obtain ⟨_,_,_,rfl⟩ := len3 hl; rfl
  have F7 := fun_mk (st := sLiesIn) l7 c7 k7
  have b7 := F7.binds (ps := ["shop","wide","high","kind","turned","x","y"]) fun _ _ _ _ _ _ us hl => by obtain ⟨_,_,_,_,_,_,_,rfl⟩ := len7 hl; rfl
  have F8 := fun_mk (st := sLyingsIn) l8 c8 k8
  have b8 := F8.binds (ps := ["shop","part"]) fun _ _ _ _ _ _ us hl => by obtain ⟨_,_,rfl⟩ := len2 hl; rfl
  have F9 := fun_mk (st := sPartsUpTo) l9 c9 k9
  have b9 := F9.binds (ps := ["wide","high"]) fun _ _ _ _ _ _ us hl => by obtain ⟨_,_,rfl⟩ := len2 hl; rfl
  have F10 := fun_mk (st := sCutParts) l10 c10 k10
  have b10 := F10.binds (ps := ["blade","part","way","p"]) fun _ _ _ _ _ _ us hl => by obtain ⟨_,_,_,_,rfl⟩ := len4 hl; rfl
  have F11 := fun_mk (st := sCutsOf) l11 c11 k11
  have b11 := F11.binds (ps := ["blade","part"]) fun _ _ _ _ _ _ us hl => by obtain ⟨_,_,rfl⟩ := len2 hl; rfl
  have F12 := fun_mk (st := sBestLeaf) l12 c12 k12
  have b12 := F12.binds (ps := ["shop","part"]) fun _ _ _ _ _ _ us hl => by obtain ⟨_,_,rfl⟩ := len2 hl; rfl
  have F13 := fun_mk (st := sBestStep) l13 c13 k13
  have b13 := F13.binds (ps := ["leaf_found","cuts","worths"]) fun _ _ _ _ _ _ us hl => by obtain ⟨_,_,_,rfl⟩ := len3 hl; rfl
  have F14 := fun_mk (st := sTreeBySteps) l14 c14 k14
  have b14 := F14.binds (ps := ["steps","key"]) fun _ _ _ _ _ _ us hl => by obtain ⟨_,_,rfl⟩ := len2 hl; rfl
  have F15 := fun_mk (st := sBestOf) l15 c15 k15
  have b15 := F15.binds (ps := ["shop","wide","high"]) fun _ _ _ _ _ _ us hl => by obtain ⟨_,_,_,rfl⟩ := len3 hl; rfl
  have F16 := fun_mk (st := sCutsByTurns) l16 c16 k16
  have b16 := F16.binds (ps := ["cuts","way_ahead","left"]) fun _ _ _ _ _ _ us hl => by obtain ⟨_,_,_,rfl⟩ := len3 hl; rfl
  have F17 := fun_mk (st := sBestByTurns) l17 c17 k17
  have b17 := F17.binds (ps := ["shop","wide","high","k"]) fun _ _ _ _ _ _ us hl => by obtain ⟨_,_,_,_,rfl⟩ := len4 hl; rfl
  have F18 := fun_mk (st := sPot) l18 c18 k18
  have b18 := F18.binds (ps := ["_law_cell"]) fun _ _ _ _ _ _ us hl => by obtain ⟨_,rfl⟩ := len1 hl; rfl
  have F19 := fun_mk (st := sDraw) l19 c19 k19
  have b19 := F19.binds (ps := ["_law_pot_here","_law_many"]) fun _ _ _ _ _ _ us hl => by obtain ⟨_,_,rfl⟩ := len2 hl; rfl
  have F20 := fun_mk (st := sGreat) l20 c20 k20
  have b20 := F20.binds (ps := ["_law_pot_here","_law_many"]) fun _ _ _ _ _ _ us hl => by obtain ⟨_,_,rfl⟩ := len2 hl; rfl
  have F21 := fun_mk (st := sSide) l21 c21 k21
  have b21 := F21.binds (ps := ["_law_pot_here"]) fun _ _ _ _ _ _ us hl => by obtain ⟨_,rfl⟩ := len1 hl; rfl
  have F22 := fun_mk (st := sKinds) l22 c22 k22
  have b22 := F22.binds (ps := ["_law_pot_here"]) fun _ _ _ _ _ _ us hl => by obtain ⟨_,rfl⟩ := len1 hl; rfl
  have F23 := fun_mk (st := sLWhole) l23 c23 k23
  have b23 := F23.binds (ps := ["_law_number","_law_least"]) fun _ _ _ _ _ _ us hl => by obtain ⟨_,_,rfl⟩ := len2 hl; rfl
  have F24 := fun_mk (st := sPieceWorth) l24 c24 k24
  have b24 := F24.binds (ps := ["_law_kinds_here","_law_wide","_law_high","_law_tree"]) fun _ _ _ _ _ _ us hl => by obtain ⟨_,_,_,_,rfl⟩ := len4 hl; rfl
  have F25 := fun_mk (st := sWorth) l25 c25 k25
  have b25 := F25.binds (ps := ["_law_blade","_law_kinds_here","_law_part","_law_tree","_law_last","_law_left"]) fun _ _ _ _ _ _ us hl => by obtain ⟨_,_,_,_,_,_,rfl⟩ := len6 hl; rfl
  have F26 := fun_mk (st := sTold) l26 c26 k26
  have b26 := F26.binds (ps := ["_law_shop","_law_blade","_law_kinds_here","_law_plate","_law_k"]) fun _ _ _ _ _ _ us hl => by obtain ⟨_,_,_,_,_,rfl⟩ := len5 hl; rfl
  have F27 := fun_mk (st := sRight) l27 c27 k27
  have b27 := F27.binds (ps := ["_law_pot_here"]) fun _ _ _ _ _ _ us hl => by obtain ⟨_,rfl⟩ := len1 hl; rfl
  have F28 := fun_mk (st := sLaw) l28 c28 k28
  have b28 := F28.binds (ps := ["_law_script"]) fun _ _ _ _ _ _ us hl => by obtain ⟨_,rfl⟩ := len1 hl; rfl
  have Fm0 := fun_mk (st := sShopInit) lm0 cm0 km0
  have bm0 := Fm0.binds (ps := ["self","blade","kinds"]) fun _ _ _ _ _ _ us hl => by obtain ⟨_,_,_,rfl⟩ := len3 hl; rfl
  have Fm1 := fun_mk (st := sShopBlade) lm1 cm1 km1
  have bm1 := Fm1.binds (ps := ["self"]) fun _ _ _ _ _ _ us hl => by obtain ⟨_,rfl⟩ := len1 hl; rfl
  have Fm2 := fun_mk (st := sShopKinds) lm2 cm2 km2
  have bm2 := Fm2.binds (ps := ["self"]) fun _ _ _ _ _ _ us hl => by obtain ⟨_,rfl⟩ := len1 hl; rfl
  have Fm3 := fun_mk (st := sShopLyings) lm3 cm3 km3
  have bm3 := Fm3.binds (ps := ["self"]) fun _ _ _ _ _ _ us hl => by obtain ⟨_,rfl⟩ := len1 hl; rfl
  have Fm4 := fun_mk (st := sShopIsLying) lm4 cm4 km4
  have bm4 := Fm4.binds (ps := ["self","kind","turned"]) fun _ _ _ _ _ _ us hl => by obtain ⟨_,_,_,rfl⟩ := len3 hl; rfl
  have Fm5 := fun_mk (st := sShopSides) lm5 cm5 km5
  have bm5 := Fm5.binds (ps := ["self","kind","turned"]) fun _ _ _ _ _ _ us hl => by obtain ⟨_,_,_,rfl⟩ := len3 hl; rfl
  have y0 := mg_none_of X G z0
  have y1 := mg_none_of X G z1
  have y2 := mg_none_of X G z2
  have y3 := mg_none_of X G z3
  have y4 := mg_none_of X G z4
  have y5 := mg_none_of X G z5
  have y6 := mg_none_of X G z6
  have y7 := mg_none_of X G z7
  have y8 := mg_none_of X G z8
  have y9 := mg_none_of X G z9
  have y10 := mg_none_of X G z10
  have y11 := mg_none_of X G z11
  have y12 := mg_none_of X G z12
  have y13 := mg_none_of X G z13
  have y14 := mg_none_of X G z14
  have y15 := mg_none_of X G z15
  have y16 := mg_none_of X G z16
  have y17 := mg_none_of X G z17
  have gNoLying := mg_of X G eNoLying
  have gWAYS := mg_of X G eWAYS
  have u0 := mg_of X G uc0
  have u1 := mg_of X G uc1
  have u2 := mg_of X G uc2
  have u3 := mg_of X G uc3
  have u4 := mg_of X G uc4
  have u5 := mg_of X G uc5
  have u6 := mg_of X G uc6
  have u7 := mg_of X G uc7
  have q0 := mg_of X G a0
  have q1 := mg_of X G a1
  have q2 := mg_of X G a2
  have q3 := mg_of X G a3
  have q4 := mg_of X G a4
  have q5 := mg_of X G a5
  have q6 := mg_of X G a6
  have q7 := mg_of X G a7
  have q8 := mg_of X G a8
  have q9 := mg_of X G a9
  have q10 := mg_of X G a10
  have q11 := mg_of X G a11
  have q12 := mg_of X G a12
  have q13 := mg_of X G a13
  have q14 := mg_of X G a14
  have q15 := mg_of X G a15
  have q16 := mg_of X G a16
  have q17 := mg_of X G a17
  have q18 := mg_of X G a18
  have q19 := mg_of X G a19
  have q20 := mg_of X G a20
  have q21 := mg_of X G a21
  have q22 := mg_of X G a22
  have q23 := mg_of X G a23
  have q24 := mg_of X G a24
  have q25 := mg_of X G a25
  have q26 := mg_of X G a26
  have q27 := mg_of X G a27
  have q28 := mg_of X G a28
  have qC := mg_of X G aC
  refine ⟨fnOf "law" "law" (defArgs sLaw) (defBody sLaw) (defScope sLaw) .none kV28 dc28 pm28 an28 cd28 ct28,fun s v => .of_eq rfl,fun base _ _ => ?_⟩
  have B : Blt mg := ⟨y0,y1,y2,y3,y4,y5,y6,y7,y8,y9,y10,y11,y12,y13,y14,y15,y16,⟨_,u0⟩,⟨_,u1⟩⟩
  have T : ShopTxt K C := ⟨⟨pg,hd,po,sa⟩,n0,n1⟩
  have Z : BeC K mg xWAYS := ⟨⟨_,u2⟩,⟨_,u3⟩,⟨_,u4⟩,⟨_,u5⟩,⟨_,u6⟩,gWAYS,fun H => .inr lWAYS⟩
  have D0 : Dn l.prog w K mg base "is_whole" ["thing","least"] 1 (spWhole K) := ⟨_,_,ok_whole F0 B,b0,k0,q0⟩
  have D1 : Dn l.prog w K mg base "is_truth" ["thing"] 1 (spTruth K) := ⟨_,_,ok_truth F1 B,b1,k1,q1⟩
  have D2 : Dn l.prog w K mg base "is_row" ["thing"] 1 (spRow K) := ⟨_,_,ok_row F2 B,b2,k2,q2⟩
  have D3 : Dn l.prog w K mg base "is_kind" ["thing"] 2 (spIsKind K) := ⟨_,_,ok_iskind F3 B D0 D1 D2,b3,k3,q3⟩
  have D4 : Dn l.prog w K mg base "can_lie_turned" ["kind"] 1 (spTurned K) := ⟨_,_,ok_turned F4,b4,k4,q4⟩
  have MB : Mn l.prog w K mg base C "blade" ["self"] 1 (spBlade C) := ⟨_,_,ok_blade Fm1 T,bm1,⟨am1,im1,km1⟩⟩
  have MK : Mn l.prog w K mg base C "kinds" ["self"] 1 (spKinds C) := ⟨_,_,ok_kinds Fm2 T y3,bm2,⟨am2,im2,km2⟩⟩
  have ML : Mn l.prog w K mg base C "lyings" ["self"] 2 (spLyings C) := ⟨_,_,ok_lyings Fm3 T y16 D4,bm3,⟨am3,im3,km3⟩⟩
  have MI : Mn l.prog w K mg base C "is_lying" ["self","kind","turned"] 2 (spIsLying K C) := ⟨_,_,ok_islying Fm4 B T D0 D1 D4,bm4,⟨am4,im4,km4⟩⟩
  have MS : MnX l.prog w K mg base C "sides" ["self","kind","turned"] 3 (spSides K C xNoLying) := ⟨_,_,ok_sides Fm5 T MI gNoLying cNoLying,bm5,⟨am5,im5,km5⟩⟩
  have DS : Kn l.prog w K mg base "Shop" C ["self","blade","kinds"] 3 (spInit C) := ⟨_,_,⟨mk,am0,im0,kc⟩,ok_init Fm0 B T D0 D2 D3,bm0,qC⟩
  have D5 : Dn l.prog w K mg base "check_plate" ["wide","high"] 2 (spCP) := ⟨_,_,ok_cplate F5 D0,b5,k5,q5⟩
  have D6 : Dn l.prog w K mg base "check_sides" ["wide","high","most"] 1 (spCS) := ⟨_,_,ok_csides F6,b6,k6,q6⟩
  have D7 : Dn l.prog w K mg base "lies_in" ["shop","wide","high","kind","turned","x","y"] 4 (spLies C) := ⟨_,_,ok_lies F7 T D0 MI MS,b7,k7,q7⟩
  have D8 : Dn l.prog w K mg base "lyings_in" ["shop","part"] 5 (spLyIn C) := ⟨_,_,ok_lyin F8 T ML D7,b8,k8,q8⟩
  have D9 : Dn l.prog w K mg base "parts_up_to" ["wide","high"] 1 (spParts) := ⟨_,_,ok_parts F9 B,b9,k9,q9⟩
  have D10 : Dn l.prog w K mg base "cut_parts" ["blade","part","way","p"] 1 (spParts2) := ⟨_,_,ok_parts2 F10 Z,b10,k10,q10⟩
  have D11 : Dn l.prog w K mg base "cuts_of" ["blade","part"] 2 (spCuts) := ⟨_,_,ok_cuts F11 B Z D10,b11,k11,q11⟩
  have D12 : Dn l.prog w K mg base "best_leaf" ["shop","part"] 6 (spBLeaf C) := ⟨_,_,ok_bleaf F12 Z T MK D8,b12,k12,q12⟩
  have D13 : Dn l.prog w K mg base "best_step" ["leaf_found","cuts","worths"] 1 (spStep) := ⟨_,_,ok_bstep F13,b13,k13,q13⟩
  have D14 : Dn l.prog w K mg base "tree_by_steps" ["steps","key"] 34 (spTBS 33) := ⟨_,_,ok_tbsN F14 Z (fun n h => ⟨_,_,h,b14,k14,q14⟩) 33,b14,k14,q14⟩
  have D15 : Dn l.prog w K mg base "best_of" ["shop","wide","high"] 35 (spBestOf C) := ⟨_,_,ok_bestof F15 Z T MB D5 D6 D9 D11 D12 D13 D14,b15,k15,q15⟩
  have D16 : Dn l.prog w K mg base "cuts_by_turns" ["cuts","way_ahead","left"] 1 (spCbt) := ⟨_,_,ok_cbt F16,b16,k16,q16⟩
  have D13 : Dn l.prog w K mg base "best_step" ["leaf_found","cuts","worths"] 1 (spStepN l.prog w) := ⟨_,_,ok_bstepn F13,b13,k13,q13⟩
  have D14 : Dn l.prog w K mg base "tree_by_steps" ["steps","key"] 34 (spTBSN l.prog w 33) := ⟨_,_,ok_tbsnN F14 Z (fun n h => ⟨_,_,h,b14,k14,q14⟩) 33,b14,k14,q14⟩
  have D17 : Dn l.prog w K mg base "best_by_turns" ["shop","wide","high","k"] 35 (spByT C) := ⟨_,_,ok_byt F17 Z B ⟨_,u7⟩ T MB D0 D5 D6 D9 D11 D12 D16 D13 D14,b17,k17,q17⟩
  have D18 : Dn l.prog w K mg base "_law_pot" ["_law_cell"] 1 (spPotB) := ⟨_,_,ok_pot F18 B,b18,k18,q18⟩
  have D19 : Dn l.prog w K mg base "_law_draw" ["_law_pot_here","_law_many"] 1 (spDrawB) := ⟨_,_,ok_draw F19 B,b19,k19,q19⟩
  have D20 : Dn l.prog w K mg base "_law_great" ["_law_pot_here","_law_many"] 2 (spGreatM) := ⟨_,_,ok_greatm F20 B D19,b20,k20,q20⟩
  have D21 : Dn l.prog w K mg base "_law_side" ["_law_pot_here"] 3 (spSideB) := ⟨_,_,ok_sided F21 B D19 D20,b21,k21,q21⟩
  have D22 : Dn l.prog w K mg base "_law_kinds" ["_law_pot_here"] 4 (spKindsB) := ⟨_,_,ok_kindsd F22 B D19 D20 D21,b22,k22,q22⟩
  have D23 : Dn l.prog w K mg base "_law_whole" ["_law_number","_law_least"] 1 (spWholeL) := ⟨_,_,ok_wholel F23 B,b23,k23,q23⟩
  have D24 : Dn l.prog w K mg base "_law_piece_worth" ["_law_kinds_here","_law_wide","_law_high","_law_tree"] 2 (spPieceW) := ⟨_,_,ok_piecew F24 B D23,b24,k24,q24⟩
  have D25 : Dn l.prog w K mg base "_law_worth" ["_law_blade","_law_kinds_here","_law_part","_law_tree","_law_last","_law_left"] 37 (spWorthL 34) := ⟨_,_,ok_worthlN F25 B y17 D23 D24 (fun n h => ⟨_,_,h,b25,k25,q25⟩) 34,b25,k25,q25⟩
  have D26 : Dn l.prog w K mg base "_law_told" ["_law_shop","_law_blade","_law_kinds_here","_law_plate","_law_k"] 38 (spToldT C) := ⟨_,_,ok_told F26 B D23 D17 D25,b26,k26,q26⟩
  have D27 : Dn l.prog w K mg base "_law_right" ["_law_pot_here"] 39 (spRight) := ⟨_,_,ok_right F27 B D19 D22 D26 D15 D17 DS,b27,k27,q27⟩
  exact ok_law F28 B D18 D27
theorem walk {l : PySem.W.OpenLaw} {q : Program} {loose : List Str} {XP : (Str → Option Value) → Heap → Prop} {YP : World → Heap → Prop} {d : DefRec} {K : Params → PySem.W.Frag} (hn : l.most = some 63) (hdf : d.params.defaults = [])
    (hY : ∀ (w : World) (h : Heap),YP w h → (K w.params).In h)
    (F : ∀ (w : World) (mg : Str → Option Value) (fa : Addr) (h : Heap),(K w.params).In h → h.Ns mainGlobals mg → mg d.name = some (.ref fa) →
      ∃ fd : FuncData,(∀ (s : Shared) (u : Value),BindsTo s fd ⟨[u],[]⟩ [("_law_script",u)]) ∧ ∀ base : Heap,(K w.params).In base → base.Ns mainGlobals mg → FnOk l.prog w (K w.params) mg base CX0 40 fa fd ["_law_script"] (spLaw (K w.params))) :
    PySem.W.WalkO q loose XP YP l.row.toRowW d [] (fun f vs => PySem.call f vs) :=
  L2.walk_of (n := 63) (k := 40) (x := "_law_script") (CX := fun _ => CX0) (sp := fun w => spLaw (K w.params)) hn (by decide) hdf ⟨rfl,by decide,by decide,rfl⟩ hY F (fun _ _ a ns hl _ hS => ⟨a,ns,rfl,hS,hl,fun _ => rfl⟩) fun _ _ _ _ _ z => z
end Pc
namespace Pc
open PySem L2
section
open PySem.W
noncomputable def kE (P : Params) (n : Str) (t : Nat) (v : Value) : DictEntry := ⟨PyData.keyHash P n,.str n t,v⟩
noncomputable def kO3 (P : Params) : Obj := ⟨(.type "dict"),none,(.dict #[kE P "__name__" 165 (.str "law_platecuts_k52_whole_best_by_turns" 617),kE P "__doc__" 166 .none,kE P "__package__" 167 .none,kE P "__loader__" 168 (.builtin "__main__.__loader__#opaque"),kE P "__spec__" 169 .none,kE P "__annotations__" 170 (.ref 6),kE P "__builtins__" 171 (.ref 4),kE P "__file__" 173 (.str "/claim/cut.py" 172),kE P "__cached__" 174 .none,kE P "PlateError" 206 (.ref 24),kE P "NoBlade" 222 (.ref 37),kE P "NoKinds" 238 (.ref 49),kE P "NoKind" 254 (.ref 61),kE P "NoLying" 270 (.ref 73),kE P "NoPlate" 286 (.ref 85),kE P "TooLarge" 302 (.ref 97),kE P "NoNumber" 318 (.ref 109),kE P "is_whole" 328 (.ref 118),kE P "is_truth" 335 (.ref 125),kE P "is_row" 342 (.ref 132),kE P "check_plate" 350 (.ref 139),kE P "check_sides" 359 (.ref 146),kE P "DOWN" 363 (.str "down" 362),kE P "ACROSS" 365 (.str "across" 364),kE P "WAYS" 366 (.ref 147),kE P "lies_in" 381 (.ref 154),kE P "lyings_in" 387 (.ref 159),kE P "cut_parts" 399 (.ref 166),kE P "cuts_of" 405 (.ref 171),kE P "parts_up_to" 411 (.ref 176),kE P "REST" 413 (.str "rest" 412),kE P "PIECE" 415 (.str "piece" 414),kE P "MOST_SIDE" 419 (.int (16) 418),kE P "best_leaf" 432 (.ref 183),kE P "best_step" 445 (.ref 190),kE P "tree_by_steps" 458 (.ref 197),kE P "best_of" 474 (.ref 204),kE P "MOST_TURNS" 478 (.int (32) 477),kE P "cuts_by_turns" 493 (.ref 211),kE P "best_by_turns" 514 (.ref 218),kE P "MOST_KINDS" 518 (.int (8) 517),kE P "THINGS_OF_A_KIND" 520 (.int (5) 519),kE P "is_kind" 532 (.ref 225),kE P "can_lie_turned" 539 (.ref 232),kE P "Shop" 616 (.ref 287),kE P "_law_pot" 625 (.ref 298),kE P "_law_draw" 634 (.ref 305),kE P "_law_great" 644 (.ref 312),kE P "_law_side" 651 (.ref 319),kE P "_law_kinds" 663 (.ref 326),kE P "_law_whole" 671 (.ref 333),kE P "_law_piece_worth" 686 (.ref 340),kE P "_law_worth" 692 (.ref 345),kE P "_law_told" 704 (.ref 352),kE P "_law_right" 721 (.ref 359),kE P "law" 729 (.ref 366)] 56),#[]⟩
noncomputable def kO23 (P : Params) : Obj := ⟨(.type "dict"),none,(.dict #[kE P "__module__" 196 (.str "platecuts.errors" 187),kE P "__firstlineno__" 200 (.int (2) 199),kE P "__static_attributes__" 201 (.ref 22),kE P "__weakref__" 203 (.ref 25),kE P "__doc__" 204 .none] 3),#[]⟩
noncomputable def kO24 (P : Params) : Obj := ⟨(.type "type"),none,(.cls ⟨"PlateError",[(.type "ValueError")],[(.ref 24),(.type "ValueError"),(.type "Exception"),(.type "BaseException"),(.type "object")],23,"PlateError",true,[],[(.ref 37),(.ref 49),(.ref 61),(.ref 73),(.ref 85),(.ref 97),(.ref 109)],false,none,false⟩),#[(some (.ref 15)),none,(some (.str "PlateError" 189)),(some (.str "PlateError" 197)),(some (.builtin "ValueError.__new__")),(some (.bool true))]⟩
noncomputable def kO36 (P : Params) : Obj := ⟨(.type "dict"),none,(.dict #[kE P "__module__" 214 (.str "platecuts.errors" 187),kE P "__firstlineno__" 218 (.int (4) 217),kE P "__static_attributes__" 219 (.ref 35),kE P "__doc__" 220 .none] 2),#[]⟩
noncomputable def kO37 (P : Params) : Obj := ⟨(.type "type"),none,(.cls ⟨"NoBlade",[(.ref 24)],[(.ref 37),(.ref 24),(.type "ValueError"),(.type "Exception"),(.type "BaseException"),(.type "object")],36,"NoBlade",true,[],[],false,none,false⟩),#[(some (.ref 28)),none,(some (.str "NoBlade" 207)),(some (.str "NoBlade" 215)),(some (.builtin "ValueError.__new__")),(some (.bool true))]⟩
noncomputable def kO48 (P : Params) : Obj := ⟨(.type "dict"),none,(.dict #[kE P "__module__" 230 (.str "platecuts.errors" 187),kE P "__firstlineno__" 234 (.int (6) 233),kE P "__static_attributes__" 235 (.ref 47),kE P "__doc__" 236 .none] 2),#[]⟩
noncomputable def kO49 (P : Params) : Obj := ⟨(.type "type"),none,(.cls ⟨"NoKinds",[(.ref 24)],[(.ref 49),(.ref 24),(.type "ValueError"),(.type "Exception"),(.type "BaseException"),(.type "object")],48,"NoKinds",true,[],[],false,none,false⟩),#[(some (.ref 40)),none,(some (.str "NoKinds" 223)),(some (.str "NoKinds" 231)),(some (.builtin "ValueError.__new__")),(some (.bool true))]⟩
noncomputable def kO60 (P : Params) : Obj := ⟨(.type "dict"),none,(.dict #[kE P "__module__" 246 (.str "platecuts.errors" 187),kE P "__firstlineno__" 250 (.int (8) 249),kE P "__static_attributes__" 251 (.ref 59),kE P "__doc__" 252 .none] 2),#[]⟩
noncomputable def kO61 (P : Params) : Obj := ⟨(.type "type"),none,(.cls ⟨"NoKind",[(.ref 24)],[(.ref 61),(.ref 24),(.type "ValueError"),(.type "Exception"),(.type "BaseException"),(.type "object")],60,"NoKind",true,[],[],false,none,false⟩),#[(some (.ref 52)),none,(some (.str "NoKind" 239)),(some (.str "NoKind" 247)),(some (.builtin "ValueError.__new__")),(some (.bool true))]⟩
noncomputable def kO72 (P : Params) : Obj := ⟨(.type "dict"),none,(.dict #[kE P "__module__" 262 (.str "platecuts.errors" 187),kE P "__firstlineno__" 266 (.int (10) 265),kE P "__static_attributes__" 267 (.ref 71),kE P "__doc__" 268 .none] 2),#[]⟩
noncomputable def kO73 (P : Params) : Obj := ⟨(.type "type"),none,(.cls ⟨"NoLying",[(.ref 24)],[(.ref 73),(.ref 24),(.type "ValueError"),(.type "Exception"),(.type "BaseException"),(.type "object")],72,"NoLying",true,[],[],false,none,false⟩),#[(some (.ref 64)),none,(some (.str "NoLying" 255)),(some (.str "NoLying" 263)),(some (.builtin "ValueError.__new__")),(some (.bool true))]⟩
noncomputable def kO84 (P : Params) : Obj := ⟨(.type "dict"),none,(.dict #[kE P "__module__" 278 (.str "platecuts.errors" 187),kE P "__firstlineno__" 282 (.int (12) 281),kE P "__static_attributes__" 283 (.ref 83),kE P "__doc__" 284 .none] 2),#[]⟩
noncomputable def kO85 (P : Params) : Obj := ⟨(.type "type"),none,(.cls ⟨"NoPlate",[(.ref 24)],[(.ref 85),(.ref 24),(.type "ValueError"),(.type "Exception"),(.type "BaseException"),(.type "object")],84,"NoPlate",true,[],[],false,none,false⟩),#[(some (.ref 76)),none,(some (.str "NoPlate" 271)),(some (.str "NoPlate" 279)),(some (.builtin "ValueError.__new__")),(some (.bool true))]⟩
noncomputable def kO96 (P : Params) : Obj := ⟨(.type "dict"),none,(.dict #[kE P "__module__" 294 (.str "platecuts.errors" 187),kE P "__firstlineno__" 298 (.int (14) 297),kE P "__static_attributes__" 299 (.ref 95),kE P "__doc__" 300 .none] 2),#[]⟩
noncomputable def kO97 (P : Params) : Obj := ⟨(.type "type"),none,(.cls ⟨"TooLarge",[(.ref 24)],[(.ref 97),(.ref 24),(.type "ValueError"),(.type "Exception"),(.type "BaseException"),(.type "object")],96,"TooLarge",true,[],[],false,none,false⟩),#[(some (.ref 88)),none,(some (.str "TooLarge" 287)),(some (.str "TooLarge" 295)),(some (.builtin "ValueError.__new__")),(some (.bool true))]⟩
noncomputable def kO108 (P : Params) : Obj := ⟨(.type "dict"),none,(.dict #[kE P "__module__" 310 (.str "platecuts.errors" 187),kE P "__firstlineno__" 314 (.int (16) 313),kE P "__static_attributes__" 315 (.ref 107),kE P "__doc__" 316 .none] 2),#[]⟩
noncomputable def kO109 (P : Params) : Obj := ⟨(.type "type"),none,(.cls ⟨"NoNumber",[(.ref 24)],[(.ref 109),(.ref 24),(.type "ValueError"),(.type "Exception"),(.type "BaseException"),(.type "object")],108,"NoNumber",true,[],[],false,none,false⟩),#[(some (.ref 100)),none,(some (.str "NoNumber" 303)),(some (.str "NoNumber" 311)),(some (.builtin "ValueError.__new__")),(some (.bool true))]⟩
noncomputable def kO117 (P : Params) : Obj := ⟨(.type "code"),none,(.fields #[(.str "is_whole" 321),(.str "is_whole" 322),(.str "/claim/cut.py" 323),(.int (19) 0),(.int (2) 0),(.int (0) 0),(.int (0) 0),(.int (3) 0),(.ref 112),(.bool true),(.int (181) 0),(.ref 113),.none,(.ref 114),(.ref 115),(.ref 116),(.int (326) 0),(.int (19) 0),(.str "/claim/cut.py" 327)]),#[]⟩
noncomputable def kO118 (P : Params) : Obj := ⟨(.type "function"),none,(.func (fnOf "is_whole" "is_whole" (defArgs sWhole) (defBody sWhole) (defScope sWhole) .none .none .none (.str "platecuts.checks" 319) none (.ref 117) .none)),#[]⟩
noncomputable def kO124 (P : Params) : Obj := ⟨(.type "code"),none,(.fields #[(.str "is_truth" 329),(.str "is_truth" 330),(.str "/claim/cut.py" 331),(.int (21) 0),(.int (1) 0),(.int (0) 0),(.int (0) 0),(.int (3) 0),(.ref 119),(.bool true),(.int (181) 0),(.ref 120),.none,(.ref 121),(.ref 122),(.ref 123),(.int (333) 0),(.int (21) 0),(.str "/claim/cut.py" 334)]),#[]⟩
noncomputable def kO125 (P : Params) : Obj := ⟨(.type "function"),none,(.func (fnOf "is_truth" "is_truth" (defArgs sTruth) (defBody sTruth) (defScope sTruth) .none .none .none (.str "platecuts.checks" 319) none (.ref 124) .none)),#[]⟩
noncomputable def kO131 (P : Params) : Obj := ⟨(.type "code"),none,(.fields #[(.str "is_row" 336),(.str "is_row" 337),(.str "/claim/cut.py" 338),(.int (23) 0),(.int (1) 0),(.int (0) 0),(.int (0) 0),(.int (3) 0),(.ref 126),(.bool true),(.int (181) 0),(.ref 127),.none,(.ref 128),(.ref 129),(.ref 130),(.int (340) 0),(.int (23) 0),(.str "/claim/cut.py" 341)]),#[]⟩
noncomputable def kO132 (P : Params) : Obj := ⟨(.type "function"),none,(.func (fnOf "is_row" "is_row" (defArgs sRow) (defBody sRow) (defScope sRow) .none .none .none (.str "platecuts.checks" 319) none (.ref 131) .none)),#[]⟩
noncomputable def kO138 (P : Params) : Obj := ⟨(.type "code"),none,(.fields #[(.str "check_plate" 343),(.str "check_plate" 344),(.str "/claim/cut.py" 345),(.int (25) 0),(.int (2) 0),(.int (0) 0),(.int (0) 0),(.int (3) 0),(.ref 133),(.bool true),(.int (181) 0),(.ref 134),.none,(.ref 135),(.ref 136),(.ref 137),(.int (348) 0),(.int (25) 0),(.str "/claim/cut.py" 349)]),#[]⟩
noncomputable def kO139 (P : Params) : Obj := ⟨(.type "function"),none,(.func (fnOf "check_plate" "check_plate" (defArgs sCheckPlate) (defBody sCheckPlate) (defScope sCheckPlate) .none .none .none (.str "platecuts.checks" 319) none (.ref 138) .none)),#[]⟩
noncomputable def kO145 (P : Params) : Obj := ⟨(.type "code"),none,(.fields #[(.str "check_sides" 351),(.str "check_sides" 352),(.str "/claim/cut.py" 353),(.int (28) 0),(.int (3) 0),(.int (0) 0),(.int (0) 0),(.int (3) 0),(.ref 140),(.bool true),(.int (181) 0),(.ref 141),.none,(.ref 142),(.ref 143),(.ref 144),(.int (357) 0),(.int (28) 0),(.str "/claim/cut.py" 358)]),#[]⟩
noncomputable def kO146 (P : Params) : Obj := ⟨(.type "function"),none,(.func (fnOf "check_sides" "check_sides" (defArgs sCheckSides) (defBody sCheckSides) (defScope sCheckSides) .none .none .none (.str "platecuts.checks" 319) none (.ref 145) .none)),#[]⟩
noncomputable def kO147 (P : Params) : Obj := ⟨(.type "tuple"),none,(.seq #[(.str "down" 362),(.str "across" 364)] 0),#[]⟩
noncomputable def kO153 (P : Params) : Obj := ⟨(.type "code"),none,(.fields #[(.str "lies_in" 367),(.str "lies_in" 368),(.str "/claim/cut.py" 369),(.int (35) 0),(.int (7) 0),(.int (0) 0),(.int (0) 0),(.int (3) 0),(.ref 148),(.bool true),(.int (181) 0),(.ref 149),.none,(.ref 150),(.ref 151),(.ref 152),(.int (379) 0),(.int (35) 0),(.str "/claim/cut.py" 380)]),#[]⟩
noncomputable def kO154 (P : Params) : Obj := ⟨(.type "function"),none,(.func (fnOf "lies_in" "lies_in" (defArgs sLiesIn) (defBody sLiesIn) (defScope sLiesIn) .none .none .none (.str "platecuts.parts" 360) none (.ref 153) .none)),#[]⟩
noncomputable def kO158 (P : Params) : Obj := ⟨(.type "code"),none,(.fields #[(.str "lyings_in" 382),(.str "lyings_in" 383),(.str "/claim/cut.py" 384),(.int (40) 0),(.int (2) 0),(.int (0) 0),(.int (0) 0),(.int (3) 0),(.ref 155),(.bool true),(.int (181) 0),(.ref 156),.none,.none,.none,(.ref 157),(.int (385) 0),(.int (40) 0),(.str "/claim/cut.py" 386)]),#[]⟩
noncomputable def kO159 (P : Params) : Obj := ⟨(.type "function"),none,(.func (fnOf "lyings_in" "lyings_in" (defArgs sLyingsIn) (defBody sLyingsIn) (defScope sLyingsIn) .none .none .none (.str "platecuts.parts" 360) none (.ref 158) .none)),#[]⟩
noncomputable def kO165 (P : Params) : Obj := ⟨(.type "code"),none,(.fields #[(.str "cut_parts" 388),(.str "cut_parts" 389),(.str "/claim/cut.py" 390),(.int (43) 0),(.int (4) 0),(.int (0) 0),(.int (0) 0),(.int (3) 0),(.ref 160),(.bool true),(.int (181) 0),(.ref 161),.none,(.ref 162),(.ref 163),(.ref 164),(.int (397) 0),(.int (43) 0),(.str "/claim/cut.py" 398)]),#[]⟩
noncomputable def kO166 (P : Params) : Obj := ⟨(.type "function"),none,(.func (fnOf "cut_parts" "cut_parts" (defArgs sCutParts) (defBody sCutParts) (defScope sCutParts) .none .none .none (.str "platecuts.parts" 360) none (.ref 165) .none)),#[]⟩
noncomputable def kO170 (P : Params) : Obj := ⟨(.type "code"),none,(.fields #[(.str "cuts_of" 400),(.str "cuts_of" 401),(.str "/claim/cut.py" 402),(.int (48) 0),(.int (2) 0),(.int (0) 0),(.int (0) 0),(.int (3) 0),(.ref 167),(.bool true),(.int (181) 0),(.ref 168),.none,.none,.none,(.ref 169),(.int (403) 0),(.int (48) 0),(.str "/claim/cut.py" 404)]),#[]⟩
noncomputable def kO171 (P : Params) : Obj := ⟨(.type "function"),none,(.func (fnOf "cuts_of" "cuts_of" (defArgs sCutsOf) (defBody sCutsOf) (defScope sCutsOf) .none .none .none (.str "platecuts.parts" 360) none (.ref 170) .none)),#[]⟩
noncomputable def kO175 (P : Params) : Obj := ⟨(.type "code"),none,(.fields #[(.str "parts_up_to" 406),(.str "parts_up_to" 407),(.str "/claim/cut.py" 408),(.int (52) 0),(.int (2) 0),(.int (0) 0),(.int (0) 0),(.int (3) 0),(.ref 172),(.bool true),(.int (181) 0),(.ref 173),.none,.none,.none,(.ref 174),(.int (409) 0),(.int (52) 0),(.str "/claim/cut.py" 410)]),#[]⟩
noncomputable def kO176 (P : Params) : Obj := ⟨(.type "function"),none,(.func (fnOf "parts_up_to" "parts_up_to" (defArgs sPartsUpTo) (defBody sPartsUpTo) (defScope sPartsUpTo) .none .none .none (.str "platecuts.parts" 360) none (.ref 175) .none)),#[]⟩
noncomputable def kO182 (P : Params) : Obj := ⟨(.type "code"),none,(.fields #[(.str "best_leaf" 420),(.str "best_leaf" 421),(.str "/claim/cut.py" 422),(.int (58) 0),(.int (2) 0),(.int (0) 0),(.int (0) 0),(.int (3) 0),(.ref 177),(.bool true),(.int (181) 0),(.ref 178),.none,(.ref 179),(.ref 180),(.ref 181),(.int (430) 0),(.int (58) 0),(.str "/claim/cut.py" 431)]),#[]⟩
noncomputable def kO183 (P : Params) : Obj := ⟨(.type "function"),none,(.func (fnOf "best_leaf" "best_leaf" (defArgs sBestLeaf) (defBody sBestLeaf) (defScope sBestLeaf) .none .none .none (.str "platecuts.best" 416) none (.ref 182) .none)),#[]⟩
noncomputable def kO189 (P : Params) : Obj := ⟨(.type "code"),none,(.fields #[(.str "best_step" 433),(.str "best_step" 434),(.str "/claim/cut.py" 435),(.int (65) 0),(.int (3) 0),(.int (0) 0),(.int (0) 0),(.int (3) 0),(.ref 184),(.bool true),(.int (181) 0),(.ref 185),.none,(.ref 186),(.ref 187),(.ref 188),(.int (443) 0),(.int (65) 0),(.str "/claim/cut.py" 444)]),#[]⟩
noncomputable def kO190 (P : Params) : Obj := ⟨(.type "function"),none,(.func (fnOf "best_step" "best_step" (defArgs sBestStep) (defBody sBestStep) (defScope sBestStep) .none .none .none (.str "platecuts.best" 416) none (.ref 189) .none)),#[]⟩
noncomputable def kO196 (P : Params) : Obj := ⟨(.type "code"),none,(.fields #[(.str "tree_by_steps" 446),(.str "tree_by_steps" 447),(.str "/claim/cut.py" 448),(.int (72) 0),(.int (2) 0),(.int (0) 0),(.int (0) 0),(.int (3) 0),(.ref 191),(.bool true),(.int (181) 0),(.ref 192),.none,(.ref 193),(.ref 194),(.ref 195),(.int (456) 0),(.int (72) 0),(.str "/claim/cut.py" 457)]),#[]⟩
noncomputable def kO197 (P : Params) : Obj := ⟨(.type "function"),none,(.func (fnOf "tree_by_steps" "tree_by_steps" (defArgs sTreeBySteps) (defBody sTreeBySteps) (defScope sTreeBySteps) .none .none .none (.str "platecuts.best" 416) none (.ref 196) .none)),#[]⟩
noncomputable def kO203 (P : Params) : Obj := ⟨(.type "code"),none,(.fields #[(.str "best_of" 459),(.str "best_of" 460),(.str "/claim/cut.py" 461),(.int (78) 0),(.int (3) 0),(.int (0) 0),(.int (0) 0),(.int (3) 0),(.ref 198),(.bool true),(.int (181) 0),(.ref 199),.none,(.ref 200),(.ref 201),(.ref 202),(.int (472) 0),(.int (78) 0),(.str "/claim/cut.py" 473)]),#[]⟩
noncomputable def kO204 (P : Params) : Obj := ⟨(.type "function"),none,(.func (fnOf "best_of" "best_of" (defArgs sBestOf) (defBody sBestOf) (defScope sBestOf) .none .none .none (.str "platecuts.best" 416) none (.ref 203) .none)),#[]⟩
noncomputable def kO210 (P : Params) : Obj := ⟨(.type "code"),none,(.fields #[(.str "cuts_by_turns" 479),(.str "cuts_by_turns" 480),(.str "/claim/cut.py" 481),(.int (92) 0),(.int (3) 0),(.int (0) 0),(.int (0) 0),(.int (3) 0),(.ref 205),(.bool true),(.int (181) 0),(.ref 206),.none,(.ref 207),(.ref 208),(.ref 209),(.int (491) 0),(.int (92) 0),(.str "/claim/cut.py" 492)]),#[]⟩
noncomputable def kO211 (P : Params) : Obj := ⟨(.type "function"),none,(.func (fnOf "cuts_by_turns" "cuts_by_turns" (defArgs sCutsByTurns) (defBody sCutsByTurns) (defScope sCutsByTurns) .none .none .none (.str "platecuts.turning" 475) none (.ref 210) .none)),#[]⟩
noncomputable def kO217 (P : Params) : Obj := ⟨(.type "code"),none,(.fields #[(.str "best_by_turns" 494),(.str "best_by_turns" 495),(.str "/claim/cut.py" 496),(.int (99) 0),(.int (4) 0),(.int (0) 0),(.int (0) 0),(.int (3) 0),(.ref 212),(.bool true),(.int (181) 0),(.ref 213),.none,(.ref 214),(.ref 215),(.ref 216),(.int (512) 0),(.int (99) 0),(.str "/claim/cut.py" 513)]),#[]⟩
noncomputable def kO218 (P : Params) : Obj := ⟨(.type "function"),none,(.func (fnOf "best_by_turns" "best_by_turns" (defArgs sBestByTurns) (defBody sBestByTurns) (defScope sBestByTurns) .none .none .none (.str "platecuts.turning" 475) none (.ref 217) .none)),#[]⟩
noncomputable def kO224 (P : Params) : Obj := ⟨(.type "code"),none,(.fields #[(.str "is_kind" 521),(.str "is_kind" 522),(.str "/claim/cut.py" 523),(.int (122) 0),(.int (1) 0),(.int (0) 0),(.int (0) 0),(.int (3) 0),(.ref 219),(.bool true),(.int (181) 0),(.ref 220),.none,(.ref 221),(.ref 222),(.ref 223),(.int (530) 0),(.int (122) 0),(.str "/claim/cut.py" 531)]),#[]⟩
noncomputable def kO225 (P : Params) : Obj := ⟨(.type "function"),none,(.func (fnOf "is_kind" "is_kind" (defArgs sIsKind) (defBody sIsKind) (defScope sIsKind) .none .none .none (.str "platecuts.shops" 515) none (.ref 224) .none)),#[]⟩
noncomputable def kO231 (P : Params) : Obj := ⟨(.type "code"),none,(.fields #[(.str "can_lie_turned" 533),(.str "can_lie_turned" 534),(.str "/claim/cut.py" 535),(.int (129) 0),(.int (1) 0),(.int (0) 0),(.int (0) 0),(.int (3) 0),(.ref 226),(.bool true),(.int (181) 0),(.ref 227),.none,(.ref 228),(.ref 229),(.ref 230),(.int (537) 0),(.int (129) 0),(.str "/claim/cut.py" 538)]),#[]⟩
noncomputable def kO232 (P : Params) : Obj := ⟨(.type "function"),none,(.func (fnOf "can_lie_turned" "can_lie_turned" (defArgs sTurned) (defBody sTurned) (defScope sTurned) .none .none .none (.str "platecuts.shops" 515) none (.ref 231) .none)),#[]⟩
noncomputable def kO243 (P : Params) : Obj := ⟨(.type "code"),none,(.fields #[(.str "__init__" 552),(.str "Shop.__init__" 553),(.str "/claim/cut.py" 554),(.int (133) 0),(.int (3) 0),(.int (0) 0),(.int (0) 0),(.int (3) 0),(.ref 240),(.bool true),(.int (181) 0),(.ref 241),.none,.none,.none,(.ref 242),(.int (555) 0),(.int (133) 0),(.str "/claim/cut.py" 556)]),#[]⟩
noncomputable def kO244 (P : Params) : Obj := ⟨(.type "function"),none,(.func (fnOf "__init__" "Shop.__init__" (defArgs sShopInit) (defBody sShopInit) (defScope sShopInit) .none .none .none (.str "platecuts.shops" 515) none (.ref 243) .none)),#[]⟩
noncomputable def kO250 (P : Params) : Obj := ⟨(.type "code"),none,(.fields #[(.str "blade" 558),(.str "Shop.blade" 559),(.str "/claim/cut.py" 560),(.int (144) 0),(.int (1) 0),(.int (0) 0),(.int (0) 0),(.int (3) 0),(.ref 245),(.bool true),(.int (181) 0),(.ref 246),.none,(.ref 247),(.ref 248),(.ref 249),(.int (562) 0),(.int (144) 0),(.str "/claim/cut.py" 563)]),#[]⟩
noncomputable def kO251 (P : Params) : Obj := ⟨(.type "function"),none,(.func (fnOf "blade" "Shop.blade" (defArgs sShopBlade) (defBody sShopBlade) (defScope sShopBlade) .none .none .none (.str "platecuts.shops" 515) none (.ref 250) .none)),#[]⟩
noncomputable def kO257 (P : Params) : Obj := ⟨(.type "code"),none,(.fields #[(.str "kinds" 565),(.str "Shop.kinds" 566),(.str "/claim/cut.py" 567),(.int (147) 0),(.int (1) 0),(.int (0) 0),(.int (0) 0),(.int (3) 0),(.ref 252),(.bool true),(.int (181) 0),(.ref 253),.none,(.ref 254),(.ref 255),(.ref 256),(.int (569) 0),(.int (147) 0),(.str "/claim/cut.py" 570)]),#[]⟩
noncomputable def kO258 (P : Params) : Obj := ⟨(.type "function"),none,(.func (fnOf "kinds" "Shop.kinds" (defArgs sShopKinds) (defBody sShopKinds) (defScope sShopKinds) .none .none .none (.str "platecuts.shops" 515) none (.ref 257) .none)),#[]⟩
noncomputable def kO262 (P : Params) : Obj := ⟨(.type "code"),none,(.fields #[(.str "wanted" 572),(.str "Shop.wanted" 573),(.str "/claim/cut.py" 574),(.int (150) 0),(.int (1) 0),(.int (0) 0),(.int (0) 0),(.int (3) 0),(.ref 259),(.bool true),(.int (181) 0),(.ref 260),.none,.none,.none,(.ref 261),(.int (575) 0),(.int (150) 0),(.str "/claim/cut.py" 576)]),#[]⟩
noncomputable def kO263 (P : Params) : Obj := ⟨(.type "function"),none,(.func (fnOf "wanted" "Shop.wanted" (defArgs sShopWanted) (defBody sShopWanted) (defScope sShopWanted) .none .none .none (.str "platecuts.shops" 515) none (.ref 262) .none)),#[]⟩
noncomputable def kO269 (P : Params) : Obj := ⟨(.type "code"),none,(.fields #[(.str "lyings" 578),(.str "Shop.lyings" 579),(.str "/claim/cut.py" 580),(.int (153) 0),(.int (1) 0),(.int (0) 0),(.int (0) 0),(.int (3) 0),(.ref 264),(.bool true),(.int (181) 0),(.ref 265),.none,(.ref 266),(.ref 267),(.ref 268),(.int (585) 0),(.int (153) 0),(.str "/claim/cut.py" 586)]),#[]⟩
noncomputable def kO270 (P : Params) : Obj := ⟨(.type "function"),none,(.func (fnOf "lyings" "Shop.lyings" (defArgs sShopLyings) (defBody sShopLyings) (defScope sShopLyings) .none .none .none (.str "platecuts.shops" 515) none (.ref 269) .none)),#[]⟩
noncomputable def kO276 (P : Params) : Obj := ⟨(.type "code"),none,(.fields #[(.str "is_lying" 588),(.str "Shop.is_lying" 589),(.str "/claim/cut.py" 590),(.int (161) 0),(.int (3) 0),(.int (0) 0),(.int (0) 0),(.int (3) 0),(.ref 271),(.bool true),(.int (181) 0),(.ref 272),.none,(.ref 273),(.ref 274),(.ref 275),(.int (594) 0),(.int (161) 0),(.str "/claim/cut.py" 595)]),#[]⟩
noncomputable def kO277 (P : Params) : Obj := ⟨(.type "function"),none,(.func (fnOf "is_lying" "Shop.is_lying" (defArgs sShopIsLying) (defBody sShopIsLying) (defScope sShopIsLying) .none .none .none (.str "platecuts.shops" 515) none (.ref 276) .none)),#[]⟩
noncomputable def kO283 (P : Params) : Obj := ⟨(.type "code"),none,(.fields #[(.str "sides" 597),(.str "Shop.sides" 598),(.str "/claim/cut.py" 599),(.int (166) 0),(.int (3) 0),(.int (0) 0),(.int (0) 0),(.int (3) 0),(.ref 278),(.bool true),(.int (181) 0),(.ref 279),.none,(.ref 280),(.ref 281),(.ref 282),(.int (604) 0),(.int (166) 0),(.str "/claim/cut.py" 605)]),#[]⟩
noncomputable def kO284 (P : Params) : Obj := ⟨(.type "function"),none,(.func (fnOf "sides" "Shop.sides" (defArgs sShopSides) (defBody sShopSides) (defScope sShopSides) .none .none .none (.str "platecuts.shops" 515) none (.ref 283) .none)),#[]⟩
noncomputable def kO286 (P : Params) : Obj := ⟨(.type "dict"),none,(.dict #[kE P "__module__" 547 (.str "platecuts.shops" 515),kE P "__firstlineno__" 551 (.int (131) 550),kE P "__init__" 557 (.ref 244),kE P "blade" 564 (.ref 251),kE P "kinds" 571 (.ref 258),kE P "wanted" 577 (.ref 263),kE P "lyings" 587 (.ref 270),kE P "is_lying" 596 (.ref 277),kE P "sides" 606 (.ref 284),kE P "__static_attributes__" 609 (.ref 285),kE P "__dict__" 611 (.ref 288),kE P "__weakref__" 613 (.ref 289),kE P "__doc__" 614 .none] 4),#[]⟩
noncomputable def kO287 (P : Params) : Obj := ⟨(.type "type"),none,(.cls ⟨"Shop",[(.type "object")],[(.ref 287),(.type "object")],286,"Shop",true,[],[],false,none,false⟩),#[none,none,(some (.str "Shop" 540)),(some (.str "Shop" 548)),(some (.builtin "object.__new__")),(some (.bool true))]⟩
noncomputable def kO297 (P : Params) : Obj := ⟨(.type "code"),none,(.fields #[(.str "_law_pot" 619),(.str "_law_pot" 620),(.str "/claim/cut.py" 621),(.int (174) 0),(.int (1) 0),(.int (0) 0),(.int (0) 0),(.int (3) 0),(.ref 292),(.bool true),(.int (181) 0),(.ref 293),.none,(.ref 294),(.ref 295),(.ref 296),(.int (623) 0),(.int (174) 0),(.str "/claim/cut.py" 624)]),#[]⟩
noncomputable def kO298 (P : Params) : Obj := ⟨(.type "function"),none,(.func (fnOf "_law_pot" "_law_pot" (defArgs sPot) (defBody sPot) (defScope sPot) .none .none .none (.str "law_platecuts_k52_whole_best_by_turns" 617) none (.ref 297) .none)),#[]⟩
noncomputable def kO304 (P : Params) : Obj := ⟨(.type "code"),none,(.fields #[(.str "_law_draw" 626),(.str "_law_draw" 627),(.str "/claim/cut.py" 628),(.int (176) 0),(.int (2) 0),(.int (0) 0),(.int (0) 0),(.int (3) 0),(.ref 299),(.bool true),(.int (181) 0),(.ref 300),.none,(.ref 301),(.ref 302),(.ref 303),(.int (632) 0),(.int (176) 0),(.str "/claim/cut.py" 633)]),#[]⟩
noncomputable def kO305 (P : Params) : Obj := ⟨(.type "function"),none,(.func (fnOf "_law_draw" "_law_draw" (defArgs sDraw) (defBody sDraw) (defScope sDraw) .none .none .none (.str "law_platecuts_k52_whole_best_by_turns" 617) none (.ref 304) .none)),#[]⟩
noncomputable def kO311 (P : Params) : Obj := ⟨(.type "code"),none,(.fields #[(.str "_law_great" 635),(.str "_law_great" 636),(.str "/claim/cut.py" 637),(.int (183) 0),(.int (2) 0),(.int (0) 0),(.int (0) 0),(.int (3) 0),(.ref 306),(.bool true),(.int (181) 0),(.ref 307),.none,(.ref 308),(.ref 309),(.ref 310),(.int (642) 0),(.int (183) 0),(.str "/claim/cut.py" 643)]),#[]⟩
noncomputable def kO312 (P : Params) : Obj := ⟨(.type "function"),none,(.func (fnOf "_law_great" "_law_great" (defArgs sGreat) (defBody sGreat) (defScope sGreat) .none .none .none (.str "law_platecuts_k52_whole_best_by_turns" 617) none (.ref 311) .none)),#[]⟩
noncomputable def kO318 (P : Params) : Obj := ⟨(.type "code"),none,(.fields #[(.str "_law_side" 645),(.str "_law_side" 646),(.str "/claim/cut.py" 647),(.int (190) 0),(.int (1) 0),(.int (0) 0),(.int (0) 0),(.int (3) 0),(.ref 313),(.bool true),(.int (181) 0),(.ref 314),.none,(.ref 315),(.ref 316),(.ref 317),(.int (649) 0),(.int (190) 0),(.str "/claim/cut.py" 650)]),#[]⟩
noncomputable def kO319 (P : Params) : Obj := ⟨(.type "function"),none,(.func (fnOf "_law_side" "_law_side" (defArgs sSide) (defBody sSide) (defScope sSide) .none .none .none (.str "law_platecuts_k52_whole_best_by_turns" 617) none (.ref 318) .none)),#[]⟩
noncomputable def kO325 (P : Params) : Obj := ⟨(.type "code"),none,(.fields #[(.str "_law_kinds" 652),(.str "_law_kinds" 653),(.str "/claim/cut.py" 654),(.int (194) 0),(.int (1) 0),(.int (0) 0),(.int (0) 0),(.int (3) 0),(.ref 320),(.bool true),(.int (181) 0),(.ref 321),.none,(.ref 322),(.ref 323),(.ref 324),(.int (661) 0),(.int (194) 0),(.str "/claim/cut.py" 662)]),#[]⟩
noncomputable def kO326 (P : Params) : Obj := ⟨(.type "function"),none,(.func (fnOf "_law_kinds" "_law_kinds" (defArgs sKinds) (defBody sKinds) (defScope sKinds) .none .none .none (.str "law_platecuts_k52_whole_best_by_turns" 617) none (.ref 325) .none)),#[]⟩
noncomputable def kO332 (P : Params) : Obj := ⟨(.type "code"),none,(.fields #[(.str "_law_whole" 664),(.str "_law_whole" 665),(.str "/claim/cut.py" 666),(.int (203) 0),(.int (2) 0),(.int (0) 0),(.int (0) 0),(.int (3) 0),(.ref 327),(.bool true),(.int (181) 0),(.ref 328),.none,(.ref 329),(.ref 330),(.ref 331),(.int (669) 0),(.int (203) 0),(.str "/claim/cut.py" 670)]),#[]⟩
noncomputable def kO333 (P : Params) : Obj := ⟨(.type "function"),none,(.func (fnOf "_law_whole" "_law_whole" (defArgs sLWhole) (defBody sLWhole) (defScope sLWhole) .none .none .none (.str "law_platecuts_k52_whole_best_by_turns" 617) none (.ref 332) .none)),#[]⟩
noncomputable def kO339 (P : Params) : Obj := ⟨(.type "code"),none,(.fields #[(.str "_law_piece_worth" 672),(.str "_law_piece_worth" 673),(.str "/claim/cut.py" 674),(.int (205) 0),(.int (4) 0),(.int (0) 0),(.int (0) 0),(.int (3) 0),(.ref 334),(.bool true),(.int (181) 0),(.ref 335),.none,(.ref 336),(.ref 337),(.ref 338),(.int (684) 0),(.int (205) 0),(.str "/claim/cut.py" 685)]),#[]⟩
noncomputable def kO340 (P : Params) : Obj := ⟨(.type "function"),none,(.func (fnOf "_law_piece_worth" "_law_piece_worth" (defArgs sPieceWorth) (defBody sPieceWorth) (defScope sPieceWorth) .none .none .none (.str "law_platecuts_k52_whole_best_by_turns" 617) none (.ref 339) .none)),#[]⟩
noncomputable def kO344 (P : Params) : Obj := ⟨(.type "code"),none,(.fields #[(.str "_law_worth" 687),(.str "_law_worth" 688),(.str "/claim/cut.py" 689),(.int (216) 0),(.int (6) 0),(.int (0) 0),(.int (0) 0),(.int (3) 0),(.ref 341),(.bool true),(.int (181) 0),(.ref 342),.none,.none,.none,(.ref 343),(.int (690) 0),(.int (216) 0),(.str "/claim/cut.py" 691)]),#[]⟩
noncomputable def kO345 (P : Params) : Obj := ⟨(.type "function"),none,(.func (fnOf "_law_worth" "_law_worth" (defArgs sWorth) (defBody sWorth) (defScope sWorth) .none .none .none (.str "law_platecuts_k52_whole_best_by_turns" 617) none (.ref 344) .none)),#[]⟩
noncomputable def kO351 (P : Params) : Obj := ⟨(.type "code"),none,(.fields #[(.str "_law_told" 693),(.str "_law_told" 694),(.str "/claim/cut.py" 695),(.int (238) 0),(.int (5) 0),(.int (0) 0),(.int (0) 0),(.int (3) 0),(.ref 346),(.bool true),(.int (181) 0),(.ref 347),.none,(.ref 348),(.ref 349),(.ref 350),(.int (702) 0),(.int (238) 0),(.str "/claim/cut.py" 703)]),#[]⟩
noncomputable def kO352 (P : Params) : Obj := ⟨(.type "function"),none,(.func (fnOf "_law_told" "_law_told" (defArgs sTold) (defBody sTold) (defScope sTold) .none .none .none (.str "law_platecuts_k52_whole_best_by_turns" 617) none (.ref 351) .none)),#[]⟩
noncomputable def kO358 (P : Params) : Obj := ⟨(.type "code"),none,(.fields #[(.str "_law_right" 705),(.str "_law_right" 706),(.str "/claim/cut.py" 707),(.int (245) 0),(.int (1) 0),(.int (0) 0),(.int (0) 0),(.int (3) 0),(.ref 353),(.bool true),(.int (181) 0),(.ref 354),.none,(.ref 355),(.ref 356),(.ref 357),(.int (719) 0),(.int (245) 0),(.str "/claim/cut.py" 720)]),#[]⟩
noncomputable def kO359 (P : Params) : Obj := ⟨(.type "function"),none,(.func (fnOf "_law_right" "_law_right" (defArgs sRight) (defBody sRight) (defScope sRight) .none .none .none (.str "law_platecuts_k52_whole_best_by_turns" 617) none (.ref 358) .none)),#[]⟩
noncomputable def kO365 (P : Params) : Obj := ⟨(.type "code"),none,(.fields #[(.str "law" 722),(.str "law" 723),(.str "/claim/cut.py" 724),(.int (266) 0),(.int (1) 0),(.int (0) 0),(.int (0) 0),(.int (3) 0),(.ref 360),(.bool true),(.int (181) 0),(.ref 361),.none,(.ref 362),(.ref 363),(.ref 364),(.int (727) 0),(.int (266) 0),(.str "/claim/cut.py" 728)]),#[]⟩
noncomputable def kO366 (P : Params) : Obj := ⟨(.type "function"),none,(.func (fnOf "law" "law" (defArgs sLaw) (defBody sLaw) (defScope sLaw) .none .none .none (.str "law_platecuts_k52_whole_best_by_turns" 617) none (.ref 365) .none)),#[]⟩
noncomputable def kK : Params → Frag := fun P => (nat_lit 3,kO3 P) :: (nat_lit 23,kO23 P) :: (nat_lit 24,kO24 P) :: (nat_lit 36,kO36 P) :: (nat_lit 37,kO37 P) :: (nat_lit 48,kO48 P) :: (nat_lit 49,kO49 P) :: (nat_lit 60,kO60 P) :: (nat_lit 61,kO61 P) :: (nat_lit 72,kO72 P) :: (nat_lit 73,kO73 P) :: (nat_lit 84,kO84 P) :: (nat_lit 85,kO85 P) :: (nat_lit 96,kO96 P) :: (nat_lit 97,kO97 P) :: (nat_lit 108,kO108 P) :: (nat_lit 109,kO109 P) :: (nat_lit 117,kO117 P) :: (nat_lit 118,kO118 P) :: (nat_lit 124,kO124 P) :: (nat_lit 125,kO125 P) :: (nat_lit 131,kO131 P) :: (nat_lit 132,kO132 P) :: (nat_lit 138,kO138 P) :: (nat_lit 139,kO139 P) :: (nat_lit 145,kO145 P) :: (nat_lit 146,kO146 P) :: (nat_lit 147,kO147 P) :: (nat_lit 153,kO153 P) :: (nat_lit 154,kO154 P) :: (nat_lit 158,kO158 P) :: (nat_lit 159,kO159 P) :: (nat_lit 165,kO165 P) :: (nat_lit 166,kO166 P) :: (nat_lit 170,kO170 P) :: (nat_lit 171,kO171 P) :: (nat_lit 175,kO175 P) :: (nat_lit 176,kO176 P) :: (nat_lit 182,kO182 P) :: (nat_lit 183,kO183 P) :: (nat_lit 189,kO189 P) :: (nat_lit 190,kO190 P) :: (nat_lit 196,kO196 P) :: (nat_lit 197,kO197 P) :: (nat_lit 203,kO203 P) :: (nat_lit 204,kO204 P) :: (nat_lit 210,kO210 P) :: (nat_lit 211,kO211 P) :: (nat_lit 217,kO217 P) :: (nat_lit 218,kO218 P) :: (nat_lit 224,kO224 P) :: (nat_lit 225,kO225 P) :: (nat_lit 231,kO231 P) :: (nat_lit 232,kO232 P) :: (nat_lit 243,kO243 P) :: (nat_lit 244,kO244 P) :: (nat_lit 250,kO250 P) :: (nat_lit 251,kO251 P) :: (nat_lit 257,kO257 P) :: (nat_lit 258,kO258 P) :: (nat_lit 262,kO262 P) :: (nat_lit 263,kO263 P) :: (nat_lit 269,kO269 P) :: (nat_lit 270,kO270 P) :: (nat_lit 276,kO276 P) :: (nat_lit 277,kO277 P) :: (nat_lit 283,kO283 P) :: (nat_lit 284,kO284 P) :: (nat_lit 286,kO286 P) :: (nat_lit 287,kO287 P) :: (nat_lit 297,kO297 P) :: (nat_lit 298,kO298 P) :: (nat_lit 304,kO304 P) :: (nat_lit 305,kO305 P) :: (nat_lit 311,kO311 P) :: (nat_lit 312,kO312 P) :: (nat_lit 318,kO318 P) :: (nat_lit 319,kO319 P) :: (nat_lit 325,kO325 P) :: (nat_lit 326,kO326 P) :: (nat_lit 332,kO332 P) :: (nat_lit 333,kO333 P) :: (nat_lit 339,kO339 P) :: (nat_lit 340,kO340 P) :: (nat_lit 344,kO344 P) :: (nat_lit 345,kO345 P) :: (nat_lit 351,kO351 P) :: (nat_lit 352,kO352 P) :: (nat_lit 358,kO358 P) :: (nat_lit 359,kO359 P) :: (nat_lit 365,kO365 P) :: (nat_lit 366,kO366 P) :: []
end
end Pc
set_option maxHeartbeats 0
lay_quick PySem.Challenge.pw_platecuts_k52_whole_best_by_turns
namespace Hd
open PySem PySem.W
noncomputable def S0 : Str := ⟨⟨[95,95,110,97,109,101,95,95]⟩⟩
noncomputable def S2 : Str := ⟨⟨[95,95,100,111,99,95,95]⟩⟩
noncomputable def S3 : Str := ⟨⟨[95,95,112,97,99,107,97,103,101,95,95]⟩⟩
noncomputable def S4 : Str := ⟨⟨[95,95,108,111,97,100,101,114,95,95]⟩⟩
noncomputable def S5 : Str := ⟨⟨[95,95,115,112,101,99,95,95]⟩⟩
noncomputable def S160 : Str := ⟨⟨[95,95,109,97,105,110,95,95]⟩⟩
noncomputable def S161 : Str := ⟨⟨[95,95,97,110,110,111,116,97,116,105,111,110,115,95,95]⟩⟩
noncomputable def S162 : Str := ⟨⟨[95,95,98,117,105,108,116,105,110,115,95,95]⟩⟩
noncomputable def S163 : Str := ⟨⟨[95,95,102,105,108,101,95,95]⟩⟩
noncomputable def S164 : Str := ⟨⟨[47,99,108,97,105,109,47,99,117,116,46,112,121]⟩⟩
noncomputable def S165 : Str := ⟨⟨[95,95,99,97,99,104,101,100,95,95]⟩⟩
noncomputable def S166 : Str := ⟨⟨[60,109,111,100,117,108,101,62]⟩⟩
noncomputable def S167 : Str := ⟨⟨[112,108,97,116,101,99,117,116,115,46,112,97,114,116,115]⟩⟩
noncomputable def S168 : Str := ⟨⟨[80,108,97,116,101,69,114,114,111,114]⟩⟩
noncomputable def S169 : Str := ⟨⟨[78,111,66,108,97,100,101]⟩⟩
noncomputable def S170 : Str := ⟨⟨[78,111,75,105,110,100,115]⟩⟩
noncomputable def S171 : Str := ⟨⟨[78,111,75,105,110,100]⟩⟩
noncomputable def S172 : Str := ⟨⟨[78,111,76,121,105,110,103]⟩⟩
noncomputable def S173 : Str := ⟨⟨[78,111,80,108,97,116,101]⟩⟩
noncomputable def S174 : Str := ⟨⟨[84,111,111,76,97,114,103,101]⟩⟩
noncomputable def S175 : Str := ⟨⟨[78,111,78,117,109,98,101,114]⟩⟩
noncomputable def S176 : Str := ⟨⟨[105,115,95,119,104,111,108,101]⟩⟩
noncomputable def S177 : Str := ⟨⟨[105,115,95,116,114,117,116,104]⟩⟩
noncomputable def S178 : Str := ⟨⟨[105,115,95,114,111,119]⟩⟩
noncomputable def S179 : Str := ⟨⟨[99,104,101,99,107,95,112,108,97,116,101]⟩⟩
noncomputable def S180 : Str := ⟨⟨[99,104,101,99,107,95,115,105,100,101,115]⟩⟩
noncomputable def S181 : Str := ⟨⟨[68,79,87,78]⟩⟩
noncomputable def S182 : Str := ⟨⟨[100,111,119,110]⟩⟩
noncomputable def S183 : Str := ⟨⟨[65,67,82,79,83,83]⟩⟩
noncomputable def S184 : Str := ⟨⟨[97,99,114,111,115,115]⟩⟩
noncomputable def S185 : Str := ⟨⟨[87,65,89,83]⟩⟩
noncomputable def S186 : Str := ⟨⟨[108,105,101,115,95,105,110]⟩⟩
noncomputable def S187 : Str := ⟨⟨[108,121,105,110,103,115,95,105,110]⟩⟩
noncomputable def S188 : Str := ⟨⟨[99,117,116,95,112,97,114,116,115]⟩⟩
noncomputable def S189 : Str := ⟨⟨[95,95,109,111,100,117,108,101,95,95]⟩⟩
noncomputable def S190 : Str := ⟨⟨[112,108,97,116,101,99,117,116,115,46,101,114,114,111,114,115]⟩⟩
noncomputable def S191 : Str := ⟨⟨[95,95,113,117,97,108,110,97,109,101,95,95]⟩⟩
noncomputable def S192 : Str := ⟨⟨[95,95,102,105,114,115,116,108,105,110,101,110,111,95,95]⟩⟩
noncomputable def S193 : Str := ⟨⟨[95,95,115,116,97,116,105,99,95,97,116,116,114,105,98,117,116,101,115,95,95]⟩⟩
noncomputable def S194 : Str := ⟨⟨[95,95,119,101,97,107,114,101,102,95,95]⟩⟩
noncomputable def S195 : Str := ⟨⟨[116,104,105,110,103]⟩⟩
noncomputable def S196 : Str := ⟨⟨[108,101,97,115,116]⟩⟩
noncomputable def S197 : Str := ⟨⟨[112,108,97,116,101,99,117,116,115,46,99,104,101,99,107,115]⟩⟩
noncomputable def S198 : Str := ⟨⟨[119,105,100,101]⟩⟩
noncomputable def S199 : Str := ⟨⟨[104,105,103,104]⟩⟩
noncomputable def S200 : Str := ⟨⟨[109,111,115,116]⟩⟩
noncomputable def S201 : Str := ⟨⟨[115,104,111,112]⟩⟩
noncomputable def S202 : Str := ⟨⟨[107,105,110,100]⟩⟩
noncomputable def S203 : Str := ⟨⟨[116,117,114,110,101,100]⟩⟩
noncomputable def S204 : Str := ⟨⟨[120]⟩⟩
noncomputable def S205 : Str := ⟨⟨[121]⟩⟩
noncomputable def S206 : Str := ⟨⟨[112,105,101,99,101,95,119,105,100,101]⟩⟩
noncomputable def S207 : Str := ⟨⟨[112,105,101,99,101,95,104,105,103,104]⟩⟩
noncomputable def S208 : Str := ⟨⟨[98,108,97,100,101]⟩⟩
noncomputable def S209 : Str := ⟨⟨[112,97,114,116]⟩⟩
noncomputable def S210 : Str := ⟨⟨[119,97,121]⟩⟩
noncomputable def S211 : Str := ⟨⟨[112]⟩⟩
noncomputable def S212 : Str := ⟨⟨[108,97,119,95,112,108,97,116,101,99,117,116,115,95,107,53,50,95,119,104,111,108,101,95,98,101,115,116,95,98,121,95,116,117,114,110,115]⟩⟩
noncomputable def S213 : Str := ⟨⟨[99,117,116,115,95,111,102]⟩⟩
noncomputable def S214 : Str := ⟨⟨[112,97,114,116,115,95,117,112,95,116,111]⟩⟩
noncomputable def S215 : Str := ⟨⟨[82,69,83,84]⟩⟩
noncomputable def S216 : Str := ⟨⟨[114,101,115,116]⟩⟩
noncomputable def S217 : Str := ⟨⟨[80,73,69,67,69]⟩⟩
noncomputable def S218 : Str := ⟨⟨[112,105,101,99,101]⟩⟩
noncomputable def S219 : Str := ⟨⟨[77,79,83,84,95,83,73,68,69]⟩⟩
noncomputable def S220 : Str := ⟨⟨[98,101,115,116,95,108,101,97,102]⟩⟩
noncomputable def S221 : Str := ⟨⟨[98,101,115,116,95,115,116,101,112]⟩⟩
noncomputable def S222 : Str := ⟨⟨[116,114,101,101,95,98,121,95,115,116,101,112,115]⟩⟩
noncomputable def S223 : Str := ⟨⟨[98,101,115,116,95,111,102]⟩⟩
noncomputable def S224 : Str := ⟨⟨[77,79,83,84,95,84,85,82,78,83]⟩⟩
noncomputable def S225 : Str := ⟨⟨[99,117,116,115,95,98,121,95,116,117,114,110,115]⟩⟩
noncomputable def S226 : Str := ⟨⟨[98,101,115,116,95,98,121,95,116,117,114,110,115]⟩⟩
noncomputable def S227 : Str := ⟨⟨[77,79,83,84,95,75,73,78,68,83]⟩⟩
noncomputable def S228 : Str := ⟨⟨[84,72,73,78,71,83,95,79,70,95,65,95,75,73,78,68]⟩⟩
noncomputable def S229 : Str := ⟨⟨[105,115,95,107,105,110,100]⟩⟩
noncomputable def S230 : Str := ⟨⟨[99,97,110,95,108,105,101,95,116,117,114,110,101,100]⟩⟩
noncomputable def S231 : Str := ⟨⟨[83,104,111,112]⟩⟩
noncomputable def S232 : Str := ⟨⟨[95,108,97,119,95,112,111,116]⟩⟩
noncomputable def S233 : Str := ⟨⟨[95,108,97,119,95,100,114,97,119]⟩⟩
noncomputable def S234 : Str := ⟨⟨[95,108,97,119,95,103,114,101,97,116]⟩⟩
noncomputable def S235 : Str := ⟨⟨[95,108,97,119,95,115,105,100,101]⟩⟩
noncomputable def S236 : Str := ⟨⟨[95,108,97,119,95,107,105,110,100,115]⟩⟩
noncomputable def S237 : Str := ⟨⟨[95,108,97,119,95,119,104,111,108,101]⟩⟩
noncomputable def S238 : Str := ⟨⟨[95,108,97,119,95,112,105,101,99,101,95,119,111,114,116,104]⟩⟩
noncomputable def S239 : Str := ⟨⟨[95,108,97,119,95,119,111,114,116,104]⟩⟩
noncomputable def S240 : Str := ⟨⟨[95,108,97,119,95,116,111,108,100]⟩⟩
noncomputable def S241 : Str := ⟨⟨[95,108,97,119,95,114,105,103,104,116]⟩⟩
noncomputable def S242 : Str := ⟨⟨[108,97,119]⟩⟩
noncomputable def S243 : Str := ⟨⟨[119,111,114,116,104]⟩⟩
noncomputable def S244 : Str := ⟨⟨[108,101,97,102]⟩⟩
noncomputable def S245 : Str := ⟨⟨[107,105,110,100,115]⟩⟩
noncomputable def S246 : Str := ⟨⟨[112,108,97,116,101,99,117,116,115,46,98,101,115,116]⟩⟩
noncomputable def S247 : Str := ⟨⟨[108,101,97,102,95,102,111,117,110,100]⟩⟩
noncomputable def S248 : Str := ⟨⟨[99,117,116,115]⟩⟩
noncomputable def S249 : Str := ⟨⟨[119,111,114,116,104,115]⟩⟩
noncomputable def S250 : Str := ⟨⟨[115,116,101,112]⟩⟩
noncomputable def S251 : Str := ⟨⟨[99,117,116]⟩⟩
noncomputable def S252 : Str := ⟨⟨[116,111,103,101,116,104,101,114]⟩⟩
noncomputable def S253 : Str := ⟨⟨[115,116,101,112,115]⟩⟩
noncomputable def S254 : Str := ⟨⟨[107,101,121]⟩⟩
noncomputable def S255 : Str := ⟨⟨[102,105,114,115,116]⟩⟩
noncomputable def S256 : Str := ⟨⟨[115,101,99,111,110,100]⟩⟩
noncomputable def S257 : Str := ⟨⟨[116,97,98,108,101]⟩⟩
noncomputable def S258 : Str := ⟨⟨[112,108,97,116,101]⟩⟩
noncomputable def S259 : Str := ⟨⟨[119,97,121,95,97,104,101,97,100]⟩⟩
noncomputable def S260 : Str := ⟨⟨[108,101,102,116]⟩⟩
noncomputable def S261 : Str := ⟨⟨[97,108,108,111,119,101,100]⟩⟩
noncomputable def S262 : Str := ⟨⟨[115,116,105,108,108,95,108,101,102,116]⟩⟩
noncomputable def S263 : Str := ⟨⟨[112,108,97,116,101,99,117,116,115,46,116,117,114,110,105,110,103]⟩⟩
noncomputable def S264 : Str := ⟨⟨[107]⟩⟩
noncomputable def S265 : Str := ⟨⟨[111,116,104,101,114]⟩⟩
noncomputable def S266 : Str := ⟨⟨[119,97,110,116,101,100]⟩⟩
noncomputable def S267 : Str := ⟨⟨[116,117,114,110,115]⟩⟩
noncomputable def S268 : Str := ⟨⟨[112,108,97,116,101,99,117,116,115,46,115,104,111,112,115]⟩⟩
noncomputable def S269 : Str := ⟨⟨[95,95,105,110,105,116,95,95]⟩⟩
noncomputable def S270 : Str := ⟨⟨[108,121,105,110,103,115]⟩⟩
noncomputable def S271 : Str := ⟨⟨[105,115,95,108,121,105,110,103]⟩⟩
noncomputable def S272 : Str := ⟨⟨[115,105,100,101,115]⟩⟩
noncomputable def S273 : Str := ⟨⟨[83,104,111,112,46,95,95,105,110,105,116,95,95]⟩⟩
noncomputable def S274 : Str := ⟨⟨[115,101,108,102]⟩⟩
noncomputable def S275 : Str := ⟨⟨[83,104,111,112,46,98,108,97,100,101]⟩⟩
noncomputable def S276 : Str := ⟨⟨[83,104,111,112,46,107,105,110,100,115]⟩⟩
noncomputable def S277 : Str := ⟨⟨[83,104,111,112,46,119,97,110,116,101,100]⟩⟩
noncomputable def S278 : Str := ⟨⟨[116,111,108,100]⟩⟩
noncomputable def S279 : Str := ⟨⟨[110,117,109,98,101,114]⟩⟩
noncomputable def S280 : Str := ⟨⟨[83,104,111,112,46,108,121,105,110,103,115]⟩⟩
noncomputable def S281 : Str := ⟨⟨[83,104,111,112,46,105,115,95,108,121,105,110,103]⟩⟩
noncomputable def S282 : Str := ⟨⟨[114,111,119]⟩⟩
noncomputable def S283 : Str := ⟨⟨[83,104,111,112,46,115,105,100,101,115]⟩⟩
noncomputable def S284 : Str := ⟨⟨[98,108,97,100,101,95,119,105,100,116,104]⟩⟩
noncomputable def S285 : Str := ⟨⟨[107,105,110,100,95,114,111,119,115]⟩⟩
noncomputable def S286 : Str := ⟨⟨[95,95,100,105,99,116,95,95]⟩⟩
noncomputable def S287 : Str := ⟨⟨[95,108,97,119,95,99,101,108,108]⟩⟩
noncomputable def S288 : Str := ⟨⟨[95,108,97,119,95,112,111,116,95,104,101,114,101]⟩⟩
noncomputable def S289 : Str := ⟨⟨[95,108,97,119,95,109,97,110,121]⟩⟩
noncomputable def S290 : Str := ⟨⟨[95,108,97,119,95,110,117,109,98,101,114]⟩⟩
noncomputable def S291 : Str := ⟨⟨[95,108,97,119,95,102,111,117,110,100]⟩⟩
noncomputable def S292 : Str := ⟨⟨[95,108,97,119,95,107]⟩⟩
noncomputable def S293 : Str := ⟨⟨[95,108,97,119,95,107,105,110,100,115,95,104,101,114,101]⟩⟩
noncomputable def S294 : Str := ⟨⟨[95,108,97,119,95,119,105,100,101]⟩⟩
noncomputable def S295 : Str := ⟨⟨[95,108,97,119,95,104,105,103,104]⟩⟩
noncomputable def S296 : Str := ⟨⟨[95,108,97,119,95,119,111,114,116,104,95,104,101,114,101]⟩⟩
noncomputable def S297 : Str := ⟨⟨[95,108,97,119,95,108,101,97,115,116]⟩⟩
noncomputable def S298 : Str := ⟨⟨[95,108,97,119,95,116,114,101,101]⟩⟩
noncomputable def S299 : Str := ⟨⟨[95,108,97,119,95,111,119,110,95,119,105,100,101]⟩⟩
noncomputable def S300 : Str := ⟨⟨[95,108,97,119,95,111,119,110,95,104,105,103,104]⟩⟩
noncomputable def S301 : Str := ⟨⟨[95,108,97,119,95,119,97,110,116,101,100]⟩⟩
noncomputable def S302 : Str := ⟨⟨[95,108,97,119,95,116,117,114,110,115]⟩⟩
noncomputable def S303 : Str := ⟨⟨[95,108,97,119,95,115,104,111,112]⟩⟩
noncomputable def S304 : Str := ⟨⟨[95,108,97,119,95,98,108,97,100,101]⟩⟩
noncomputable def S305 : Str := ⟨⟨[95,108,97,119,95,112,108,97,116,101]⟩⟩
noncomputable def S306 : Str := ⟨⟨[95,108,97,119,95,116,111,108,100,95,104,101,114,101]⟩⟩
noncomputable def S307 : Str := ⟨⟨[95,108,97,119,95,115,99,114,105,112,116]⟩⟩
noncomputable abbrev HK : Hook := kHook Pc.kK [nat_lit 3,nat_lit 23,nat_lit 24,nat_lit 36,nat_lit 37,nat_lit 48,nat_lit 49,nat_lit 60,nat_lit 61,nat_lit 72,nat_lit 73,nat_lit 84,nat_lit 85,nat_lit 96,nat_lit 97,nat_lit 108,nat_lit 109,nat_lit 117,nat_lit 118,nat_lit 124,nat_lit 125,nat_lit 131,nat_lit 132,nat_lit 138,nat_lit 139,nat_lit 145,nat_lit 146,nat_lit 147,nat_lit 153,nat_lit 154,nat_lit 158,nat_lit 159,nat_lit 165,nat_lit 166,nat_lit 170,nat_lit 171,nat_lit 175,nat_lit 176,nat_lit 182,nat_lit 183,nat_lit 189,nat_lit 190,nat_lit 196,nat_lit 197,nat_lit 203,nat_lit 204,nat_lit 210,nat_lit 211,nat_lit 217,nat_lit 218,nat_lit 224,nat_lit 225,nat_lit 231,nat_lit 232,nat_lit 243,nat_lit 244,nat_lit 250,nat_lit 251,nat_lit 257,nat_lit 258,nat_lit 262,nat_lit 263,nat_lit 269,nat_lit 270,nat_lit 276,nat_lit 277,nat_lit 283,nat_lit 284,nat_lit 286,nat_lit 287,nat_lit 297,nat_lit 298,nat_lit 304,nat_lit 305,nat_lit 311,nat_lit 312,nat_lit 318,nat_lit 319,nat_lit 325,nat_lit 326,nat_lit 332,nat_lit 333,nat_lit 339,nat_lit 340,nat_lit 344,nat_lit 345,nat_lit 351,nat_lit 352,nat_lit 358,nat_lit 359,nat_lit 365,nat_lit 366] (fun _ => by kernel_rfl)
noncomputable abbrev pt : Program := PySem.W.Fast.tw12896906060936641682
theorem pt_eq : PySem.Challenge.pw_platecuts_k52_whole_best_by_turns = pt := PySem.W.Fast.te12896906060936641682
noncomputable def tp (i : Nat) : Stmt := pt.main.body.getD i (.Pass ⟨0,0,0,0⟩)
noncomputable abbrev f (o : Params → Obj) (l r : Params → BT) : Params → BT := fun P => .node (o P) (l P) (r P)
noncomputable abbrev z : Params → BT := fun _ => .nil
noncomputable abbrev e (P : Params) (n : Str) (t : Nat) (v : Value) : DictEntry := ⟨PyData.keyHash P n,.str n t,v⟩
noncomputable abbrev m0 : Nat := nat_lit 11
noncomputable abbrev an : Option Value := (some (.ref 6))
noncomputable abbrev en : Env := { scope := pt.main.scope,locals := mainNs,globals := mainNs,cells := [],code := (.ref 13),frame := some 14 }
noncomputable abbrev cE : Code := .body (behindTheImports pt) en
noncomputable abbrev qP : Pos := ⟨0,0,0,0⟩
noncomputable abbrev B : List Frame := [topFrame qP]
noncomputable abbrev L0 : String := PySem.W.SL.s14018661285674007319x4
noncomputable abbrev L1 : String := PySem.W.SL.s11665532747177232413x24
noncomputable abbrev L2 : String := PySem.W.SL.s15183661809925369436x15
noncomputable abbrev L3 : String := PySem.W.SL.s13915890719876406383x10
noncomputable abbrev L4 : String := PySem.W.SL.s13459172003223722735x3
noncomputable abbrev L5 : String := PySem.W.SL.s10557405761357834076x3
noncomputable abbrev L6 : String := PySem.W.SL.s4233737765568776869x3
noncomputable abbrev L7 : String := PySem.W.SL.s2508922471967985374x5
noncomputable abbrev L8 : String := PySem.W.SL.s15574269061696679450x3
noncomputable abbrev L9 : String := PySem.W.SL.s6016482663378992977x10
noncomputable abbrev L10 : String := PySem.W.SL.s5596568736180474577x8
noncomputable abbrev L11 : String := PySem.W.SL.s2839554839881490554x3
noncomputable abbrev L12 : String := PySem.W.SL.s725004073602090463x7
noncomputable abbrev L13 : String := PySem.W.SL.s9436932552931045734x7
noncomputable abbrev L14 : String := PySem.W.SL.s2754603736356183583x3
noncomputable abbrev L15 : String := PySem.W.SL.s15185746759980889043x6
noncomputable abbrev L16 : String := PySem.W.SL.s8192189862530294059x4
noncomputable abbrev L17 : String := PySem.W.SL.s7038307821325472102x4
noncomputable abbrev L18 : String := PySem.W.SL.s5662562618415449548x6
noncomputable abbrev L19 : String := PySem.W.SL.s15281542589158584767x7
noncomputable abbrev L20 : String := PySem.W.SL.s17651547275483570877x7
noncomputable abbrev L21 : String := PySem.W.SL.s4036449017235975746x7
noncomputable abbrev L22 : String := PySem.W.SL.s8879979712987360175x4
noncomputable abbrev L23 : String := PySem.W.SL.s1801250619170735830x3
noncomputable abbrev L24 : String := PySem.W.SL.s17659931425627118568x2
noncomputable abbrev L25 : String := PySem.W.SL.s6063217899685152688x5
noncomputable abbrev L26 : String := PySem.W.SL.s8008927332132565319x10
noncomputable abbrev L27 : String := PySem.W.SL.s3544116645089599534x10
noncomputable abbrev L28 : String := PySem.W.SL.s13761710972054866084x4
noncomputable abbrev L29 : String := PySem.W.SL.s12896375587409280029x5
noncomputable abbrev L30 : String := PySem.W.SL.s13014049009108672802x3
noncomputable abbrev L31 : String := PySem.W.SL.s13935586738268321596x6
noncomputable abbrev L32 : String := PySem.W.SL.s8200498257699607233x3
noncomputable abbrev L33 : String := PySem.W.SL.s14114244577727609259x3
noncomputable abbrev L34 : String := PySem.W.SL.s1499430450269397089x4
noncomputable abbrev L35 : String := PySem.W.SL.s8755793994789770505x5
noncomputable abbrev L36 : String := PySem.W.SL.s15725212667919936108x3
noncomputable abbrev L37 : String := PySem.W.SL.s15791221867095933363x3
noncomputable abbrev L38 : String := PySem.W.SL.s81309575031448614x3
noncomputable abbrev L39 : String := PySem.W.SL.s8069831620301644142x5
noncomputable abbrev L40 : String := PySem.W.SL.s10061844253413749634x4
noncomputable abbrev L41 : String := PySem.W.SL.s9496514870978017513x5
noncomputable abbrev L42 : String := PySem.W.SL.s8899691144933366716x7
noncomputable abbrev L43 : String := PySem.W.SL.s15201008993051130160x6
noncomputable abbrev L44 : String := PySem.W.SL.s741896355592496720x3
noncomputable abbrev L45 : String := PySem.W.SL.s17925004256654032244x4
noncomputable abbrev L46 : String := PySem.W.SL.s11695548795398191787x4
noncomputable abbrev L47 : String := PySem.W.SL.s4156966113859768872x10
noncomputable abbrev L48 : String := PySem.W.SL.s9501651726347032510x9
noncomputable abbrev L49 : String := PySem.W.SL.s15722918466584999320x5
noncomputable abbrev L50 : String := PySem.W.SL.s591115383303110208x11
noncomputable abbrev L51 : String := PySem.W.SL.s15721156781594690315x7
noncomputable abbrev L52 : String := PySem.W.SL.s14340494229221121180x9
noncomputable abbrev L53 : String := PySem.W.SL.s13429844117177748173x6
noncomputable abbrev L54 : String := PySem.W.SL.s16463266125957815391x5
noncomputable abbrev L55 : String := PySem.W.SL.s4922535414793169389x9
noncomputable abbrev L56 : String := PySem.W.SL.s8101838861749082086x8
noncomputable abbrev L57 : String := PySem.W.SL.s7066276694103001551x3
noncomputable abbrev L58 : String := PySem.W.SL.s9222952809800978799x4
noncomputable abbrev L59 : String := PySem.W.SL.s462964344163437139x3
noncomputable abbrev L60 : String := PySem.W.SL.s2742458400755230247x6
noncomputable abbrev L61 : String := PySem.W.SL.s1438033511350832697x5
noncomputable abbrev L62 : String := PySem.W.SL.s14365286008749172514x8
noncomputable abbrev L63 : String := PySem.W.SL.s3642769012341782148x3
noncomputable abbrev L64 : String := PySem.W.SL.s4674234679698826739x5
noncomputable abbrev L65 : String := PySem.W.SL.s16656946322747308186x12
noncomputable abbrev L66 : String := PySem.W.SL.s10796804682411823810x3
noncomputable abbrev L67 : String := PySem.W.SL.s4290257624100764138x5
noncomputable abbrev L68 : String := PySem.W.SL.s2766695959194262286x5
noncomputable abbrev L69 : String := PySem.W.SL.s17162191345867700912x4
noncomputable abbrev L70 : String := PySem.W.SL.s14339709457334898076x3
noncomputable abbrev L71 : String := PySem.W.SL.s4278001404047624695x13
noncomputable abbrev L72 : String := PySem.W.SL.s6585700554429387442x18
noncomputable abbrev L73 : String := PySem.W.SL.s5946037652744460706x9
noncomputable abbrev L74 : String := PySem.W.SL.s7410770068591931388x13
noncomputable abbrev L75 : String := PySem.W.SL.s11817881795495490833x17
noncomputable abbrev L76 : String := PySem.W.SL.s15679963881808890155x10
noncomputable abbrev L77 : String := PySem.W.SL.s3871700062485845797x15
noncomputable abbrev L78 : String := PySem.W.SL.s7689518266570723881x14
noncomputable abbrev L79 : String := PySem.W.SL.s9001593270443806431x14
noncomputable abbrev L80 : String := PySem.W.SL.s6882542574934516792x11
noncomputable abbrev L81 : String := PySem.W.SL.s14403400214490484960x8
noncomputable abbrev L82 : String := PySem.W.SL.s14457978657717015782x11
noncomputable abbrev L83 : String := PySem.W.SL.s1753610191782819921x11
noncomputable abbrev L84 : String := PySem.W.SL.s14119380538032626715x11
noncomputable abbrev L85 : String := PySem.W.SL.s11437920000406562045x9
noncomputable abbrev L86 : String := PySem.W.SL.s10852414792293593619x7
noncomputable abbrev L87 : String := PySem.W.SL.s14816307405966870543x14
noncomputable abbrev L88 : String := PySem.W.SL.s8682627914449686677x12
noncomputable abbrev L89 : String := PySem.W.SL.s4428170145600203450x18
noncomputable abbrev L90 : String := PySem.W.SL.s5991306692159431302x13
noncomputable abbrev L91 : String := PySem.W.SL.s16067994140765818257x11
noncomputable abbrev L92 : String := PySem.W.SL.s2327743974964600596x11
noncomputable abbrev L93 : String := PySem.W.SL.s2804747833354056582x9
noncomputable abbrev L94 : String := PySem.W.SL.s6070975301684473832x10
noncomputable abbrev L95 : String := PySem.W.SL.s14270485950484850486x7
noncomputable abbrev L96 : String := PySem.W.SL.s12041534306414923332x18
noncomputable abbrev L97 : String := PySem.W.SL.s2531307568338490285x13
noncomputable abbrev L98 : String := PySem.W.SL.s631175304937289666x17
noncomputable abbrev L99 : String := PySem.W.SL.s5144983644357021410x12
noncomputable abbrev L100 : String := PySem.W.SL.s18039099521571816885x18
noncomputable abbrev L101 : String := PySem.W.SL.s6011586214260557989x15
noncomputable abbrev L102 : String := PySem.W.SL.s5430567037509283100x13
noncomputable abbrev L103 : String := PySem.W.SL.s8117915138073963741x13
noncomputable abbrev L104 : String := PySem.W.SL.s3423317712779056401x25
noncomputable abbrev L105 : String := PySem.W.SL.s2007317383269046180x15
noncomputable abbrev L106 : String := PySem.W.SL.s17481586968713580700x14
noncomputable abbrev L107 : String := PySem.W.SL.s2450899226349176912x13
noncomputable abbrev L108 : String := PySem.W.SL.s16626165730633575011x14
noncomputable abbrev L109 : String := PySem.W.SL.s14288496050688921416x11
noncomputable abbrev L110 : String := PySem.W.SL.s5735081916595925998x15
noncomputable abbrev L111 : String := PySem.W.SL.s3865607918536308442x17
noncomputable abbrev L112 : String := PySem.W.SL.s13337502604062700212x15
noncomputable abbrev L113 : String := PySem.W.SL.s13114017843053701147x15
noncomputable abbrev L114 : String := PySem.W.SL.s17467278006356818441x17
noncomputable abbrev L115 : String := PySem.W.SL.s17722149559621369488x16
noncomputable abbrev L116 : String := PySem.W.SL.s7855274175708717672x17
noncomputable abbrev L117 : String := PySem.W.SL.s13351283678309829046x18
noncomputable abbrev L118 : String := PySem.W.SL.s6668348653404991179x15
noncomputable abbrev L119 : String := PySem.W.SL.s12913350958174193794x18
noncomputable abbrev L120 : String := PySem.W.SL.s16115879512475548326x12
noncomputable abbrev L121 : String := PySem.W.SL.s15920661018069861047x16
noncomputable abbrev L122 : String := PySem.W.SL.s10779130036587390575x21
noncomputable abbrev L123 : String := PySem.W.SL.s7801419657504700863x10
noncomputable abbrev L124 : String := PySem.W.SL.s1688129525768580628x8
noncomputable abbrev L125 : String := PySem.W.SL.s1031832959479892071x19
noncomputable abbrev L126 : String := PySem.W.SL.s8991790508128307865x19
noncomputable abbrev L127 : String := PySem.W.SL.s14539662485746970245x23
noncomputable abbrev L128 : String := PySem.W.SL.s11643622729373238714x14
noncomputable abbrev L129 : String := PySem.W.SL.s3386828779285465597x17
noncomputable abbrev L130 : String := PySem.W.SL.s13042696260734638735x12
noncomputable abbrev L131 : String := PySem.W.SL.s18239426817015966623x15
noncomputable abbrev L132 : String := PySem.W.SL.s1270395311379034370x22
noncomputable abbrev L133 : String := PySem.W.SL.s10696252587037064777x22
noncomputable abbrev L134 : String := PySem.W.SL.s7852717498200857586x20
noncomputable abbrev L135 : String := PySem.W.SL.s6377248116197321094x8
noncomputable abbrev L136 : String := PySem.W.SL.s3834378056692298002x18
noncomputable abbrev L137 : String := PySem.W.SL.s17586630440231065808x18
noncomputable abbrev L138 : String := PySem.W.SL.s15234114252648025395x21
noncomputable abbrev L139 : String := PySem.W.SL.s8496462677383758984x14
noncomputable abbrev L140 : String := PySem.W.SL.s16789243406116112673x4
noncomputable abbrev L141 : String := PySem.W.SL.s14400166428656793546x20
noncomputable abbrev L142 : String := PySem.W.SL.s5857708277339239366x20
noncomputable abbrev L143 : String := PySem.W.SL.s7804999707787243718x20
noncomputable abbrev L144 : String := PySem.W.SL.s7097527257260152453x26
noncomputable abbrev L145 : String := PySem.W.SL.s6658869562736209489x6
noncomputable abbrev L146 : String := PySem.W.SL.s5856160107412720595x4
noncomputable abbrev L147 : String := PySem.W.SL.s658472552662922059x5
noncomputable abbrev sZ (w : World) (os : OsState) : Shared := ⟨boot_heap w.params,Array.mk [],boot_drawn,boot_toks,os⟩
noncomputable def o11 (P : Params) : Obj := ⟨(.type L68),none,(.seq #[] 0),#[]⟩
noncomputable def o12 (P : Params) : Obj := ⟨.none,none,(.fields #[]),#[]⟩
noncomputable def o13 (P : Params) : Obj := ⟨(.type L146),none,(.fields #[.str S166 182,.str S166 183,.str S164 184,.int 1 0,.int 0 0,.int 0 0,.int 0 0,.int 0 0,.ref 11,.bool false,.int 181 0,.ref 12,.none,.none,.none,.none,.int 185 0,.int 1 0,.str S164 186]),#[]⟩
noncomputable def o14 (P : Params) : Obj := ⟨(.type L147),none,.plain,#[some (.ref 13),some (.ref 3),some (.ref 3),none,some (.str S160 164),none,some (.ref 0)]⟩
noncomputable def hA (P : Params) : Heap := ⟨⟨[boot_o_0 P,boot_o_1 P,boot_o_2 P,boot_o_3 P,boot_o_4 P,boot_o_5 P,boot_o_6 P,boot_o_7 P,boot_o_8 P,boot_o_9 P,boot_o_10 P,o11 P,o12 P,o13 P,o14 P]⟩,{ }⟩
noncomputable abbrev sA (w : World) (os : OsState) : Shared := ⟨hA w.params,(Array.mk []),⟨0,0,0,0⟩,187,os⟩
noncomputable abbrev pA : Pos := ⟨0,0,0,0⟩
theorem pre (w : World) : (fun os => topGo treeTable pt w m0 an 12 (sZ w os) (topStub pt)) = fun os => some (sA w os,(⟨denote treeTable cE,cE,pA,B⟩ : Thread)) := by
  rw [PySem.W.Fast.te15667345088766844465,PySem.W.Fast.te14364793385576792824,PySem.W.Fast.te11892475500146522536]; kernel_rfl
noncomputable def tB : Params → BT := (f boot_o_0 (f boot_o_1 (f boot_o_3 (f boot_o_7 z z) (f o11 z z)) (f boot_o_5 (f boot_o_9 z z) (f o13 z z))) (f boot_o_2 (f boot_o_4 (f boot_o_8 z z) (f o12 z z)) (f boot_o_6 (f boot_o_10 z z) (f o14 z z))))
noncomputable abbrev sB (w : World) (os : OsState) : SharedT := ⟨tB w.params,15,{ },(Array.mk []),⟨0,0,0,0⟩,187,os⟩
noncomputable abbrev pB : Pos := ⟨0,0,0,0⟩
theorem blk (w : World) : (fun os => segRun treeTable pt w m0 an 1 1 (sA w os) ⟨(blockStart (behindTheImports pt) en).wrap (fun _ => doneF .next) deadEnd id id,cE,pA,B⟩) = fun os => some (.next,(sB w os).abs,cE,pB) := by
  rw [PySem.W.Fast.te14374325043358763698,PySem.W.Fast.te14364793385576792824,PySem.W.Fast.te1066825118222455980]; kernel_rfl
noncomputable def o3v1 (P : Params) : Obj := ⟨(.type L0),none,(.dict #[e P S0 165 (.str S167 360),e P S2 166 .none,e P S3 167 .none,e P S4 168 (.builtin L144),e P S5 169 .none,e P S161 170 (.ref 6),e P S162 171 (.ref 4),e P S163 173 (.str S164 172),e P S165 174 .none,e P S168 206 (.ref 24),e P S169 222 (.ref 37),e P S170 238 (.ref 49),e P S171 254 (.ref 61),e P S172 270 (.ref 73),e P S173 286 (.ref 85),e P S174 302 (.ref 97),e P S175 318 (.ref 109),e P S176 328 (.ref 118),e P S177 335 (.ref 125),e P S178 342 (.ref 132),e P S179 350 (.ref 139),e P S180 359 (.ref 146),e P S181 363 (.str S182 362),e P S183 365 (.str S184 364),e P S185 366 (.ref 147),e P S186 381 (.ref 154),e P S187 387 (.ref 159),e P S188 399 (.ref 166)] 28),#[]⟩
noncomputable def o12v1 (P : Params) : Obj := ⟨.none,none,(.fields #[.int 2 0,.int 0 0,.ref 20,.int 4 0,.int 0 0,.ref 33,.int 6 0,.int 0 0,.ref 45,.int 8 0,.int 0 0,.ref 57,.int 10 0,.int 0 0,.ref 69,.int 12 0,.int 0 0,.ref 81,.int 14 0,.int 0 0,.ref 93,.int 16 0,.int 0 0,.ref 105,.int 19 0,.int 0 0,.ref 117,.int 21 0,.int 0 0,.ref 124,.int 23 0,.int 0 0,.ref 131,.int 25 0,.int 0 0,.ref 138,.int 28 0,.int 0 0,.ref 145,.int 35 0,.int 0 0,.ref 153,.int 40 0,.int 0 0,.ref 158,.int 43 0,.int 0 0,.ref 165]),#[]⟩
noncomputable def o15 (P : Params) : Obj := ⟨(.type L68),none,(.seq #[.type L94] 0),#[]⟩
noncomputable abbrev L148 : String := PySem.W.SL.s11030030927630378310x26
noncomputable abbrev L149 : String := PySem.W.SL.s10062305145149207511x16
noncomputable def o16 (P : Params) : Obj := ⟨(.type L148),none,(.fields #[.builtin L149,.type L69]),#[]⟩
noncomputable def o17 (P : Params) : Obj := ⟨(.type L0),none,(.dict #[e P S189 196 (.str S190 187),e P S191 198 (.str S168 197),e P S192 200 (.int 2 199),e P S193 201 (.ref 22)] 4),#[]⟩
noncomputable def o18 (P : Params) : Obj := ⟨(.type L68),none,(.seq #[] 0),#[]⟩
noncomputable def o19 (P : Params) : Obj := ⟨.none,none,(.fields #[]),#[]⟩
noncomputable def o20 (P : Params) : Obj := ⟨(.type L146),none,(.fields #[.str S168 191,.str S168 192,.str S164 193,.int 2 0,.int 0 0,.int 0 0,.int 0 0,.int 0 0,.ref 18,.bool false,.int 181 0,.ref 19,.none,.none,.none,.none,.int 194 0,.int 2 0,.str S164 195]),#[]⟩
noncomputable def o21 (P : Params) : Obj := ⟨(.type L147),none,.plain,#[some (.ref 20),some (.ref 3),some (.ref 17),none,some (.str S190 187),none,some (.ref 0)]⟩
noncomputable def o22 (P : Params) : Obj := ⟨(.type L68),none,(.seq #[] 0),#[]⟩
noncomputable def o23 (P : Params) : Obj := ⟨(.type L0),none,(.dict #[e P S189 196 (.str S190 187),e P S192 200 (.int 2 199),e P S193 201 (.ref 22),e P S194 203 (.ref 25),e P S2 204 .none] 3),#[]⟩
noncomputable abbrev L150 : String := PySem.W.SL.s4209523147560561109x18
noncomputable def o24 (P : Params) : Obj := ⟨(.type L69),none,(.cls ⟨S168,[.type L94],[.ref 24,.type L94,.type L73,.type L71,.type L60],23,S168,true,[],[.ref 37,.ref 49,.ref 61,.ref 73,.ref 85,.ref 97,.ref 109],false,none,false⟩),#[some (.ref 15),none,some (.str S168 189),some (.str S168 197),some (.builtin L150),some (.bool true)]⟩
noncomputable abbrev L151 : String := PySem.W.SL.s14755015743595814543x17
noncomputable abbrev L152 : String := PySem.W.SL.s10220274742760427390x26
noncomputable def o25 (P : Params) : Obj := ⟨(.type L151),none,(.fields #[.str S194 202,.ref 24,.builtin L152,.none]),#[]⟩
noncomputable def o26 (P : Params) : Obj := ⟨(.type L67),none,(.fields #[.ref 24,.ref 24,.ref 24]),#[]⟩
noncomputable abbrev L153 : String := PySem.W.SL.s4860613602091757760x24
noncomputable def o27 (P : Params) : Obj := ⟨(.type L148),none,(.fields #[.builtin L153,.ref 24]),#[]⟩
noncomputable def o28 (P : Params) : Obj := ⟨(.type L68),none,(.seq #[.ref 24] 0),#[]⟩
noncomputable def o29 (P : Params) : Obj := ⟨(.type L148),none,(.fields #[.builtin L149,.type L69]),#[]⟩
noncomputable def o30 (P : Params) : Obj := ⟨(.type L0),none,(.dict #[e P S189 214 (.str S190 187),e P S191 216 (.str S169 215),e P S192 218 (.int 4 217),e P S193 219 (.ref 35)] 4),#[]⟩
noncomputable def o31 (P : Params) : Obj := ⟨(.type L68),none,(.seq #[] 0),#[]⟩
noncomputable def o32 (P : Params) : Obj := ⟨.none,none,(.fields #[]),#[]⟩
noncomputable def o33 (P : Params) : Obj := ⟨(.type L146),none,(.fields #[.str S169 209,.str S169 210,.str S164 211,.int 4 0,.int 0 0,.int 0 0,.int 0 0,.int 0 0,.ref 31,.bool false,.int 181 0,.ref 32,.none,.none,.none,.none,.int 212 0,.int 4 0,.str S164 213]),#[]⟩
noncomputable def o34 (P : Params) : Obj := ⟨(.type L147),none,.plain,#[some (.ref 33),some (.ref 3),some (.ref 30),none,some (.str S190 187),none,some (.ref 0)]⟩
noncomputable def o35 (P : Params) : Obj := ⟨(.type L68),none,(.seq #[] 0),#[]⟩
noncomputable def o36 (P : Params) : Obj := ⟨(.type L0),none,(.dict #[e P S189 214 (.str S190 187),e P S192 218 (.int 4 217),e P S193 219 (.ref 35),e P S2 220 .none] 2),#[]⟩
noncomputable def o37 (P : Params) : Obj := ⟨(.type L69),none,(.cls ⟨S169,[.ref 24],[.ref 37,.ref 24,.type L94,.type L73,.type L71,.type L60],36,S169,true,[],[],false,none,false⟩),#[some (.ref 28),none,some (.str S169 207),some (.str S169 215),some (.builtin L150),some (.bool true)]⟩
noncomputable def o38 (P : Params) : Obj := ⟨(.type L67),none,(.fields #[.ref 37,.ref 37,.ref 37]),#[]⟩
noncomputable def o39 (P : Params) : Obj := ⟨(.type L148),none,(.fields #[.builtin L153,.ref 37]),#[]⟩
noncomputable def o40 (P : Params) : Obj := ⟨(.type L68),none,(.seq #[.ref 24] 0),#[]⟩
noncomputable def o41 (P : Params) : Obj := ⟨(.type L148),none,(.fields #[.builtin L149,.type L69]),#[]⟩
noncomputable def o42 (P : Params) : Obj := ⟨(.type L0),none,(.dict #[e P S189 230 (.str S190 187),e P S191 232 (.str S170 231),e P S192 234 (.int 6 233),e P S193 235 (.ref 47)] 4),#[]⟩
noncomputable def o43 (P : Params) : Obj := ⟨(.type L68),none,(.seq #[] 0),#[]⟩
noncomputable def o44 (P : Params) : Obj := ⟨.none,none,(.fields #[]),#[]⟩
noncomputable def o45 (P : Params) : Obj := ⟨(.type L146),none,(.fields #[.str S170 225,.str S170 226,.str S164 227,.int 6 0,.int 0 0,.int 0 0,.int 0 0,.int 0 0,.ref 43,.bool false,.int 181 0,.ref 44,.none,.none,.none,.none,.int 228 0,.int 6 0,.str S164 229]),#[]⟩
noncomputable def o46 (P : Params) : Obj := ⟨(.type L147),none,.plain,#[some (.ref 45),some (.ref 3),some (.ref 42),none,some (.str S190 187),none,some (.ref 0)]⟩
noncomputable def o47 (P : Params) : Obj := ⟨(.type L68),none,(.seq #[] 0),#[]⟩
noncomputable def o48 (P : Params) : Obj := ⟨(.type L0),none,(.dict #[e P S189 230 (.str S190 187),e P S192 234 (.int 6 233),e P S193 235 (.ref 47),e P S2 236 .none] 2),#[]⟩
noncomputable def o49 (P : Params) : Obj := ⟨(.type L69),none,(.cls ⟨S170,[.ref 24],[.ref 49,.ref 24,.type L94,.type L73,.type L71,.type L60],48,S170,true,[],[],false,none,false⟩),#[some (.ref 40),none,some (.str S170 223),some (.str S170 231),some (.builtin L150),some (.bool true)]⟩
noncomputable def o50 (P : Params) : Obj := ⟨(.type L67),none,(.fields #[.ref 49,.ref 49,.ref 49]),#[]⟩
noncomputable def o51 (P : Params) : Obj := ⟨(.type L148),none,(.fields #[.builtin L153,.ref 49]),#[]⟩
noncomputable def o52 (P : Params) : Obj := ⟨(.type L68),none,(.seq #[.ref 24] 0),#[]⟩
noncomputable def o53 (P : Params) : Obj := ⟨(.type L148),none,(.fields #[.builtin L149,.type L69]),#[]⟩
noncomputable def o54 (P : Params) : Obj := ⟨(.type L0),none,(.dict #[e P S189 246 (.str S190 187),e P S191 248 (.str S171 247),e P S192 250 (.int 8 249),e P S193 251 (.ref 59)] 4),#[]⟩
noncomputable def o55 (P : Params) : Obj := ⟨(.type L68),none,(.seq #[] 0),#[]⟩
noncomputable def o56 (P : Params) : Obj := ⟨.none,none,(.fields #[]),#[]⟩
noncomputable def o57 (P : Params) : Obj := ⟨(.type L146),none,(.fields #[.str S171 241,.str S171 242,.str S164 243,.int 8 0,.int 0 0,.int 0 0,.int 0 0,.int 0 0,.ref 55,.bool false,.int 181 0,.ref 56,.none,.none,.none,.none,.int 244 0,.int 8 0,.str S164 245]),#[]⟩
noncomputable def o58 (P : Params) : Obj := ⟨(.type L147),none,.plain,#[some (.ref 57),some (.ref 3),some (.ref 54),none,some (.str S190 187),none,some (.ref 0)]⟩
noncomputable def o59 (P : Params) : Obj := ⟨(.type L68),none,(.seq #[] 0),#[]⟩
noncomputable def o60 (P : Params) : Obj := ⟨(.type L0),none,(.dict #[e P S189 246 (.str S190 187),e P S192 250 (.int 8 249),e P S193 251 (.ref 59),e P S2 252 .none] 2),#[]⟩
noncomputable def o61 (P : Params) : Obj := ⟨(.type L69),none,(.cls ⟨S171,[.ref 24],[.ref 61,.ref 24,.type L94,.type L73,.type L71,.type L60],60,S171,true,[],[],false,none,false⟩),#[some (.ref 52),none,some (.str S171 239),some (.str S171 247),some (.builtin L150),some (.bool true)]⟩
noncomputable def o62 (P : Params) : Obj := ⟨(.type L67),none,(.fields #[.ref 61,.ref 61,.ref 61]),#[]⟩
noncomputable def o63 (P : Params) : Obj := ⟨(.type L148),none,(.fields #[.builtin L153,.ref 61]),#[]⟩
noncomputable def o64 (P : Params) : Obj := ⟨(.type L68),none,(.seq #[.ref 24] 0),#[]⟩
noncomputable def o65 (P : Params) : Obj := ⟨(.type L148),none,(.fields #[.builtin L149,.type L69]),#[]⟩
noncomputable def o66 (P : Params) : Obj := ⟨(.type L0),none,(.dict #[e P S189 262 (.str S190 187),e P S191 264 (.str S172 263),e P S192 266 (.int 10 265),e P S193 267 (.ref 71)] 4),#[]⟩
noncomputable def o67 (P : Params) : Obj := ⟨(.type L68),none,(.seq #[] 0),#[]⟩
noncomputable def o68 (P : Params) : Obj := ⟨.none,none,(.fields #[]),#[]⟩
noncomputable def o69 (P : Params) : Obj := ⟨(.type L146),none,(.fields #[.str S172 257,.str S172 258,.str S164 259,.int 10 0,.int 0 0,.int 0 0,.int 0 0,.int 0 0,.ref 67,.bool false,.int 181 0,.ref 68,.none,.none,.none,.none,.int 260 0,.int 10 0,.str S164 261]),#[]⟩
noncomputable def o70 (P : Params) : Obj := ⟨(.type L147),none,.plain,#[some (.ref 69),some (.ref 3),some (.ref 66),none,some (.str S190 187),none,some (.ref 0)]⟩
noncomputable def o71 (P : Params) : Obj := ⟨(.type L68),none,(.seq #[] 0),#[]⟩
noncomputable def o72 (P : Params) : Obj := ⟨(.type L0),none,(.dict #[e P S189 262 (.str S190 187),e P S192 266 (.int 10 265),e P S193 267 (.ref 71),e P S2 268 .none] 2),#[]⟩
noncomputable def o73 (P : Params) : Obj := ⟨(.type L69),none,(.cls ⟨S172,[.ref 24],[.ref 73,.ref 24,.type L94,.type L73,.type L71,.type L60],72,S172,true,[],[],false,none,false⟩),#[some (.ref 64),none,some (.str S172 255),some (.str S172 263),some (.builtin L150),some (.bool true)]⟩
noncomputable def o74 (P : Params) : Obj := ⟨(.type L67),none,(.fields #[.ref 73,.ref 73,.ref 73]),#[]⟩
noncomputable def o75 (P : Params) : Obj := ⟨(.type L148),none,(.fields #[.builtin L153,.ref 73]),#[]⟩
noncomputable def o76 (P : Params) : Obj := ⟨(.type L68),none,(.seq #[.ref 24] 0),#[]⟩
noncomputable def o77 (P : Params) : Obj := ⟨(.type L148),none,(.fields #[.builtin L149,.type L69]),#[]⟩
noncomputable def o78 (P : Params) : Obj := ⟨(.type L0),none,(.dict #[e P S189 278 (.str S190 187),e P S191 280 (.str S173 279),e P S192 282 (.int 12 281),e P S193 283 (.ref 83)] 4),#[]⟩
noncomputable def o79 (P : Params) : Obj := ⟨(.type L68),none,(.seq #[] 0),#[]⟩
noncomputable def o80 (P : Params) : Obj := ⟨.none,none,(.fields #[]),#[]⟩
noncomputable def o81 (P : Params) : Obj := ⟨(.type L146),none,(.fields #[.str S173 273,.str S173 274,.str S164 275,.int 12 0,.int 0 0,.int 0 0,.int 0 0,.int 0 0,.ref 79,.bool false,.int 181 0,.ref 80,.none,.none,.none,.none,.int 276 0,.int 12 0,.str S164 277]),#[]⟩
noncomputable def o82 (P : Params) : Obj := ⟨(.type L147),none,.plain,#[some (.ref 81),some (.ref 3),some (.ref 78),none,some (.str S190 187),none,some (.ref 0)]⟩
noncomputable def o83 (P : Params) : Obj := ⟨(.type L68),none,(.seq #[] 0),#[]⟩
noncomputable def o84 (P : Params) : Obj := ⟨(.type L0),none,(.dict #[e P S189 278 (.str S190 187),e P S192 282 (.int 12 281),e P S193 283 (.ref 83),e P S2 284 .none] 2),#[]⟩
noncomputable def o85 (P : Params) : Obj := ⟨(.type L69),none,(.cls ⟨S173,[.ref 24],[.ref 85,.ref 24,.type L94,.type L73,.type L71,.type L60],84,S173,true,[],[],false,none,false⟩),#[some (.ref 76),none,some (.str S173 271),some (.str S173 279),some (.builtin L150),some (.bool true)]⟩
noncomputable def o86 (P : Params) : Obj := ⟨(.type L67),none,(.fields #[.ref 85,.ref 85,.ref 85]),#[]⟩
noncomputable def o87 (P : Params) : Obj := ⟨(.type L148),none,(.fields #[.builtin L153,.ref 85]),#[]⟩
noncomputable def o88 (P : Params) : Obj := ⟨(.type L68),none,(.seq #[.ref 24] 0),#[]⟩
noncomputable def o89 (P : Params) : Obj := ⟨(.type L148),none,(.fields #[.builtin L149,.type L69]),#[]⟩
noncomputable def o90 (P : Params) : Obj := ⟨(.type L0),none,(.dict #[e P S189 294 (.str S190 187),e P S191 296 (.str S174 295),e P S192 298 (.int 14 297),e P S193 299 (.ref 95)] 4),#[]⟩
noncomputable def o91 (P : Params) : Obj := ⟨(.type L68),none,(.seq #[] 0),#[]⟩
noncomputable def o92 (P : Params) : Obj := ⟨.none,none,(.fields #[]),#[]⟩
noncomputable def o93 (P : Params) : Obj := ⟨(.type L146),none,(.fields #[.str S174 289,.str S174 290,.str S164 291,.int 14 0,.int 0 0,.int 0 0,.int 0 0,.int 0 0,.ref 91,.bool false,.int 181 0,.ref 92,.none,.none,.none,.none,.int 292 0,.int 14 0,.str S164 293]),#[]⟩
noncomputable def o94 (P : Params) : Obj := ⟨(.type L147),none,.plain,#[some (.ref 93),some (.ref 3),some (.ref 90),none,some (.str S190 187),none,some (.ref 0)]⟩
noncomputable def o95 (P : Params) : Obj := ⟨(.type L68),none,(.seq #[] 0),#[]⟩
noncomputable def o96 (P : Params) : Obj := ⟨(.type L0),none,(.dict #[e P S189 294 (.str S190 187),e P S192 298 (.int 14 297),e P S193 299 (.ref 95),e P S2 300 .none] 2),#[]⟩
noncomputable def o97 (P : Params) : Obj := ⟨(.type L69),none,(.cls ⟨S174,[.ref 24],[.ref 97,.ref 24,.type L94,.type L73,.type L71,.type L60],96,S174,true,[],[],false,none,false⟩),#[some (.ref 88),none,some (.str S174 287),some (.str S174 295),some (.builtin L150),some (.bool true)]⟩
noncomputable def o98 (P : Params) : Obj := ⟨(.type L67),none,(.fields #[.ref 97,.ref 97,.ref 97]),#[]⟩
noncomputable def o99 (P : Params) : Obj := ⟨(.type L148),none,(.fields #[.builtin L153,.ref 97]),#[]⟩
noncomputable def o100 (P : Params) : Obj := ⟨(.type L68),none,(.seq #[.ref 24] 0),#[]⟩
noncomputable def o101 (P : Params) : Obj := ⟨(.type L148),none,(.fields #[.builtin L149,.type L69]),#[]⟩
noncomputable def o102 (P : Params) : Obj := ⟨(.type L0),none,(.dict #[e P S189 310 (.str S190 187),e P S191 312 (.str S175 311),e P S192 314 (.int 16 313),e P S193 315 (.ref 107)] 4),#[]⟩
noncomputable def o103 (P : Params) : Obj := ⟨(.type L68),none,(.seq #[] 0),#[]⟩
noncomputable def o104 (P : Params) : Obj := ⟨.none,none,(.fields #[]),#[]⟩
noncomputable def o105 (P : Params) : Obj := ⟨(.type L146),none,(.fields #[.str S175 305,.str S175 306,.str S164 307,.int 16 0,.int 0 0,.int 0 0,.int 0 0,.int 0 0,.ref 103,.bool false,.int 181 0,.ref 104,.none,.none,.none,.none,.int 308 0,.int 16 0,.str S164 309]),#[]⟩
noncomputable def o106 (P : Params) : Obj := ⟨(.type L147),none,.plain,#[some (.ref 105),some (.ref 3),some (.ref 102),none,some (.str S190 187),none,some (.ref 0)]⟩
noncomputable def o107 (P : Params) : Obj := ⟨(.type L68),none,(.seq #[] 0),#[]⟩
noncomputable def o108 (P : Params) : Obj := ⟨(.type L0),none,(.dict #[e P S189 310 (.str S190 187),e P S192 314 (.int 16 313),e P S193 315 (.ref 107),e P S2 316 .none] 2),#[]⟩
noncomputable def o109 (P : Params) : Obj := ⟨(.type L69),none,(.cls ⟨S175,[.ref 24],[.ref 109,.ref 24,.type L94,.type L73,.type L71,.type L60],108,S175,true,[],[],false,none,false⟩),#[some (.ref 100),none,some (.str S175 303),some (.str S175 311),some (.builtin L150),some (.bool true)]⟩
noncomputable def o110 (P : Params) : Obj := ⟨(.type L67),none,(.fields #[.ref 109,.ref 109,.ref 109]),#[]⟩
noncomputable def o111 (P : Params) : Obj := ⟨(.type L148),none,(.fields #[.builtin L153,.ref 109]),#[]⟩
noncomputable def o112 (P : Params) : Obj := ⟨(.type L68),none,(.seq #[] 0),#[]⟩
noncomputable def o113 (P : Params) : Obj := ⟨.none,none,(.fields #[]),#[]⟩
noncomputable def o114 (P : Params) : Obj := ⟨(.type L68),none,(.seq #[.str S195 324,.str S196 325] 0),#[]⟩
noncomputable def o115 (P : Params) : Obj := ⟨(.type L68),none,(.seq #[] 0),#[]⟩
noncomputable def o116 (P : Params) : Obj := ⟨.none,none,(.func ⟨S176,S176,L2.defArgs (tp 10),(.stmts (L2.defBody (tp 10))),L2.defScope (tp 10),0,[],.none,.none,.none,.none,none,.none,.none,0⟩),#[]⟩
noncomputable def o117 (P : Params) : Obj := ⟨(.type L146),none,(.fields #[.str S176 321,.str S176 322,.str S164 323,.int 19 0,.int 2 0,.int 0 0,.int 0 0,.int 3 0,.ref 112,.bool true,.int 181 0,.ref 113,.none,.ref 114,.ref 115,.ref 116,.int 326 0,.int 19 0,.str S164 327]),#[]⟩
noncomputable abbrev L154 : String := PySem.W.SL.s7174869446012820540x8
noncomputable def o118 (P : Params) : Obj := ⟨(.type L154),none,(.func ⟨S176,S176,L2.defArgs (tp 10),(.stmts (L2.defBody (tp 10))),L2.defScope (tp 10),3,[],.none,.none,.none,.str S197 319,none,.ref 117,.none,0⟩),#[]⟩
noncomputable def o119 (P : Params) : Obj := ⟨(.type L68),none,(.seq #[] 0),#[]⟩
noncomputable def o120 (P : Params) : Obj := ⟨.none,none,(.fields #[]),#[]⟩
noncomputable def o121 (P : Params) : Obj := ⟨(.type L68),none,(.seq #[.str S195 332] 0),#[]⟩
noncomputable def o122 (P : Params) : Obj := ⟨(.type L68),none,(.seq #[] 0),#[]⟩
noncomputable def o123 (P : Params) : Obj := ⟨.none,none,(.func ⟨S177,S177,L2.defArgs (tp 11),(.stmts (L2.defBody (tp 11))),L2.defScope (tp 11),0,[],.none,.none,.none,.none,none,.none,.none,0⟩),#[]⟩
noncomputable def o124 (P : Params) : Obj := ⟨(.type L146),none,(.fields #[.str S177 329,.str S177 330,.str S164 331,.int 21 0,.int 1 0,.int 0 0,.int 0 0,.int 3 0,.ref 119,.bool true,.int 181 0,.ref 120,.none,.ref 121,.ref 122,.ref 123,.int 333 0,.int 21 0,.str S164 334]),#[]⟩
noncomputable def o125 (P : Params) : Obj := ⟨(.type L154),none,(.func ⟨S177,S177,L2.defArgs (tp 11),(.stmts (L2.defBody (tp 11))),L2.defScope (tp 11),3,[],.none,.none,.none,.str S197 319,none,.ref 124,.none,0⟩),#[]⟩
noncomputable def o126 (P : Params) : Obj := ⟨(.type L68),none,(.seq #[] 0),#[]⟩
noncomputable def o127 (P : Params) : Obj := ⟨.none,none,(.fields #[]),#[]⟩
noncomputable def o128 (P : Params) : Obj := ⟨(.type L68),none,(.seq #[.str S195 339] 0),#[]⟩
noncomputable def o129 (P : Params) : Obj := ⟨(.type L68),none,(.seq #[] 0),#[]⟩
noncomputable def o130 (P : Params) : Obj := ⟨.none,none,(.func ⟨S178,S178,L2.defArgs (tp 12),(.stmts (L2.defBody (tp 12))),L2.defScope (tp 12),0,[],.none,.none,.none,.none,none,.none,.none,0⟩),#[]⟩
noncomputable def o131 (P : Params) : Obj := ⟨(.type L146),none,(.fields #[.str S178 336,.str S178 337,.str S164 338,.int 23 0,.int 1 0,.int 0 0,.int 0 0,.int 3 0,.ref 126,.bool true,.int 181 0,.ref 127,.none,.ref 128,.ref 129,.ref 130,.int 340 0,.int 23 0,.str S164 341]),#[]⟩
noncomputable def o132 (P : Params) : Obj := ⟨(.type L154),none,(.func ⟨S178,S178,L2.defArgs (tp 12),(.stmts (L2.defBody (tp 12))),L2.defScope (tp 12),3,[],.none,.none,.none,.str S197 319,none,.ref 131,.none,0⟩),#[]⟩
noncomputable def o133 (P : Params) : Obj := ⟨(.type L68),none,(.seq #[] 0),#[]⟩
noncomputable def o134 (P : Params) : Obj := ⟨.none,none,(.fields #[]),#[]⟩
noncomputable def o135 (P : Params) : Obj := ⟨(.type L68),none,(.seq #[.str S198 346,.str S199 347] 0),#[]⟩
noncomputable def o136 (P : Params) : Obj := ⟨(.type L68),none,(.seq #[] 0),#[]⟩
noncomputable def o137 (P : Params) : Obj := ⟨.none,none,(.func ⟨S179,S179,L2.defArgs (tp 13),(.stmts (L2.defBody (tp 13))),L2.defScope (tp 13),0,[],.none,.none,.none,.none,none,.none,.none,0⟩),#[]⟩
noncomputable def o138 (P : Params) : Obj := ⟨(.type L146),none,(.fields #[.str S179 343,.str S179 344,.str S164 345,.int 25 0,.int 2 0,.int 0 0,.int 0 0,.int 3 0,.ref 133,.bool true,.int 181 0,.ref 134,.none,.ref 135,.ref 136,.ref 137,.int 348 0,.int 25 0,.str S164 349]),#[]⟩
noncomputable def o139 (P : Params) : Obj := ⟨(.type L154),none,(.func ⟨S179,S179,L2.defArgs (tp 13),(.stmts (L2.defBody (tp 13))),L2.defScope (tp 13),3,[],.none,.none,.none,.str S197 319,none,.ref 138,.none,0⟩),#[]⟩
noncomputable def o140 (P : Params) : Obj := ⟨(.type L68),none,(.seq #[] 0),#[]⟩
noncomputable def o141 (P : Params) : Obj := ⟨.none,none,(.fields #[]),#[]⟩
noncomputable def o142 (P : Params) : Obj := ⟨(.type L68),none,(.seq #[.str S198 354,.str S199 355,.str S200 356] 0),#[]⟩
noncomputable def o143 (P : Params) : Obj := ⟨(.type L68),none,(.seq #[] 0),#[]⟩
noncomputable def o144 (P : Params) : Obj := ⟨.none,none,(.func ⟨S180,S180,L2.defArgs (tp 14),(.stmts (L2.defBody (tp 14))),L2.defScope (tp 14),0,[],.none,.none,.none,.none,none,.none,.none,0⟩),#[]⟩
noncomputable def o145 (P : Params) : Obj := ⟨(.type L146),none,(.fields #[.str S180 351,.str S180 352,.str S164 353,.int 28 0,.int 3 0,.int 0 0,.int 0 0,.int 3 0,.ref 140,.bool true,.int 181 0,.ref 141,.none,.ref 142,.ref 143,.ref 144,.int 357 0,.int 28 0,.str S164 358]),#[]⟩
noncomputable def o146 (P : Params) : Obj := ⟨(.type L154),none,(.func ⟨S180,S180,L2.defArgs (tp 14),(.stmts (L2.defBody (tp 14))),L2.defScope (tp 14),3,[],.none,.none,.none,.str S197 319,none,.ref 145,.none,0⟩),#[]⟩
noncomputable def o147 (P : Params) : Obj := ⟨(.type L68),none,(.seq #[.str S182 362,.str S184 364] 0),#[]⟩
noncomputable def o148 (P : Params) : Obj := ⟨(.type L68),none,(.seq #[] 0),#[]⟩
noncomputable def o149 (P : Params) : Obj := ⟨.none,none,(.fields #[]),#[]⟩
noncomputable def o150 (P : Params) : Obj := ⟨(.type L68),none,(.seq #[.str S201 370,.str S198 371,.str S199 372,.str S202 373,.str S203 374,.str S204 375,.str S205 376,.str S206 377,.str S207 378] 0),#[]⟩
noncomputable def o151 (P : Params) : Obj := ⟨(.type L68),none,(.seq #[] 0),#[]⟩
noncomputable def o152 (P : Params) : Obj := ⟨.none,none,(.func ⟨S186,S186,L2.defArgs (tp 19),(.stmts (L2.defBody (tp 19))),L2.defScope (tp 19),0,[],.none,.none,.none,.none,none,.none,.none,0⟩),#[]⟩
noncomputable def o153 (P : Params) : Obj := ⟨(.type L146),none,(.fields #[.str S186 367,.str S186 368,.str S164 369,.int 35 0,.int 7 0,.int 0 0,.int 0 0,.int 3 0,.ref 148,.bool true,.int 181 0,.ref 149,.none,.ref 150,.ref 151,.ref 152,.int 379 0,.int 35 0,.str S164 380]),#[]⟩
noncomputable def o154 (P : Params) : Obj := ⟨(.type L154),none,(.func ⟨S186,S186,L2.defArgs (tp 19),(.stmts (L2.defBody (tp 19))),L2.defScope (tp 19),3,[],.none,.none,.none,.str S167 360,none,.ref 153,.none,0⟩),#[]⟩
noncomputable def o155 (P : Params) : Obj := ⟨(.type L68),none,(.seq #[] 0),#[]⟩
noncomputable def o156 (P : Params) : Obj := ⟨.none,none,(.fields #[]),#[]⟩
noncomputable def o157 (P : Params) : Obj := ⟨.none,none,(.func ⟨S187,S187,L2.defArgs (tp 20),(.stmts (L2.defBody (tp 20))),L2.defScope (tp 20),0,[],.none,.none,.none,.none,none,.none,.none,0⟩),#[]⟩
noncomputable def o158 (P : Params) : Obj := ⟨(.type L146),none,(.fields #[.str S187 382,.str S187 383,.str S164 384,.int 40 0,.int 2 0,.int 0 0,.int 0 0,.int 3 0,.ref 155,.bool true,.int 181 0,.ref 156,.none,.none,.none,.ref 157,.int 385 0,.int 40 0,.str S164 386]),#[]⟩
noncomputable def o159 (P : Params) : Obj := ⟨(.type L154),none,(.func ⟨S187,S187,L2.defArgs (tp 20),(.stmts (L2.defBody (tp 20))),L2.defScope (tp 20),3,[],.none,.none,.none,.str S167 360,none,.ref 158,.none,0⟩),#[]⟩
noncomputable def o160 (P : Params) : Obj := ⟨(.type L68),none,(.seq #[] 0),#[]⟩
noncomputable def o161 (P : Params) : Obj := ⟨.none,none,(.fields #[]),#[]⟩
noncomputable def o162 (P : Params) : Obj := ⟨(.type L68),none,(.seq #[.str S208 391,.str S209 392,.str S210 393,.str S211 394,.str S198 395,.str S199 396] 0),#[]⟩
noncomputable def o163 (P : Params) : Obj := ⟨(.type L68),none,(.seq #[] 0),#[]⟩
noncomputable def o164 (P : Params) : Obj := ⟨.none,none,(.func ⟨S188,S188,L2.defArgs (tp 21),(.stmts (L2.defBody (tp 21))),L2.defScope (tp 21),0,[],.none,.none,.none,.none,none,.none,.none,0⟩),#[]⟩
noncomputable def o165 (P : Params) : Obj := ⟨(.type L146),none,(.fields #[.str S188 388,.str S188 389,.str S164 390,.int 43 0,.int 4 0,.int 0 0,.int 0 0,.int 3 0,.ref 160,.bool true,.int 181 0,.ref 161,.none,.ref 162,.ref 163,.ref 164,.int 397 0,.int 43 0,.str S164 398]),#[]⟩
noncomputable def o166 (P : Params) : Obj := ⟨(.type L154),none,(.func ⟨S188,S188,L2.defArgs (tp 21),(.stmts (L2.defBody (tp 21))),L2.defScope (tp 21),3,[],.none,.none,.none,.str S167 360,none,.ref 165,.none,0⟩),#[]⟩
noncomputable def t0 : Params → BT := (f boot_o_0 (f boot_o_1 (f o3v1 (f boot_o_7 (f o15 (f o31 (f o63 (f o127 z z) z) (f o95 (f o159 z z) z)) (f o47 (f o79 (f o143 z z) z) (f o111 z z))) (f o23 (f o39 (f o71 (f o135 z z) z) (f o103 z z)) (f o55 (f o87 (f o151 z z) z) (f o119 z z)))) (f o11 (f o19 (f o35 (f o67 (f o131 z z) z) (f o99 (f o163 z z) z)) (f o51 (f o83 (f o147 z z) z) (f o115 z z))) (f o27 (f o43 (f o75 (f o139 z z) z) (f o107 z z)) (f o59 (f o91 (f o155 z z) z) (f o123 z z))))) (f boot_o_5 (f boot_o_9 (f o17 (f o33 (f o65 (f o129 z z) z) (f o97 (f o161 z z) z)) (f o49 (f o81 (f o145 z z) z) (f o113 z z))) (f o25 (f o41 (f o73 (f o137 z z) z) (f o105 z z)) (f o57 (f o89 (f o153 z z) z) (f o121 z z)))) (f o13 (f o21 (f o37 (f o69 (f o133 z z) z) (f o101 (f o165 z z) z)) (f o53 (f o85 (f o149 z z) z) (f o117 z z))) (f o29 (f o45 (f o77 (f o141 z z) z) (f o109 z z)) (f o61 (f o93 (f o157 z z) z) (f o125 z z)))))) (f boot_o_2 (f boot_o_4 (f boot_o_8 (f o16 (f o32 (f o64 (f o128 z z) z) (f o96 (f o160 z z) z)) (f o48 (f o80 (f o144 z z) z) (f o112 z z))) (f o24 (f o40 (f o72 (f o136 z z) z) (f o104 z z)) (f o56 (f o88 (f o152 z z) z) (f o120 z z)))) (f o12v1 (f o20 (f o36 (f o68 (f o132 z z) z) (f o100 (f o164 z z) z)) (f o52 (f o84 (f o148 z z) z) (f o116 z z))) (f o28 (f o44 (f o76 (f o140 z z) z) (f o108 z z)) (f o60 (f o92 (f o156 z z) z) (f o124 z z))))) (f boot_o_6 (f boot_o_10 (f o18 (f o34 (f o66 (f o130 z z) z) (f o98 (f o162 z z) z)) (f o50 (f o82 (f o146 z z) z) (f o114 z z))) (f o26 (f o42 (f o74 (f o138 z z) z) (f o106 z z)) (f o58 (f o90 (f o154 z z) z) (f o122 z z)))) (f o14 (f o22 (f o38 (f o70 (f o134 z z) z) (f o102 (f o166 z z) z)) (f o54 (f o86 (f o150 z z) z) (f o118 z z))) (f o30 (f o46 (f o78 (f o142 z z) z) (f o110 z z)) (f o62 (f o94 (f o158 z z) z) (f o126 z z)))))))
noncomputable abbrev s0 (w : World) (os : OsState) : SharedT := ⟨t0 w.params,167,{ },(Array.mk []),⟨0,0,0,0⟩,400,os⟩
noncomputable abbrev p0 : Pos := ⟨43,0,47,48⟩
noncomputable abbrev st0 : List Stmt := (pt.main.body.drop 0).take 22
theorem q0 (w : World) : (fun os => segRunT treeTable pt w m0 an 1 1983 (sB w os) ⟨(execs st0 en).wrap doneF deadEnd id id,cE,pB,B⟩) = fun os => some (.next,s0 w os,cE,p0) := by
  rw [PySem.W.Fast.te10110043849684766642,PySem.W.Fast.te14364793385576792824,PySem.W.Fast.te12563942051412417395]; kernel_rfl
noncomputable def o3v2 (P : Params) : Obj := ⟨(.type L0),none,(.dict #[e P S0 165 (.str S212 617),e P S2 166 .none,e P S3 167 .none,e P S4 168 (.builtin L144),e P S5 169 .none,e P S161 170 (.ref 6),e P S162 171 (.ref 4),e P S163 173 (.str S164 172),e P S165 174 .none,e P S168 206 (.ref 24),e P S169 222 (.ref 37),e P S170 238 (.ref 49),e P S171 254 (.ref 61),e P S172 270 (.ref 73),e P S173 286 (.ref 85),e P S174 302 (.ref 97),e P S175 318 (.ref 109),e P S176 328 (.ref 118),e P S177 335 (.ref 125),e P S178 342 (.ref 132),e P S179 350 (.ref 139),e P S180 359 (.ref 146),e P S181 363 (.str S182 362),e P S183 365 (.str S184 364),e P S185 366 (.ref 147),e P S186 381 (.ref 154),e P S187 387 (.ref 159),e P S188 399 (.ref 166),e P S213 405 (.ref 171),e P S214 411 (.ref 176),e P S215 413 (.str S216 412),e P S217 415 (.str S218 414),e P S219 419 (.int 16 418),e P S220 432 (.ref 183),e P S221 445 (.ref 190),e P S222 458 (.ref 197),e P S223 474 (.ref 204),e P S224 478 (.int 32 477),e P S225 493 (.ref 211),e P S226 514 (.ref 218),e P S227 518 (.int 8 517),e P S228 520 (.int 5 519),e P S229 532 (.ref 225),e P S230 539 (.ref 232),e P S231 616 (.ref 287),e P S232 625 (.ref 298),e P S233 634 (.ref 305),e P S234 644 (.ref 312),e P S235 651 (.ref 319),e P S236 663 (.ref 326),e P S237 671 (.ref 333),e P S238 686 (.ref 340),e P S239 692 (.ref 345),e P S240 704 (.ref 352),e P S241 721 (.ref 359),e P S242 729 (.ref 366)] 56),#[]⟩
noncomputable def o12v2 (P : Params) : Obj := ⟨.none,none,(.fields #[.int 2 0,.int 0 0,.ref 20,.int 4 0,.int 0 0,.ref 33,.int 6 0,.int 0 0,.ref 45,.int 8 0,.int 0 0,.ref 57,.int 10 0,.int 0 0,.ref 69,.int 12 0,.int 0 0,.ref 81,.int 14 0,.int 0 0,.ref 93,.int 16 0,.int 0 0,.ref 105,.int 19 0,.int 0 0,.ref 117,.int 21 0,.int 0 0,.ref 124,.int 23 0,.int 0 0,.ref 131,.int 25 0,.int 0 0,.ref 138,.int 28 0,.int 0 0,.ref 145,.int 35 0,.int 0 0,.ref 153,.int 40 0,.int 0 0,.ref 158,.int 43 0,.int 0 0,.ref 165,.int 48 0,.int 0 0,.ref 170,.int 52 0,.int 0 0,.ref 175,.int 58 0,.int 0 0,.ref 182,.int 65 0,.int 0 0,.ref 189,.int 72 0,.int 0 0,.ref 196,.int 78 0,.int 0 0,.ref 203,.int 92 0,.int 0 0,.ref 210,.int 99 0,.int 0 0,.ref 217,.int 122 0,.int 0 0,.ref 224,.int 129 0,.int 0 0,.ref 231,.int 131 0,.int 0 0,.ref 238,.int 174 0,.int 0 0,.ref 297,.int 176 0,.int 0 0,.ref 304,.int 183 0,.int 0 0,.ref 311,.int 190 0,.int 0 0,.ref 318,.int 194 0,.int 0 0,.ref 325,.int 203 0,.int 0 0,.ref 332,.int 205 0,.int 0 0,.ref 339,.int 216 0,.int 0 0,.ref 344,.int 238 0,.int 0 0,.ref 351,.int 245 0,.int 0 0,.ref 358,.int 266 0,.int 0 0,.ref 365]),#[]⟩
noncomputable def o167 (P : Params) : Obj := ⟨(.type L68),none,(.seq #[] 0),#[]⟩
noncomputable def o168 (P : Params) : Obj := ⟨.none,none,(.fields #[]),#[]⟩
noncomputable def o169 (P : Params) : Obj := ⟨.none,none,(.func ⟨S213,S213,L2.defArgs (tp 22),(.stmts (L2.defBody (tp 22))),L2.defScope (tp 22),0,[],.none,.none,.none,.none,none,.none,.none,0⟩),#[]⟩
noncomputable def o170 (P : Params) : Obj := ⟨(.type L146),none,(.fields #[.str S213 400,.str S213 401,.str S164 402,.int 48 0,.int 2 0,.int 0 0,.int 0 0,.int 3 0,.ref 167,.bool true,.int 181 0,.ref 168,.none,.none,.none,.ref 169,.int 403 0,.int 48 0,.str S164 404]),#[]⟩
noncomputable def o171 (P : Params) : Obj := ⟨(.type L154),none,(.func ⟨S213,S213,L2.defArgs (tp 22),(.stmts (L2.defBody (tp 22))),L2.defScope (tp 22),3,[],.none,.none,.none,.str S167 360,none,.ref 170,.none,0⟩),#[]⟩
noncomputable def o172 (P : Params) : Obj := ⟨(.type L68),none,(.seq #[] 0),#[]⟩
noncomputable def o173 (P : Params) : Obj := ⟨.none,none,(.fields #[]),#[]⟩
noncomputable def o174 (P : Params) : Obj := ⟨.none,none,(.func ⟨S214,S214,L2.defArgs (tp 23),(.stmts (L2.defBody (tp 23))),L2.defScope (tp 23),0,[],.none,.none,.none,.none,none,.none,.none,0⟩),#[]⟩
noncomputable def o175 (P : Params) : Obj := ⟨(.type L146),none,(.fields #[.str S214 406,.str S214 407,.str S164 408,.int 52 0,.int 2 0,.int 0 0,.int 0 0,.int 3 0,.ref 172,.bool true,.int 181 0,.ref 173,.none,.none,.none,.ref 174,.int 409 0,.int 52 0,.str S164 410]),#[]⟩
noncomputable def o176 (P : Params) : Obj := ⟨(.type L154),none,(.func ⟨S214,S214,L2.defArgs (tp 23),(.stmts (L2.defBody (tp 23))),L2.defScope (tp 23),3,[],.none,.none,.none,.str S167 360,none,.ref 175,.none,0⟩),#[]⟩
noncomputable def o177 (P : Params) : Obj := ⟨(.type L68),none,(.seq #[] 0),#[]⟩
noncomputable def o178 (P : Params) : Obj := ⟨.none,none,(.fields #[]),#[]⟩
noncomputable def o179 (P : Params) : Obj := ⟨(.type L68),none,(.seq #[.str S201 423,.str S209 424,.str S243 425,.str S244 426,.str S245 427,.str S202 428,.str S203 429] 0),#[]⟩
noncomputable def o180 (P : Params) : Obj := ⟨(.type L68),none,(.seq #[] 0),#[]⟩
noncomputable def o181 (P : Params) : Obj := ⟨.none,none,(.func ⟨S220,S220,L2.defArgs (tp 28),(.stmts (L2.defBody (tp 28))),L2.defScope (tp 28),0,[],.none,.none,.none,.none,none,.none,.none,0⟩),#[]⟩
noncomputable def o182 (P : Params) : Obj := ⟨(.type L146),none,(.fields #[.str S220 420,.str S220 421,.str S164 422,.int 58 0,.int 2 0,.int 0 0,.int 0 0,.int 3 0,.ref 177,.bool true,.int 181 0,.ref 178,.none,.ref 179,.ref 180,.ref 181,.int 430 0,.int 58 0,.str S164 431]),#[]⟩
noncomputable def o183 (P : Params) : Obj := ⟨(.type L154),none,(.func ⟨S220,S220,L2.defArgs (tp 28),(.stmts (L2.defBody (tp 28))),L2.defScope (tp 28),3,[],.none,.none,.none,.str S246 416,none,.ref 182,.none,0⟩),#[]⟩
noncomputable def o184 (P : Params) : Obj := ⟨(.type L68),none,(.seq #[] 0),#[]⟩
noncomputable def o185 (P : Params) : Obj := ⟨.none,none,(.fields #[]),#[]⟩
noncomputable def o186 (P : Params) : Obj := ⟨(.type L68),none,(.seq #[.str S247 436,.str S248 437,.str S249 438,.str S243 439,.str S250 440,.str S251 441,.str S252 442] 0),#[]⟩
noncomputable def o187 (P : Params) : Obj := ⟨(.type L68),none,(.seq #[] 0),#[]⟩
noncomputable def o188 (P : Params) : Obj := ⟨.none,none,(.func ⟨S221,S221,L2.defArgs (tp 29),(.stmts (L2.defBody (tp 29))),L2.defScope (tp 29),0,[],.none,.none,.none,.none,none,.none,.none,0⟩),#[]⟩
noncomputable def o189 (P : Params) : Obj := ⟨(.type L146),none,(.fields #[.str S221 433,.str S221 434,.str S164 435,.int 65 0,.int 3 0,.int 0 0,.int 0 0,.int 3 0,.ref 184,.bool true,.int 181 0,.ref 185,.none,.ref 186,.ref 187,.ref 188,.int 443 0,.int 65 0,.str S164 444]),#[]⟩
noncomputable def o190 (P : Params) : Obj := ⟨(.type L154),none,(.func ⟨S221,S221,L2.defArgs (tp 29),(.stmts (L2.defBody (tp 29))),L2.defScope (tp 29),3,[],.none,.none,.none,.str S246 416,none,.ref 189,.none,0⟩),#[]⟩
noncomputable def o191 (P : Params) : Obj := ⟨(.type L68),none,(.seq #[] 0),#[]⟩
noncomputable def o192 (P : Params) : Obj := ⟨.none,none,(.fields #[]),#[]⟩
noncomputable def o193 (P : Params) : Obj := ⟨(.type L68),none,(.seq #[.str S253 449,.str S254 450,.str S250 451,.str S210 452,.str S211 453,.str S255 454,.str S256 455] 0),#[]⟩
noncomputable def o194 (P : Params) : Obj := ⟨(.type L68),none,(.seq #[] 0),#[]⟩
noncomputable def o195 (P : Params) : Obj := ⟨.none,none,(.func ⟨S222,S222,L2.defArgs (tp 30),(.stmts (L2.defBody (tp 30))),L2.defScope (tp 30),0,[],.none,.none,.none,.none,none,.none,.none,0⟩),#[]⟩
noncomputable def o196 (P : Params) : Obj := ⟨(.type L146),none,(.fields #[.str S222 446,.str S222 447,.str S164 448,.int 72 0,.int 2 0,.int 0 0,.int 0 0,.int 3 0,.ref 191,.bool true,.int 181 0,.ref 192,.none,.ref 193,.ref 194,.ref 195,.int 456 0,.int 72 0,.str S164 457]),#[]⟩
noncomputable def o197 (P : Params) : Obj := ⟨(.type L154),none,(.func ⟨S222,S222,L2.defArgs (tp 30),(.stmts (L2.defBody (tp 30))),L2.defScope (tp 30),3,[],.none,.none,.none,.str S246 416,none,.ref 196,.none,0⟩),#[]⟩
noncomputable def o198 (P : Params) : Obj := ⟨(.type L68),none,(.seq #[] 0),#[]⟩
noncomputable def o199 (P : Params) : Obj := ⟨.none,none,(.fields #[]),#[]⟩
noncomputable def o200 (P : Params) : Obj := ⟨(.type L68),none,(.seq #[.str S201 462,.str S198 463,.str S199 464,.str S208 465,.str S257 466,.str S253 467,.str S209 468,.str S243 469,.str S250 470,.str S258 471] 0),#[]⟩
noncomputable def o201 (P : Params) : Obj := ⟨(.type L68),none,(.seq #[] 0),#[]⟩
noncomputable def o202 (P : Params) : Obj := ⟨.none,none,(.func ⟨S223,S223,L2.defArgs (tp 31),(.stmts (L2.defBody (tp 31))),L2.defScope (tp 31),0,[],.none,.none,.none,.none,none,.none,.none,0⟩),#[]⟩
noncomputable def o203 (P : Params) : Obj := ⟨(.type L146),none,(.fields #[.str S223 459,.str S223 460,.str S164 461,.int 78 0,.int 3 0,.int 0 0,.int 0 0,.int 3 0,.ref 198,.bool true,.int 181 0,.ref 199,.none,.ref 200,.ref 201,.ref 202,.int 472 0,.int 78 0,.str S164 473]),#[]⟩
noncomputable def o204 (P : Params) : Obj := ⟨(.type L154),none,(.func ⟨S223,S223,L2.defArgs (tp 31),(.stmts (L2.defBody (tp 31))),L2.defScope (tp 31),3,[],.none,.none,.none,.str S246 416,none,.ref 203,.none,0⟩),#[]⟩
noncomputable def o205 (P : Params) : Obj := ⟨(.type L68),none,(.seq #[] 0),#[]⟩
noncomputable def o206 (P : Params) : Obj := ⟨.none,none,(.fields #[]),#[]⟩
noncomputable def o207 (P : Params) : Obj := ⟨(.type L68),none,(.seq #[.str S248 482,.str S259 483,.str S260 484,.str S261 485,.str S210 486,.str S211 487,.str S255 488,.str S256 489,.str S262 490] 0),#[]⟩
noncomputable def o208 (P : Params) : Obj := ⟨(.type L68),none,(.seq #[] 0),#[]⟩
noncomputable def o209 (P : Params) : Obj := ⟨.none,none,(.func ⟨S225,S225,L2.defArgs (tp 34),(.stmts (L2.defBody (tp 34))),L2.defScope (tp 34),0,[],.none,.none,.none,.none,none,.none,.none,0⟩),#[]⟩
noncomputable def o210 (P : Params) : Obj := ⟨(.type L146),none,(.fields #[.str S225 479,.str S225 480,.str S164 481,.int 92 0,.int 3 0,.int 0 0,.int 0 0,.int 3 0,.ref 205,.bool true,.int 181 0,.ref 206,.none,.ref 207,.ref 208,.ref 209,.int 491 0,.int 92 0,.str S164 492]),#[]⟩
noncomputable def o211 (P : Params) : Obj := ⟨(.type L154),none,(.func ⟨S225,S225,L2.defArgs (tp 34),(.stmts (L2.defBody (tp 34))),L2.defScope (tp 34),3,[],.none,.none,.none,.str S263 475,none,.ref 210,.none,0⟩),#[]⟩
noncomputable def o212 (P : Params) : Obj := ⟨(.type L68),none,(.seq #[] 0),#[]⟩
noncomputable def o213 (P : Params) : Obj := ⟨.none,none,(.fields #[]),#[]⟩
noncomputable def o214 (P : Params) : Obj := ⟨(.type L68),none,(.seq #[.str S201 497,.str S198 498,.str S199 499,.str S264 500,.str S249 501,.str S253 502,.str S209 503,.str S247 504,.str S248 505,.str S260 506,.str S210 507,.str S243 508,.str S250 509,.str S254 510,.str S265 511] 0),#[]⟩
noncomputable def o215 (P : Params) : Obj := ⟨(.type L68),none,(.seq #[] 0),#[]⟩
noncomputable def o216 (P : Params) : Obj := ⟨.none,none,(.func ⟨S226,S226,L2.defArgs (tp 35),(.stmts (L2.defBody (tp 35))),L2.defScope (tp 35),0,[],.none,.none,.none,.none,none,.none,.none,0⟩),#[]⟩
noncomputable def o217 (P : Params) : Obj := ⟨(.type L146),none,(.fields #[.str S226 494,.str S226 495,.str S164 496,.int 99 0,.int 4 0,.int 0 0,.int 0 0,.int 3 0,.ref 212,.bool true,.int 181 0,.ref 213,.none,.ref 214,.ref 215,.ref 216,.int 512 0,.int 99 0,.str S164 513]),#[]⟩
noncomputable def o218 (P : Params) : Obj := ⟨(.type L154),none,(.func ⟨S226,S226,L2.defArgs (tp 35),(.stmts (L2.defBody (tp 35))),L2.defScope (tp 35),3,[],.none,.none,.none,.str S263 475,none,.ref 217,.none,0⟩),#[]⟩
noncomputable def o219 (P : Params) : Obj := ⟨(.type L68),none,(.seq #[] 0),#[]⟩
noncomputable def o220 (P : Params) : Obj := ⟨.none,none,(.fields #[]),#[]⟩
noncomputable def o221 (P : Params) : Obj := ⟨(.type L68),none,(.seq #[.str S195 524,.str S198 525,.str S199 526,.str S243 527,.str S266 528,.str S267 529] 0),#[]⟩
noncomputable def o222 (P : Params) : Obj := ⟨(.type L68),none,(.seq #[] 0),#[]⟩
noncomputable def o223 (P : Params) : Obj := ⟨.none,none,(.func ⟨S229,S229,L2.defArgs (tp 39),(.stmts (L2.defBody (tp 39))),L2.defScope (tp 39),0,[],.none,.none,.none,.none,none,.none,.none,0⟩),#[]⟩
noncomputable def o224 (P : Params) : Obj := ⟨(.type L146),none,(.fields #[.str S229 521,.str S229 522,.str S164 523,.int 122 0,.int 1 0,.int 0 0,.int 0 0,.int 3 0,.ref 219,.bool true,.int 181 0,.ref 220,.none,.ref 221,.ref 222,.ref 223,.int 530 0,.int 122 0,.str S164 531]),#[]⟩
noncomputable def o225 (P : Params) : Obj := ⟨(.type L154),none,(.func ⟨S229,S229,L2.defArgs (tp 39),(.stmts (L2.defBody (tp 39))),L2.defScope (tp 39),3,[],.none,.none,.none,.str S268 515,none,.ref 224,.none,0⟩),#[]⟩
noncomputable def o226 (P : Params) : Obj := ⟨(.type L68),none,(.seq #[] 0),#[]⟩
noncomputable def o227 (P : Params) : Obj := ⟨.none,none,(.fields #[]),#[]⟩
noncomputable def o228 (P : Params) : Obj := ⟨(.type L68),none,(.seq #[.str S202 536] 0),#[]⟩
noncomputable def o229 (P : Params) : Obj := ⟨(.type L68),none,(.seq #[] 0),#[]⟩
noncomputable def o230 (P : Params) : Obj := ⟨.none,none,(.func ⟨S230,S230,L2.defArgs (tp 40),(.stmts (L2.defBody (tp 40))),L2.defScope (tp 40),0,[],.none,.none,.none,.none,none,.none,.none,0⟩),#[]⟩
noncomputable def o231 (P : Params) : Obj := ⟨(.type L146),none,(.fields #[.str S230 533,.str S230 534,.str S164 535,.int 129 0,.int 1 0,.int 0 0,.int 0 0,.int 3 0,.ref 226,.bool true,.int 181 0,.ref 227,.none,.ref 228,.ref 229,.ref 230,.int 537 0,.int 129 0,.str S164 538]),#[]⟩
noncomputable def o232 (P : Params) : Obj := ⟨(.type L154),none,(.func ⟨S230,S230,L2.defArgs (tp 40),(.stmts (L2.defBody (tp 40))),L2.defScope (tp 40),3,[],.none,.none,.none,.str S268 515,none,.ref 231,.none,0⟩),#[]⟩
noncomputable def o233 (P : Params) : Obj := ⟨(.type L68),none,(.seq #[] 0),#[]⟩
noncomputable def o234 (P : Params) : Obj := ⟨(.type L148),none,(.fields #[.builtin L149,.type L69]),#[]⟩
noncomputable def o235 (P : Params) : Obj := ⟨(.type L0),none,(.dict #[e P S189 547 (.str S268 515),e P S191 549 (.str S231 548),e P S192 551 (.int 131 550),e P S269 557 (.ref 244),e P S208 564 (.ref 251),e P S245 571 (.ref 258),e P S266 577 (.ref 263),e P S270 587 (.ref 270),e P S271 596 (.ref 277),e P S272 606 (.ref 284),e P S193 609 (.ref 285)] 11),#[]⟩
noncomputable def o236 (P : Params) : Obj := ⟨(.type L68),none,(.seq #[] 0),#[]⟩
noncomputable def o237 (P : Params) : Obj := ⟨.none,none,(.fields #[.int 133 0,.int 4 0,.ref 243,.int 144 0,.int 4 0,.ref 250,.int 147 0,.int 4 0,.ref 257,.int 150 0,.int 4 0,.ref 262,.int 153 0,.int 4 0,.ref 269,.int 161 0,.int 4 0,.ref 276,.int 166 0,.int 4 0,.ref 283]),#[]⟩
noncomputable def o238 (P : Params) : Obj := ⟨(.type L146),none,(.fields #[.str S231 542,.str S231 543,.str S164 544,.int 131 0,.int 0 0,.int 0 0,.int 0 0,.int 0 0,.ref 236,.bool false,.int 181 0,.ref 237,.none,.none,.none,.none,.int 545 0,.int 131 0,.str S164 546]),#[]⟩
noncomputable def o239 (P : Params) : Obj := ⟨(.type L147),none,.plain,#[some (.ref 238),some (.ref 3),some (.ref 235),none,some (.str S268 515),none,some (.ref 0)]⟩
noncomputable def o240 (P : Params) : Obj := ⟨(.type L68),none,(.seq #[] 0),#[]⟩
noncomputable def o241 (P : Params) : Obj := ⟨.none,none,(.fields #[]),#[]⟩
noncomputable def o242 (P : Params) : Obj := ⟨.none,none,(.func ⟨S269,S273,L2.defArgs (L2.inClass (tp 41) 0),(.stmts (L2.defBody (L2.inClass (tp 41) 0))),L2.defScope (L2.inClass (tp 41) 0),0,[],.none,.none,.none,.none,none,.none,.none,0⟩),#[]⟩
noncomputable def o243 (P : Params) : Obj := ⟨(.type L146),none,(.fields #[.str S269 552,.str S273 553,.str S164 554,.int 133 0,.int 3 0,.int 0 0,.int 0 0,.int 3 0,.ref 240,.bool true,.int 181 0,.ref 241,.none,.none,.none,.ref 242,.int 555 0,.int 133 0,.str S164 556]),#[]⟩
noncomputable def o244 (P : Params) : Obj := ⟨(.type L154),none,(.func ⟨S269,S273,L2.defArgs (L2.inClass (tp 41) 0),(.stmts (L2.defBody (L2.inClass (tp 41) 0))),L2.defScope (L2.inClass (tp 41) 0),3,[],.none,.none,.none,.str S268 515,none,.ref 243,.none,0⟩),#[]⟩
noncomputable def o245 (P : Params) : Obj := ⟨(.type L68),none,(.seq #[] 0),#[]⟩
noncomputable def o246 (P : Params) : Obj := ⟨.none,none,(.fields #[]),#[]⟩
noncomputable def o247 (P : Params) : Obj := ⟨(.type L68),none,(.seq #[.str S274 561] 0),#[]⟩
noncomputable def o248 (P : Params) : Obj := ⟨(.type L68),none,(.seq #[] 0),#[]⟩
noncomputable def o249 (P : Params) : Obj := ⟨.none,none,(.func ⟨S208,S275,L2.defArgs (L2.inClass (tp 41) 1),(.stmts (L2.defBody (L2.inClass (tp 41) 1))),L2.defScope (L2.inClass (tp 41) 1),0,[],.none,.none,.none,.none,none,.none,.none,0⟩),#[]⟩
noncomputable def o250 (P : Params) : Obj := ⟨(.type L146),none,(.fields #[.str S208 558,.str S275 559,.str S164 560,.int 144 0,.int 1 0,.int 0 0,.int 0 0,.int 3 0,.ref 245,.bool true,.int 181 0,.ref 246,.none,.ref 247,.ref 248,.ref 249,.int 562 0,.int 144 0,.str S164 563]),#[]⟩
noncomputable def o251 (P : Params) : Obj := ⟨(.type L154),none,(.func ⟨S208,S275,L2.defArgs (L2.inClass (tp 41) 1),(.stmts (L2.defBody (L2.inClass (tp 41) 1))),L2.defScope (L2.inClass (tp 41) 1),3,[],.none,.none,.none,.str S268 515,none,.ref 250,.none,0⟩),#[]⟩
noncomputable def o252 (P : Params) : Obj := ⟨(.type L68),none,(.seq #[] 0),#[]⟩
noncomputable def o253 (P : Params) : Obj := ⟨.none,none,(.fields #[]),#[]⟩
noncomputable def o254 (P : Params) : Obj := ⟨(.type L68),none,(.seq #[.str S274 568] 0),#[]⟩
noncomputable def o255 (P : Params) : Obj := ⟨(.type L68),none,(.seq #[] 0),#[]⟩
noncomputable def o256 (P : Params) : Obj := ⟨.none,none,(.func ⟨S245,S276,L2.defArgs (L2.inClass (tp 41) 2),(.stmts (L2.defBody (L2.inClass (tp 41) 2))),L2.defScope (L2.inClass (tp 41) 2),0,[],.none,.none,.none,.none,none,.none,.none,0⟩),#[]⟩
noncomputable def o257 (P : Params) : Obj := ⟨(.type L146),none,(.fields #[.str S245 565,.str S276 566,.str S164 567,.int 147 0,.int 1 0,.int 0 0,.int 0 0,.int 3 0,.ref 252,.bool true,.int 181 0,.ref 253,.none,.ref 254,.ref 255,.ref 256,.int 569 0,.int 147 0,.str S164 570]),#[]⟩
noncomputable def o258 (P : Params) : Obj := ⟨(.type L154),none,(.func ⟨S245,S276,L2.defArgs (L2.inClass (tp 41) 2),(.stmts (L2.defBody (L2.inClass (tp 41) 2))),L2.defScope (L2.inClass (tp 41) 2),3,[],.none,.none,.none,.str S268 515,none,.ref 257,.none,0⟩),#[]⟩
noncomputable def o259 (P : Params) : Obj := ⟨(.type L68),none,(.seq #[] 0),#[]⟩
noncomputable def o260 (P : Params) : Obj := ⟨.none,none,(.fields #[]),#[]⟩
noncomputable def o261 (P : Params) : Obj := ⟨.none,none,(.func ⟨S266,S277,L2.defArgs (L2.inClass (tp 41) 3),(.stmts (L2.defBody (L2.inClass (tp 41) 3))),L2.defScope (L2.inClass (tp 41) 3),0,[],.none,.none,.none,.none,none,.none,.none,0⟩),#[]⟩
noncomputable def o262 (P : Params) : Obj := ⟨(.type L146),none,(.fields #[.str S266 572,.str S277 573,.str S164 574,.int 150 0,.int 1 0,.int 0 0,.int 0 0,.int 3 0,.ref 259,.bool true,.int 181 0,.ref 260,.none,.none,.none,.ref 261,.int 575 0,.int 150 0,.str S164 576]),#[]⟩
noncomputable def o263 (P : Params) : Obj := ⟨(.type L154),none,(.func ⟨S266,S277,L2.defArgs (L2.inClass (tp 41) 3),(.stmts (L2.defBody (L2.inClass (tp 41) 3))),L2.defScope (L2.inClass (tp 41) 3),3,[],.none,.none,.none,.str S268 515,none,.ref 262,.none,0⟩),#[]⟩
noncomputable def o264 (P : Params) : Obj := ⟨(.type L68),none,(.seq #[] 0),#[]⟩
noncomputable def o265 (P : Params) : Obj := ⟨.none,none,(.fields #[]),#[]⟩
noncomputable def o266 (P : Params) : Obj := ⟨(.type L68),none,(.seq #[.str S274 581,.str S278 582,.str S279 583,.str S202 584] 0),#[]⟩
noncomputable def o267 (P : Params) : Obj := ⟨(.type L68),none,(.seq #[] 0),#[]⟩
noncomputable def o268 (P : Params) : Obj := ⟨.none,none,(.func ⟨S270,S280,L2.defArgs (L2.inClass (tp 41) 4),(.stmts (L2.defBody (L2.inClass (tp 41) 4))),L2.defScope (L2.inClass (tp 41) 4),0,[],.none,.none,.none,.none,none,.none,.none,0⟩),#[]⟩
noncomputable def o269 (P : Params) : Obj := ⟨(.type L146),none,(.fields #[.str S270 578,.str S280 579,.str S164 580,.int 153 0,.int 1 0,.int 0 0,.int 0 0,.int 3 0,.ref 264,.bool true,.int 181 0,.ref 265,.none,.ref 266,.ref 267,.ref 268,.int 585 0,.int 153 0,.str S164 586]),#[]⟩
noncomputable def o270 (P : Params) : Obj := ⟨(.type L154),none,(.func ⟨S270,S280,L2.defArgs (L2.inClass (tp 41) 4),(.stmts (L2.defBody (L2.inClass (tp 41) 4))),L2.defScope (L2.inClass (tp 41) 4),3,[],.none,.none,.none,.str S268 515,none,.ref 269,.none,0⟩),#[]⟩
noncomputable def o271 (P : Params) : Obj := ⟨(.type L68),none,(.seq #[] 0),#[]⟩
noncomputable def o272 (P : Params) : Obj := ⟨.none,none,(.fields #[]),#[]⟩
noncomputable def o273 (P : Params) : Obj := ⟨(.type L68),none,(.seq #[.str S274 591,.str S202 592,.str S203 593] 0),#[]⟩
noncomputable def o274 (P : Params) : Obj := ⟨(.type L68),none,(.seq #[] 0),#[]⟩
noncomputable def o275 (P : Params) : Obj := ⟨.none,none,(.func ⟨S271,S281,L2.defArgs (L2.inClass (tp 41) 5),(.stmts (L2.defBody (L2.inClass (tp 41) 5))),L2.defScope (L2.inClass (tp 41) 5),0,[],.none,.none,.none,.none,none,.none,.none,0⟩),#[]⟩
noncomputable def o276 (P : Params) : Obj := ⟨(.type L146),none,(.fields #[.str S271 588,.str S281 589,.str S164 590,.int 161 0,.int 3 0,.int 0 0,.int 0 0,.int 3 0,.ref 271,.bool true,.int 181 0,.ref 272,.none,.ref 273,.ref 274,.ref 275,.int 594 0,.int 161 0,.str S164 595]),#[]⟩
noncomputable def o277 (P : Params) : Obj := ⟨(.type L154),none,(.func ⟨S271,S281,L2.defArgs (L2.inClass (tp 41) 5),(.stmts (L2.defBody (L2.inClass (tp 41) 5))),L2.defScope (L2.inClass (tp 41) 5),3,[],.none,.none,.none,.str S268 515,none,.ref 276,.none,0⟩),#[]⟩
noncomputable def o278 (P : Params) : Obj := ⟨(.type L68),none,(.seq #[] 0),#[]⟩
noncomputable def o279 (P : Params) : Obj := ⟨.none,none,(.fields #[]),#[]⟩
noncomputable def o280 (P : Params) : Obj := ⟨(.type L68),none,(.seq #[.str S274 600,.str S202 601,.str S203 602,.str S282 603] 0),#[]⟩
noncomputable def o281 (P : Params) : Obj := ⟨(.type L68),none,(.seq #[] 0),#[]⟩
noncomputable def o282 (P : Params) : Obj := ⟨.none,none,(.func ⟨S272,S283,L2.defArgs (L2.inClass (tp 41) 6),(.stmts (L2.defBody (L2.inClass (tp 41) 6))),L2.defScope (L2.inClass (tp 41) 6),0,[],.none,.none,.none,.none,none,.none,.none,0⟩),#[]⟩
noncomputable def o283 (P : Params) : Obj := ⟨(.type L146),none,(.fields #[.str S272 597,.str S283 598,.str S164 599,.int 166 0,.int 3 0,.int 0 0,.int 0 0,.int 3 0,.ref 278,.bool true,.int 181 0,.ref 279,.none,.ref 280,.ref 281,.ref 282,.int 604 0,.int 166 0,.str S164 605]),#[]⟩
noncomputable def o284 (P : Params) : Obj := ⟨(.type L154),none,(.func ⟨S272,S283,L2.defArgs (L2.inClass (tp 41) 6),(.stmts (L2.defBody (L2.inClass (tp 41) 6))),L2.defScope (L2.inClass (tp 41) 6),3,[],.none,.none,.none,.str S268 515,none,.ref 283,.none,0⟩),#[]⟩
noncomputable def o285 (P : Params) : Obj := ⟨(.type L68),none,(.seq #[.str S284 607,.str S285 608] 0),#[]⟩
noncomputable def o286 (P : Params) : Obj := ⟨(.type L0),none,(.dict #[e P S189 547 (.str S268 515),e P S192 551 (.int 131 550),e P S269 557 (.ref 244),e P S208 564 (.ref 251),e P S245 571 (.ref 258),e P S266 577 (.ref 263),e P S270 587 (.ref 270),e P S271 596 (.ref 277),e P S272 606 (.ref 284),e P S193 609 (.ref 285),e P S286 611 (.ref 288),e P S194 613 (.ref 289),e P S2 614 .none] 4),#[]⟩
noncomputable abbrev L155 : String := PySem.W.SL.s11443829558043349243x14
noncomputable def o287 (P : Params) : Obj := ⟨(.type L69),none,(.cls ⟨S231,[.type L60],[.ref 287,.type L60],286,S231,true,[],[],false,none,false⟩),#[none,none,some (.str S231 540),some (.str S231 548),some (.builtin L155),some (.bool true)]⟩
noncomputable abbrev L156 : String := PySem.W.SL.s6511155373996960695x17
noncomputable abbrev L157 : String := PySem.W.SL.s12411053484034534018x21
noncomputable def o288 (P : Params) : Obj := ⟨(.type L151),none,(.fields #[.str S286 610,.ref 287,.builtin L156,.builtin L157]),#[]⟩
noncomputable def o289 (P : Params) : Obj := ⟨(.type L151),none,(.fields #[.str S194 612,.ref 287,.builtin L152,.none]),#[]⟩
noncomputable def o290 (P : Params) : Obj := ⟨(.type L67),none,(.fields #[.ref 287,.ref 287,.ref 287]),#[]⟩
noncomputable def o291 (P : Params) : Obj := ⟨(.type L148),none,(.fields #[.builtin L153,.ref 287]),#[]⟩
noncomputable def o292 (P : Params) : Obj := ⟨(.type L68),none,(.seq #[] 0),#[]⟩
noncomputable def o293 (P : Params) : Obj := ⟨.none,none,(.fields #[]),#[]⟩
noncomputable def o294 (P : Params) : Obj := ⟨(.type L68),none,(.seq #[.str S287 622] 0),#[]⟩
noncomputable def o295 (P : Params) : Obj := ⟨(.type L68),none,(.seq #[] 0),#[]⟩
noncomputable def o296 (P : Params) : Obj := ⟨.none,none,(.func ⟨S232,S232,L2.defArgs (tp 43),(.stmts (L2.defBody (tp 43))),L2.defScope (tp 43),0,[],.none,.none,.none,.none,none,.none,.none,0⟩),#[]⟩
noncomputable def o297 (P : Params) : Obj := ⟨(.type L146),none,(.fields #[.str S232 619,.str S232 620,.str S164 621,.int 174 0,.int 1 0,.int 0 0,.int 0 0,.int 3 0,.ref 292,.bool true,.int 181 0,.ref 293,.none,.ref 294,.ref 295,.ref 296,.int 623 0,.int 174 0,.str S164 624]),#[]⟩
noncomputable def o298 (P : Params) : Obj := ⟨(.type L154),none,(.func ⟨S232,S232,L2.defArgs (tp 43),(.stmts (L2.defBody (tp 43))),L2.defScope (tp 43),3,[],.none,.none,.none,.str S212 617,none,.ref 297,.none,0⟩),#[]⟩
noncomputable def o299 (P : Params) : Obj := ⟨(.type L68),none,(.seq #[] 0),#[]⟩
noncomputable def o300 (P : Params) : Obj := ⟨.none,none,(.fields #[]),#[]⟩
noncomputable def o301 (P : Params) : Obj := ⟨(.type L68),none,(.seq #[.str S288 629,.str S289 630,.str S290 631] 0),#[]⟩
noncomputable def o302 (P : Params) : Obj := ⟨(.type L68),none,(.seq #[] 0),#[]⟩
noncomputable def o303 (P : Params) : Obj := ⟨.none,none,(.func ⟨S233,S233,L2.defArgs (tp 44),(.stmts (L2.defBody (tp 44))),L2.defScope (tp 44),0,[],.none,.none,.none,.none,none,.none,.none,0⟩),#[]⟩
noncomputable def o304 (P : Params) : Obj := ⟨(.type L146),none,(.fields #[.str S233 626,.str S233 627,.str S164 628,.int 176 0,.int 2 0,.int 0 0,.int 0 0,.int 3 0,.ref 299,.bool true,.int 181 0,.ref 300,.none,.ref 301,.ref 302,.ref 303,.int 632 0,.int 176 0,.str S164 633]),#[]⟩
noncomputable def o305 (P : Params) : Obj := ⟨(.type L154),none,(.func ⟨S233,S233,L2.defArgs (tp 44),(.stmts (L2.defBody (tp 44))),L2.defScope (tp 44),3,[],.none,.none,.none,.str S212 617,none,.ref 304,.none,0⟩),#[]⟩
noncomputable def o306 (P : Params) : Obj := ⟨(.type L68),none,(.seq #[] 0),#[]⟩
noncomputable def o307 (P : Params) : Obj := ⟨.none,none,(.fields #[]),#[]⟩
noncomputable def o308 (P : Params) : Obj := ⟨(.type L68),none,(.seq #[.str S288 638,.str S289 639,.str S291 640,.str S292 641] 0),#[]⟩
noncomputable def o309 (P : Params) : Obj := ⟨(.type L68),none,(.seq #[] 0),#[]⟩
noncomputable def o310 (P : Params) : Obj := ⟨.none,none,(.func ⟨S234,S234,L2.defArgs (tp 45),(.stmts (L2.defBody (tp 45))),L2.defScope (tp 45),0,[],.none,.none,.none,.none,none,.none,.none,0⟩),#[]⟩
noncomputable def o311 (P : Params) : Obj := ⟨(.type L146),none,(.fields #[.str S234 635,.str S234 636,.str S164 637,.int 183 0,.int 2 0,.int 0 0,.int 0 0,.int 3 0,.ref 306,.bool true,.int 181 0,.ref 307,.none,.ref 308,.ref 309,.ref 310,.int 642 0,.int 183 0,.str S164 643]),#[]⟩
noncomputable def o312 (P : Params) : Obj := ⟨(.type L154),none,(.func ⟨S234,S234,L2.defArgs (tp 45),(.stmts (L2.defBody (tp 45))),L2.defScope (tp 45),3,[],.none,.none,.none,.str S212 617,none,.ref 311,.none,0⟩),#[]⟩
noncomputable def o313 (P : Params) : Obj := ⟨(.type L68),none,(.seq #[] 0),#[]⟩
noncomputable def o314 (P : Params) : Obj := ⟨.none,none,(.fields #[]),#[]⟩
noncomputable def o315 (P : Params) : Obj := ⟨(.type L68),none,(.seq #[.str S288 648] 0),#[]⟩
noncomputable def o316 (P : Params) : Obj := ⟨(.type L68),none,(.seq #[] 0),#[]⟩
noncomputable def o317 (P : Params) : Obj := ⟨.none,none,(.func ⟨S235,S235,L2.defArgs (tp 46),(.stmts (L2.defBody (tp 46))),L2.defScope (tp 46),0,[],.none,.none,.none,.none,none,.none,.none,0⟩),#[]⟩
noncomputable def o318 (P : Params) : Obj := ⟨(.type L146),none,(.fields #[.str S235 645,.str S235 646,.str S164 647,.int 190 0,.int 1 0,.int 0 0,.int 0 0,.int 3 0,.ref 313,.bool true,.int 181 0,.ref 314,.none,.ref 315,.ref 316,.ref 317,.int 649 0,.int 190 0,.str S164 650]),#[]⟩
noncomputable def o319 (P : Params) : Obj := ⟨(.type L154),none,(.func ⟨S235,S235,L2.defArgs (tp 46),(.stmts (L2.defBody (tp 46))),L2.defScope (tp 46),3,[],.none,.none,.none,.str S212 617,none,.ref 318,.none,0⟩),#[]⟩
noncomputable def o320 (P : Params) : Obj := ⟨(.type L68),none,(.seq #[] 0),#[]⟩
noncomputable def o321 (P : Params) : Obj := ⟨.none,none,(.fields #[]),#[]⟩
noncomputable def o322 (P : Params) : Obj := ⟨(.type L68),none,(.seq #[.str S288 655,.str S293 656,.str S292 657,.str S294 658,.str S295 659,.str S296 660] 0),#[]⟩
noncomputable def o323 (P : Params) : Obj := ⟨(.type L68),none,(.seq #[] 0),#[]⟩
noncomputable def o324 (P : Params) : Obj := ⟨.none,none,(.func ⟨S236,S236,L2.defArgs (tp 47),(.stmts (L2.defBody (tp 47))),L2.defScope (tp 47),0,[],.none,.none,.none,.none,none,.none,.none,0⟩),#[]⟩
noncomputable def o325 (P : Params) : Obj := ⟨(.type L146),none,(.fields #[.str S236 652,.str S236 653,.str S164 654,.int 194 0,.int 1 0,.int 0 0,.int 0 0,.int 3 0,.ref 320,.bool true,.int 181 0,.ref 321,.none,.ref 322,.ref 323,.ref 324,.int 661 0,.int 194 0,.str S164 662]),#[]⟩
noncomputable def o326 (P : Params) : Obj := ⟨(.type L154),none,(.func ⟨S236,S236,L2.defArgs (tp 47),(.stmts (L2.defBody (tp 47))),L2.defScope (tp 47),3,[],.none,.none,.none,.str S212 617,none,.ref 325,.none,0⟩),#[]⟩
noncomputable def o327 (P : Params) : Obj := ⟨(.type L68),none,(.seq #[] 0),#[]⟩
noncomputable def o328 (P : Params) : Obj := ⟨.none,none,(.fields #[]),#[]⟩
noncomputable def o329 (P : Params) : Obj := ⟨(.type L68),none,(.seq #[.str S290 667,.str S297 668] 0),#[]⟩
noncomputable def o330 (P : Params) : Obj := ⟨(.type L68),none,(.seq #[] 0),#[]⟩
noncomputable def o331 (P : Params) : Obj := ⟨.none,none,(.func ⟨S237,S237,L2.defArgs (tp 48),(.stmts (L2.defBody (tp 48))),L2.defScope (tp 48),0,[],.none,.none,.none,.none,none,.none,.none,0⟩),#[]⟩
noncomputable def o332 (P : Params) : Obj := ⟨(.type L146),none,(.fields #[.str S237 664,.str S237 665,.str S164 666,.int 203 0,.int 2 0,.int 0 0,.int 0 0,.int 3 0,.ref 327,.bool true,.int 181 0,.ref 328,.none,.ref 329,.ref 330,.ref 331,.int 669 0,.int 203 0,.str S164 670]),#[]⟩
noncomputable def o333 (P : Params) : Obj := ⟨(.type L154),none,(.func ⟨S237,S237,L2.defArgs (tp 48),(.stmts (L2.defBody (tp 48))),L2.defScope (tp 48),3,[],.none,.none,.none,.str S212 617,none,.ref 332,.none,0⟩),#[]⟩
noncomputable def o334 (P : Params) : Obj := ⟨(.type L68),none,(.seq #[] 0),#[]⟩
noncomputable def o335 (P : Params) : Obj := ⟨.none,none,(.fields #[]),#[]⟩
noncomputable def o336 (P : Params) : Obj := ⟨(.type L68),none,(.seq #[.str S293 675,.str S294 676,.str S295 677,.str S298 678,.str S299 679,.str S300 680,.str S296 681,.str S301 682,.str S302 683] 0),#[]⟩
noncomputable def o337 (P : Params) : Obj := ⟨(.type L68),none,(.seq #[] 0),#[]⟩
noncomputable def o338 (P : Params) : Obj := ⟨.none,none,(.func ⟨S238,S238,L2.defArgs (tp 49),(.stmts (L2.defBody (tp 49))),L2.defScope (tp 49),0,[],.none,.none,.none,.none,none,.none,.none,0⟩),#[]⟩
noncomputable def o339 (P : Params) : Obj := ⟨(.type L146),none,(.fields #[.str S238 672,.str S238 673,.str S164 674,.int 205 0,.int 4 0,.int 0 0,.int 0 0,.int 3 0,.ref 334,.bool true,.int 181 0,.ref 335,.none,.ref 336,.ref 337,.ref 338,.int 684 0,.int 205 0,.str S164 685]),#[]⟩
noncomputable def o340 (P : Params) : Obj := ⟨(.type L154),none,(.func ⟨S238,S238,L2.defArgs (tp 49),(.stmts (L2.defBody (tp 49))),L2.defScope (tp 49),3,[],.none,.none,.none,.str S212 617,none,.ref 339,.none,0⟩),#[]⟩
noncomputable def o341 (P : Params) : Obj := ⟨(.type L68),none,(.seq #[] 0),#[]⟩
noncomputable def o342 (P : Params) : Obj := ⟨.none,none,(.fields #[]),#[]⟩
noncomputable def o343 (P : Params) : Obj := ⟨.none,none,(.func ⟨S239,S239,L2.defArgs (tp 50),(.stmts (L2.defBody (tp 50))),L2.defScope (tp 50),0,[],.none,.none,.none,.none,none,.none,.none,0⟩),#[]⟩
noncomputable def o344 (P : Params) : Obj := ⟨(.type L146),none,(.fields #[.str S239 687,.str S239 688,.str S164 689,.int 216 0,.int 6 0,.int 0 0,.int 0 0,.int 3 0,.ref 341,.bool true,.int 181 0,.ref 342,.none,.none,.none,.ref 343,.int 690 0,.int 216 0,.str S164 691]),#[]⟩
noncomputable def o345 (P : Params) : Obj := ⟨(.type L154),none,(.func ⟨S239,S239,L2.defArgs (tp 50),(.stmts (L2.defBody (tp 50))),L2.defScope (tp 50),3,[],.none,.none,.none,.str S212 617,none,.ref 344,.none,0⟩),#[]⟩
noncomputable def o346 (P : Params) : Obj := ⟨(.type L68),none,(.seq #[] 0),#[]⟩
noncomputable def o347 (P : Params) : Obj := ⟨.none,none,(.fields #[]),#[]⟩
noncomputable def o348 (P : Params) : Obj := ⟨(.type L68),none,(.seq #[.str S303 696,.str S304 697,.str S293 698,.str S305 699,.str S292 700,.str S306 701] 0),#[]⟩
noncomputable def o349 (P : Params) : Obj := ⟨(.type L68),none,(.seq #[] 0),#[]⟩
noncomputable def o350 (P : Params) : Obj := ⟨.none,none,(.func ⟨S240,S240,L2.defArgs (tp 51),(.stmts (L2.defBody (tp 51))),L2.defScope (tp 51),0,[],.none,.none,.none,.none,none,.none,.none,0⟩),#[]⟩
noncomputable def o351 (P : Params) : Obj := ⟨(.type L146),none,(.fields #[.str S240 693,.str S240 694,.str S164 695,.int 238 0,.int 5 0,.int 0 0,.int 0 0,.int 3 0,.ref 346,.bool true,.int 181 0,.ref 347,.none,.ref 348,.ref 349,.ref 350,.int 702 0,.int 238 0,.str S164 703]),#[]⟩
noncomputable def o352 (P : Params) : Obj := ⟨(.type L154),none,(.func ⟨S240,S240,L2.defArgs (tp 51),(.stmts (L2.defBody (tp 51))),L2.defScope (tp 51),3,[],.none,.none,.none,.str S212 617,none,.ref 351,.none,0⟩),#[]⟩
noncomputable def o353 (P : Params) : Obj := ⟨(.type L68),none,(.seq #[] 0),#[]⟩
noncomputable def o354 (P : Params) : Obj := ⟨.none,none,(.fields #[]),#[]⟩
noncomputable def o355 (P : Params) : Obj := ⟨(.type L68),none,(.seq #[.str S288 708,.str S304 709,.str S293 710,.str S305 711,.str S303 712,.str S297 713,.str S292 714,.str S291 715,.str S289 716,.str S296 717,.str S306 718] 0),#[]⟩
noncomputable def o356 (P : Params) : Obj := ⟨(.type L68),none,(.seq #[] 0),#[]⟩
noncomputable def o357 (P : Params) : Obj := ⟨.none,none,(.func ⟨S241,S241,L2.defArgs (tp 52),(.stmts (L2.defBody (tp 52))),L2.defScope (tp 52),0,[],.none,.none,.none,.none,none,.none,.none,0⟩),#[]⟩
noncomputable def o358 (P : Params) : Obj := ⟨(.type L146),none,(.fields #[.str S241 705,.str S241 706,.str S164 707,.int 245 0,.int 1 0,.int 0 0,.int 0 0,.int 3 0,.ref 353,.bool true,.int 181 0,.ref 354,.none,.ref 355,.ref 356,.ref 357,.int 719 0,.int 245 0,.str S164 720]),#[]⟩
noncomputable def o359 (P : Params) : Obj := ⟨(.type L154),none,(.func ⟨S241,S241,L2.defArgs (tp 52),(.stmts (L2.defBody (tp 52))),L2.defScope (tp 52),3,[],.none,.none,.none,.str S212 617,none,.ref 358,.none,0⟩),#[]⟩
noncomputable def o360 (P : Params) : Obj := ⟨(.type L68),none,(.seq #[] 0),#[]⟩
noncomputable def o361 (P : Params) : Obj := ⟨.none,none,(.fields #[]),#[]⟩
noncomputable def o362 (P : Params) : Obj := ⟨(.type L68),none,(.seq #[.str S307 725,.str S287 726] 0),#[]⟩
noncomputable def o363 (P : Params) : Obj := ⟨(.type L68),none,(.seq #[] 0),#[]⟩
noncomputable def o364 (P : Params) : Obj := ⟨.none,none,(.func ⟨S242,S242,L2.defArgs (tp 53),(.stmts (L2.defBody (tp 53))),L2.defScope (tp 53),0,[],.none,.none,.none,.none,none,.none,.none,0⟩),#[]⟩
noncomputable def o365 (P : Params) : Obj := ⟨(.type L146),none,(.fields #[.str S242 722,.str S242 723,.str S164 724,.int 266 0,.int 1 0,.int 0 0,.int 0 0,.int 3 0,.ref 360,.bool true,.int 181 0,.ref 361,.none,.ref 362,.ref 363,.ref 364,.int 727 0,.int 266 0,.str S164 728]),#[]⟩
noncomputable def o366 (P : Params) : Obj := ⟨(.type L154),none,(.func ⟨S242,S242,L2.defArgs (tp 53),(.stmts (L2.defBody (tp 53))),L2.defScope (tp 53),3,[],.none,.none,.none,.str S212 617,none,.ref 365,.none,0⟩),#[]⟩
noncomputable def t1 : Params → BT := (f boot_o_0 (f boot_o_1 (f o3v2 (f boot_o_7 (f o15 (f o31 (f o63 (f o127 (f o255 z z) z) (f o191 (f o319 z z) z)) (f o95 (f o159 (f o287 z z) z) (f o223 (f o351 z z) z))) (f o47 (f o79 (f o143 (f o271 z z) z) (f o207 (f o335 z z) z)) (f o111 (f o175 (f o303 z z) z) (f o239 z z)))) (f o23 (f o39 (f o71 (f o135 (f o263 z z) z) (f o199 (f o327 z z) z)) (f o103 (f o167 (f o295 z z) z) (f o231 (f o359 z z) z))) (f o55 (f o87 (f o151 (f o279 z z) z) (f o215 (f o343 z z) z)) (f o119 (f o183 (f o311 z z) z) (f o247 z z))))) (f o11 (f o19 (f o35 (f o67 (f o131 (f o259 z z) z) (f o195 (f o323 z z) z)) (f o99 (f o163 (f o291 z z) z) (f o227 (f o355 z z) z))) (f o51 (f o83 (f o147 (f o275 z z) z) (f o211 (f o339 z z) z)) (f o115 (f o179 (f o307 z z) z) (f o243 z z)))) (f o27 (f o43 (f o75 (f o139 (f o267 z z) z) (f o203 (f o331 z z) z)) (f o107 (f o171 (f o299 z z) z) (f o235 (f o363 z z) z))) (f o59 (f o91 (f o155 (f o283 z z) z) (f o219 (f o347 z z) z)) (f o123 (f o187 (f o315 z z) z) (f o251 z z)))))) (f boot_o_5 (f boot_o_9 (f o17 (f o33 (f o65 (f o129 (f o257 z z) z) (f o193 (f o321 z z) z)) (f o97 (f o161 (f o289 z z) z) (f o225 (f o353 z z) z))) (f o49 (f o81 (f o145 (f o273 z z) z) (f o209 (f o337 z z) z)) (f o113 (f o177 (f o305 z z) z) (f o241 z z)))) (f o25 (f o41 (f o73 (f o137 (f o265 z z) z) (f o201 (f o329 z z) z)) (f o105 (f o169 (f o297 z z) z) (f o233 (f o361 z z) z))) (f o57 (f o89 (f o153 (f o281 z z) z) (f o217 (f o345 z z) z)) (f o121 (f o185 (f o313 z z) z) (f o249 z z))))) (f o13 (f o21 (f o37 (f o69 (f o133 (f o261 z z) z) (f o197 (f o325 z z) z)) (f o101 (f o165 (f o293 z z) z) (f o229 (f o357 z z) z))) (f o53 (f o85 (f o149 (f o277 z z) z) (f o213 (f o341 z z) z)) (f o117 (f o181 (f o309 z z) z) (f o245 z z)))) (f o29 (f o45 (f o77 (f o141 (f o269 z z) z) (f o205 (f o333 z z) z)) (f o109 (f o173 (f o301 z z) z) (f o237 (f o365 z z) z))) (f o61 (f o93 (f o157 (f o285 z z) z) (f o221 (f o349 z z) z)) (f o125 (f o189 (f o317 z z) z) (f o253 z z))))))) (f boot_o_2 (f boot_o_4 (f boot_o_8 (f o16 (f o32 (f o64 (f o128 (f o256 z z) z) (f o192 (f o320 z z) z)) (f o96 (f o160 (f o288 z z) z) (f o224 (f o352 z z) z))) (f o48 (f o80 (f o144 (f o272 z z) z) (f o208 (f o336 z z) z)) (f o112 (f o176 (f o304 z z) z) (f o240 z z)))) (f o24 (f o40 (f o72 (f o136 (f o264 z z) z) (f o200 (f o328 z z) z)) (f o104 (f o168 (f o296 z z) z) (f o232 (f o360 z z) z))) (f o56 (f o88 (f o152 (f o280 z z) z) (f o216 (f o344 z z) z)) (f o120 (f o184 (f o312 z z) z) (f o248 z z))))) (f o12v2 (f o20 (f o36 (f o68 (f o132 (f o260 z z) z) (f o196 (f o324 z z) z)) (f o100 (f o164 (f o292 z z) z) (f o228 (f o356 z z) z))) (f o52 (f o84 (f o148 (f o276 z z) z) (f o212 (f o340 z z) z)) (f o116 (f o180 (f o308 z z) z) (f o244 z z)))) (f o28 (f o44 (f o76 (f o140 (f o268 z z) z) (f o204 (f o332 z z) z)) (f o108 (f o172 (f o300 z z) z) (f o236 (f o364 z z) z))) (f o60 (f o92 (f o156 (f o284 z z) z) (f o220 (f o348 z z) z)) (f o124 (f o188 (f o316 z z) z) (f o252 z z)))))) (f boot_o_6 (f boot_o_10 (f o18 (f o34 (f o66 (f o130 (f o258 z z) z) (f o194 (f o322 z z) z)) (f o98 (f o162 (f o290 z z) z) (f o226 (f o354 z z) z))) (f o50 (f o82 (f o146 (f o274 z z) z) (f o210 (f o338 z z) z)) (f o114 (f o178 (f o306 z z) z) (f o242 z z)))) (f o26 (f o42 (f o74 (f o138 (f o266 z z) z) (f o202 (f o330 z z) z)) (f o106 (f o170 (f o298 z z) z) (f o234 (f o362 z z) z))) (f o58 (f o90 (f o154 (f o282 z z) z) (f o218 (f o346 z z) z)) (f o122 (f o186 (f o314 z z) z) (f o250 z z))))) (f o14 (f o22 (f o38 (f o70 (f o134 (f o262 z z) z) (f o198 (f o326 z z) z)) (f o102 (f o166 (f o294 z z) z) (f o230 (f o358 z z) z))) (f o54 (f o86 (f o150 (f o278 z z) z) (f o214 (f o342 z z) z)) (f o118 (f o182 (f o310 z z) z) (f o246 z z)))) (f o30 (f o46 (f o78 (f o142 (f o270 z z) z) (f o206 (f o334 z z) z)) (f o110 (f o174 (f o302 z z) z) (f o238 (f o366 z z) z))) (f o62 (f o94 (f o158 (f o286 z z) z) (f o222 (f o350 z z) z)) (f o126 (f o190 (f o318 z z) z) (f o254 z z))))))))
noncomputable abbrev s1 (w : World) (os : OsState) : SharedT := ⟨t1 w.params,367,{ },(Array.mk []),⟨0,0,0,0⟩,730,os⟩
noncomputable abbrev p1 : Pos := ⟨266,0,270,15⟩
noncomputable abbrev st1 : List Stmt := (pt.main.body.drop 22).take 32
theorem q1 (w : World) : (fun os => segRunT treeTable pt w m0 an 1 1190 (s0 w os) ⟨(execs st1 en).wrap doneF deadEnd id id,cE,p0,B⟩) = fun os => some (.next,s1 w os,cE,p1) := by
  rw [PySem.W.Fast.te10110043849684766642,PySem.W.Fast.te14364793385576792824,PySem.W.Fast.te12563942051412417395]; kernel_rfl
noncomputable def hF (P : Params) : Heap := ⟨⟨[boot_o_0 P,boot_o_1 P,boot_o_2 P,o3v2 P,boot_o_4 P,boot_o_5 P,boot_o_6 P,boot_o_7 P,boot_o_8 P,boot_o_9 P,boot_o_10 P,o11 P,o12v2 P,o13 P,o14 P,o15 P,o16 P,o17 P,o18 P,o19 P,o20 P,o21 P,o22 P,o23 P,o24 P,o25 P,o26 P,o27 P,o28 P,o29 P,o30 P,o31 P,o32 P,o33 P,o34 P,o35 P,o36 P,o37 P,o38 P,o39 P,o40 P,o41 P,o42 P,o43 P,o44 P,o45 P,o46 P,o47 P,o48 P,o49 P,o50 P,o51 P,o52 P,o53 P,o54 P,o55 P,o56 P,o57 P,o58 P,o59 P,o60 P,o61 P,o62 P,o63 P,o64 P,o65 P,o66 P,o67 P,o68 P,o69 P,o70 P,o71 P,o72 P,o73 P,o74 P,o75 P,o76 P,o77 P,o78 P,o79 P,o80 P,o81 P,o82 P,o83 P,o84 P,o85 P,o86 P,o87 P,o88 P,o89 P,o90 P,o91 P,o92 P,o93 P,o94 P,o95 P,o96 P,o97 P,o98 P,o99 P,o100 P,o101 P,o102 P,o103 P,o104 P,o105 P,o106 P,o107 P,o108 P,o109 P,o110 P,o111 P,o112 P,o113 P,o114 P,o115 P,o116 P,o117 P,o118 P,o119 P,o120 P,o121 P,o122 P,o123 P,o124 P,o125 P,o126 P,o127 P,o128 P,o129 P,o130 P,o131 P,o132 P,o133 P,o134 P,o135 P,o136 P,o137 P,o138 P,o139 P,o140 P,o141 P,o142 P,o143 P,o144 P,o145 P,o146 P,o147 P,o148 P,o149 P,o150 P,o151 P,o152 P,o153 P,o154 P,o155 P,o156 P,o157 P,o158 P,o159 P,o160 P,o161 P,o162 P,o163 P,o164 P,o165 P,o166 P,o167 P,o168 P,o169 P,o170 P,o171 P,o172 P,o173 P,o174 P,o175 P,o176 P,o177 P,o178 P,o179 P,o180 P,o181 P,o182 P,o183 P,o184 P,o185 P,o186 P,o187 P,o188 P,o189 P,o190 P,o191 P,o192 P,o193 P,o194 P,o195 P,o196 P,o197 P,o198 P,o199 P,o200 P,o201 P,o202 P,o203 P,o204 P,o205 P,o206 P,o207 P,o208 P,o209 P,o210 P,o211 P,o212 P,o213 P,o214 P,o215 P,o216 P,o217 P,o218 P,o219 P,o220 P,o221 P,o222 P,o223 P,o224 P,o225 P,o226 P,o227 P,o228 P,o229 P,o230 P,o231 P,o232 P,o233 P,o234 P,o235 P,o236 P,o237 P,o238 P,o239 P,o240 P,o241 P,o242 P,o243 P,o244 P,o245 P,o246 P,o247 P,o248 P,o249 P,o250 P,o251 P,o252 P,o253 P,o254 P,o255 P,o256 P,o257 P,o258 P,o259 P,o260 P,o261 P,o262 P,o263 P,o264 P,o265 P,o266 P,o267 P,o268 P,o269 P,o270 P,o271 P,o272 P,o273 P,o274 P,o275 P,o276 P,o277 P,o278 P,o279 P,o280 P,o281 P,o282 P,o283 P,o284 P,o285 P,o286 P,o287 P,o288 P,o289 P,o290 P,o291 P,o292 P,o293 P,o294 P,o295 P,o296 P,o297 P,o298 P,o299 P,o300 P,o301 P,o302 P,o303 P,o304 P,o305 P,o306 P,o307 P,o308 P,o309 P,o310 P,o311 P,o312 P,o313 P,o314 P,o315 P,o316 P,o317 P,o318 P,o319 P,o320 P,o321 P,o322 P,o323 P,o324 P,o325 P,o326 P,o327 P,o328 P,o329 P,o330 P,o331 P,o332 P,o333 P,o334 P,o335 P,o336 P,o337 P,o338 P,o339 P,o340 P,o341 P,o342 P,o343 P,o344 P,o345 P,o346 P,o347 P,o348 P,o349 P,o350 P,o351 P,o352 P,o353 P,o354 P,o355 P,o356 P,o357 P,o358 P,o359 P,o360 P,o361 P,o362 P,o363 P,o364 P,o365 P,o366 P]⟩,{ }⟩
noncomputable abbrev sF (w : World) (os : OsState) : Shared := ⟨hF w.params,(Array.mk []),⟨0,0,0,0⟩,730,os⟩
theorem fin (w : World) : (fun os => topRun treeTable pt w m0 an 2 (s1 w os).abs ⟨doneF .next,cE,p1,B⟩) = fun os => some (sF w os) := by
  rw [PySem.W.Fast.te14082659384304107361,PySem.W.Fast.te14364793385576792824]; kernel_rfl
theorem body_eq : behindTheImports pt = st0 ++ (st1 ++ ([])) := by kernel_rfl
noncomputable abbrev MM : Nat := 12 + (1 + (1983 + (1190 + 2)))
theorem run_eq (w : World) (os : OsState) : topRun treeTable pt w m0 an MM (sZ w os) (topStub pt) = some (sF w os) :=
  go_top (congrFun (pre w) os) (piece_block (congrFun (blk w) os) (body_eq ▸ (piece_app (l := st0) (segRun_of (congrFun (q0 w) os)) (piece_app (l := st1) (segRun_of (congrFun (q1 w) os)) (piece_nil (congrFun (fin w) os))))))
noncomputable def loose : List Str := [S168,S169,S170,S171,S172,S173,S174,S175,S176,S177,S178,S179,S180,S181,S183,S185,S186,S187,S188,S213,S214,S215,S217,S219,S220,S221,S222,S223,S224,S225,S226,S227,S228,S229,S230,S231,S232,S233,S234,S235,S236,S237,S238,S239,S240,S241]
noncomputable abbrev NN : Nat := 6468
noncomputable abbrev q : Program := view pt [53]
noncomputable abbrev Xt : Shared → Bool := fun s => xlAt q [] s && recOk [] s
theorem size (w : World) : ((boot_heap w.params).isNs mainGlobals && (Array.mk [] : Array GenState).size == 0,(boot_heap w.params).objs.size,(boot_heap w.params).nsMap mainGlobals "__annotations__") = (true,m0,an) := by
  rw [PySem.W.Fast.te8920871248978507458]; kernel_rfl
theorem looks (w : World) : (fun os => ((staticsOk (importedModules pt.main.body) (boot_heap w.params) (hF w.params) && namesBound pt (hF w.params) && gensDone (sF w os) && laidKept (boot_heap w.params) (hF w.params)),openSeen q loose (importedModules pt.main.body) Xt true (sF w os),HK.obs (sF w os))) = fun _ => (true,openGood q loose,HK.val w) := by
  rw [PySem.W.Fast.te4187177175401517315,PySem.W.Fast.te5923862056798008813]; kernel_rfl
theorem left : LeftO pt q loose Xt HK.obs HK.val NN true := LeftO.of_pieces (boot_open (by kernel_rfl) (by decide) (fun s => rfl)) size run_eq (by decide) looks
end Hd
open PySem PySem.W PyProof.Rows
set_option maxRecDepth 100000 in
set_option maxHeartbeats 0 in
theorem PySem.Challenge.cw_platecuts_k52_whole_best_by_turns_holds : PySem.Challenge.rw_platecuts_k52_whole_best_by_turns.Holds := by
  w_on; o_law
  refine holds_open (q := view PySem.Challenge.pw_platecuts_k52_whole_best_by_turns [53]) (loose := Hd.loose) (Xt := fun s => xlAt (view PySem.Challenge.pw_platecuts_k52_whole_best_by_turns [53]) [] s && recOk [] s) (XP := XL (view PySem.Challenge.pw_platecuts_k52_whole_best_by_turns [53]) []) (Yf := Hook.obs Hd.HK) (Ya := Hook.val Hd.HK) (YP := InK Pc.kK) (N := Hd.NN) ?hl (Hook.of Hd.HK) (Hook.keeps Hd.HK) (fun s e => xl_of s (Bool.and_eq_true_iff.mp e).1) XL.keeps (by rfl) (by rfl) (by rfl) (fun s e => recFacts_of (Bool.and_eq_true_iff.mp e).2) (by rfl) (by first | assumption | decide +kernel) (by decide +kernel) ⟨rfl,rfl,rfl,rfl,rfl,by decide +kernel⟩ ?hw ?hc
  case hl => exact Hd.pt_eq ▸ Hd.left
  case hw => w_witness2
  k_fill
  refine Pc.walk (l := PySem.Challenge.rw_platecuts_k52_whole_best_by_turns) rfl rfl (fun w h Y => Y) ?F
  case F =>
    intro w mg fa h KX G hmg
    refine' Pc.all_mk KX G hmg ?a0 ?l0 ?c0 ?k0 ?a1 ?l1 ?c1 ?k1 ?a2 ?l2 ?c2 ?k2 ?a3 ?l3 ?c3 ?k3 ?a4 ?l4 ?c4 ?k4 ?a5 ?l5 ?c5 ?k5 ?a6 ?l6 ?c6 ?k6 ?a7 ?l7 ?c7 ?k7 ?a8 ?l8 ?c8 ?k8 ?a9 ?l9 ?c9 ?k9 ?a10 ?l10 ?c10 ?k10 ?a11 ?l11 ?c11 ?k11 ?a12 ?l12 ?c12 ?k12 ?a13 ?l13 ?c13 ?k13 ?a14 ?l14 ?c14 ?k14 ?a15 ?l15 ?c15 ?k15 ?a16 ?l16 ?c16 ?k16 ?a17 ?l17 ?c17 ?k17 ?a18 ?l18 ?c18 ?k18 ?a19 ?l19 ?c19 ?k19 ?a20 ?l20 ?c20 ?k20 ?a21 ?l21 ?c21 ?k21 ?a22 ?l22 ?c22 ?k22 ?a23 ?l23 ?c23 ?k23 ?a24 ?l24 ?c24 ?k24 ?a25 ?l25 ?c25 ?k25 ?a26 ?l26 ?c26 ?k26 ?a27 ?l27 ?c27 ?k27 ?a28 ?l28 ?c28 ?k28 ?aC ?am0 ?im0 ?lm0 ?cm0 ?km0 ?am1 ?im1 ?lm1 ?cm1 ?km1 ?am2 ?im2 ?lm2 ?cm2 ?km2 ?am3 ?im3 ?lm3 ?cm3 ?km3 ?am4 ?im4 ?lm4 ?cm4 ?km4 ?am5 ?im5 ?lm5 ?cm5 ?km5 ?pg ?hd ?po ?sa ?mk ?kc ?n0 ?n1 ?eNoLying ?eWAYS ?cNoLying ?lWAYS ?z0 ?z1 ?z2 ?z3 ?z4 ?z5 ?z6 ?z7 ?z8 ?z9 ?z10 ?z11 ?z12 ?z13 ?z14 ?z15 ?z16 ?z17 ?uc0 ?uc1 ?uc2 ?uc3 ?uc4 ?uc5 ?uc6 ?uc7
    (case a0 => k_is)
    (case l0 => k_is)
    (case c0 => k_is)
    (case k0 => k_is)
    (case a1 => k_is)
    (case l1 => k_is)
    (case c1 => k_is)
    (case k1 => k_is)
    (case a2 => k_is)
    (case l2 => k_is)
    (case c2 => k_is)
    (case k2 => k_is)
    (case a3 => k_is)
    (case l3 => k_is)
    (case c3 => k_is)
    (case k3 => k_is)
    (case a4 => k_is)
    (case l4 => k_is)
    (case c4 => k_is)
    (case k4 => k_is)
    (case a5 => k_is)
    (case l5 => k_is)
    (case c5 => k_is)
    (case k5 => k_is)
    (case a6 => k_is)
    (case l6 => k_is)
    (case c6 => k_is)
    (case k6 => k_is)
    (case a7 => k_is)
    (case l7 => k_is)
    (case c7 => k_is)
    (case k7 => k_is)
    (case a8 => k_is)
    (case l8 => k_is)
    (case c8 => k_is)
    (case k8 => k_is)
    (case a9 => k_is)
    (case l9 => k_is)
    (case c9 => k_is)
    (case k9 => k_is)
    (case a10 => k_is)
    (case l10 => k_is)
    (case c10 => k_is)
    (case k10 => k_is)
    (case a11 => k_is)
    (case l11 => k_is)
    (case c11 => k_is)
    (case k11 => k_is)
    (case a12 => k_is)
    (case l12 => k_is)
    (case c12 => k_is)
    (case k12 => k_is)
    (case a13 => k_is)
    (case l13 => k_is)
    (case c13 => k_is)
    (case k13 => k_is)
    (case a14 => k_is)
    (case l14 => k_is)
    (case c14 => k_is)
    (case k14 => k_is)
    (case a15 => k_is)
    (case l15 => k_is)
    (case c15 => k_is)
    (case k15 => k_is)
    (case a16 => k_is)
    (case l16 => k_is)
    (case c16 => k_is)
    (case k16 => k_is)
    (case a17 => k_is)
    (case l17 => k_is)
    (case c17 => k_is)
    (case k17 => k_is)
    (case a18 => k_is)
    (case l18 => k_is)
    (case c18 => k_is)
    (case k18 => k_is)
    (case a19 => k_is)
    (case l19 => k_is)
    (case c19 => k_is)
    (case k19 => k_is)
    (case a20 => k_is)
    (case l20 => k_is)
    (case c20 => k_is)
    (case k20 => k_is)
    (case a21 => k_is)
    (case l21 => k_is)
    (case c21 => k_is)
    (case k21 => k_is)
    (case a22 => k_is)
    (case l22 => k_is)
    (case c22 => k_is)
    (case k22 => k_is)
    (case a23 => k_is)
    (case l23 => k_is)
    (case c23 => k_is)
    (case k23 => k_is)
    (case a24 => k_is)
    (case l24 => k_is)
    (case c24 => k_is)
    (case k24 => k_is)
    (case a25 => k_is)
    (case l25 => k_is)
    (case c25 => k_is)
    (case k25 => k_is)
    (case a26 => k_is)
    (case l26 => k_is)
    (case c26 => k_is)
    (case k26 => k_is)
    (case a27 => k_is)
    (case l27 => k_is)
    (case c27 => k_is)
    (case k27 => k_is)
    (case a28 => k_is)
    (case l28 => k_is)
    (case c28 => k_is)
    (case k28 => k_is)
    (case aC => k_is)
    (case am0 => k_is)
    (case im0 => k_is)
    (case lm0 => k_is)
    (case cm0 => k_is)
    (case km0 => k_is)
    (case am1 => k_is)
    (case im1 => k_is)
    (case lm1 => k_is)
    (case cm1 => k_is)
    (case km1 => k_is)
    (case am2 => k_is)
    (case im2 => k_is)
    (case lm2 => k_is)
    (case cm2 => k_is)
    (case km2 => k_is)
    (case am3 => k_is)
    (case im3 => k_is)
    (case lm3 => k_is)
    (case cm3 => k_is)
    (case km3 => k_is)
    (case am4 => k_is)
    (case im4 => k_is)
    (case lm4 => k_is)
    (case cm4 => k_is)
    (case km4 => k_is)
    (case am5 => k_is)
    (case im5 => k_is)
    (case lm5 => k_is)
    (case cm5 => k_is)
    (case km5 => k_is)
    (case pg => k_is)
    (case hd => k_is)
    (case po => k_is)
    (case sa => k_is)
    (case mk => k_is)
    (case kc => k_is)
    (case n0 => k_is)
    (case n1 => k_is)
    (case eNoLying => k_is)
    (case eWAYS => k_is)
    (case cNoLying => k_exc)
    (case lWAYS => exact ⟨_,_,_,rfl,rfl,rfl,by decide,.cons ⟨_,rfl⟩ (.cons ⟨_,rfl⟩ .nil)⟩)
    (case z0 => k_is)
    (case z1 => k_is)
    (case z2 => k_is)
    (case z3 => k_is)
    (case z4 => k_is)
    (case z5 => k_is)
    (case z6 => k_is)
    (case z7 => k_is)
    (case z8 => k_is)
    (case z9 => k_is)
    (case z10 => k_is)
    (case z11 => k_is)
    (case z12 => k_is)
    (case z13 => k_is)
    (case z14 => k_is)
    (case z15 => k_is)
    (case z16 => k_is)
    (case z17 => k_is)
    (case uc0 => k_is)
    (case uc1 => k_is)
    (case uc2 => k_is)
    (case uc3 => k_is)
    (case uc4 => k_is)
    (case uc5 => k_is)
    (case uc6 => k_is)
    (case uc7 => k_is)