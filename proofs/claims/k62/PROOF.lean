import PyProof.Rows.All
import Wide.All
import OpenK.AllK
import Wide.FinOn
import Lean
import PyProof.EqAt
import PyProof.EqKinds
import PyProof.TupleCall
import PyProof.IsiBase
import PyProof.ExcArgsOwn
import PyProof.ExcAttrAll.ValueError
import PyProof.Draws
import PyProof.WalksMore
import PyProof.EnumMake
import PyProof.ReprRoads
import PyProof.Rows.SortWalk
import PyProof.Rows.SumAny
import KE.KSortedM
import PyProof.FitsBits
import PySem.Challenge.RW_platecuts_k62_loads_refused
set_option Elab.async false
set_option linter.all false
set_option maxRecDepth 100000
/-! THE HAND LAYER, for ints, bools, texts, own classes, LISTS and tuples (index, slices, in, append, pop ..), calls, loops. Paste it whole ahead of your own text; what your proof does not reach may be deleted. -/
namespace L2
open PySem PySem.Spec PyProof.Rows

/-- a key: an int or a str -/
abbrev Key := Sum Int Str
def keyIs : Key → Value → Bool
  | .inl k, v => Value.isInt k v
  | .inr x, v => Value.isStrOf x v
def keyH (w : World) : Key → Int
  | .inl k => hashInt k
  | .inr x => hashStr w x
theorem keyIs_shape : ∀ {k : Key} {v : Value}, keyIs k v = true → (∃ i t, k = Sum.inl i ∧ v = Value.int i t) ∨ (∃ x t, k = Sum.inr x ∧ v = Value.str x t)
  | .inl i, v, h => by
    obtain ⟨t, e⟩ := Value.isInt_shape (k := i) (v := v) h
    exact .inl ⟨i, t, rfl, e⟩
  | .inr x, v, h => by
    obtain ⟨t, e⟩ := Value.isStrOf_shape (x := x) (v := v) h
    exact .inr ⟨x, t, rfl, e⟩
theorem keyIs_int (i : Int) (t : Tok) : keyIs (.inl i) (.int i t) = true := by simp [keyIs, Value.isInt]
theorem keyIs_str (x : Str) (t : Tok) : keyIs (.inr x) (.str x t) = true := by simp [keyIs, Value.isStrOf]
theorem key_ll (a b : Int) : decide ((Sum.inl a : Key) = Sum.inl b) = (a == b) := by
  by_cases e : a = b
  · subst e; simp
  · have h : ¬ (Sum.inl a : Key) = Sum.inl b := fun q => e (Sum.inl.inj q)
    rw [decide_eq_false h]
    exact (beq_eq_false_iff_ne.mpr e).symm
theorem key_rr (a b : Str) : decide ((Sum.inr a : Key) = Sum.inr b) = decide (a = b) := by
  by_cases e : a = b
  · subst e; simp
  · have h : ¬ (Sum.inr a : Key) = Sum.inr b := fun q => e (Sum.inr.inj q)
    rw [decide_eq_false h, decide_eq_false e]
theorem key_lr (a : Int) (b : Str) : decide ((Sum.inl a : Key) = Sum.inr b) = false := decide_eq_false (fun q => nomatch q)
theorem key_rl (a : Str) (b : Int) : decide ((Sum.inr a : Key) = Sum.inl b) = false := decide_eq_false (fun q => nomatch q)

def mixKind (prog : Program) (w : World) : PySem.KeyKind prog w Key where
  is := keyIs
  hash := keyH w
  inj := fun v a b ha hb => by
    rcases keyIs_shape ha with ⟨i, t, rfl, rfl⟩ | ⟨x, t, rfl, rfl⟩
    · rcases keyIs_shape hb with ⟨j, u, rfl, e⟩ | ⟨y, u, rfl, e⟩
      · injection e with e1 _; rw [e1]
      · exact nomatch e
    · rcases keyIs_shape hb with ⟨j, u, rfl, e⟩ | ⟨y, u, rfl, e⟩
      · exact nomatch e
      · injection e with e1 _; rw [e1]
  byValue := fun k v h => by
    rcases keyIs_shape h with ⟨i, t, rfl, rfl⟩ | ⟨x, t, rfl, rfl⟩ <;> rfl
  pyHash := fun hv h => by
    rcases keyIs_shape hv with ⟨i, t, rfl, rfl⟩ | ⟨x, t, rfl, rfl⟩
    · exact wpAny_pyHash_int h
    · exact wpAny_pyHash_str h
  eqBool := fun hu hv h => by
    rcases keyIs_shape hu with ⟨i, t, rfl, rfl⟩ | ⟨x, t, rfl, rfl⟩
    · rcases keyIs_shape hv with ⟨j, u, rfl, rfl⟩ | ⟨y, u, rfl, rfl⟩
      · rw [key_ll] at h; exact wpAny_eqBool_int h
      · rw [key_lr] at h; exact SeqAt.EqAt.int_str i t y u _ _ _ _ h
    · rcases keyIs_shape hv with ⟨j, u, rfl, rfl⟩ | ⟨y, u, rfl, rfl⟩
      · rw [key_rl] at h; exact SeqAt.EqAt.str_int x t j u _ _ _ _ h
      · rw [key_rr] at h; exact wpAny_eqBool_str h
  «strs» := fun k x t v h => by
    rcases keyIs_shape h with ⟨i, u, rfl, e⟩ | ⟨y, u, rfl, e⟩
    · exact nomatch e
    · injection e with e1 _
      subst e1
      cases v <;> rfl

theorem mixKind_is (prog : Program) (w : World) (k : Key) (v : Value) : (mixKind prog w).is k v = keyIs k v := rfl
theorem mixKind_int (prog : Program) (w : World) (i : Int) (t : Tok) : (mixKind prog w).is (.inl i) (.int i t) = true := keyIs_int i t
theorem mixKind_str (prog : Program) (w : World) (x : Str) (t : Tok) : (mixKind prog w).is (.inr x) (.str x t) = true := keyIs_str x t
end L2

namespace L2
open PySem PySem.Spec PyProof.Rows

/-- a value, without the heap -/
inductive V where
  | non | bl (b : Bool) | int (i : Int) | str (x : Str) | byt (b : Array UInt8) | flt (b : UInt64) | ref (a : Addr) | ty (n : String)
  deriving DecidableEq

def RelV : V → Value → Prop
  | .non, u => u = Value.none
  | .bl b, u => u = Value.bool b
  | .int i, u => ∃ t, u = Value.int i t
  | .str x, u => ∃ t, u = Value.str x t
  | .byt b, u => ∃ t, u = Value.bytes b t
  | .flt b, u => ∃ t, u = Value.float b t
  | .ref a, u => u = Value.ref a
  | .ty n, u => u = Value.type n

abbrev Vals : List V → List Value → Prop := Paired RelV
theorem Vals.length {xs : List V} {us : List Value} (r : Vals xs us) : xs.length = us.length := Paired.length r
theorem Vals.get : ∀ {xs : List V} {us : List Value} {i : Nat} {x : V}, Vals xs us → xs[i]? = some x → ∃ u, us[i]? = some u ∧ RelV x u
  | _, _, _, _, .nil, e => by simp at e
  | _, _, 0, _, .cons r _, e => by simp at e; subst e; exact ⟨_, rfl, r⟩
  | _, _, i + 1, x, .cons _ t, e => by
    obtain ⟨u, h1, h2⟩ := Vals.get (i := i) (x := x) t (by simpa using e)
    exact ⟨u, by simpa using h1, h2⟩
theorem Vals.set {x : V} {u : Value} (r : RelV x u) : ∀ {xs : List V} {us : List Value} (i : Nat), Vals xs us → Vals (xs.set i x) (us.set i u)
  | _, _, _, .nil => .nil
  | _, _, 0, .cons _ t => .cons r t
  | _, _, i + 1, .cons q t => .cons q (Vals.set r i t)
theorem Vals.append : ∀ {xs ys : List V} {us ws : List Value}, Vals xs us → Vals ys ws → Vals (xs ++ ys) (us ++ ws)
  | _, _, _, _, .nil, s => s
  | _, _, _, _, .cons r t, s => .cons r (Vals.append t s)
theorem Vals.take : ∀ {xs : List V} {us : List Value} (n : Nat), Vals xs us → Vals (xs.take n) (us.take n)
  | _, _, 0, _ => .nil
  | _, _, _ + 1, .nil => .nil
  | _, _, n + 1, .cons r t => .cons r (Vals.take n t)
theorem Vals.drop : ∀ {xs : List V} {us : List Value} (n : Nat), Vals xs us → Vals (xs.drop n) (us.drop n)
  | _, _, 0, r => r
  | _, _, _ + 1, .nil => .nil
  | _, _, n + 1, .cons _ t => Vals.drop n t
theorem Vals.none_of : ∀ {xs : List V} {us : List Value} {i : Nat}, Vals xs us → xs[i]? = none → us[i]? = none := fun {xs us i} r e => by
  have h1 := r.length
  have h2 : xs.length ≤ i := List.getElem?_eq_none_iff.mp e
  exact List.getElem?_eq_none_iff.mpr (by omega)

def RelO : Option V → Option Value → Prop
  | some v, some u => RelV v u
  | none, none => True
  | _, _ => False
def KV {κ : Type} : List (κ × V) → List (κ × Value) → Prop := Paired fun (p : κ × V) (q : κ × Value) => p.1 = q.1 ∧ RelV p.2 q.2

/-- a key of a dict (00_mix): an int or a text -/
def kV : Key → V
  | .inl i => .int i
  | .inr x => .str x

/-- what stands at a tracked address -/
inductive HO where
  /-- a list -/
  | lst (xs : List V)
  /-- a tuple (never changes) -/
  | tup (xs : List V)
  /-- a dict whose keys are ints and texts; one whose keys are tuples of ints and texts (the empty one is both) -/
  | dK (kvs : List (Key × V)) | dT (kvs : List (List Key × V))
  /-- a set of ints: its members, its size -/
  | set (S : Int → Bool) (n : Nat)
  /-- an instance of the class at C, its dict at dx, its attributes -/
  | ins (C dx : Addr) (fs : List (Str × V))
  /-- the dict of the instance at x -/
  | own (x : Addr)
  /-- the dict of an exception -/
  | xd (fs : List (Str × V))
  /-- a bound method, f of x -/
  | met (f x : Addr)
  /-- a range object lo, lo + 1, .. below hi -/
  | rng (lo hi : Int)
  /-- a thing that is known to the object (the script; a dict while a loop walks it): read, never written while it is so -/
  | frz (o : Obj) (u : HO)
  /-- a code object's table -/
  | tbl (ps : Array Value)
  /-- any other thing, by what is true of its one object (a def of one's own: SetO a S n := HO.ext fun h => ..) -/
  | ext (φ : Heap → Prop)

abbrev Hp := Addr → Option HO
def upd (H : Hp) (a : Addr) (o : HO) : Hp := fun b => if b = a then some o else H b
theorem upd_same {H : Hp} {a : Addr} {o : HO} : upd H a o a = some o := by unfold upd; rw [if_pos rfl]
theorem upd_ne {H : Hp} {a b : Addr} {o : HO} (h : b ≠ a) : upd H a o b = H b := by unfold upd; rw [if_neg h]
theorem upd_upd {H : Hp} {a : Addr} {o u : HO} : upd (upd H a o) a u = upd H a u := by
  funext b; unfold upd; split <;> rfl
/-- two objects of different content stand apart -/
theorem ne_of {H : Hp} {a b : Addr} {o u : HO} (h : H a = some o) (h' : H b = some u) (d : o ≠ u) : a ≠ b := by
  intro e; subst e; rw [h] at h'; exact d (Option.some.inj h')
theorem ne_of_none {H : Hp} {a b : Addr} {o : HO} (h : H a = some o) (h' : H b = none) : a ≠ b := by
  intro e; subst e; rw [h] at h'; cases h'

section
variable (P : Program) (w : World)
def ObjOk (H : Hp) (h : Heap) (a : Addr) : HO → Prop
  | .lst xs => xs.length ≤ sizeLine ∧ ∃ (its : List Value) (n : Nat), Vals xs its ∧ h.get? a = some { cls := .type "list", data := .seq its.toArray n }
  | .tup xs => xs.length ≤ sizeLine ∧ ∃ its : List Value, Vals xs its ∧ IsTup h a its.toArray
  | .dK kvs => kvs.length ≤ sizeLine ∧ (a == sysModules) = false ∧ ∃ vs, KV kvs vs ∧ h.DictOf (mixKind P w) a vs
  | .dT kvs => kvs.length ≤ sizeLine ∧ (a == sysModules) = false ∧ ∃ xs : List (List Key × Addr × Value),
      Paired (fun (p : List Key × V) (q : List Key × Addr × Value) => p.1 = q.1 ∧ H q.2.1 = some (.tup (p.1.map kV)) ∧ RelV p.2 q.2.2) kvs xs ∧
      ∃ o es ep, h.get? a = some o ∧ o.ExactDict ∧ o.data = .dict es ep ∧ es.toList = xs.map (entryOfKey (tupleKind (mixKind P w))) ∧ (xs.map (·.1)).Nodup
  | .set S n => h.SetOf (intKind P w) a S n
  | .ins C dx fs => H dx = some (.own a) ∧ fs.length ≤ 1000 ∧ dx ≠ a ∧ h.get? a = some (PySem.W.instObj C dx) ∧
      ∃ mA, h.Ns1 dx mA ∧ (∀ f, RelO (fs.lookup f) (mA f)) ∧ PySem.Within mA (fs.map (·.1))
  | .own _ => ∃ o, h.get? a = some o
  | .xd fs => ∃ mA, h.Ns1 a mA ∧ ∀ f, RelO (fs.lookup f) (mA f)
  | .rng lo hi => ∃ t u v, h.get? a = some { cls := .type "range", data := .fields #[.int lo t, .int hi u, .int 1 v] }
  | .frz o u => h.get? a = some o ∧ ObjOk H h a u
  | .tbl ps => h.get? a = some { cls := .none, data := .fields ps }
  | .met f x => h.get? a = some (PySem.W.methodObj (.ref f) (.ref x))
  | .ext φ => φ h ∧ (∃ o, h.get? a = some o) ∧ ∀ h1 h2 : Heap, φ h1 → (∀ o, h1.get? a = some o → h2.get? a = some o) → φ h2
/-- the abstract heap is held -/
def HOk (H : Hp) (h : Heap) : Prop := ∀ a o, H a = some o → ObjOk P w H h a o
end

section
variable {P : Program} {w : World} {H H' : Hp} {h h' : Heap} {a : Addr} {o : HO}
theorem ObjOk.lt (x : ObjOk P w H h a o) : a < h.objs.size := by
  cases o with
  | lst xs => obtain ⟨_, _, _, _, e⟩ := x; exact Heap.lt_size e
  | tup xs => obtain ⟨_, _, _, p⟩ := x; exact p.lt
  | dK kvs => obtain ⟨_, _, _, _, o, _, _, e, _⟩ := x; exact Heap.lt_size e
  | dT kvs => obtain ⟨_, _, _, _, o, _, _, e, _⟩ := x; exact Heap.lt_size e
  | set S n => obtain ⟨o, _, _, _, e, _⟩ := x; exact Heap.lt_size e
  | ins C dx fs => obtain ⟨_, _, _, e, _⟩ := x; exact Heap.lt_size e
  | own y => obtain ⟨_, e⟩ := x; exact Heap.lt_size e
  | xd fs => obtain ⟨_, ⟨_, _, _, e, _⟩, _⟩ := x; exact Heap.lt_size e
  | rng lo hi => obtain ⟨_, _, _, e⟩ := x; exact Heap.lt_size e
  | frz ob u => obtain ⟨e, _⟩ := x; exact Heap.lt_size e
  | tbl ps => exact Heap.lt_size (show h.get? a = some _ from x)
  | met f y => exact Heap.lt_size (show h.get? a = some _ from x)
  | ext φ => obtain ⟨_, ⟨_, e⟩, _⟩ := x; exact Heap.lt_size e
theorem Paired.mapP {α β : Type} {F G : α → β → Prop} : ∀ {l₁ : List α} {l₂ : List β}, Paired F l₁ l₂ → (∀ a b, F a b → G a b) → Paired G l₁ l₂
  | _, _, .nil, _ => .nil
  | _, _, .cons r t, f => .cons (f _ _ r) (Paired.mapP t f)
theorem Paired.imp' {α β : Type} {F G : α → β → Prop} (f : ∀ a b, F a b → G a b) {l₁ : List α} {l₂ : List β} (r : Paired F l₁ l₂) : Paired G l₁ l₂ := Paired.mapP r f
/-- what an object's description leans on: its own object, its own dict, the tuples -/
theorem ObjOk.stay (x : ObjOk P w H h a o) (k : ∀ b u, (b = a ∨ H b = some (.own a)) → h.get? b = some u → h'.get? b = some u)
    (ho : ∀ b, H b = some (.own a) → H' b = some (.own a)) (ht : ∀ b xs, H b = some (.tup xs) → H' b = some (.tup xs)) : ObjOk P w H' h' a o := by
  induction o with
  | lst xs => obtain ⟨z, its, n, r, e⟩ := x; exact ⟨z, its, n, r, k _ _ (.inl rfl) e⟩
  | tup xs => obtain ⟨z, its, r, ob, e, c⟩ := x; exact ⟨z, its, r, ob, k _ _ (.inl rfl) e, c⟩
  | dK kvs => obtain ⟨z, y, vs, r, ob, es, ep, e, c⟩ := x; exact ⟨z, y, vs, r, ob, es, ep, k _ _ (.inl rfl) e, c⟩
  | dT kvs =>
    obtain ⟨z, y, xs, r, ob, es, ep, e, c⟩ := x
    exact ⟨z, y, xs, Paired.mapP r fun p q z => ⟨z.1, ht _ _ z.2.1, z.2.2⟩, ob, es, ep, k _ _ (.inl rfl) e, c⟩
  | set S n => obtain ⟨ob, es, ep, t, e, c⟩ := x; exact ⟨ob, es, ep, t, k _ _ (.inl rfl) e, c⟩
  | ins C dx fs =>
    obtain ⟨d, z, ne, e, mA, ⟨od, es, ep, e2, c⟩, r⟩ := x
    exact ⟨ho _ d, z, ne, k _ _ (.inl rfl) e, mA, ⟨od, es, ep, k _ _ (.inr d) e2, c⟩, r⟩
  | own y => obtain ⟨ob, e⟩ := x; exact ⟨ob, k _ _ (.inl rfl) e⟩
  | xd fs => obtain ⟨mA, ⟨od, es, ep, e, c⟩, r⟩ := x; exact ⟨mA, ⟨od, es, ep, k _ _ (.inl rfl) e, c⟩, r⟩
  | rng lo hi => obtain ⟨t, u, v, e⟩ := x; exact ⟨t, u, v, k _ _ (.inl rfl) e⟩
  | frz ob u ih => obtain ⟨e, q⟩ := x; exact ⟨k _ _ (.inl rfl) e, ih q⟩
  | tbl ps =>
    have e : h.get? a = some { cls := .none, data := .fields ps } := x
    show h'.get? a = some { cls := .none, data := .fields ps }
    exact k a _ (.inl rfl) e
  | met f y =>
    have e : h.get? a = some (PySem.W.methodObj (.ref f) (.ref y)) := x
    show h'.get? a = some (PySem.W.methodObj (.ref f) (.ref y))
    exact k a _ (.inl rfl) e
  | ext φ => obtain ⟨p, ⟨o, e⟩, st⟩ := x; exact ⟨st _ _ p fun o q => k _ _ (.inl rfl) q, ⟨o, k _ _ (.inl rfl) e⟩, st⟩
theorem HOk.lt (x : HOk P w H h) (e : H a = some o) : a < h.objs.size := (x a o e).lt
theorem HOk.fresh (x : HOk P w H h) (e : h.objs.size ≤ a) : H a = none := by
  cases q : H a with
  | none => rfl
  | some u => exact absurd (Nat.lt_of_lt_of_le (x.lt q) e) (Nat.lt_irrefl _)
/-- every object of the heap is kept -/
theorem HOk.kept (x : HOk P w H h) (k : ∀ b u, h.get? b = some u → h'.get? b = some u) : HOk P w H h' := fun a o e =>
  (x a o e).stay (fun b u _ q => k b u q) (fun _ q => q) fun _ _ q => q
/-- a new object is laid and tracked -/
theorem HOk.laid (x : HOk P w H h) (k : ∀ b u, h.get? b = some u → h'.get? b = some u) (hp : h.objs.size ≤ a) (new : ObjOk P w (upd H a o) h' a o) : HOk P w (upd H a o) h' := fun b u e => by
  have hn := x.fresh hp
  by_cases hb : b = a
  · subst hb; rw [upd_same] at e; cases e; exact new
  · rw [upd_ne hb] at e
    exact (x b u e).stay (fun c v _ q => k c v q) (fun c q => by rw [upd_ne (ne_of_none q hn)]; exact q) fun c xs q => by rw [upd_ne (ne_of_none q hn)]; exact q
end

/-- what may be read as u: it is u, or a known u -/
def Rd (H : Hp) (a : Addr) (u : HO) : Prop := H a = some u ∨ ∃ o, H a = some (.frz o u)
theorem Rd.of {H : Hp} {a : Addr} {u : HO} (h : H a = some u) : Rd H a u := .inl h
theorem Rd.ok {P : Program} {w : World} {H : Hp} {h : Heap} {a : Addr} {u : HO} (r : Rd H a u) (x : HOk P w H h) : ObjOk P w H h a u := by
  rcases r with r | ⟨o, r⟩
  · exact x a u r
  · obtain ⟨_, q⟩ := x a _ r
    exact q
/-- what may be written -/
def Mut : Option HO → Prop
  | some (.lst _) => True
  | some (.dK _) => True
  | some (.dT _) => True
  | some (.set _ _) => True
  | some (.ins _ _ _) => True
  | some (.ext _) => True
  | _ => False
section
variable {P : Program} {w : World} {H : Hp} {h h' : Heap} {x e : Addr} {o' : HO}
/-- the object at e is changed: x itself, or the dict of the instance x -/
theorem HOk.write (ok : HOk P w H h) (mu : Mut (H x)) (he : e = x ∨ H e = some (.own x)) (k : ∀ b u, b ≠ e → h.get? b = some u → h'.get? b = some u) (heo : ∃ u, h'.get? e = some u)
    (new : ObjOk P w (upd H x o') h' x o') : HOk P w (upd H x o') h' := fun b u q => by
  have nown : ∀ c y, H c = some (.own y) → c ≠ x := fun c y r z => by subst z; rw [r] at mu; exact mu
  have ntup : ∀ c xs, H c = some (.tup xs) → c ≠ x := fun c xs r z => by subst z; rw [r] at mu; exact mu
  by_cases hb : b = x
  · subst hb; rw [upd_same] at q; cases q; exact new
  · rw [upd_ne hb] at q
    by_cases hbe : b = e
    · have q' : H b = some (.own x) := by
        rcases he with z | z
        · exact absurd (hbe.trans z) hb
        · rw [hbe]; exact z
      rw [q] at q'; cases q'
      obtain ⟨v, hv⟩ := heo
      exact ⟨v, by rw [hbe]; exact hv⟩
    · refine (ok b u q).stay (fun c v hc r => k c v ?_ r) (fun c r => by rw [upd_ne (nown c b r)]; exact r) fun c xs r => by rw [upd_ne (ntup c xs r)]; exact r
      rcases hc with rfl | hc
      · exact hbe
      · rintro rfl
        rcases he with z | z
        · exact nown c b hc z
        · rw [hc] at z; cases z; exact hb rfl
end

/-! ### kept unless tracked; of the frames at fs (the callers') the slots may change (an exception that passes writes there); of the records at ex (iterators) nothing is said -/
structure Un (fs ex : List Addr) (H H' : Hp) (h h' : Heap) : Prop where
  keep : ∀ b o, h.get? b = some o → H b = none → b ∉ fs → b ∉ ex → h'.get? b = some o
  slot : ∀ b o, h.get? b = some o → H b = none → b ∈ fs → b ∉ ex → ∃ sl, h'.get? b = some { o with slots := sl }
  free : ∀ b o, h.get? b = some o → H b = none → b ∉ ex → H' b = none
  there : ∀ b o, h.get? b = some o → b ∉ ex → ∃ o', h'.get? b = some o'
  tups : ∀ b xs, H b = some (.tup xs) → H' b = some (.tup xs)
  frzs : ∀ b o u, H b = some (.frz o u) → H' b = some (.frz o u)
  tbls : ∀ b ps, H b = some (.tbl ps) → ∃ more, H' b = some (.tbl (ps ++ more))
section
variable {fs fs' ex ex' : List Addr} {H H1 H2 : Hp} {h h1 h2 h' : Heap} {a x e : Addr} {o : HO}
theorem Un.any (u : Un fs ex H H1 h h1) {b : Addr} {ob : Obj} (q : h.get? b = some ob) (n : H b = none) (hx : b ∉ ex) : ∃ sl, h1.get? b = some { ob with slots := sl } := by
  by_cases hb : b ∈ fs
  · exact u.slot b ob q n hb hx
  · exact ⟨ob.slots, u.keep b ob q n hb hx⟩
theorem Un.trans (a : Un fs ex H H1 h h1) (b : Un fs ex H1 H2 h1 h2) : Un fs ex H H2 h h2 where
  keep := fun c ob q n hc hx => b.keep c ob (a.keep c ob q n hc hx) (a.free c ob q n hx) hc hx
  slot := fun c ob q n hc hx => by
    obtain ⟨sl, e1⟩ := a.slot c ob q n hc hx
    obtain ⟨sl', e2⟩ := b.slot c _ e1 (a.free c ob q n hx) hc hx
    exact ⟨sl', e2⟩
  free := fun c ob q n hx => by
    obtain ⟨o', e1⟩ := a.there c ob q hx
    exact b.free c o' e1 (a.free c ob q n hx) hx
  there := fun c ob q hx => by
    obtain ⟨o', e1⟩ := a.there c ob q hx
    exact b.there c o' e1 hx
  tups := fun c xs q => b.tups c xs (a.tups c xs q)
  frzs := fun c ob xs q => b.frzs c ob xs (a.frzs c ob xs q)
  tbls := fun c ps q => by
    obtain ⟨m1, e1⟩ := a.tbls c ps q
    obtain ⟨m2, e2⟩ := b.tbls c _ e1
    exact ⟨m1 ++ m2, by rw [e2, Array.append_assoc]⟩
theorem Un.kept (k : ∀ b u, h.get? b = some u → h'.get? b = some u) : Un fs ex H H h h' :=
  ⟨fun b ob q _ _ _ => k b ob q, fun b ob q _ _ _ => ⟨ob.slots, k b ob q⟩, fun _ _ _ n _ => n, fun b ob q _ => ⟨ob, k b ob q⟩, fun _ _ q => q, fun _ _ _ q => q, fun _ ps q => ⟨#[], by rw [q]; simp⟩⟩
theorem Un.refl : Un fs ex H H h h := Un.kept fun _ _ q => q
theorem Un.laid (k : ∀ b u, h.get? b = some u → h'.get? b = some u) (hp : h.objs.size ≤ a) (hn : H a = none) : Un fs ex H (upd H a o) h h' where
  keep := fun b u q _ _ _ => k b u q
  slot := fun b u q _ _ _ => ⟨u.slots, k b u q⟩
  free := fun b u q n _ => by rw [upd_ne (Nat.ne_of_lt (Nat.lt_of_lt_of_le (Heap.lt_size q) hp))]; exact n
  there := fun b u q _ => ⟨u, k b u q⟩
  tups := fun b xs q => by rw [upd_ne (ne_of_none q hn)]; exact q
  frzs := fun b u xs q => by rw [upd_ne (ne_of_none q hn)]; exact q
  tbls := fun b ps q => ⟨#[], by rw [upd_ne (ne_of_none q hn), q]; simp⟩
theorem Un.write (mu : Mut (H x)) (he : e = x ∨ H e = some (.own x)) (k : ∀ b u, b ≠ e → h.get? b = some u → h'.get? b = some u) (heo : ∃ u, h'.get? e = some u) : Un fs ex H (upd H x o) h h' := by
  have hx : ∀ b, H b = none → b ≠ x := fun b n z => by subst z; rw [n] at mu; exact mu
  have hb : ∀ b, H b = none → b ≠ e := fun b n z => by
    subst z
    rcases he with r | r
    · exact hx b n r
    · rw [n] at r; cases r
  have hm : ∀ b u, H b = some u → ¬ Mut (some u) → b ≠ x := fun b u q nm z => by subst z; rw [q] at mu; exact nm mu
  refine ⟨fun b u q n _ _ => k b u (hb b n) q, fun b u q n _ _ => ⟨u.slots, k b u (hb b n) q⟩, fun b u q n _ => by rw [upd_ne (hx b n)]; exact n, fun b u q _ => ?_,
    fun b xs q => by rw [upd_ne (hm b _ q fun z => z)]; exact q, fun b u xs q => by rw [upd_ne (hm b _ q fun z => z)]; exact q, fun b ps q => ⟨#[], by rw [upd_ne (hm b _ q fun z => z), q]; simp⟩⟩
  by_cases hbe : b = e
  · subst hbe; exact heo
  · exact ⟨u, k b u hbe q⟩
theorem Un.mono (u : Un fs ex H H1 h h1) (hs : ∀ b ∈ fs, b ∈ fs') (hx : ∀ b ∈ ex, b ∈ ex') : Un fs' ex' H H1 h h1 :=
  ⟨fun b ob q n hb he => u.keep b ob q n (fun z => hb (hs b z)) fun z => he (hx b z), fun _ _ q n _ he => u.any q n fun z => he (hx _ z), fun b ob q n he => u.free b ob q n fun z => he (hx b z), fun b ob q he => u.there b ob q fun z => he (hx b z), u.tups, u.frzs, u.tbls⟩
end

/-! ### the heap without what is tracked -/
def trk (h : Heap) (H : Hp) : List Addr := (List.range h.objs.size).filter fun a => (H a).isSome
def hidT (h : Heap) (H : Hp) : Heap := PySem.W.hideAll h (trk h H)
theorem hidT_size (h : Heap) (H : Hp) : (hidT h H).objs.size = h.objs.size := PySem.W.hideAll_size _ _
theorem hidT_get {h : Heap} {H : Hp} {b : Addr} {o : Obj} (e : h.get? b = some o) (n : H b = none) : (hidT h H).get? b = some o :=
  PySem.W.hideAll_get _ e fun hm => by
    have q : (H b).isSome = true := (List.mem_filter.mp hm).2
    rw [n] at q; simp at q
theorem of_hidT {h : Heap} {H : Hp} {b : Addr} {o : Obj} (e : (hidT h H).get? b = some o) : h.get? b = some o ∧ H b = none := by
  have e' : h.get? b = some o := PySem.W.of_hideAll (trk h H) e
  refine ⟨e', ?_⟩
  cases q : H b with
  | none => rfl
  | some x =>
    have hm : b ∈ trk h H := List.mem_filter.mpr ⟨List.mem_range.mpr (Heap.lt_size e'), by simp [q]⟩
    have z : (hidT h H).get? b = none := PySem.W.hideAll_none (trk h H) hm
    rw [z] at e; cases e

/-! ### OpenK's ledger, filled with every new object but one -/
def allNews (g h : Heap) (L : Addr) : List (Addr × Obj) := (List.range h.objs.size).filterMap fun a => if a = L ∨ (g.get? a).isSome = true then none else (h.get? a).map fun o => (a, o)
theorem mem_allNews {g h : Heap} {L a : Addr} {o : Obj} (h1 : a ≠ L) (h2 : g.get? a = none) (h3 : h.get? a = some o) : (a, o) ∈ allNews g h L :=
  List.mem_filterMap.mpr ⟨a, List.mem_range.mpr (Heap.lt_size h3), by simp [h1, h2, h3]⟩
theorem of_mem_allNews {g h : Heap} {L : Addr} {p : Addr × Obj} (hp : p ∈ allNews g h L) : p.1 ≠ L ∧ g.get? p.1 = none ∧ h.get? p.1 = some p.2 := by
  obtain ⟨b, _, e⟩ := List.mem_filterMap.mp hp
  split at e
  · cases e
  · rename_i hn
    cases q : h.get? b with
    | none => rw [q] at e; simp at e
    | some u =>
      rw [q] at e
      simp only [Option.map_some, Option.some.injEq] at e
      subst e
      refine ⟨fun z => hn (.inl z), ?_, q⟩
      show g.get? b = none
      cases r : g.get? b with
      | none => rfl
      | some v => exact (hn (.inr (by simp [r]))).elim
def rest (g h : Heap) (L d : Addr) : List (Addr × Obj) := (allNews g h L).filter fun p => decide (p.1 ≠ d)
theorem rest_ne {g h : Heap} {L d : Addr} : ∀ p ∈ rest g h L d, p.1 ≠ d := fun p hp => of_decide_eq_true (List.mem_filter.mp hp).2
theorem mem_rest {g h : Heap} {L d a : Addr} {o : Obj} (h1 : a ≠ L) (h2 : g.get? a = none) (h3 : h.get? a = some o) (h4 : a ≠ d) : (a, o) ∈ rest g h L d :=
  List.mem_filter.mpr ⟨mem_allNews h1 h2 h3, decide_eq_true h4⟩
theorem news_all {g h : Heap} {L : Addr} : News g L h (allNews g h L) := fun p hp => let ⟨a, b, c⟩ := of_mem_allNews hp; ⟨c, a, b⟩
theorem news_at {g h : Heap} {L d : Addr} {o : Obj} (h1 : d ≠ L) (h2 : g.get? d = none) (h3 : h.get? d = some o) : News g L h ((d, o) :: rest g h L d) := fun p hp => by
  rcases List.mem_cons.mp hp with rfl | hp
  · exact ⟨h3, h1, h2⟩
  · exact news_all p (List.mem_filter.mp hp).1
/-- behind a rule that changed d alone: all else but the frame is kept -/
theorem kept_of_news {g h h' : Heap} {L d : Addr} {m : Str → Option Value} (k : ∀ b o, g.get? b = some o → h.get? b = some o) (F : Fr g L h' m) (N : News g L h' (rest g h L d)) :
    ∀ b o, b ≠ L → b ≠ d → h.get? b = some o → h'.get? b = some o := fun b o h1 h2 e => by
  cases q : g.get? b with
  | some u =>
    have := k b u q
    rw [e] at this; cases this
    exact F.keep b _ q
  | none => exact (N (b, o) (mem_rest h1 q e h2)).1
end L2

namespace L2
open PySem PySem.Spec PyProof.Rows

/-- the module's facts, over the base: the heap at the law's entry without what is tracked there -/
structure Mod (K : PySem.W.Frag) (mg : Str → Option Value) (base : Heap) : Prop where
  kin : K.In base
  glob : base.Ns mainGlobals mg
  blt : ∃ mb, base.Ns builtinsNs mb ∧ ∀ x : Str, x ≠ "__name__" → mb x = bootBuiltins x
  nolimit : base.NoLimit

/-- the context: a def's body (or a comprehension's block) running. base: fixed through the whole law; s₀, H₀: the entry; outer: the frames whose slots others may change (a def's callers); stack: all frames that run;
   ex: iterators that were made ahead of the entry and are walked here (a comprehension's); fn: the names whose cells were made at the entry (a def: all; a comprehension's block: its own); calm: not within an except suite; pn: pins that every state bears; xe: what is wanted of an exception that leaves the code -/
structure Cx where
  prog : Program
  w : World
  K : PySem.W.Frag
  mg : Str → Option Value
  base : Heap
  A : Around
  N : List Str
  s₀ : Shared
  H₀ : Hp
  env : Env
  outer : List Env
  stack : List Env
  ex : List Addr
  fn : Str → Bool
  calm : Bool
  pn : List (Addr × Obj)
  xe : Value → Shared → Prop
/-- the callers' frames -/
def frs (l : List Env) : List Addr := l.filterMap (·.frame)
abbrev Cx.fs (X : Cx) : List Addr := frs X.outer

def Vis (sc : Scope) (x : Str) : Prop := sc.names.lookup x = some .local ∨ sc.names.lookup x = some .cell ∨ sc.names.lookup x = some .free
def Loc (sc : Scope) (x : Str) : Prop := sc.names.lookup x = some .local ∨ sc.names.lookup x = some .cell
def Look (env : Env) (h : Heap) (m : Str → Option Value) (x : Str) (u : Value) : Prop :=
  (env.kindOf x = some .local ∧ m x = some u) ∨ ((env.kindOf x = some .cell ∨ env.kindOf x = some .free) ∧ ∃ c, env.cells.lookup x = some c ∧ h.IsCell c (some u))

structure Cx.Ok (X : Cx) : Prop where
  mod : Mod X.K X.mg X.base
  kind : X.env.scope.kind = .function
  glob : X.env.globals = mainGlobals
  blt : X.env.builtins = builtinsNs
  above : X.s₀.heap.objs.size ≤ X.env.locals
  inj : ∀ x y c, X.env.cells.lookup x = some c → X.env.cells.lookup y = some c → x = y
  has : ∀ x, (X.env.kindOf x = some .cell ∨ X.env.kindOf x = some .free) → ∃ c, X.env.cells.lookup x = some c
  cab : ∀ x c, X.fn x = true → X.env.cells.lookup x = some c → X.s₀.heap.objs.size ≤ c
  hd : X.calm = true → X.A.handled = none
  frames : X.A.frames = some X.stack
  stk : X.stack = X.outer ∨ (X.stack = X.env :: X.outer ∧ X.env.frame = some X.env.locals)
  exf : ∀ b ∈ X.ex, b ≠ X.env.locals ∧ ∀ x c, X.env.cells.lookup x = some c → c ≠ b
  bs : ∀ b o, X.base.get? b = some o → X.s₀.heap.get? b = some o ∧ X.H₀ b = none
  bsz : X.base.objs.size ≤ X.s₀.heap.objs.size
  noex : ∀ b o, X.base.get? b = some o → b ∉ X.ex
  exfs : ∀ b ∈ X.ex, b ∉ X.fs
  funs : X.s₀.heap.FunFrames X.base X.outer
  frf : ∀ b ∈ X.fs, X.H₀ b = none

structure Inv (X : Cx) (pins : List (Addr × Obj)) (σ : List (Option V)) (H : Hp) (s : Shared) : Prop where
  ok : X.Ok
  os : s.os = X.s₀.os
  bare : AllBare s.gens
  base : Un X.fs X.ex X.H₀ H X.s₀.heap s.heap
  loc : ∃ m, s.heap.Ns X.env.locals m ∧ ∀ (i : Nat) (x : Str) (v : V), X.N[i]? = some x → σ[i]? = some (some v) → Vis X.env.scope x → ∃ u, RelV v u ∧ Look X.env s.heap m x u
  cell : ∀ x c, X.env.cells.lookup x = some c → ∃ v, s.heap.IsCell c v
  free : H X.env.locals = none
  freeC : ∀ x c, X.env.cells.lookup x = some c → H c = none
  pin : ∀ p ∈ X.pn ++ pins, s.heap.get? p.1 = some p.2 ∧ H p.1 = none ∧ p.1 ≠ X.env.locals ∧ p.1 ∉ X.fs ∧ ∀ v, p.2.data ≠ .cell v
  hok : HOk X.prog X.w H s.heap
  len : σ.length = X.N.length

section
variable {X : Cx} {pins : List (Addr × Obj)} {σ : List (Option V)} {H H' : Hp} {s : Shared} {h' : Heap}

theorem Cx.Ok.nofr (ok : X.Ok) {b : Addr} {o : Obj} (e : X.base.get? b = some o) : b ∉ X.fs := fun hb => by
  have := (ok.funs.mem hb).1
  rw [e] at this; cases this
theorem Inv.bs (I : Inv X pins σ H s) : ∀ b o, X.base.get? b = some o → s.heap.get? b = some o ∧ H b = none := fun b o e =>
  ⟨I.base.keep b o (I.ok.bs b o e).1 (I.ok.bs b o e).2 (I.ok.nofr e) (I.ok.noex b o e), I.base.free b o (I.ok.bs b o e).1 (I.ok.bs b o e).2 (I.ok.noex b o e)⟩
theorem Inv.bk (I : Inv X pins σ H s) : ∀ b o, X.base.get? b = some o → s.heap.get? b = some o := fun b o e => (I.bs b o e).1
theorem Inv.mod (I : Inv X pins σ H s) : Mod X.K X.mg X.base := I.ok.mod
theorem Inv.kIn (I : Inv X pins σ H s) : X.K.In s.heap := I.ok.mod.kin.keeps I.bk
theorem Inv.nolimit (I : Inv X pins σ H s) : s.heap.NoLimit := I.ok.mod.nolimit.keeps I.bk
/-- the frame over the base: for OpenK's rules (K.In X.base is I.mod.kin) -/
theorem Inv.fr (I : Inv X pins σ H s) : ∃ m, Fr X.base X.env.locals s.heap m :=
  let ⟨m, hn, _⟩ := I.loc
  ⟨m, hn, I.bk, Nat.le_trans I.ok.bsz I.ok.above⟩
theorem Inv.lt (I : Inv X pins σ H s) : X.env.locals < s.heap.objs.size := let ⟨_, hn, _⟩ := I.loc; hn.lt
theorem Inv.sz (I : Inv X pins σ H s) : X.s₀.heap.objs.size ≤ s.heap.objs.size := Nat.le_trans I.ok.above (Nat.le_of_lt I.lt)
theorem Inv.nofs (I : Inv X pins σ H s) {a : Addr} (h : s.heap.objs.size ≤ a) : a ∉ X.fs := fun hb => by
  obtain ⟨_, o, ho, _⟩ := I.ok.funs.mem hb
  exact absurd (Nat.lt_of_lt_of_le (Heap.lt_size ho) (Nat.le_trans I.sz h)) (Nat.lt_irrefl _)
theorem Inv.cne (I : Inv X pins σ H s) : ∀ x c, X.env.cells.lookup x = some c → c ≠ X.env.locals := fun x c e z => by
  obtain ⟨v, o, ho, hd⟩ := I.cell x c e
  obtain ⟨m, ⟨o', es, ep, ho', hd', _⟩, _⟩ := I.loc
  rw [z, ho'] at ho; cases ho; rw [hd'] at hd; cases hd
theorem Inv.funs (I : Inv X pins σ H s) : s.heap.FunFrames X.base X.outer := by
  have all : ∀ (l : List Env), (∀ b ∈ frs l, b ∈ X.fs) → X.s₀.heap.FunFrames X.base l → s.heap.FunFrames X.base l := by
    intro l
    induction l with
    | nil => intro _ _; trivial
    | cons env r ih =>
      intro hs hl
      obtain ⟨hk, ⟨L, o, hf, hn, ho, hd⟩, hr⟩ := hl
      have hL : L ∈ X.fs := hs L (by unfold frs; rw [List.filterMap_cons, hf]; exact List.mem_cons_self)
      obtain ⟨sl, e⟩ := I.base.slot L o ho (I.ok.frf L hL) hL fun z => I.ok.exfs L z hL
      exact ⟨hk, ⟨L, _, hf, hn, e, hd⟩, ih (fun b hb => hs b (by unfold frs; rw [List.filterMap_cons, hf]; exact List.mem_cons_of_mem _ hb)) hr⟩
  exact all X.outer (fun _ hb => hb) I.ok.funs

/-- the frames that run, for a call -/
theorem Inv.stack (I : Inv X pins σ H s) : s.heap.FunFrames X.base X.stack := by
  rcases I.ok.stk with e | ⟨e, hf⟩
  · rw [e]; exact I.funs
  · rw [e]
    obtain ⟨m, hn, _⟩ := I.loc
    refine .cons (by rw [I.ok.kind]; decide) hf hn ?_ I.funs
    exact Heap.get?_none_of_le (Nat.le_trans I.ok.bsz I.ok.above)
theorem Inv.stkSub (I : Inv X pins σ H s) : ∀ b ∈ frs X.stack, b ∈ X.env.locals :: X.fs := fun b hb => by
  rcases I.ok.stk with e | ⟨e, hf⟩
  · rw [e] at hb; exact List.mem_cons_of_mem _ hb
  · rw [e] at hb
    unfold frs at hb
    rw [List.filterMap_cons, hf] at hb
    exact hb
theorem Inv.stkFree (I : Inv X pins σ H s) : ∀ b ∈ frs X.stack, H b = none := fun b hb => by
  rcases List.mem_cons.mp (I.stkSub b hb) with e | hb
  · rw [e]; exact I.free
  · obtain ⟨_, o, ho, _⟩ := I.ok.funs.mem hb
    exact I.base.free b o ho (I.ok.frf b hb) fun z => I.ok.exfs b z hb

/-- THE STEP: the untracked objects but the frame and the records at ch are kept (the callers' frames up to slots), the frame's map is kept, the new abstract heap is held -/
theorem Inv.step {g' : Array GenState} {t' : Nat} {d' : Drawn} {ch : List Addr} (I : Inv X pins σ H s)
    (hch : ∀ b ∈ ch, (b ∈ X.ex ∨ X.s₀.heap.objs.size ≤ b) ∧ b ≠ X.env.locals ∧ (∀ x c, X.env.cells.lookup x = some c → c ≠ b) ∧ ∀ p ∈ X.pn ++ pins, p.1 ≠ b)
    (keep : ∀ b o, b ≠ X.env.locals → b ∉ X.fs → b ∉ ch → s.heap.get? b = some o → H b = none → h'.get? b = some o)
    (slot : ∀ b o, b ≠ X.env.locals → b ∈ X.fs → b ∉ ch → s.heap.get? b = some o → H b = none → ∃ sl, h'.get? b = some { o with slots := sl }) (free : ∀ b o, b ∉ ch → s.heap.get? b = some o → H b = none → H' b = none)
    (there : ∀ b o, b ∉ ch → s.heap.get? b = some o → ∃ o', h'.get? b = some o')
    (tups : ∀ b xs, H b = some (.tup xs) → H' b = some (.tup xs)) (frzs : ∀ b o u, H b = some (.frz o u) → H' b = some (.frz o u)) (tbls : ∀ b ps, H b = some (.tbl ps) → ∃ more, H' b = some (.tbl (ps ++ more)))
    (ns : ∀ m, s.heap.Ns X.env.locals m → h'.Ns X.env.locals m) (hok : HOk X.prog X.w H' h') (hg : AllBare g') :
    Inv X pins σ H' { s with heap := h', gens := g', drawn := d', toks := t' } := by
  have neL : ∀ b o, X.s₀.heap.get? b = some o → b ≠ X.env.locals := fun b o e => Nat.ne_of_lt (Nat.lt_of_lt_of_le (Heap.lt_size e) I.ok.above)
  have neC : ∀ b o, X.s₀.heap.get? b = some o → b ∉ X.ex → b ∉ ch := fun b o e hx hb => by
    rcases (hch b hb).1 with z | z
    · exact hx z
    · exact absurd (Nat.lt_of_lt_of_le (Heap.lt_size e) z) (Nat.lt_irrefl _)
  have cellK : ∀ x c, X.env.cells.lookup x = some c → ∀ v, s.heap.IsCell c v → h'.IsCell c v := fun x c e v ⟨o, ho, hd⟩ => by
    have nch : c ∉ ch := fun z => (hch c z).2.2.1 x c e rfl
    by_cases hc : c ∈ X.fs
    · obtain ⟨sl, q⟩ := slot c o (I.cne x c e) hc nch ho (I.freeC x c e)
      exact ⟨_, q, hd⟩
    · exact ⟨o, keep c o (I.cne x c e) hc nch ho (I.freeC x c e), hd⟩
  refine ⟨I.ok, I.os, hg, ⟨fun b o e n hb hx => ?_, fun b o e n hb hx => ?_, fun b o e n hx => ?_, fun b o e hx => ?_, fun b xs e => tups b xs (I.base.tups b xs e), fun b o xs e => frzs b o xs (I.base.frzs b o xs e), fun b ps e => ?_⟩, ?_, fun x c e => ?_, ?_, fun x c e => ?_, fun p hp => ?_, hok, I.len⟩
  · exact keep b o (neL b o e) hb (neC b o e hx) (I.base.keep b o e n hb hx) (I.base.free b o e n hx)
  · obtain ⟨sl, e1⟩ := I.base.slot b o e n hb hx
    obtain ⟨sl', e2⟩ := slot b _ (neL b o e) hb (neC b o e hx) e1 (I.base.free b o e n hx)
    exact ⟨sl', e2⟩
  · obtain ⟨o', e1⟩ := I.base.there b o e hx
    exact free b o' (neC b o e hx) e1 (I.base.free b o e n hx)
  · obtain ⟨o', e1⟩ := I.base.there b o e hx
    exact there b o' (neC b o e hx) e1
  · obtain ⟨m1, e1⟩ := I.base.tbls b ps e
    obtain ⟨m2, e2⟩ := tbls b _ e1
    exact ⟨m1 ++ m2, by rw [e2, Array.append_assoc]⟩
  · obtain ⟨m, hn, hl⟩ := I.loc
    refine ⟨m, ns m hn, fun i x v e1 e2 e3 => ?_⟩
    obtain ⟨u, r, l⟩ := hl i x v e1 e2 e3
    refine ⟨u, r, ?_⟩
    rcases l with l | ⟨k, c, e, z⟩
    · exact .inl l
    · exact .inr ⟨k, c, e, cellK x c e _ z⟩
  · obtain ⟨v, z⟩ := I.cell x c e
    exact ⟨v, cellK x c e v z⟩
  · obtain ⟨m, ⟨o, _, _, ho, _⟩, _⟩ := I.loc
    exact free _ o (fun z => (hch _ z).2.1 rfl) ho I.free
  · obtain ⟨v, o, ho, hd⟩ := I.cell x c e
    exact free c o (fun z => (hch c z).2.2.1 x c e rfl) ho (I.freeC x c e)
  · obtain ⟨e, n, ne, nf, d⟩ := I.pin p hp
    have nch : p.1 ∉ ch := fun z => (hch p.1 z).2.2.2 p hp rfl
    exact ⟨keep p.1 p.2 ne nf nch e n, free p.1 p.2 nch e n, ne, nf, d⟩
/-- .. where the frame's own object is kept too -/
theorem Inv.un {t' : Nat} (I : Inv X pins σ H s) (u : Un X.fs [] H H' s.heap h') (hok : HOk X.prog X.w H' h') : Inv X pins σ H' { s with heap := h', toks := t' } := by
  obtain ⟨m, ⟨o, es, ep, ho, r⟩, _⟩ := id I.loc
  obtain ⟨sl, hL⟩ := u.any ho I.free (by simp)
  exact I.step (g' := s.gens) (d' := s.drawn) (ch := []) (fun _ z => nomatch z) (fun b o _ hb _ e n => u.keep b o e n hb (by simp)) (fun b o _ hb _ e n => u.slot b o e n hb (by simp)) (fun b o _ e n => u.free b o e n (by simp)) (fun b o _ e => u.there b o e (by simp)) u.tups u.frzs u.tbls (fun m' hm => by
    obtain ⟨o', es', ep', ho', r'⟩ := hm
    rw [ho] at ho'; cases ho'
    exact ⟨_, es', ep', hL, r'⟩) hok I.bare
/-- behind a call (or a comprehension's block): the slots of this frame may have changed too, the records at ch may have turned -/
theorem Inv.call {g' : Array GenState} {t' : Nat} {d' : Drawn} {ch : List Addr} (I : Inv X pins σ H s) (u : Un (frs X.stack) ch H H' s.heap h') (hok : HOk X.prog X.w H' h') (hg : AllBare g')
    (hch : ∀ b ∈ ch, (b ∈ X.ex ∨ X.s₀.heap.objs.size ≤ b) ∧ b ≠ X.env.locals ∧ (∀ x c, X.env.cells.lookup x = some c → c ≠ b) ∧ ∀ p ∈ X.pn ++ pins, p.1 ≠ b) :
    Inv X pins σ H' { s with heap := h', gens := g', drawn := d', toks := t' } := by
  obtain ⟨m, ⟨o, es, ep, ho, r⟩, _⟩ := id I.loc
  obtain ⟨sl, hL⟩ := u.any ho I.free fun z => (hch _ z).2.1 rfl
  exact I.step (ch := ch) hch (fun b o hL hb hc e n => u.keep b o e n (fun z => (List.mem_cons.mp (I.stkSub b z)).elim hL hb) hc) (fun b o _ _ hc e n => u.any e n hc) (fun b o hc e n => u.free b o e n hc) (fun b o hc e => u.there b o e hc) u.tups u.frzs u.tbls (fun m' hm => by
    obtain ⟨o', es', ep', ho', r'⟩ := hm
    rw [ho] at ho'; cases ho'
    exact ⟨_, es', ep', hL, r'⟩) hok hg
/-- an untracked record of ours (an iterator) has turned -/
theorem Inv.turned {t' : Nat} {it : Addr} (I : Inv X pins σ H s) (k : ∀ b o, b ≠ it → s.heap.get? b = some o → h'.get? b = some o) (hn : H it = none) (hL : it ≠ X.env.locals)
    (h1 : it ∈ X.ex ∨ X.s₀.heap.objs.size ≤ it) (h2 : ∀ x c, X.env.cells.lookup x = some c → c ≠ it) (h3 : ∀ p ∈ X.pn ++ pins, p.1 ≠ it) : Inv X pins σ H { s with heap := h', toks := t' } := by
  have nit : ∀ b u, H b = some u → b ≠ it := fun b u e z => by rw [z, hn] at e; cases e
  refine I.step (g' := s.gens) (d' := s.drawn) (ch := [it]) (fun b hb => ?_) (fun b o _ _ hc e _ => k b o (fun z => hc (by simp [z])) e) (fun b o _ _ hc e _ => ⟨o.slots, k b o (fun z => hc (by simp [z])) e⟩) (fun _ _ _ _ n => n)
    (fun b o hc e => ⟨o, k b o (fun z => hc (by simp [z])) e⟩) (fun _ _ e => e) (fun _ _ _ e => e) (fun b ps e => ⟨#[], by rw [e]; simp⟩) (fun m hm => ?_) (fun b u e => ?_) I.bare
  · have e : b = it := by simpa using hb
    subst e
    exact ⟨h1, hL, h2, h3⟩
  · obtain ⟨o, es, ep, ho, r⟩ := hm
    exact ⟨o, es, ep, k _ o (Ne.symm hL) ho, r⟩
  · refine (I.hok b u e).stay (fun c v hc q => k c v ?_ q) (fun _ q => q) fun _ _ q => q
    rcases hc with z | z
    · rw [z]; exact nit b u e
    · exact nit c _ z
theorem Inv.tok (I : Inv X pins σ H s) (t : Nat) : Inv X pins σ H { s with toks := t } := I.un (h' := s.heap) (t' := t) Un.refl I.hok
/-- all objects kept -/
theorem Inv.kept {t' : Nat} (I : Inv X pins σ H s) (k : ∀ b u, s.heap.get? b = some u → h'.get? b = some u) : Inv X pins σ H { s with heap := h', toks := t' } := I.un (Un.kept k) (I.hok.kept k)
/-- a new object laid and tracked -/
theorem Inv.laid {a : Addr} {o : HO} {t' : Nat} (I : Inv X pins σ H s) (k : ∀ b u, s.heap.get? b = some u → h'.get? b = some u) (hp : s.heap.objs.size ≤ a) (new : ObjOk X.prog X.w (upd H a o) h' a o) :
    Inv X pins σ (upd H a o) { s with heap := h', toks := t' } := I.un (Un.laid k hp (I.hok.fresh hp)) (I.hok.laid k hp new)
/-- an object written -/
theorem Inv.write {x e : Addr} {o : HO} {t' : Nat} (I : Inv X pins σ H s) (mu : Mut (H x)) (he : e = x ∨ H e = some (.own x)) (k : ∀ b u, b ≠ e → s.heap.get? b = some u → h'.get? b = some u) (heo : ∃ u, h'.get? e = some u)
    (new : ObjOk X.prog X.w (upd H x o) h' x o) : Inv X pins σ (upd H x o) { s with heap := h', toks := t' } := I.un (Un.write mu he k heo) (I.hok.write mu he k heo new)
/-- forgetting slots, pins -/
theorem Inv.weak {σ' : List (Option V)} (I : Inv X pins σ H s) (hl : σ'.length = σ.length) (w : ∀ (i : Nat) v, σ'[i]? = some (some v) → σ[i]? = some (some v)) : Inv X pins σ' H s :=
  ⟨I.ok, I.os, I.bare, I.base, let ⟨m, hn, hl'⟩ := I.loc; ⟨m, hn, fun i x v e1 e2 e3 => hl' i x v e1 (w i v e2) e3⟩, I.cell, I.free, I.freeC, I.pin, I.hok, hl.trans I.len⟩
theorem Inv.pins_of {pins' : List (Addr × Obj)} (I : Inv X pins σ H s) (h : ∀ p ∈ pins', s.heap.get? p.1 = some p.2 ∧ H p.1 = none ∧ p.1 ≠ X.env.locals ∧ p.1 ∉ X.fs ∧ ∀ v, p.2.data ≠ .cell v) : Inv X pins' σ H s :=
  ⟨I.ok, I.os, I.bare, I.base, I.loc, I.cell, I.free, I.freeC, fun p hp => (List.mem_append.mp hp).elim (fun z => I.pin p (List.mem_append_left _ z)) (h p), I.hok, I.len⟩

theorem nodup_ix {N : List Str} (hN : N.Nodup) {i j : Nat} {x : Str} (a : N[i]? = some x) (b : N[j]? = some x) : i = j := by
  obtain ⟨h1, e1⟩ := List.getElem?_eq_some_iff.mp a
  obtain ⟨h2, e2⟩ := List.getElem?_eq_some_iff.mp b
  exact (List.getElem_inj hN).mp (e1.trans e2.symm)

/-- a name is stored; what changed -/
theorem store_ok2 {M : Model} {A : Around} {E : Value → Shared → Prop} {i : Nat} {x : Str} {v : V} {u : Value} {Q : Unit → Shared → Prop} (I : Inv X pins σ H s) (hN : X.N.Nodup) (hi : X.N[i]? = some x) (hx : Loc X.env.scope x) (r : RelV v u)
    (h : ∀ s', Inv X pins (σ.set i (some v)) H s' → (∃ a, Heap.SameBut a s.heap s'.heap ∧ (a = X.env.locals ∨ X.env.cells.lookup x = some a)) → Q () s') (hf : X.fn x = true ∨ X.env.scope.names.lookup x = some .local := by first | exact .inl rfl | exact .inr rfl | assumption) : wpAny M A (storeName X.env x u) Q E s := by
  obtain ⟨m, hn, hl⟩ := id I.loc
  have hcls : (X.env.scope.kind == .class || (X.env.scope.kind == .module && X.env.locals != X.env.globals)) = false := by rw [I.ok.kind]; rfl
  have hiσ : i < σ.length := by rw [I.len]; exact (List.getElem?_eq_some_iff.mp hi).1
  have cne := I.cne
  have tracked : ∀ {a : Addr} {h' : Heap}, (∃ o, s.heap.get? a = some o ∧ H a = none) → Heap.SameBut a s.heap h' → HOk X.prog X.w H h' := fun {a h'} ha hs b ob e => by
    obtain ⟨_, _, hfree⟩ := ha
    refine (I.hok b ob e).stay (fun c w' hc q => (hs.2 c ?_).trans q) (fun _ q => q) fun _ _ q => q
    rintro rfl
    rcases hc with rfl | hc
    · rw [hfree] at e; cases e
    · rw [hfree] at hc; cases hc
  rcases hx with hk | hk
  · refine wpAny_storeName_local hk hn (fun h' hn' hs => ?_) hcls
    obtain ⟨oL, _, _, hoL, _⟩ := id hn
    refine h _ ⟨I.ok, I.os, I.bare, ⟨fun b o e n hb hx => ?_, fun b o e n hb hx => ?_, I.base.free, fun b o e hx => ?_, I.base.tups, I.base.frzs, I.base.tbls⟩, ⟨_, hn', fun j y v' e1 e2 e3 => ?_⟩, fun y c e => ?_, I.free, I.freeC, fun p hp => ?_, tracked ⟨oL, hoL, I.free⟩ hs, by simpa using I.len⟩ ⟨_, hs, .inl rfl⟩
    · exact (hs.2 b (Nat.ne_of_lt (Nat.lt_of_lt_of_le (Heap.lt_size e) I.ok.above))).trans (I.base.keep b o e n hb hx)
    · obtain ⟨sl, e1⟩ := I.base.slot b o e n hb hx
      exact ⟨sl, (hs.2 b (Nat.ne_of_lt (Nat.lt_of_lt_of_le (Heap.lt_size e) I.ok.above))).trans e1⟩
    · obtain ⟨o', e1⟩ := I.base.there b o e hx
      exact ⟨o', (hs.2 b (Nat.ne_of_lt (Nat.lt_of_lt_of_le (Heap.lt_size e) I.ok.above))).trans e1⟩
    · by_cases hj : j = i
      · subst hj
        rw [hi] at e1; cases e1
        rw [List.getElem?_set_self hiσ] at e2
        cases e2
        exact ⟨u, r, .inl ⟨hk, by simp⟩⟩
      · rw [List.getElem?_set_ne (Ne.symm hj)] at e2
        obtain ⟨u', r', q⟩ := hl j y v' e1 e2 e3
        refine ⟨u', r', ?_⟩
        rcases q with ⟨k, e⟩ | ⟨k, c, e, z⟩
        · refine .inl ⟨k, ?_⟩
          have : y ≠ x := fun e => hj (nodup_ix hN e1 (e ▸ hi))
          simp [this, e]
        · exact .inr ⟨k, c, e, z.sameBut hs (cne y c e)⟩
    · obtain ⟨w', z⟩ := I.cell y c e
      exact ⟨w', z.sameBut hs (cne y c e)⟩
    · obtain ⟨e, n, ne, nf, d⟩ := I.pin p hp
      exact ⟨(hs.2 p.1 ne).trans e, n, ne, nf, d⟩
  · have hfn : X.fn x = true := by
      rcases hf with z | z
      · exact z
      · rw [z] at hk; cases hk
    obtain ⟨c, hc⟩ := I.ok.has x (.inl hk)
    obtain ⟨w', z⟩ := I.cell x c hc
    refine wpAny_storeName_cell I.ok.kind hk hc z (fun h' hc' hs => ?_)
    obtain ⟨oc, hoc, hocd⟩ := id z
    refine h { s with heap := h' } ⟨I.ok, I.os, I.bare, ⟨fun b o e n hb hx => ?_, fun b o e n hb hx => ?_, I.base.free, fun b o e hx => ?_, I.base.tups, I.base.frzs, I.base.tbls⟩, ⟨m, hn.sameBut hs (Ne.symm (cne x c hc)), fun j y v' e1 e2 e3 => ?_⟩, fun y c' e => ?_, I.free, I.freeC, fun p hp => ?_, tracked ⟨oc, hoc, I.freeC x c hc⟩ hs, by simpa using I.len⟩ ⟨c, hs, .inr hc⟩
    · exact (hs.2 b (Nat.ne_of_lt (Nat.lt_of_lt_of_le (Heap.lt_size e) (I.ok.cab x c hfn hc)))).trans (I.base.keep b o e n hb hx)
    · obtain ⟨sl, e1⟩ := I.base.slot b o e n hb hx
      exact ⟨sl, (hs.2 b (Nat.ne_of_lt (Nat.lt_of_lt_of_le (Heap.lt_size e) (I.ok.cab x c hfn hc)))).trans e1⟩
    · obtain ⟨o', e1⟩ := I.base.there b o e hx
      exact ⟨o', (hs.2 b (Nat.ne_of_lt (Nat.lt_of_lt_of_le (Heap.lt_size e) (I.ok.cab x c hfn hc)))).trans e1⟩
    · by_cases hj : j = i
      · subst hj
        rw [hi] at e1; cases e1
        rw [List.getElem?_set_self hiσ] at e2
        cases e2
        exact ⟨u, r, .inr ⟨.inl hk, c, hc, hc'⟩⟩
      · rw [List.getElem?_set_ne (Ne.symm hj)] at e2
        obtain ⟨u', r', q⟩ := hl j y v' e1 e2 e3
        refine ⟨u', r', ?_⟩
        rcases q with q | ⟨k, c', e, z'⟩
        · exact .inl q
        · refine .inr ⟨k, c', e, z'.sameBut hs ?_⟩
          rintro rfl
          exact hj (nodup_ix hN e1 (I.ok.inj _ _ _ e hc ▸ hi))
    · by_cases hcc : c' = c
      · subst hcc; exact ⟨_, hc'⟩
      · obtain ⟨w2, z2⟩ := I.cell y c' e
        exact ⟨w2, z2.sameBut hs hcc⟩
    · obtain ⟨e, n, ne, nf, d⟩ := I.pin p hp
      refine ⟨(hs.2 p.1 ?_).trans e, n, ne, nf, d⟩
      intro q
      rw [q, hoc] at e
      have q' : oc = p.2 := Option.some.inj e
      exact d w' (by rw [← q']; exact hocd)
theorem store_ok {M : Model} {A : Around} {E : Value → Shared → Prop} {i : Nat} {x : Str} {v : V} {u : Value} {Q : Unit → Shared → Prop} (I : Inv X pins σ H s) (hN : X.N.Nodup) (hi : X.N[i]? = some x) (hx : Loc X.env.scope x) (r : RelV v u)
    (h : ∀ s', Inv X pins (σ.set i (some v)) H s' → Q () s') (hf : X.fn x = true ∨ X.env.scope.names.lookup x = some .local := by first | exact .inl rfl | exact .inr rfl | assumption) : wpAny M A (storeName X.env x u) Q E s :=
  store_ok2 I hN hi hx r (fun s' I' _ => h s' I') hf
/-- behind a call or a block, the state as it is -/
theorem Inv.call' {s' : Shared} {ch : List Addr} (I : Inv X pins σ H s) (ho : s'.os = s.os) (u : Un (frs X.stack) ch H H' s.heap s'.heap) (hok : HOk X.prog X.w H' s'.heap) (hg : AllBare s'.gens)
    (hch : ∀ b ∈ ch, (b ∈ X.ex ∨ X.s₀.heap.objs.size ≤ b) ∧ b ≠ X.env.locals ∧ (∀ x c, X.env.cells.lookup x = some c → c ≠ b) ∧ ∀ p ∈ X.pn ++ pins, p.1 ≠ b) : Inv X pins σ H' s' := by
  obtain ⟨h', g', d', t', o'⟩ := s'
  have e : o' = s.os := ho
  subst e
  exact I.call (g' := g') (t' := t') (d' := d') u hok hg hch
end

/-! ### the judgements -/
/-- an exception: its class, its own dict's address (where it has one), the abstract heap behind it -/
abbrev XK := Value → Option Addr → Hp → Prop
abbrev St := List (Option V)
abbrev VK := V → Hp → Prop
/-- an expression's reading; a test's; an argument list's -/
abbrev TE := St → Hp → VK → Prop
abbrev TT := St → Hp → (Bool → Hp → Prop) → Prop
abbrev TA := St → Hp → (List V → Hp → Prop) → Prop
/-- what is wanted behind a statement -/
structure Ends where
  nx : St → Hp → Prop
  rt : VK
  bk : St → Hp → Prop := fun _ _ => False
  ct : St → Hp → Prop := fun _ _ => False
abbrev TS := Ends → St → Hp → Prop

def EP (X : Cx) (pins : List (Addr × Obj)) (σ : St) (Q : VK) (u : Value) (s' : Shared) : Prop := ∃ v H', Inv X pins σ H' s' ∧ RelV v u ∧ Q v H'
def TP (X : Cx) (pins : List (Addr × Obj)) (σ : St) (Q : Bool → Hp → Prop) (b : Bool) (s' : Shared) : Prop := ∃ H', Inv X pins σ H' s' ∧ Q b H'
def AP (X : Cx) (pins : List (Addr × Obj)) (σ : St) (Q : List V → Hp → Prop) (us : List Value) (s' : Shared) : Prop := ∃ vs H', Inv X pins σ H' s' ∧ Vals vs us ∧ Q vs H'
def SP (X : Cx) (pins : List (Addr × Obj)) (D : Ends) (f : Flow) (s' : Shared) : Prop :=
  match f with
  | .next => ∃ σ' H', Inv X pins σ' H' s' ∧ D.nx σ' H'
  | .brk => ∃ σ' H', Inv X pins σ' H' s' ∧ D.bk σ' H'
  | .cont => ∃ σ' H', Inv X pins σ' H' s' ∧ D.ct σ' H'
  | .ret u => ∃ v σ' H', Inv X pins σ' H' s' ∧ RelV v u ∧ D.rt v H'

def PE (X : Cx) (e : Expr) (t : TE) : Prop :=
  ∀ (pins : List (Addr × Obj)) (s : Shared) (σ : St) (H : Hp) (Q : VK), Inv X pins σ H s → t σ H Q → wpAny (model X.prog X.w) X.A (eval e X.env) (EP X pins σ Q) X.xe s
def PT (X : Cx) (e : Expr) (t : TT) : Prop :=
  ∀ (pins : List (Addr × Obj)) (s : Shared) (σ : St) (H : Hp) (Q : Bool → Hp → Prop), Inv X pins σ H s → t σ H Q → wpAny (model X.prog X.w) X.A (isTrue e X.env (eval e X.env)) (TP X pins σ Q) X.xe s
/-- a test whatever its 'whole' is (and, or) -/
def PW (X : Cx) (e : Expr) (t : TT) : Prop :=
  ∀ (whole : Sem Value) (pins : List (Addr × Obj)) (s : Shared) (σ : St) (H : Hp) (Q : Bool → Hp → Prop), Inv X pins σ H s → t σ H Q → wpAny (model X.prog X.w) X.A (isTrue e X.env whole) (TP X pins σ Q) X.xe s
theorem PW.pt {X : Cx} {e : Expr} {t : TT} (h : PW X e t) : PT X e t := h _
/-- an argument list (no star), from the left -/
def PA (X : Cx) (es : List Expr) (t : TA) : Prop :=
  ∀ (pos : Pos) (pins : List (Addr × Obj)) (s : Shared) (σ : St) (H : Hp) (Q : List V → Hp → Prop), Inv X pins σ H s → t σ H Q → wpAny (model X.prog X.w) X.A (spliced (backTo pos (starEach es X.env))) (AP X pins σ Q) X.xe s
def PS (X : Cx) (st : Stmt) (t : TS) : Prop :=
  ∀ (pins : List (Addr × Obj)) (s : Shared) (σ : St) (H : Hp) (D : Ends), Inv X pins σ H s → t D σ H → wpAny (model X.prog X.w) X.A (exec st X.env) (SP X pins D) X.xe s
def PSs (X : Cx) (st : List Stmt) (t : TS) : Prop :=
  ∀ (pins : List (Addr × Obj)) (s : Shared) (σ : St) (H : Hp) (D : Ends), Inv X pins σ H s → t D σ H → wpAny (model X.prog X.w) X.A (execs st X.env) (SP X pins D) X.xe s
/-- weaken the end -/
theorem thn {α : Type} {t : Sem α} {Q Q' : α → Shared → Prop} {M : Model} {A : Around} {E : Value → Shared → Prop} {s : Shared} (h : wpAny M A t Q E s) (hQ : ∀ a s, Q a s → Q' a s) : wpAny M A t Q' E s := wpAny_mono h hQ fun _ _ x => x
end L2

namespace L2
open PySem PySem.Spec PyProof.Rows
section
variable {X : Cx}

/-- two expressions in a row -/
theorem bin {a b : Expr} {ta tb : TE} (ha : PE X a ta) (hb : PE X b tb) {pins : List (Addr × Obj)} {s : Shared} {σ : St} {H : Hp} {R : V → V → Hp → Prop} (I : Inv X pins σ H s) (h : ta σ H fun x H1 => tb σ H1 fun y H2 => R x y H2)
    {α : Type} {Q : α → Shared → Prop} {f : Value → Value → Sem α}
    (hf : ∀ v u s2 x y H2, Inv X pins σ H2 s2 → RelV x v → RelV y u → R x y H2 → wpAny (model X.prog X.w) X.A (f v u) Q X.xe s2) :
    wpAny (model X.prog X.w) X.A (eval a X.env) (fun v s₁ => wpAny (model X.prog X.w) X.A (eval b X.env) (fun u s₂ => wpAny (model X.prog X.w) X.A (f v u) Q X.xe s₂) X.xe s₁) X.xe s := by
  refine thn (ha pins s σ H _ I h) fun v s1 ⟨x, H1, I1, r1, q1⟩ => ?_
  refine thn (hb pins s1 σ H1 _ I1 q1) fun u s2 ⟨y, H2, I2, r2, q2⟩ => ?_
  exact hf v u s2 x y H2 I2 r1 r2 q2

/-! ### names and constants -/
def tVar (i : Nat) : TE := fun σ H Q => ∃ v, σ[i]? = some (some v) ∧ Q v H
def tC (v : V) : TE := fun _ H Q => Q v H
theorem pe_var {i : Nat} {x : Str} {pos : Pos} (hN : X.N[i]? = some x) (hv : Vis X.env.scope x) (hd : (x == ("__debug__" : Str)) = false := by decide) (hcd : (x == ("__classdict__" : Str)) = false := by decide) : PE X (.Name x pos) (tVar i) := by
  intro pins s σ H Q I h
  obtain ⟨v, e, h⟩ := h
  obtain ⟨m, hn, hl⟩ := I.loc
  obtain ⟨u, r, l⟩ := hl i x v hN e hv
  have fin : EP X pins σ Q u s := ⟨v, H, I, r, h⟩
  rcases l with ⟨hk, hm⟩ | ⟨hk, c, hc, hcell⟩
  · exact wpAny_Name (wpAny_loadName_local I.ok.kind hk hn hm fin) hd
  · rcases hk with hk | hk
    · exact wpAny_Name (wpAny_loadName_cell I.ok.kind hk hc hcell fin) hd
    · exact wpAny_Name (wpAny_loadName_free I.ok.kind hk hc hcell fin hcd) hd
theorem pe_int {i j pos} : PE X (.Constant (.int i) j pos) (tC (.int i)) := fun _ _ _ H _ I h => wpAny_Constant_int ⟨.int i, H, I.tok _, ⟨_, rfl⟩, h⟩
theorem pe_bl {b j pos} : PE X (.Constant (.bool b) j pos) (tC (.bl b)) := fun _ _ _ H _ I h => Constant_bool ⟨.bl b, H, I, rfl, h⟩
theorem pe_non {j pos} : PE X (.Constant .none j pos) (tC .non) := fun _ _ _ H _ I h => Constant_none ⟨.non, H, I, rfl, h⟩
theorem pe_str {x j pos} : PE X (.Constant (.str x) j pos) (tC (.str x)) := fun _ _ _ H _ I h => Calls.Constant_str ⟨.str x, H, I.tok _, ⟨_, rfl⟩, h⟩

/-- a global name of the def -/
def Gl (X : Cx) (x : Str) : Prop := X.env.kindOf x = some .globalImplicit
theorem ld_glob {E : Value → Shared → Prop} {pins : List (Addr × Obj)} {s : Shared} {σ : St} {H : Hp} {x : Str} {u : Value} {pos : Pos} {Q : Value → Shared → Prop} (I : Inv X pins σ H s) (hg : Gl X x) (hm : X.mg x = some u) (h : Q u s)
    (hd : (x == ("__debug__" : Str)) = false := by decide) : wpAny (model X.prog X.w) X.A (eval (.Name x pos) X.env) Q E s :=
  Calls.Name_function_global I.ok.kind hg (Calls.loadGlobal_global (by rw [I.ok.glob]; exact I.mod.glob.keeps I.bk) hm h) hd
theorem ld_blt {E : Value → Shared → Prop} {pins : List (Addr × Obj)} {s : Shared} {σ : St} {H : Hp} {x : Str} {u : Value} {pos : Pos} {Q : Value → Shared → Prop} (I : Inv X pins σ H s) (hg : Gl X x) (hm : X.mg x = none) (hv : bootBuiltins x = some u) (h : Q u s)
    (hn : x ≠ "__name__" := by decide) (hd : (x == ("__debug__" : Str)) = false := by decide) : wpAny (model X.prog X.w) X.A (eval (.Name x pos) X.env) Q E s := by
  obtain ⟨mb, h1, h2⟩ := I.mod.blt
  exact Calls.Name_function_global I.ok.kind hg (Calls.loadGlobal_builtin (by rw [I.ok.glob]; exact I.mod.glob.keeps I.bk) hm (by rw [I.ok.blt]; exact h1.keeps I.bk) ((h2 x hn).trans hv) h) hd
/-- a module's constant, a class, a function, as a value -/
theorem pe_glob {x : Str} {v : V} {u : Value} {pos : Pos} (hg : Gl X x) (hm : X.mg x = some u) (r : RelV v u) (hd : (x == ("__debug__" : Str)) = false := by decide) : PE X (.Name x pos) (tC v) :=
  fun _ _ _ H _ I h => ld_glob I hg hm ⟨v, H, I, r, h⟩ hd
theorem pe_bltn {x : Str} {v : V} {u : Value} {pos : Pos} (hg : Gl X x) (hm : X.mg x = none) (hv : bootBuiltins x = some u) (r : RelV v u) (hn : x ≠ "__name__" := by decide) (hd : (x == ("__debug__" : Str)) = false := by decide) : PE X (.Name x pos) (tC v) :=
  fun _ _ _ H _ I h => ld_blt I hg hm hv ⟨v, H, I, r, h⟩ hn hd

/-! ### arithmetic -/
/-- two ints -/
def t2I (ta tb : TE) (k : Int → Int → Hp → Prop) : St → Hp → Prop := fun σ H => ta σ H fun x H1 => tb σ H1 fun y H2 => ∃ i j, x = .int i ∧ y = .int j ∧ k i j H2
def tAdd (ta tb : TE) : TE := fun σ H Q => t2I ta tb (fun i j H2 => Q (.int (i + j)) H2) σ H
def tSub (ta tb : TE) : TE := fun σ H Q => t2I ta tb (fun i j H2 => Q (.int (i - j)) H2) σ H
/-- the left factor below 2^64 -/
def tMul (ta tb : TE) : TE := fun σ H Q => t2I ta tb (fun i j H2 => (-(2 ^ 64) < i ∧ i < 2 ^ 64) ∧ Q (.int (i * j)) H2) σ H
variable {a b : Expr} {ta tb : TE} {pos : Pos}
theorem pe_add (ha : PE X a ta) (hb : PE X b tb) : PE X (.BinOp a .Add b pos) (tAdd ta tb) := by
  intro pins s σ H Q I h
  refine wpAny_BinOp (bin ha hb I h fun v u s2 x y H2 I2 rx ry q => ?_)
  obtain ⟨i, j, rfl, rfl, q⟩ := q
  obtain ⟨t, rfl⟩ := rx
  obtain ⟨t', rfl⟩ := ry
  exact add_int ⟨.int _, H2, I2.tok _, ⟨_, rfl⟩, q⟩
theorem pe_sub (ha : PE X a ta) (hb : PE X b tb) : PE X (.BinOp a .Sub b pos) (tSub ta tb) := by
  intro pins s σ H Q I h
  refine wpAny_BinOp (bin ha hb I h fun v u s2 x y H2 I2 rx ry q => ?_)
  obtain ⟨i, j, rfl, rfl, q⟩ := q
  obtain ⟨t, rfl⟩ := rx
  obtain ⟨t', rfl⟩ := ry
  exact sub_int ⟨.int _, H2, I2.tok _, ⟨_, rfl⟩, q⟩
theorem pe_mul (ha : PE X a ta) (hb : PE X b tb) : PE X (.BinOp a .Mult b pos) (tMul ta tb) := by
  intro pins s σ H Q I h
  refine wpAny_BinOp (bin ha hb I h fun v u s2 x y H2 I2 rx ry q => ?_)
  obtain ⟨i, j, rfl, rfl, ⟨q1, q2⟩, q⟩ := q
  obtain ⟨t, rfl⟩ := rx
  obtain ⟨t', rfl⟩ := ry
  exact mul_int ⟨.int _, H2, I2.tok _, ⟨_, rfl⟩, q⟩ (.of_left (intBits_le_64 q1 q2))

/-! ### comparisons -/
def PC (X : Cx) (op : CmpOp) (a b : Expr) (t : TE) : Prop :=
  ∀ (pins : List (Addr × Obj)) (s : Shared) (σ : St) (H : Hp) (Q : VK), Inv X pins σ H s → t σ H Q →
    wpAny (model X.prog X.w) X.A (eval a X.env) (fun v s₁ => wpAny (model X.prog X.w) X.A (eval b X.env) (fun u s₂ => wpAny (model X.prog X.w) X.A (compareOp op v u) (EP X pins σ Q) X.xe s₂) X.xe s₁) X.xe s
theorem nobehind (b : Expr) {op : CmpOp} (h : op ≠ .In) (h2 : op ≠ .NotIn) : behindInMarks op b = false := by
  have e1 : (op == CmpOp.In) = false := by cases op <;> first | rfl | exact absurd rfl h
  have e2 : (op == CmpOp.NotIn) = false := by cases op <;> first | rfl | exact absurd rfl h2
  cases b <;> simp [behindInMarks, e1, e2]
def tCmp (p : Int → Int → Bool) (ta tb : TE) : TE := fun σ H Q => t2I ta tb (fun i j H2 => Q (.bl (p i j)) H2) σ H
abbrev tLt : TE → TE → TE := tCmp fun i j => decide (i < j)
abbrev tLe : TE → TE → TE := tCmp fun i j => decide (i ≤ j)
abbrev tGt : TE → TE → TE := tCmp fun i j => decide (j < i)
abbrev tGe : TE → TE → TE := tCmp fun i j => decide (j ≤ i)
abbrev tEqI : TE → TE → TE := tCmp fun i j => decide (i = j)
abbrev tNeI : TE → TE → TE := tCmp fun i j => !decide (i = j)
/-- a comparison of two ints, by its rule -/
theorem pc_int {op : CmpOp} {p : Int → Int → Bool} (ha : PE X a ta) (hb : PE X b tb)
    (rule : ∀ (i j : Int) (t u : Tok) (Q : Value → Shared → Prop) (s : Shared), Q (.bool (p i j)) s → wpAny (model X.prog X.w) X.A (compareOp op (.int i t) (.int j u)) Q X.xe s) : PC X op a b (tCmp p ta tb) := by
  intro pins s σ H Q I h
  refine bin ha hb I h fun v u s2 x y H2 I2 rx ry q => ?_
  obtain ⟨i, j, rfl, rfl, q⟩ := q
  obtain ⟨t, rfl⟩ := rx
  obtain ⟨t', rfl⟩ := ry
  exact rule i j t t' _ s2 ⟨.bl _, H2, I2, rfl, q⟩
theorem pc_lt (ha : PE X a ta) (hb : PE X b tb) : PC X .Lt a b (tLt ta tb) := pc_int ha hb fun _ _ _ _ _ _ h => lt_int h
theorem pc_le (ha : PE X a ta) (hb : PE X b tb) : PC X .LtE a b (tLe ta tb) := pc_int ha hb fun _ _ _ _ _ _ h => le_int h
theorem pc_gt (ha : PE X a ta) (hb : PE X b tb) : PC X .Gt a b (tGt ta tb) := pc_int ha hb fun _ _ _ _ _ _ h => gt_int h
theorem pc_ge (ha : PE X a ta) (hb : PE X b tb) : PC X .GtE a b (tGe ta tb) := pc_int ha hb fun _ _ _ _ _ _ h => ge_int h
theorem pc_eqI (ha : PE X a ta) (hb : PE X b tb) : PC X .Eq a b (tEqI ta tb) := pc_int ha hb fun _ _ _ _ _ _ h => eq_int (by rw [Bool.beq_eq_decide_eq]; exact h)
theorem pc_neI (ha : PE X a ta) (hb : PE X b tb) : PC X .NotEq a b (tNeI ta tb) := pc_int ha hb fun _ _ _ _ _ _ h => ne_int (by rw [bne, Bool.beq_eq_decide_eq]; exact h)
/-- is None -/
def tIsN (ta : TE) : TE := fun σ H Q => ta σ H fun x H1 => Q (.bl (decide (x = .non))) H1
def tNotN (ta : TE) : TE := fun σ H Q => ta σ H fun x H1 => Q (.bl (!decide (x = .non))) H1
theorem RelV.none_iff {x : V} {v : Value} (r : RelV x v) : (v == Value.none) = decide (x = .non) := by
  cases x with
  | non => cases r; rfl
  | bl _ => cases r; rfl
  | int _ => obtain ⟨t, rfl⟩ := r; rfl
  | str _ => obtain ⟨t, rfl⟩ := r; rfl
  | byt _ => obtain ⟨t, rfl⟩ := r; rfl
  | flt _ => obtain ⟨t, rfl⟩ := r; rfl
  | ref _ => cases r; rfl
  | ty _ => cases r; rfl
theorem pc_isN {j pos'} (ha : PE X a ta) : PC X .Is a (.Constant .none j pos') (tIsN ta) := by
  intro pins s σ H Q I h
  refine thn (ha pins s σ H _ I h) fun v s1 ⟨x, H1, I1, r1, q1⟩ => ?_
  exact Constant_none (is_none_gen ⟨.bl _, H1, I1, by rw [r1.none_iff]; rfl, q1⟩)
theorem pc_notN {j pos'} (ha : PE X a ta) : PC X .IsNot a (.Constant .none j pos') (tNotN ta) := by
  intro pins s σ H Q I h
  refine thn (ha pins s σ H _ I h) fun v s1 ⟨x, H1, I1, r1, q1⟩ => ?_
  exact Constant_none (isnot_none_gen ⟨.bl _, H1, I1, by rw [r1.none_iff]; rfl, q1⟩)
/-- a comparison as a value, as a test -/
def tB (t : TE) : TT := fun σ H Q => t σ H fun x H1 => ∃ c, x = .bl c ∧ Q c H1
theorem pe_cmp {op : CmpOp} {t : TE} (h : PC X op a b t) (h1 : behindInMarks op b = false := by first | exact nobehind _ (by decide) (by decide) | rfl) : PE X (.Compare a [op] [b] pos) t := fun pins s σ H Q I hw => wpAny_Compare1 (h pins s σ H Q I hw) h1
theorem pt_cmp {op : CmpOp} {t : TE} (h : PC X op a b t) (h1 : behindInMarks op b = false := by first | exact nobehind _ (by decide) (by decide) | rfl) : PT X (.Compare a [op] [b] pos) (tB t) := by
  intro pins s σ H Q I hw
  refine wpAny_isTrue_Compare1 (thn (h pins s σ H _ I hw) fun v s1 h1 => thn h1 fun u s2 h2 => thn h2 fun c s3 ⟨x, H1, I1, r1, q1⟩ => ?_) h1
  obtain ⟨d, rfl, q⟩ := q1
  cases r1
  exact wpAny_truthy_bool ⟨H1, I1, q⟩
/-- an expression whose value is a bool, as a test -/
theorem pt_val {e : Expr} {t : TE} (h : PE X e t) (he : ∀ whole, isTrue e X.env whole = (do let v ← whole; standAt e.pos; holding [v] (truthy v)) := by intro _; rfl) : PT X e (tB t) := by
  intro pins s σ H Q I hw
  refine isTrue_plain (thn (h pins s σ H _ I hw) fun v s1 ⟨x, H1, I1, r1, q1⟩ => ?_) (he _)
  obtain ⟨d, rfl, q⟩ := q1
  cases r1
  exact wpAny_truthy_bool ⟨H1, I1, q⟩

/-! ### and, or, not -/
variable {tA tB' : TT} {rest : List Expr}
def tAnd (t u : TT) : TT := fun σ H Q => t σ H fun c H1 => if c = true then u σ H1 Q else Q false H1
def tOr (t u : TT) : TT := fun σ H Q => t σ H fun c H1 => if c = true then Q true H1 else u σ H1 Q
def tNot (t : TT) : TT := fun σ H Q => t σ H fun c H1 => Q (!c) H1
theorem pw_and1 (ha : PT X a tA) : PW X (.BoolOp .And [a] pos) tA := by
  intro wh pins s σ H Q I h
  refine isTrue_and (thn (ha pins s σ H Q I h) fun c s1 e => ?_)
  cases c with
  | true => exact isTrue_and_nil e
  | false => exact e
theorem pw_or1 (ha : PT X a tA) : PW X (.BoolOp .Or [a] pos) tA := by
  intro wh pins s σ H Q I h
  refine isTrue_or (thn (ha pins s σ H Q I h) fun c s1 e => ?_)
  cases c with
  | false => exact isTrue_or_nil e
  | true => exact e
theorem pw_and (ha : PT X a tA) (hb : PW X (.BoolOp .And (b :: rest) pos) tB') : PW X (.BoolOp .And (a :: b :: rest) pos) (tAnd tA tB') := by
  intro wh pins s σ H Q I h
  refine isTrue_and (thn (ha pins s σ H _ I h) fun c s1 ⟨H1, I1, q1⟩ => ?_)
  cases c with
  | true => exact hb wh pins s1 σ H1 Q I1 q1
  | false => exact ⟨H1, I1, q1⟩
theorem pw_or (ha : PT X a tA) (hb : PW X (.BoolOp .Or (b :: rest) pos) tB') : PW X (.BoolOp .Or (a :: b :: rest) pos) (tOr tA tB') := by
  intro wh pins s σ H Q I h
  refine isTrue_or (thn (ha pins s σ H _ I h) fun c s1 ⟨H1, I1, q1⟩ => ?_)
  cases c with
  | true => exact ⟨H1, I1, q1⟩
  | false => exact hb wh pins s1 σ H1 Q I1 q1
theorem pt_not (ha : PT X a tA) : PT X (.UnaryOp .Not a pos) (tNot tA) := by
  intro pins s σ H Q I h
  exact isTrue_not (ha pins s σ H (fun c H1 => Q (!c) H1) I h)
/-- .. as values (bools) -/
def tAndV (ta tb : TE) : TE := fun σ H Q => ta σ H fun x H1 => ∃ c, x = .bl c ∧ if c = true then tb σ H1 Q else Q (.bl false) H1
def tOrV (ta tb : TE) : TE := fun σ H Q => ta σ H fun x H1 => ∃ c, x = .bl c ∧ if c = true then Q (.bl true) H1 else tb σ H1 Q
def tNotV (ta : TE) : TE := fun σ H Q => ta σ H fun x H1 => ∃ c, x = .bl c ∧ Q (.bl (!c)) H1
theorem pe_one {op} {t : TE} (h : PE X a t) : PE X (.BoolOp op [a] pos) t := fun pins s σ H Q I hw => BoolOp_one (h pins s σ H Q I hw)
theorem pe_and (ha : PE X a ta) (hb : PE X (.BoolOp .And (b :: rest) pos) tb) : PE X (.BoolOp .And (a :: b :: rest) pos) (tAndV ta tb) := by
  intro pins s σ H Q I h
  refine BoolOp_and (thn (ha pins s σ H _ I h) fun v s1 ⟨x, H1, I1, r1, q1⟩ => ?_)
  obtain ⟨c, rfl, q1⟩ := q1
  cases r1
  refine wpAny_truthy_bool ?_
  cases c with
  | true => exact hb pins s1 σ H1 Q I1 q1
  | false => exact ⟨.bl false, H1, I1, rfl, q1⟩
theorem pe_or (ha : PE X a ta) (hb : PE X (.BoolOp .Or (b :: rest) pos) tb) : PE X (.BoolOp .Or (a :: b :: rest) pos) (tOrV ta tb) := by
  intro pins s σ H Q I h
  refine BoolOp_or (thn (ha pins s σ H _ I h) fun v s1 ⟨x, H1, I1, r1, q1⟩ => ?_)
  obtain ⟨c, rfl, q1⟩ := q1
  cases r1
  refine wpAny_truthy_bool ?_
  cases c with
  | false => exact hb pins s1 σ H1 Q I1 q1
  | true => exact ⟨.bl true, H1, I1, rfl, q1⟩
theorem pe_not (ha : PE X a ta) : PE X (.UnaryOp .Not a pos) (tNotV ta) := by
  intro pins s σ H Q I h
  refine UnaryOp_ (thn (ha pins s σ H _ I h) fun v s1 ⟨x, H1, I1, r1, q1⟩ => ?_)
  obtain ⟨c, rfl, q1⟩ := q1
  cases r1
  exact not_of (wpAny_truthy_bool ⟨.bl (!c), H1, I1, rfl, q1⟩)
/-- a if t else b -/
def tIf (t : TT) (ta tb : TE) : TE := fun σ H Q => t σ H fun c H1 => if c = true then ta σ H1 Q else tb σ H1 Q
theorem pe_ifExp {c : Expr} (hc : PT X c tA) (ha : PE X a ta) (hb : PE X b tb) : PE X (.IfExp c a b pos) (tIf tA ta tb) := by
  intro pins s σ H Q I h
  refine wpAny_IfExp (thn (hc pins s σ H _ I h) fun d s1 ⟨H1, I1, q1⟩ => ?_)
  cases d with
  | true => exact ha pins s1 σ H1 Q I1 q1
  | false => exact hb pins s1 σ H1 Q I1 q1
end
end L2

namespace L2
open PySem PySem.Spec PyProof.Rows

/-! ### a list, a tuple that is read: tracked, frozen, or an object of the module -/
def SqL (K : PySem.W.Frag) (H : Hp) (a : Addr) (xs : List V) : Prop :=
  Rd H a (.lst xs) ∨
    ∃ (o : Obj) (its : Array Value) (n : Nat), K.lookup a = some o ∧ o.cls = .type "list" ∧ o.dict = none ∧ o.data = .seq its n ∧ its.size ≤ sizeLine ∧ Vals xs its.toList
def SqT (K : PySem.W.Frag) (H : Hp) (a : Addr) (xs : List V) : Prop :=
  Rd H a (.tup xs) ∨
    ∃ (o : Obj) (its : Array Value) (n : Nat), K.lookup a = some o ∧ o.cls = .type "tuple" ∧ o.data = .seq its n ∧ its.size ≤ sizeLine ∧ Vals xs its.toList
def absV : Value → Option V
  | .none => some .non
  | .bool b => some (.bl b)
  | .int i _ => some (.int i)
  | .str x _ => some (.str x)
  | .bytes b _ => some (.byt b)
  | .float b _ => some (.flt b)
  | .ref a => some (.ref a)
  | .type n => some (.ty n)
  | _ => none
theorem RelV.abs {x : V} {u : Value} (r : RelV x u) : absV u = some x := by
  cases x with
  | non => cases r; rfl
  | bl _ => cases r; rfl
  | int _ => obtain ⟨t, rfl⟩ := r; rfl
  | str _ => obtain ⟨t, rfl⟩ := r; rfl
  | byt _ => obtain ⟨t, rfl⟩ := r; rfl
  | flt _ => obtain ⟨t, rfl⟩ := r; rfl
  | ref _ => cases r; rfl
  | ty _ => cases r; rfl
theorem RelV.inj {x y : V} {u : Value} (r : RelV x u) (q : RelV y u) : x = y := Option.some.inj (r.abs.symm.trans q.abs)
theorem Vals.inj : ∀ {xs ys : List V} {us : List Value}, Vals xs us → Vals ys us → xs = ys
  | _, _, _, .nil, .nil => rfl
  | _, _, _, .cons r t, .cons r' t' => by rw [r.inj r', Vals.inj t t']
section
variable {X : Cx} {pins : List (Addr × Obj)} {σ : St} {H : Hp} {s : Shared} {a : Addr} {xs ys : List V}
theorem SqL.of {K : PySem.W.Frag} (h : H a = some (.lst xs)) : SqL K H a xs := .inl (.inl h)
theorem SqT.of {K : PySem.W.Frag} (h : H a = some (.tup xs)) : SqT K H a xs := .inl (.inl h)
theorem Inv.list (I : Inv X pins σ H s) (h : SqL X.K H a xs) : ∃ its : List Value, Vals xs its ∧ PlainL s.heap a its.toArray ∧ xs.length ≤ sizeLine := by
  rcases h with h | ⟨o, its, n, hk, hc, hd, hs, hz, r⟩
  · obtain ⟨z, its, n, r, e⟩ := h.ok I.hok
    exact ⟨its, r, ⟨_, n, e, rfl, rfl, rfl⟩, z⟩
  · refine ⟨its.toList, r, ⟨o, n, I.kIn a o hk, hc, hd, by simpa using hs⟩, ?_⟩
    have e := r.length
    simp only [Array.length_toList] at e
    omega
theorem Inv.tuple (I : Inv X pins σ H s) (h : SqT X.K H a xs) : ∃ its : List Value, Vals xs its ∧ IsTup s.heap a its.toArray ∧ xs.length ≤ sizeLine := by
  rcases h with h | ⟨o, its, n, hk, hc, hs, hz, r⟩
  · obtain ⟨z, its, r, p⟩ := h.ok I.hok
    exact ⟨its, r, p, z⟩
  · refine ⟨its.toList, r, ⟨o, I.kIn a o hk, hc, n, by simpa using hs⟩, ?_⟩
    have e := r.length
    simp only [Array.length_toList] at e
    omega
theorem Inv.list_inj (I : Inv X pins σ H s) (h : SqL X.K H a xs) (h' : SqL X.K H a ys) : xs = ys := by
  obtain ⟨its, r, ⟨o, n, e, _, _, d⟩, _⟩ := I.list h
  obtain ⟨its', r', ⟨o', n', e', _, _, d'⟩, _⟩ := I.list h'
  rw [e] at e'; cases e'
  rw [d] at d'
  injection d' with d1 _
  have : its = its' := by simpa using congrArg Array.toList d1
  subst this
  exact r.inj r'
theorem Inv.tuple_inj (I : Inv X pins σ H s) (h : SqT X.K H a xs) (h' : SqT X.K H a ys) : xs = ys := by
  obtain ⟨its, r, ⟨o, e, _, n, d⟩, _⟩ := I.tuple h
  obtain ⟨its', r', ⟨o', e', _, n', d'⟩, _⟩ := I.tuple h'
  rw [e] at e'; cases e'
  rw [d] at d'
  injection d' with d1 _
  have : its = its' := by simpa using congrArg Array.toList d1
  subst this
  exact r.inj r'
end

/-! ### another wish about exceptions -/
abbrev Cx.wish (X : Cx) (E : Value → Shared → Prop) : Cx := { X with xe := E }
/-- no exception leaves -/
abbrev Cx.nox (X : Cx) : Cx := X.wish fun _ _ => False
theorem Cx.Ok.wish {X : Cx} (ok : X.Ok) (E : Value → Shared → Prop) : (X.wish E).Ok :=
  ⟨ok.mod, ok.kind, ok.glob, ok.blt, ok.above, ok.inj, ok.has, ok.cab, ok.hd, ok.frames, ok.stk, ok.exf, ok.bs, ok.bsz, ok.noex, ok.exfs, ok.funs, ok.frf⟩
theorem Cx.Ok.unwish {X : Cx} {E : Value → Shared → Prop} (ok : (X.wish E).Ok) : X.Ok :=
  ⟨ok.mod, ok.kind, ok.glob, ok.blt, ok.above, ok.inj, ok.has, ok.cab, ok.hd, ok.frames, ok.stk, ok.exf, ok.bs, ok.bsz, ok.noex, ok.exfs, ok.funs, ok.frf⟩
section
variable {X : Cx} {pins : List (Addr × Obj)} {σ : St} {H : Hp} {s : Shared} {E : Value → Shared → Prop}
theorem Inv.wish (I : Inv X pins σ H s) (E : Value → Shared → Prop) : Inv (X.wish E) pins σ H s := ⟨I.ok.wish E, I.os, I.bare, I.base, I.loc, I.cell, I.free, I.freeC, I.pin, I.hok, I.len⟩
theorem Inv.unwish (I : Inv (X.wish E) pins σ H s) : Inv X pins σ H s := ⟨I.ok.unwish, I.os, I.bare, I.base, I.loc, I.cell, I.free, I.freeC, I.pin, I.hok, I.len⟩
theorem SP.unwish {D : Ends} {f : Flow} {s' : Shared} (h : SP (X.wish E) pins D f s') : SP X pins D f s' := by
  cases f with
  | next => obtain ⟨σ', H', I, q⟩ := h; exact ⟨σ', H', I.unwish, q⟩
  | brk => obtain ⟨σ', H', I, q⟩ := h; exact ⟨σ', H', I.unwish, q⟩
  | cont => obtain ⟨σ', H', I, q⟩ := h; exact ⟨σ', H', I.unwish, q⟩
  | ret u => obtain ⟨v, σ', H', I, r, q⟩ := h; exact ⟨v, σ', H', I.unwish, r, q⟩
theorem PE.nox {e : Expr} {t : TE} (h : PE X.nox e t) : PE X e t := fun pins s σ H Q I hw =>
  wpAny_mono (h pins s σ H Q (I.wish _) hw) (fun _ _ ⟨v, H', I', r, q⟩ => ⟨v, H', I'.unwish, r, q⟩) fun _ _ z => False.elim z
theorem PT.nox {e : Expr} {t : TT} (h : PT X.nox e t) : PT X e t := fun pins s σ H Q I hw =>
  wpAny_mono (h pins s σ H Q (I.wish _) hw) (fun _ _ ⟨H', I', q⟩ => ⟨H', I'.unwish, q⟩) fun _ _ z => False.elim z
theorem PSs.nox {st : List Stmt} {t : TS} (h : PSs X.nox st t) : PSs X st t := fun pins s σ H D I hw =>
  wpAny_mono (h pins s σ H D (I.wish _) hw) (fun _ _ q => q.unwish) fun _ _ z => False.elim z
end

/-! ### blocks and small statements -/
section
variable {X : Cx} {st : Stmt} {rest : List Stmt} {t u : TS} {e : Expr} {te : TE} {pos : Pos}
def tNext : TS := fun D σ H => D.nx σ H
def tSeq (t u : TS) : TS := fun D σ H => t { D with nx := u D } σ H
theorem pss_nil : PSs X [] tNext := fun _ _ σ H _ I h => wpAny_execs_nil ⟨σ, H, I, h⟩
theorem pss_cons (h1 : PS X st t) (h2 : PSs X rest u) : PSs X (st :: rest) (tSeq t u) := by
  intro pins s σ H D I h
  refine wpAny_execs_cons (thn (h1 pins s σ H { D with nx := u D } I h) fun f s1 q => ?_)
  cases f with
  | next =>
    obtain ⟨σ', H', I', q⟩ := q
    exact h2 pins s1 σ' H' D I' q
  | ret v => exact q
  | brk => exact q
  | cont => exact q
theorem pss_one (h1 : PS X st t) : PSs X [st] t := by
  intro pins s σ H D I h
  refine wpAny_execs_cons (thn (h1 pins s σ H D I h) fun f s1 q => ?_)
  cases f with
  | next => exact wpAny_execs_nil q
  | ret v => exact q
  | brk => exact q
  | cont => exact q
def tBreak : TS := fun D σ H => D.bk σ H
def tCont : TS := fun D σ H => D.ct σ H
theorem ps_pass : PS X (.Pass pos) tNext := fun _ _ σ H _ I h => wpAny_Pass ⟨σ, H, I, h⟩
theorem ps_break : PS X (.Break pos) tBreak := fun _ _ σ H _ I h => wpAny_Break ⟨σ, H, I, h⟩
theorem ps_continue : PS X (.Continue pos) tCont := fun _ _ σ H _ I h => wpAny_Continue ⟨σ, H, I, h⟩
/-- in a def's body nothing is shown -/
theorem Inv.quiet {pins : List (Addr × Obj)} {σ : St} {H : Hp} {s : Shared} (I : Inv X pins σ H s) : interactive X.env = false := by simp [interactive, I.ok.kind]
/-- a docstring -/
theorem ps_doc {x j pos pos'} : PS X (.Expr (.Constant (.str x) j pos) pos') tNext := fun _ s σ H _ I h => wpAny_Expr (Calls.Constant_str (show SP X _ _ .next { s with toks := s.toks + 1 } from ⟨σ, H, I.tok _, h⟩)) I.quiet
/-- an expression whose value is dropped -/
def tDrop (te : TE) : TS := fun D σ H => te σ H fun _ H1 => D.nx σ H1
theorem ps_expr (he : PE X e te) (hs : swapsWith e none pos.line X.env = pure false := by rfl) : PS X (.Expr e pos) (tDrop te) := by
  intro pins s σ H D I h
  exact wpAny_Expr_any (thn (he pins s σ H _ I h) fun v s1 ⟨x, H1, I1, r1, q1⟩ => ⟨σ, H1, I1, q1⟩) I.quiet hs
def tRet (te : TE) : TS := fun D σ H => te σ H D.rt
theorem ps_ret (he : PE X e te) : PS X (.Return (some e) pos) (tRet te) := by
  intro pins s σ H D I h
  exact wpAny_Return_some (thn (he pins s σ H _ I h) fun v s1 ⟨x, H1, I1, r1, q1⟩ => ⟨x, σ, H1, I1, r1, q1⟩)
def tRetN : TS := fun D _ H => D.rt .non H
theorem ps_retN : PS X (.Return none pos) tRetN := fun _ _ σ H _ I h => wpAny_Return_none ⟨.non, σ, H, I, rfl, h⟩
def tIfS (c : TT) (t u : TS) : TS := fun D σ H => c σ H fun b H1 => if b = true then t D σ H1 else u D σ H1
theorem ps_if {c : Expr} {a b : List Stmt} {tc : TT} (hc : PT X c tc) (ha : PSs X a t) (hb : PSs X b u) : PS X (.If c a b pos) (tIfS tc t u) := by
  intro pins s σ H D I h
  refine wpAny_If (thn (hc pins s σ H _ I h) fun d s1 ⟨H1, I1, q1⟩ => ?_)
  cases d with
  | true => exact ha pins s1 σ H1 D I1 q1
  | false => exact hb pins s1 σ H1 D I1 q1
/-- code that the proof never comes to -/
def tNever : TS := fun _ _ _ => False
theorem ps_never : PS X st tNever := fun _ _ _ _ _ _ h => h.elim
theorem pss_never {sts : List Stmt} : PSs X sts tNever := fun _ _ _ _ _ _ h => h.elim
end

/-! ### targets -/
abbrev TG := V → St → Hp → (St → Hp → Prop) → Prop
abbrev TGs := List V → St → Hp → (St → Hp → Prop) → Prop
def PG (X : Cx) (target : Expr) (t : TG) : Prop :=
  ∀ (pins : List (Addr × Obj)) (s : Shared) (σ : St) (H : Hp) (v : V) (u : Value) (Q : St → Hp → Prop), Inv X pins σ H s → RelV v u → t v σ H Q →
    wpAny (model X.prog X.w) X.A (assign target X.env u) (fun _ s' => ∃ σ' H', Inv X pins σ' H' s' ∧ Q σ' H') X.xe s
/-- several targets, one after another -/
def PGs (X : Cx) (ts : List Expr) (t : TGs) : Prop :=
  ∀ (pins : List (Addr × Obj)) (s : Shared) (σ : St) (H : Hp) (vs : List V) (us : List Value) (Q : St → Hp → Prop), Inv X pins σ H s → Vals vs us → t vs σ H Q →
    wpAny (model X.prog X.w) X.A (assignInOrder ((assignEach ts X.env).map (·.2)) us) (fun _ s' => ∃ σ' H', Inv X pins σ' H' s' ∧ Q σ' H') X.xe s
/-- o[i] = v, by values -/
abbrev TSet := V → V → V → Hp → (Hp → Prop) → Prop
def PSet (X : Cx) (t : TSet) : Prop :=
  ∀ (pins : List (Addr × Obj)) (s : Shared) (σ : St) (H : Hp) (o i v : V) (ov iv u : Value) (Q : Hp → Prop), Inv X pins σ H s → RelV o ov → RelV i iv → RelV v u → t o i v H Q →
    wpAny (model X.prog X.w) X.A (setItem ov iv u) (fun _ s' => ∃ H', Inv X pins σ H' s' ∧ Q H') X.xe s
/-- a op= b, by values -/
abbrev TIp := V → V → Hp → VK → Prop
def PIp (X : Cx) (op : Operator) (t : TIp) : Prop :=
  ∀ (pins : List (Addr × Obj)) (s : Shared) (σ : St) (H : Hp) (x y : V) (v u : Value) (Q : VK), Inv X pins σ H s → RelV x v → RelV y u → t x y H Q →
    wpAny (model X.prog X.w) X.A (inplaceOp op v u) (EP X pins σ Q) X.xe s
section
variable {X : Cx} {pos : Pos}
def gName (i : Nat) : TG := fun v σ H Q => Q (σ.set i (some v)) H
theorem pg_name {i : Nat} {x : Str} (hN : X.N.Nodup) (hi : X.N[i]? = some x) (hx : Loc X.env.scope x) (hf : X.fn x = true ∨ X.env.scope.names.lookup x = some .local := by first | exact .inl rfl | exact .inr rfl | assumption) : PG X (.Name x pos) (gName i) := by
  intro pins s σ H v u Q I r h
  exact wpAny_assign_Name (store_ok I hN hi hx r (fun s' I' => ⟨_, H, I', h⟩) hf)
def gNil : TGs := fun vs σ H Q => vs = [] ∧ Q σ H
def gCons (t : TG) (u : TGs) : TGs := fun vs σ H Q => ∃ v r, vs = v :: r ∧ t v σ H fun σ' H' => u r σ' H' Q
theorem pgs_nil : PGs X [] gNil := by
  intro pins s σ H vs us Q I r h
  obtain ⟨e, h⟩ := h
  subst e
  cases r
  exact assignInOrder_nil ⟨σ, H, I, h⟩
theorem pgs_cons {e : Expr} {es : List Expr} {t : TG} {u : TGs} (h1 : PG X e t) (h2 : PGs X es u)
    (hs : (assignEach (e :: es) X.env).map (·.2) = assign e X.env :: (assignEach es X.env).map (·.2) := by rfl) : PGs X (e :: es) (gCons t u) := by
  intro pins s σ H vs us Q I r h
  obtain ⟨v, vr, e1, h⟩ := h
  subst e1
  cases r with
  | cons r rr =>
    rw [hs]
    refine assignInOrder_cons (thn (h1 pins s σ H _ _ _ I r h) fun _ s1 ⟨σ1, H1, I1, q1⟩ => ?_)
    exact h2 pins s1 σ1 H1 _ _ Q I1 rr q1
/-- (a, b, ..) = a tuple of that length -/
def gTup (K : PySem.W.Frag) (n : Nat) (t : TGs) : TG := fun v σ H Q => ∃ a xs, v = .ref a ∧ SqT K H a xs ∧ xs.length = n ∧ t xs σ H Q
theorem pg_tup {es : List Expr} {k : Nat} {t : TGs} {n : Nat} (hc : X.calm = true) (h : PGs X es t)
    (hn : (assignEach es X.env).length = n := by rfl) (hst : (assignEach es X.env).findIdx? (·.1) = none := by rfl) : PG X (.Tuple es k pos) (gTup X.K n t) := by
  intro pins s σ H v u Q I r hw
  obtain ⟨a, xs, e1, hq, hl, hw⟩ := hw
  subst e1
  cases r
  obtain ⟨its, rv, ht, hz⟩ := I.tuple hq
  refine assign_Tuple_tuple (I.ok.hd hc) ht (by simp [hn, ← hl, rv.length]) hst fun h' hx => ?_
  have I1 : Inv X pins σ H { s with heap := h' } := I.kept (t' := s.toks) fun b o e => hx b o (Nat.ne_of_lt (Heap.lt_size e)) e
  exact h pins _ σ H xs _ Q I1 (by simpa using rv) hw
/-- o[i] = .. -/
def gSub (to ti : TE) (t : TSet) : TG := fun v σ H Q => to σ H fun o H1 => ti σ H1 fun i H2 => t o i v H2 fun H3 => Q σ H3
theorem pg_sub {o i : Expr} {to ti : TE} {t : TSet} (ho : PE X o to) (hi : PE X i ti) (hs : PSet X t)
    (ha : ∀ v, assign (.Subscript o i pos) X.env v = (do
      let ov ← holding [v] (eval o X.env)
      let iv ← holding [v, ov] (eval i X.env)
      standAt pos
      holding [v, ov, iv] (setItem ov iv v)
      release [v, ov, iv] []) := by intro _; rfl) : PG X (.Subscript o i pos) (gSub to ti t) := by
  intro pins s σ H v u Q I r h
  rw [ha]
  refine wpAny_bind (wpAny_holding (thn (ho pins s σ H _ I h) fun ov s1 ⟨x, H1, I1, r1, q1⟩ => ?_))
  refine wpAny_bind (wpAny_holding (thn (hi pins s1 σ H1 _ I1 q1) fun iv s2 ⟨y, H2, I2, r2, q2⟩ => ?_))
  refine wpAny_bind (wpAny_standAt (wpAny_bind (wpAny_holding (thn (hs pins s2 σ H2 x y v ov iv u _ I2 r1 r2 r q2) fun _ s3 ⟨H3, I3, q3⟩ => ?_))))
  exact wpAny_release ⟨σ, H3, I3, q3⟩
/-- target = value -/
def tAsg (te : TE) (g : TG) : TS := fun D σ H => te σ H fun x H1 => g x σ H1 D.nx
theorem ps_asg {tg e : Expr} {te : TE} {g : TG} (he : PE X e te) (hg : PG X tg g) (hs : swapsWithSole [tg] e pos.line X.env = pure false := by rfl) (hw : swappedStores [tg] e X.env = pure none := by rfl)
    (h1 : (assignEach [tg] X.env).map (·.2) = [assign tg X.env] := by rfl) : PS X (.Assign [tg] e pos) (tAsg te g) := by
  intro pins s σ H D I h
  refine wpAny_Assign_stores (thn (he pins s σ H _ I h) fun v s1 ⟨x, H1, I1, r1, q1⟩ => ?_) hs hw
  rw [h1]
  exact thn (hg pins s1 σ H1 x v _ I1 r1 q1) fun _ s2 q => q
/-- name = value -/
theorem ps_set {i : Nat} {x : Str} {e : Expr} {te : TE} {pos' : Pos} (hN : X.N.Nodup) (hi : X.N[i]? = some x) (hx : Loc X.env.scope x) (he : PE X e te) (hs : swapsWith e (some (.Name x pos')) pos.line X.env = pure false := by rfl) (hf : X.fn x = true ∨ X.env.scope.names.lookup x = some .local := by first | exact .inl rfl | exact .inr rfl | assumption) :
    PS X (.Assign [.Name x pos'] e pos) (tAsg te (gName i)) := by
  intro pins s σ H D I h
  refine wpAny_Assign_Name (thn (he pins s σ H _ I h) fun v s1 ⟨y, H1, I1, r1, q1⟩ => ?_) hs
  exact store_ok I1 hN hi hx r1 (fun s2 I2 => ⟨_, H1, I2, q1⟩) hf
/-- a, b = x, y with plain local names: stored from the right; the pair itself is not tracked (the opening rows as in PyProof/Rows/TupAssign.lean:23) -/
def tPar (i j : Nat) (ta : TA) : TS := fun D σ H => ta σ H fun vs H1 => ∃ v w, vs = [v, w] ∧ D.nx ((σ.set i (some v)).set j (some w)) H1
theorem ps_par {i j : Nat} {x y : Str} {a b : Expr} {ta : TA} {px py pt : Pos} {kt k2 pt2} (hc : X.calm = true) (hN : X.N.Nodup) (hi : X.N[i]? = some x) (hj : X.N[j]? = some y) (hij : i ≠ j)
    (hx : X.env.scope.names.lookup x = some .local) (hy : X.env.scope.names.lookup y = some .local) (ha : PA X [a, b] ta)
    (hw : swappedStores [.Tuple [.Name x px, .Name y py] kt pt] (.Tuple [a, b] k2 pt2) X.env = pure (some [x, y]))
    (hs : swapsWithSole [.Tuple [.Name x px, .Name y py] kt pt] (.Tuple [a, b] k2 pt2) pos.line X.env = pure false := by rfl) :
    PS X (.Assign [.Tuple [.Name x px, .Name y py] kt pt] (.Tuple [a, b] k2 pt2) pos) (tPar i j ta) := by
  intro pins s σ H D I h
  rw [exec_Assign_arm]
  refine wpAny_bind (wpAny_standAt ?_)
  rw [hs]
  refine wpAny_bind (wpAny_pure ?_)
  rw [if_neg (by decide)]
  refine wpAny_bind (Tuple_ (thn (ha _ pins s σ H _ I h) fun us s1 ⟨vs, H1, I1, r1, q1⟩ => ?_))
  obtain ⟨v, w, e1, q1⟩ := q1
  subst e1
  obtain ⟨u1, u2, rfl, rv, rw'⟩ : ∃ u1 u2, us = [u1, u2] ∧ RelV v u1 ∧ RelV w u2 := by
    cases r1 with
    | cons p q =>
      cases q with
      | cons p' q' =>
        cases q'
        exact ⟨_, _, rfl, p, p'⟩
  refine wpAny_newObj_type ?_ (by show 2 ≤ sizeLine; decide)
  have I2 : Inv X pins σ H1 { s1 with heap := s1.heap.push { cls := .type "tuple", data := .seq [u1, u2].toArray } } := I1.kept (t' := s1.toks) fun b o e => Heap.get?_push_of_some _ e
  rw [hw]
  refine wpAny_bind (wpAny_pure ?_)
  show wpAny (model X.prog X.w) X.A (do rule "assign.swapped-stores"; let items ← unpackItems (.ref s1.heap.objs.size) 2 none; assignInOrder [fun v => bindName X.env y v, fun v => bindName X.env x v] items.reverse; pure Flow.next) _ _ _
  refine wpAny_bind (wpAny_rule (wpAny_bind (unpackItems_tuple (items := #[u1, u2]) (I.ok.hd hc) (IsTup.new s1.heap _) fun h' hx' => ?_)))
  have I3 := I2.kept (h' := h') (t' := s1.toks) fun b o e => hx' b o (Nat.ne_of_lt (Heap.lt_size e)) e
  show wpAny _ _ (assignInOrder [fun v => bindName X.env y v, fun v => bindName X.env x v] [u2, u1] >>= fun _ => pure Flow.next) _ _ _
  refine wpAny_bind (assignInOrder_cons (wpAny_bindName (store_ok I3 hN hj (.inl hy) rw' (fun s2 I4 => ?_) (.inr hy))))
  refine assignInOrder_cons (wpAny_bindName (store_ok I4 hN hi (.inl hx) rv (fun s3 I5 => assignInOrder_nil (wpAny_pure ?_)) (.inr hx)))
  rw [List.set_comm _ _ (Ne.symm hij)] at I5
  exact ⟨_, H1, I5, q1⟩
/-- name op= e -/
def tAug (i : Nat) (te : TE) (ti : TIp) : TS := fun D σ H => ∃ x, σ[i]? = some (some x) ∧ te σ H fun y H1 => ti x y H1 fun z H2 => D.nx (σ.set i (some z)) H2
theorem ps_aug {i : Nat} {x : Str} {e : Expr} {te : TE} {op : Operator} {ti : TIp} {pos' : Pos} (hN : X.N.Nodup) (hi : X.N[i]? = some x) (hx : Loc X.env.scope x) (he : PE X e te) (ho : PIp X op ti) (hf : X.fn x = true ∨ X.env.scope.names.lookup x = some .local := by first | exact .inl rfl | exact .inr rfl | assumption) :
    PS X (.AugAssign (.Name x pos') op e pos) (tAug i te ti) := by
  intro pins s σ H D I h
  obtain ⟨v, e1, h⟩ := h
  obtain ⟨m, hn, hl⟩ := I.loc
  have vis : Vis X.env.scope x := by rcases hx with k | k; exact .inl k; exact .inr (.inl k)
  obtain ⟨u, r, l⟩ := hl i x v hi e1 vis
  refine wpAny_AugAssign_Name ?_
  have go : wpAny (model X.prog X.w) X.A (eval e X.env) (fun w s₂ => wpAny (model X.prog X.w) X.A (inplaceOp op u w) (fun r s₃ => wpAny (model X.prog X.w) X.A (storeName X.env x r) (fun _ => SP X pins D .next) X.xe s₃) X.xe s₂) X.xe s := by
    refine thn (he pins s σ H _ I h) fun w s1 ⟨y, H1, I1, r1, q1⟩ => ?_
    refine thn (ho pins s1 σ H1 v y u w _ I1 r r1 q1) fun z s2 ⟨zv, H2, I2, r2, q2⟩ => ?_
    exact store_ok I2 hN hi hx r2 (fun s3 I3 => ⟨_, H2, I3, q2⟩) hf
  rcases l with ⟨hk, hm⟩ | ⟨hk, c, hc, hcell⟩
  · exact wpAny_loadName_local I.ok.kind hk hn hm go
  · rcases hk with hk | hk
    · exact wpAny_loadName_cell I.ok.kind hk hc hcell go
    · rcases hx with k | k
      · have : X.env.scope.names.lookup x = some .free := hk
        rw [k] at this; cases this
      · have : X.env.scope.names.lookup x = some .free := hk
        rw [k] at this; cases this
/-- o[i] op= e -/
def tAugS (to ti te : TE) (tget : V → V → Hp → VK → Prop) (tip : TIp) (tset : TSet) : TS := fun D σ H => to σ H fun o H1 => ti σ H1 fun i H2 => tget o i H2 fun x H3 => te σ H3 fun y H4 => tip x y H4 fun z H5 => tset o i z H5 fun H6 => D.nx σ H6
/-- o[i], by values -/
def PGet (X : Cx) (t : V → V → Hp → VK → Prop) : Prop :=
  ∀ (pins : List (Addr × Obj)) (s : Shared) (σ : St) (H : Hp) (o i : V) (ov iv : Value) (Q : VK), Inv X pins σ H s → RelV o ov → RelV i iv → t o i H Q →
    wpAny (model X.prog X.w) X.A (getItem ov iv) (EP X pins σ Q) X.xe s
theorem ps_augS {o i e : Expr} {to ti te : TE} {tget : V → V → Hp → VK → Prop} {tip : TIp} {tset : TSet} {op : Operator} {tpos : Pos} (ho : PE X o to) (hi : PE X i ti) (hg : PGet X tget) (he : PE X e te) (hp : PIp X op tip) (hs : PSet X tset)
    (ha : ∀ ov iv new, augStore i ov iv new = (do holding [new, ov, iv] (setItem ov iv new); release [new, ov, iv] []; pure .next) := by intros; rfl) : PS X (.AugAssign (.Subscript o i tpos) op e pos) (tAugS to ti te tget tip tset) := by
  intro pins s σ H D I h
  refine wpAny_AugAssign_SubscriptAny (thn (ho pins s σ H _ I h) fun ov s1 ⟨x1, H1, I1, r1, q1⟩ => ?_) ha
  refine thn (hi pins s1 σ H1 _ I1 q1) fun iv s2 ⟨x2, H2, I2, r2, q2⟩ => ?_
  refine thn (hg pins s2 σ H2 x1 x2 ov iv _ I2 r1 r2 q2) fun old s3 ⟨x3, H3, I3, r3, q3⟩ => ?_
  refine thn (he pins s3 σ H3 _ I3 q3) fun v s4 ⟨x4, H4, I4, r4, q4⟩ => ?_
  refine thn (hp pins s4 σ H4 x3 x4 old v _ I4 r3 r4 q4) fun new s5 ⟨x5, H5, I5, r5, q5⟩ => ?_
  exact thn (hs pins s5 σ H5 x1 x2 x5 ov iv new _ I5 r1 r2 r5 q5) fun _ s6 ⟨H6, I6, q6⟩ => ⟨σ, H6, I6, q6⟩
/-- ints -/
def ipI (f : Int → Int → Int) : TIp := fun x y H Q => ∃ i j, x = .int i ∧ y = .int j ∧ Q (.int (f i j)) H
theorem ip_add : PIp X .Add (ipI fun i j => i + j) := by
  intro pins s σ H x y v u Q I r1 r2 h
  obtain ⟨i, j, e1, e2, q⟩ := h
  subst e1; subst e2
  obtain ⟨t, rfl⟩ := r1
  obtain ⟨t', rfl⟩ := r2
  exact iadd_int ⟨.int _, H, I.tok _, ⟨_, rfl⟩, q⟩
theorem ip_sub : PIp X .Sub (ipI fun i j => i - j) := by
  intro pins s σ H x y v u Q I r1 r2 h
  obtain ⟨i, j, e1, e2, q⟩ := h
  subst e1; subst e2
  obtain ⟨t, rfl⟩ := r1
  obtain ⟨t', rfl⟩ := r2
  exact isub_int ⟨.int _, H, I.tok _, ⟨_, rfl⟩, q⟩
end

/-! ### while -/
section
variable {X : Cx} {pos : Pos}
/-- the invariant W with its measure -/
def tWhile (c : TT) (tb : TS) : TS := fun D σ H => ∃ W : Nat → St → Hp → Prop, (∃ m, W m σ H) ∧ ∀ m σ H, W m σ H →
  c σ H fun b H1 => if b = true then ∃ N : St → Hp → Prop, (∀ σ' H', N σ' H' → ∃ m', m' < m ∧ W m' σ' H') ∧ tb { D with nx := N, ct := N, bk := D.nx } σ H1 else D.nx σ H1
theorem ps_while {c : Expr} {body : List Stmt} {tc : TT} {tb : TS} (hp : PassesOwn (model X.prog X.w) X.A X.env X.xe) (hc : PT X c tc) (hb : PSs X body tb) : PS X (.While c body [] pos) (tWhile tc tb) := by
  intro pins s σ H D I h
  obtain ⟨W, ⟨m0, w0⟩, turn⟩ := h
  refine wpAny_While (codeAny_whileLoop (fun n s' => ∃ σ' H', Inv X pins σ' H' s' ∧ W n σ' H') ?_ m0 ⟨σ, H, I, w0⟩)
  rintro n s1 ⟨σ1, H1, I1, w1⟩
  refine wpAny_passesOwn hp (thn (hc pins s1 σ1 H1 _ I1 (turn n σ1 H1 w1)) fun b s2 ⟨H2, I2, q2⟩ => ?_)
  cases b with
  | true =>
    obtain ⟨N, hN, q2⟩ := q2
    rw [if_pos rfl]
    refine wpAny_passesOwn hp (thn (hb pins s2 σ1 H2 _ I2 q2) fun f s3 q3 => ?_)
    cases f with
    | next =>
      obtain ⟨σ3, H3, I3, n3⟩ := q3
      obtain ⟨m', hm, w3⟩ := hN σ3 H3 n3
      exact ⟨m', hm, σ3, H3, I3, w3⟩
    | cont =>
      obtain ⟨σ3, H3, I3, n3⟩ := q3
      obtain ⟨m', hm, w3⟩ := hN σ3 H3 n3
      exact ⟨m', hm, σ3, H3, I3, w3⟩
    | brk => exact q3
    | ret v => exact q3
  | false =>
    rw [if_neg Bool.false_ne_true]
    exact wpAny_execs_nil ⟨σ1, H2, I2, q2⟩
end

/-! ### what a loop or a comprehension walks -/
/-- at turn i: it yields x (the heap may grow), or it stops -/
structure It where
  go : Nat → Hp → Prop
  yld : Nat → Hp → V → Hp → Prop
  stop : Nat → Hp → Prop
/-- the iterator's own objects may turn: they are not the frame's, not pinned, younger than the entry (or a comprehension's own) -/
def FpOk (X : Cx) (pins : List (Addr × Obj)) (H : Hp) (b : Addr) : Prop :=
  H b = none ∧ b ≠ X.env.locals ∧ b ∉ X.fs ∧ (b ∈ X.ex ∨ X.s₀.heap.objs.size ≤ b) ∧ (∀ x c, X.env.cells.lookup x = some c → c ≠ b) ∧ ∀ p ∈ X.pn ++ pins, p.1 ≠ b
theorem Inv.fpOk {X : Cx} {pins : List (Addr × Obj)} {σ : St} {H H' : Hp} {s : Shared} {b : Addr} (I : Inv X pins σ H s) (hb : s.heap.objs.size ≤ b) (hn : H' b = none) : FpOk X pins H' b := by
  refine ⟨hn, Nat.ne_of_gt (Nat.lt_of_lt_of_le I.lt hb), I.nofs hb, .inr (Nat.le_trans I.sz hb), fun x c e z => ?_, fun p hp z => ?_⟩
  · obtain ⟨v, q⟩ := I.cell x c e
    exact absurd (Nat.lt_of_lt_of_le q.lt (by rw [z]; exact hb)) (Nat.lt_irrefl _)
  · exact absurd (Nat.lt_of_lt_of_le (Heap.lt_size (I.pin p hp).1) (by rw [z]; exact hb)) (Nat.lt_irrefl _)
structure Turn (P : Program) (w : World) (K : PySem.W.Frag) (tg : Expr) (J : It) (fp : List Addr) (it : Addr) (tn : Nat → Heap → Prop) : Prop where
  mem : it ∈ fp
  obj : ∀ i h, tn i h → ∀ b ∈ fp, ∃ o, h.get? b = some o ∧ ∀ v, o.data ≠ .cell v
  keep : ∀ i h h', tn i h → (∀ b ∈ fp, ∀ o, h.get? b = some o → h'.get? b = some o) → tn i h'
  item : ∀ (X : Cx), X.prog = P → X.w = w → X.K = K → X.calm = true → ∀ (i : Nat) (pins : List (Addr × Obj)) (s : Shared) (σ : St) (H : Hp) (E : Value → Shared → Prop), Inv X pins σ H s → (∀ b ∈ fp, FpOk X pins H b) → tn i s.heap → J.go i H →
    wpAny (model P w) X.A (pyNext (.ref it)) (fun r s1 => ∃ u, r = some u ∧
      wpAny (model P w) X.A (letOwnedTupleGo tg (.ref it) u) (fun _ s2 => ∃ x H', Inv X pins σ H' s2 ∧ RelV x u ∧ J.yld i H x H' ∧ tn (i + 1) s2.heap ∧ ∀ b ∈ fp, H' b = none) E s1) E s
  done : ∀ (X : Cx), X.prog = P → X.w = w → X.K = K → X.calm = true → ∀ (i : Nat) (pins : List (Addr × Obj)) (s : Shared) (σ : St) (H : Hp) (E : Value → Shared → Prop), Inv X pins σ H s → (∀ b ∈ fp, FpOk X pins H b) → tn i s.heap → J.stop i H →
    wpAny (model P w) X.A (pyNext (.ref it)) (fun r s1 => r = none ∧ Inv X pins σ H s1) E s
  self : ∀ (A : Around) (i : Nat) (s : Shared) (Q : Value → Shared → Prop) (E : Value → Shared → Prop), tn i s.heap → Q (.ref it) s → wpAny (model P w) A (pyIter (.ref it)) Q E s
abbrev TI := St → Hp → (It → Hp → Prop) → Prop
/-- an iterator has come -/
def PIE (X : Cx) (pins : List (Addr × Obj)) (σ : St) (tg : Expr) (R : It → Hp → Prop) (itv : Value) (s2 : Shared) : Prop :=
  ∃ (it : Addr) (fp : List Addr) (tn : Nat → Heap → Prop) (J : It) (H' : Hp), itv = .ref it ∧ Inv X pins σ H' s2 ∧ Turn X.prog X.w X.K tg J fp it tn ∧ tn 0 s2.heap ∧ (∀ b ∈ fp, FpOk X pins H' b) ∧ R J H'
def PI (X : Cx) (tg iter : Expr) (wi : TI) : Prop :=
  ∀ (pins : List (Addr × Obj)) (s : Shared) (σ : St) (H : Hp) (R : It → Hp → Prop), Inv X pins σ H s → wi σ H R →
    wpAny (model X.prog X.w) X.A (eval iter X.env) (fun v s1 => wpAny (model X.prog X.w) X.A (pyIter v) (PIE X pins σ tg R) X.xe s1) X.xe s

/-- the step ahead of the store is nothing for an iterator that keeps no tuple -/
theorem go_of {M : Model} {A : Around} {E : Value → Shared → Prop} {s : Shared} {tg : Expr} {it : Addr} {u : Value} {o : Obj} {n : String} {vs : Array Value} {Q : Unit → Shared → Prop} (ho : s.heap.get? it = some o) (hc : o.cls = .type n) (hd : o.data = .fields vs)
    (hn : ["enumerate", "zip", "dict_itemiterator", "dict_reverseitemiterator", "odict_iterator", "itertools.zip_longest", "itertools.pairwise"].contains n = false) (hQ : Q () s) : wpAny M A (letOwnedTupleGo tg (.ref it) u) Q E s := by
  unfold letOwnedTupleGo
  cases tg <;> first
    | exact wpAny_pure hQ
    | (cases u <;> first
        | exact wpAny_pure hQ
        | (refine wpAny_bind (wpAny_load ho ?_)
           rw [hc, hd]
           show wpAny M A (if (["enumerate", "zip", "dict_itemiterator", "dict_reverseitemiterator", "odict_iterator", "itertools.zip_longest", "itertools.pairwise"].contains n && vs[0]? == some (rawInt _)) = true then _ else _) Q E s
           rw [if_neg (by intro h; rw [hn, Bool.false_and] at h; cases h)]
           exact wpAny_pure hQ))

/-- the list at a, as it stands at each turn (a loop may append to it) -/
def Itl (K : PySem.W.Frag) (a : Addr) : It :=
  ⟨fun i H => ∃ xs x, SqL K H a xs ∧ xs[i]? = some x, fun i H x H' => H' = H ∧ ∀ xs, SqL K H a xs → xs[i]? = some x, fun i H => ∃ xs, SqL K H a xs ∧ xs.length ≤ i⟩
def Itt (K : PySem.W.Frag) (a : Addr) : It :=
  ⟨fun i H => ∃ xs x, SqT K H a xs ∧ xs[i]? = some x, fun i H x H' => H' = H ∧ ∀ xs, SqT K H a xs → xs[i]? = some x, fun i H => ∃ xs, SqT K H a xs ∧ xs.length ≤ i⟩
/-- lo, lo + 1, .. (n of them) -/
def Itr (lo : Int) (n : Nat) : It := ⟨fun i _ => i < n, fun i H x H' => H' = H ∧ x = .int (lo + i), fun i _ => n ≤ i⟩
theorem turn_list {P : Program} {w : World} {K : PySem.W.Frag} {tg : Expr} (a it : Addr) : Turn P w K tg (Itl K a) [it] it (fun i h => h.IsListIter it a i) where
  mem := by simp
  obj := fun i h st b hb => by
    have e : b = it := by simpa using hb
    subst e
    obtain ⟨o, e, c, d⟩ := st
    exact ⟨o, e, fun v z => by rw [d] at z; cases z⟩
  keep := fun i h h' st k => st.at fun o e => k it (by simp) o e
  item := by
    intro X hP hw hK hc i pins s σ H E I hf st hg
    subst hP hw hK
    obtain ⟨xs, x, hq, hx⟩ := hg
    obtain ⟨its, rv, p, hz⟩ := I.list hq
    obtain ⟨u, hu, ru⟩ := rv.get hx
    obtain ⟨f0, f1, f2, f3, f4, f5⟩ := hf it (by simp)
    refine wpAny_pyNext_list_item st p.isList (x := u) (by simpa using hu) fun h' st' sb => ?_
    have I1 : Inv X pins σ H { s with heap := h' } := I.turned (t' := s.toks) (fun b o hb e => (sb.2 b hb).trans e) f0 f1 f3 f4 f5
    obtain ⟨o, e, c, d⟩ := id st'
    exact ⟨u, rfl, go_of (s := { s with heap := h' }) e c d (by decide) ⟨x, H, I1, ru, ⟨rfl, fun ys hy => by rw [I.list_inj hy hq]; exact hx⟩, st', fun b hb => (hf b hb).1⟩⟩
  done := by
    intro X hP hw hK hc i pins s σ H E I hf st hg
    subst hP hw hK
    obtain ⟨xs, hq, hx⟩ := hg
    obtain ⟨its, rv, p, hz⟩ := I.list hq
    obtain ⟨f0, f1, f2, f3, f4, f5⟩ := hf it (by simp)
    have hl := rv.length
    exact wpAny_pyNext_list_end (I.ok.hd hc) st p.isList (by simp; omega) fun h' eb => ⟨rfl, I.turned (t' := s.toks) (fun b o hb e => eb b o hb e) f0 f1 f3 f4 f5⟩
  self := fun _ _ _ _ _ st h => wpAny_pyIter_listiter st h
theorem turn_tuple {P : Program} {w : World} {K : PySem.W.Frag} {tg : Expr} (a it : Addr) : Turn P w K tg (Itt K a) [it] it (fun i h => h.IsTupleIter it a i) where
  mem := by simp
  obj := fun i h st b hb => by
    have e : b = it := by simpa using hb
    subst e
    obtain ⟨o, e, c, d⟩ := st
    exact ⟨o, e, fun v z => by rw [d] at z; cases z⟩
  keep := fun i h h' st k => st.at fun o e => k it (by simp) o e
  item := by
    intro X hP hw hK hc i pins s σ H E I hf st hg
    subst hP hw hK
    obtain ⟨xs, x, hq, hx⟩ := hg
    obtain ⟨its, rv, p, hz⟩ := I.tuple hq
    obtain ⟨u, hu, ru⟩ := rv.get hx
    obtain ⟨f0, f1, f2, f3, f4, f5⟩ := hf it (by simp)
    refine wpAny_pyNext_tuple_item st (show s.heap.IsTuple a its.toArray from p) (x := u) (by simpa using hu) fun h' st' sb => ?_
    have I1 : Inv X pins σ H { s with heap := h' } := I.turned (t' := s.toks) (fun b o hb e => (sb.2 b hb).trans e) f0 f1 f3 f4 f5
    obtain ⟨o, e, c, d⟩ := id st'
    exact ⟨u, rfl, go_of (s := { s with heap := h' }) e c d (by decide) ⟨x, H, I1, ru, ⟨rfl, fun ys hy => by rw [I.tuple_inj hy hq]; exact hx⟩, st', fun b hb => (hf b hb).1⟩⟩
  done := by
    intro X hP hw hK hc i pins s σ H E I hf st hg
    subst hP hw hK
    obtain ⟨xs, hq, hx⟩ := hg
    obtain ⟨its, rv, p, hz⟩ := I.tuple hq
    obtain ⟨f0, f1, f2, f3, f4, f5⟩ := hf it (by simp)
    have hl := rv.length
    exact wpAny_pyNext_tuple_end (I.ok.hd hc) st (show s.heap.IsTuple a its.toArray from p) (by simp; omega) fun h' eb => ⟨rfl, I.turned (t' := s.toks) (fun b o hb e => eb b o hb e) f0 f1 f3 f4 f5⟩
  self := fun _ _ _ _ _ st h => wpAny_pyIter_tupleiter st h
theorem turn_range {P : Program} {w : World} {K : PySem.W.Frag} {tg : Expr} (it : Addr) (lo : Int) (n : Nat) : Turn P w K tg (Itr lo n) [it] it (fun i h => IsRangeIter h it (lo + (i : Nat) * 1) ((n : Int) - (i : Nat)) 1) where
  mem := by simp
  obj := fun i h st b hb => by
    have e : b = it := by simpa using hb
    subst e
    exact ⟨_, st, fun v z => by
      have z' : Data.fields _ = Data.cell v := z
      cases z'⟩
  keep := fun i h h' st k => k it (by simp) _ st
  item := by
    intro X hP hw hK hc i pins s σ H E I hf st hg
    subst hP hw hK
    obtain ⟨f0, f1, f2, f3, f4, f5⟩ := hf it (by simp)
    have W := Walks.range (prog := X.prog) (w := X.w) (I.ok.hd hc) it lo 1 n
    refine W.item i s _ _ hg st fun v h' tk hv st' kk => ?_
    obtain ⟨t, rfl⟩ := hv
    have I1 : Inv X pins σ H { s with heap := h', toks := tk } := I.turned (fun b o hb e => kk b o (by simpa using hb) e) f0 f1 f3 f4 f5
    refine ⟨_, rfl, go_of (s := { s with heap := h', toks := tk }) (n := "range_iterator") st' rfl rfl (by decide) ⟨.int (lo + i), H, I1, ⟨t, ?_⟩, ⟨rfl, rfl⟩, st', fun b hb => (hf b hb).1⟩⟩
    rw [Int.mul_one]
  done := by
    intro X hP hw hK hc i pins s σ H E I hf st hg
    subst hP hw hK
    obtain ⟨f0, f1, f2, f3, f4, f5⟩ := hf it (by simp)
    exact wpAny_pyNext_range_end (I.ok.hd hc) st (by have : n ≤ i := hg; omega) fun h' eb => ⟨rfl, I.turned (t' := s.toks) (fun b o hb e => eb b o hb e) f0 f1 f3 f4 f5⟩
  self := fun _ _ _ _ _ st h => wpAny_pyIter_rangeiter st h
end L2

namespace L2
open PySem PySem.Spec PyProof.Rows
section
variable {X : Cx} {tg : Expr}
def iList (K : PySem.W.Frag) (tl : TE) : TI := fun σ H R => tl σ H fun x H1 => ∃ a, x = .ref a ∧ (∃ xs, SqL K H1 a xs) ∧ R (Itl K a) H1
def iTup (K : PySem.W.Frag) (tl : TE) : TI := fun σ H R => tl σ H fun x H1 => ∃ a, x = .ref a ∧ (∃ xs, SqT K H1 a xs) ∧ R (Itt K a) H1
theorem pi_list {l : Expr} {tl : TE} (hl : PE X l tl) : PI X tg l (iList X.K tl) := by
  intro pins s σ H R I h
  refine thn (hl pins s σ H _ I h) fun v s1 ⟨x, H1, I1, r1, q1⟩ => ?_
  obtain ⟨a, e, ⟨xs, hq⟩, q⟩ := q1
  subst e
  cases r1
  obtain ⟨its, rv, p, hz⟩ := I1.list hq
  refine wpAny_pyIter_list p.isList ?_
  refine ⟨s1.heap.objs.size, [s1.heap.objs.size], _, _, H1, rfl, I1.kept (t' := s1.toks) fun b o e => Heap.get?_push_of_some _ e, turn_list a _, ⟨_, Heap.get?_push_size _ rfl, rfl, rfl⟩, fun b hb => ?_, q⟩
  have e : b = s1.heap.objs.size := by simpa using hb
  subst e
  exact I1.fpOk (Nat.le_refl _) (I1.hok.fresh (Nat.le_refl _))
theorem pi_tup {l : Expr} {tl : TE} (hl : PE X l tl) : PI X tg l (iTup X.K tl) := by
  intro pins s σ H R I h
  refine thn (hl pins s σ H _ I h) fun v s1 ⟨x, H1, I1, r1, q1⟩ => ?_
  obtain ⟨a, e, ⟨xs, hq⟩, q⟩ := q1
  subst e
  cases r1
  obtain ⟨its, rv, p, hz⟩ := I1.tuple hq
  refine wpAny_pyIter_tuple (show s1.heap.IsTuple a its.toArray from p) ?_
  refine ⟨s1.heap.objs.size, [s1.heap.objs.size], _, _, H1, rfl, I1.kept (t' := s1.toks) fun b o e => Heap.get?_push_of_some _ e, turn_tuple a _, ⟨_, Heap.get?_push_size _ rfl, rfl, rfl⟩, fun b hb => ?_, q⟩
  have e : b = s1.heap.objs.size := by simpa using hb
  subst e
  exact I1.fpOk (Nat.le_refl _) (I1.hok.fresh (Nat.le_refl _))
/-- a range object just made, walked -/
theorem range_it {pins : List (Addr × Obj)} {σ : St} {H : Hp} {s : Shared} {R : It → Hp → Prop} {E : Value → Shared → Prop} {lo hi : Int} {t u v : Tok} {tk : Nat} (I : Inv X pins σ H s) (h1 : -(2 ^ 62) ≤ lo) (h2 : lo < 2 ^ 62) (h3 : -(2 ^ 62) ≤ hi) (h4 : hi < 2 ^ 62)
    (q : R (Itr lo (hi - lo).toNat) H) : wpAny (model X.prog X.w) X.A (pyIter (.ref s.heap.objs.size)) (PIE X pins σ tg R) E { s with heap := s.heap.push { cls := .type "range", data := .fields #[.int lo t, .int hi u, .int 1 v] }, toks := tk } := by
  refine wpAny_pyIter_range (IsRange.new ..) (small_one h1 h2 h3 h4) ?_
  have I1 : Inv X pins σ H { s with heap := s.heap.push { cls := .type "range", data := .fields #[.int lo t, .int hi u, .int 1 v] }, toks := tk } := I.kept fun b o e => Heap.get?_push_of_some _ e
  refine ⟨(s.heap.push { cls := .type "range", data := .fields #[.int lo t, .int hi u, .int 1 v] }).objs.size, [(s.heap.push { cls := .type "range", data := .fields #[.int lo t, .int hi u, .int 1 v] }).objs.size], _, _, H, rfl,
    I1.kept (t' := tk) fun b o e => Heap.get?_push_of_some _ e, turn_range _ lo (hi - lo).toNat, ?_, fun b hb => ?_, q⟩
  · have e1 : lo + ((0 : Nat) : Int) * 1 = lo := by simp
    have e2 : (((hi - lo).toNat : Nat) : Int) - ((0 : Nat) : Int) = Builtin.Range.rangeSize lo hi 1 := by rw [rangeSize_one]; split <;> omega
    show IsRangeIter _ _ (lo + ((0 : Nat) : Int) * 1) ((((hi - lo).toNat : Nat) : Int) - ((0 : Nat) : Int)) 1
    rw [e1, e2]
    exact Heap.get?_push_size _ rfl
  · have e : b = (s.heap.push { cls := .type "range", data := .fields #[.int lo t, .int hi u, .int 1 v] }).objs.size := by simpa using hb
    subst e
    exact I1.fpOk (Nat.le_refl _) (I1.hok.fresh (Nat.le_refl _))
def iRng1 (ta : TA) : TI := fun σ H R => ta σ H fun vs H1 => ∃ j : Int, vs = [.int j] ∧ -(2 ^ 62) ≤ j ∧ j < 2 ^ 62 ∧ R (Itr 0 j.toNat) H1
def iRng2 (ta : TA) : TI := fun σ H R => ta σ H fun vs H1 => ∃ i j : Int, vs = [.int i, .int j] ∧ (-(2 ^ 62) ≤ i ∧ i < 2 ^ 62 ∧ -(2 ^ 62) ≤ j ∧ j < 2 ^ 62) ∧ R (Itr i (j - i).toNat) H1
theorem pi_range1 {a : Expr} {ta : TA} {p pos : Pos} (hg : Gl X "range") (hm : X.mg "range" = none) (ha : PA X [a] ta) (hs : starEach [a] X.env = [(false, eval a X.env)] := by rfl) : PI X tg (.Call (.Name "range" p) [a] [] pos) (iRng1 ta) := by
  intro pins s σ H R I h
  refine Call_ (ld_blt I hg hm boot_range (PyProof.Rows.callWith_type1 (thn (ha pos pins s σ H _ I h) fun us s1 ⟨vs, H1, I1, r1, q1⟩ => ?_) hs rfl))
  obtain ⟨j, e, q1, q2, q⟩ := q1
  subst e
  cases r1 with
  | cons r rr =>
    cases rr
    obtain ⟨t, rfl⟩ := r
    exact call_range_1 (range_it I1 (by omega) (by omega) q1 q2 (by simpa using q))
theorem pi_range2 {a b : Expr} {ta : TA} {p pos : Pos} (hg : Gl X "range") (hm : X.mg "range" = none) (ha : PA X [a, b] ta) (hs : starEach [a, b] X.env = [(false, eval a X.env), (false, eval b X.env)] := by rfl) (hs2 : starEach [b] X.env = [(false, eval b X.env)] := by rfl) :
    PI X tg (.Call (.Name "range" p) [a, b] [] pos) (iRng2 ta) := by
  intro pins s σ H R I h
  refine Call_ (ld_blt I hg hm boot_range (PyProof.Rows.callWith_type1 (thn (ha pos pins s σ H _ I h) fun us s1 ⟨vs, H1, I1, r1, q1⟩ => ?_) (by rw [hs, hs2]) (by rw [hs2]; rfl)))
  obtain ⟨i, j, e, ⟨q1, q2, q3, q4⟩, q⟩ := q1
  subst e
  cases r1 with
  | cons r rr =>
    cases rr with
    | cons r' rr =>
      cases rr
      obtain ⟨t, rfl⟩ := r
      obtain ⟨t', rfl⟩ := r'
      exact call_range_2 (range_it I1 q1 q2 q3 q4 q)

/-! ### for -/
/-- W: the invariant by the turn and a measure; N: what the body is to reach -/
def tFor (wi : TI) (g : TG) (tb : TS) : TS := fun D σ H => wi σ H fun J H1 => ∃ W : Nat → Nat → St → Hp → Prop, (∃ m, W 0 m σ H1) ∧ ∀ i m σ H, W i m σ H →
  (J.stop i H ∧ D.nx σ H) ∨ (J.go i H ∧ ∃ N : St → Hp → Prop, (∀ σ' H', N σ' H' → ∃ m', m' < m ∧ W (i + 1) m' σ' H') ∧ ∀ x H', J.yld i H x H' → g x σ H' fun σ2 H2 => tb { D with nx := N, ct := N, bk := D.nx } σ2 H2)
/-- the records at fp as they stand -/
def pinsAt (fp : List Addr) (h : Heap) : List (Addr × Obj) := fp.filterMap fun b => (h.get? b).map fun o => (b, o)
theorem mem_pinsAt {fp : List Addr} {h : Heap} {b : Addr} {o : Obj} (hb : b ∈ fp) (e : h.get? b = some o) : (b, o) ∈ pinsAt fp h := List.mem_filterMap.mpr ⟨b, hb, by rw [e]; rfl⟩
theorem of_pinsAt {fp : List Addr} {h : Heap} {p : Addr × Obj} (hp : p ∈ pinsAt fp h) : p.1 ∈ fp ∧ h.get? p.1 = some p.2 := by
  obtain ⟨b, hb, e⟩ := List.mem_filterMap.mp hp
  cases q : h.get? b with
  | none => rw [q] at e; cases e
  | some o =>
    rw [q] at e
    have e' : (b, o) = p := Option.some.inj e
    subst e'
    exact ⟨hb, q⟩
theorem Inv.pinned {pins : List (Addr × Obj)} {σ : St} {H : Hp} {s : Shared} {fp : List Addr} (I : Inv X pins σ H s) (hf : ∀ b ∈ fp, FpOk X pins H b) (ho : ∀ b ∈ fp, ∃ o, s.heap.get? b = some o ∧ ∀ v, o.data ≠ .cell v) : Inv X (pins ++ pinsAt fp s.heap) σ H s :=
  I.pins_of fun p hp => (List.mem_append.mp hp).elim (fun z => I.pin p (List.mem_append_right _ z)) fun z => by
    obtain ⟨hb, e⟩ := of_pinsAt z
    obtain ⟨f0, f1, f2, _⟩ := hf p.1 hb
    obtain ⟨o, e', d⟩ := ho p.1 hb
    rw [e] at e'; cases e'
    exact ⟨e, f0, f1, f2, d⟩
theorem Inv.unpinned {pins pl : List (Addr × Obj)} {σ : St} {H : Hp} {s : Shared} (I : Inv X (pins ++ pl) σ H s) : Inv X pins σ H s := I.pins_of fun p hp => I.pin p (List.mem_append_right _ (List.mem_append_left _ hp))
theorem ps_for {iter : Expr} {body : List Stmt} {wi : TI} {g : TG} {tb : TS} {pos : Pos} (hp : PassesOwn (model X.prog X.w) X.A X.env X.xe) (hc : X.calm = true) (hi : PI X tg iter wi) (hg : PG X tg g) (hb : PSs X body tb)
    (hs : ∀ x, foldedSetIterable iter X.env x = pure x := by intro _; rfl) : PS X (.For tg iter body [] pos) (tFor wi g tb) := by
  intro pins s σ H D I h
  refine wpAny_For (thn (hi pins s σ H _ I h) fun v s1 h1 => thn h1 fun itv s2 h2 => ?_) hs
  obtain ⟨it, fp, tn, J, H2, e, I2, T, st2, f2, W, ⟨m0, w0⟩, turn⟩ := h2
  subst e
  -- what stays true of the iterator's objects through the loop
  have stat : ∀ {H' : Hp}, (∀ b ∈ fp, H' b = none) → ∀ b ∈ fp, FpOk X pins H' b := fun hn b hb => ⟨hn b hb, (f2 b hb).2⟩
  refine codeAny_forLoop_any (fun n s' => ∃ i σ' H', Inv X pins σ' H' s' ∧ tn i s'.heap ∧ (∀ b ∈ fp, H' b = none) ∧ W i n σ' H') ?_ m0 ⟨0, σ, H2, I2, st2, fun b hb => (f2 b hb).1, w0⟩
  rintro n s3 ⟨i, σ3, H3, I3, st3, fr3, w3⟩
  rcases turn i n σ3 H3 w3 with ⟨stop, qn⟩ | ⟨go, N, hN, step⟩
  · refine wpAny_passesOwn hp (thn (T.done X rfl rfl rfl hc i pins s3 σ3 H3 X.xe I3 (stat fr3) st3 stop) fun r s4 ⟨hr, I4⟩ => ?_)
    subst hr
    exact wpAny_execs_nil ⟨σ3, H3, I4, qn⟩
  · refine wpAny_passesOwn hp (thn (T.item X rfl rfl rfl hc i pins s3 σ3 H3 X.xe I3 (stat fr3) st3 go) fun r s4 ⟨u, hr, h4⟩ => ?_)
    subst hr
    refine wpAny_passesOwn hp (thn h4 fun _ s5 ⟨x, H5, I5, r5, y5, st5, fr5⟩ => ?_)
    have I5' := I5.pinned (stat fr5) (T.obj _ _ st5)
    refine wpAny_passesOwn hp (thn (hg _ s5 σ3 H5 x u _ I5' r5 (step x H5 y5)) fun _ s6 ⟨σ6, H6, I6, q6⟩ => ?_)
    refine wpAny_passesOwn hp (thn (hb _ s6 σ6 H6 _ I6 q6) fun f s7 q7 => ?_)
    have again : ∀ {σ7 : St} {H7 : Hp}, Inv X (pins ++ pinsAt fp s5.heap) σ7 H7 s7 → N σ7 H7 → ∃ m, m < n ∧ ∃ i σ' H', Inv X pins σ' H' s7 ∧ tn i s7.heap ∧ (∀ b ∈ fp, H' b = none) ∧ W i m σ' H' := fun {σ7 H7} I7 n7 => by
      obtain ⟨m', hm, w7⟩ := hN σ7 H7 n7
      refine ⟨m', hm, i + 1, σ7, H7, I7.unpinned, T.keep _ _ _ st5 fun b hb o e => (I7.pin (b, o) (List.mem_append_right _ (List.mem_append_right _ (mem_pinsAt hb e)))).1, fun b hb => ?_, w7⟩
      obtain ⟨o, e, d⟩ := T.obj _ _ st5 b hb
      exact (I7.pin (b, o) (List.mem_append_right _ (List.mem_append_right _ (mem_pinsAt hb e)))).2.1
    cases f with
    | next => obtain ⟨σ7, H7, I7, n7⟩ := q7; exact again I7 n7
    | cont => obtain ⟨σ7, H7, I7, n7⟩ := q7; exact again I7 n7
    | brk => obtain ⟨σ7, H7, I7, q7⟩ := q7; exact ⟨σ7, H7, I7.unpinned, q7⟩
    | ret v => obtain ⟨x7, σ7, H7, I7, r7, q7⟩ := q7; exact ⟨x7, σ7, H7, I7.unpinned, r7, q7⟩
end

/-! ### the forms one uses -/
/-- over a list that the body leaves as it is -/
theorem for_list {K : PySem.W.Frag} {a : Addr} {xs : List V} {g : TG} {tb : TS} {D : Ends} {σ : St} {H : Hp} (Pv : Nat → St → Hp → Prop) (h0 : Pv 0 σ H) (hl : ∀ i σ H, i ≤ xs.length → Pv i σ H → SqL K H a xs)
    (hs : ∀ i x σ H, xs[i]? = some x → Pv i σ H → g x σ H fun σ2 H2 => tb { D with nx := Pv (i + 1), ct := Pv (i + 1), bk := D.nx } σ2 H2) (hd : ∀ σ H, Pv xs.length σ H → D.nx σ H) :
    ∃ W : Nat → Nat → St → Hp → Prop, (∃ m, W 0 m σ H) ∧ ∀ i m σ H, W i m σ H →
      ((Itl K a).stop i H ∧ D.nx σ H) ∨ ((Itl K a).go i H ∧ ∃ N : St → Hp → Prop, (∀ σ' H', N σ' H' → ∃ m', m' < m ∧ W (i + 1) m' σ' H') ∧ ∀ x H', (Itl K a).yld i H x H' → g x σ H' fun σ2 H2 => tb { D with nx := N, ct := N, bk := D.nx } σ2 H2) := by
  refine ⟨fun i m σ H => m = xs.length - i ∧ i ≤ xs.length ∧ Pv i σ H, ⟨xs.length, by simp, Nat.zero_le _, h0⟩, ?_⟩
  rintro i m σ H ⟨rfl, hi, p⟩
  have q := hl i σ H hi p
  by_cases hlt : i < xs.length
  · refine .inr ⟨⟨xs, xs[i], q, by simp [hlt]⟩, Pv (i + 1), fun σ' H' p' => ⟨xs.length - (i + 1), by omega, rfl, hlt, p'⟩, fun x H' y => ?_⟩
    obtain ⟨e, y⟩ := y
    subst e
    exact hs i x σ _ (y xs q) p
  · have e : i = xs.length := by omega
    subst e
    exact .inl ⟨⟨xs, q, Nat.le_refl _⟩, hd σ H p⟩
theorem for_tup {K : PySem.W.Frag} {a : Addr} {xs : List V} {g : TG} {tb : TS} {D : Ends} {σ : St} {H : Hp} (Pv : Nat → St → Hp → Prop) (h0 : Pv 0 σ H) (hl : ∀ i σ H, i ≤ xs.length → Pv i σ H → SqT K H a xs)
    (hs : ∀ i x σ H, xs[i]? = some x → Pv i σ H → g x σ H fun σ2 H2 => tb { D with nx := Pv (i + 1), ct := Pv (i + 1), bk := D.nx } σ2 H2) (hd : ∀ σ H, Pv xs.length σ H → D.nx σ H) :
    ∃ W : Nat → Nat → St → Hp → Prop, (∃ m, W 0 m σ H) ∧ ∀ i m σ H, W i m σ H →
      ((Itt K a).stop i H ∧ D.nx σ H) ∨ ((Itt K a).go i H ∧ ∃ N : St → Hp → Prop, (∀ σ' H', N σ' H' → ∃ m', m' < m ∧ W (i + 1) m' σ' H') ∧ ∀ x H', (Itt K a).yld i H x H' → g x σ H' fun σ2 H2 => tb { D with nx := N, ct := N, bk := D.nx } σ2 H2) := by
  refine ⟨fun i m σ H => m = xs.length - i ∧ i ≤ xs.length ∧ Pv i σ H, ⟨xs.length, by simp, Nat.zero_le _, h0⟩, ?_⟩
  rintro i m σ H ⟨rfl, hi, p⟩
  have q := hl i σ H hi p
  by_cases hlt : i < xs.length
  · refine .inr ⟨⟨xs, xs[i], q, by simp [hlt]⟩, Pv (i + 1), fun σ' H' p' => ⟨xs.length - (i + 1), by omega, rfl, hlt, p'⟩, fun x H' y => ?_⟩
    obtain ⟨e, y⟩ := y
    subst e
    exact hs i x σ _ (y xs q) p
  · have e : i = xs.length := by omega
    subst e
    exact .inl ⟨⟨xs, q, Nat.le_refl _⟩, hd σ H p⟩
theorem for_range {lo : Int} {n : Nat} {g : TG} {tb : TS} {D : Ends} {σ : St} {H : Hp} (Pv : Nat → St → Hp → Prop) (h0 : Pv 0 σ H)
    (hs : ∀ i σ H, i < n → Pv i σ H → g (.int (lo + i)) σ H fun σ2 H2 => tb { D with nx := Pv (i + 1), ct := Pv (i + 1), bk := D.nx } σ2 H2) (hd : ∀ σ H, Pv n σ H → D.nx σ H) :
    ∃ W : Nat → Nat → St → Hp → Prop, (∃ m, W 0 m σ H) ∧ ∀ i m σ H, W i m σ H →
      ((Itr lo n).stop i H ∧ D.nx σ H) ∨ ((Itr lo n).go i H ∧ ∃ N : St → Hp → Prop, (∀ σ' H', N σ' H' → ∃ m', m' < m ∧ W (i + 1) m' σ' H') ∧ ∀ x H', (Itr lo n).yld i H x H' → g x σ H' fun σ2 H2 => tb { D with nx := N, ct := N, bk := D.nx } σ2 H2) := by
  refine ⟨fun i m σ H => m = n - i ∧ i ≤ n ∧ Pv i σ H, ⟨n, by simp, Nat.zero_le _, h0⟩, ?_⟩
  rintro i m σ H ⟨rfl, hi, p⟩
  by_cases hlt : i < n
  · refine .inr ⟨hlt, Pv (i + 1), fun σ' H' p' => ⟨n - (i + 1), by omega, rfl, hlt, p'⟩, fun x H' y => ?_⟩
    obtain ⟨e, y⟩ := y
    subst e y
    exact hs i σ _ hlt p
  · have e : i = n := by omega
    subst e
    exact .inl ⟨Nat.le_refl _, hd σ H p⟩
/-- while, by a word and a measure of the state -/
theorem while_by {c : TT} {tb : TS} {D : Ends} {σ : St} {H : Hp} (Pv : St → Hp → Prop) (μ : St → Hp → Nat) (h0 : Pv σ H)
    (hs : ∀ σ H, Pv σ H → c σ H fun b H1 => if b = true then tb { D with nx := fun σ' H' => Pv σ' H' ∧ μ σ' H' < μ σ H, ct := fun σ' H' => Pv σ' H' ∧ μ σ' H' < μ σ H, bk := D.nx } σ H1 else D.nx σ H1)
    (mono : ∀ σ H Q Q', (∀ b H1, Q b H1 → Q' b H1) → c σ H Q → c σ H Q') : tWhile c tb D σ H := by
  refine ⟨fun m σ H => m = μ σ H ∧ Pv σ H, ⟨_, rfl, h0⟩, ?_⟩
  rintro m σ H ⟨rfl, p⟩
  refine mono σ H _ _ (fun b H1 q => ?_) (hs σ H p)
  cases b with
  | true => exact ⟨_, fun σ' H' ⟨p', l⟩ => ⟨_, l, rfl, p'⟩, q⟩
  | false => exact q
end L2

namespace L2
open PySem PySem.Spec PyProof.Rows

abbrev R2 := V → V → Hp → VK → Prop
/-- a two-place operation on values: f is binaryOp op, inplaceOp op or compareOp op -/
def OpR (X : Cx) (f : Value → Value → Sem Value) (r : R2) : Prop :=
  ∀ (pins : List (Addr × Obj)) (s : Shared) (σ : St) (H : Hp) (x y : V) (v u : Value) (Q : VK), Inv X pins σ H s → RelV x v → RelV y u → r x y H Q →
    wpAny (model X.prog X.w) X.A (f v u) (EP X pins σ Q) X.xe s
/-- a one-place operation -/
def UnR (X : Cx) (f : Value → Sem Value) (r : V → Hp → VK → Prop) : Prop :=
  ∀ (pins : List (Addr × Obj)) (s : Shared) (σ : St) (H : Hp) (x : V) (v : Value) (Q : VK), Inv X pins σ H s → RelV x v → r x H Q →
    wpAny (model X.prog X.w) X.A (f v) (EP X pins σ Q) X.xe s
/-- a call of a value that is known (a builtin, a type) with values -/
def CallR (X : Cx) (f : Value) (r : List V → Hp → VK → Prop) : Prop :=
  ∀ (pins : List (Addr × Obj)) (s : Shared) (σ : St) (H : Hp) (xs : List V) (us : List Value) (Q : VK), Inv X pins σ H s → Vals xs us → r xs H Q →
    wpAny (model X.prog X.w) X.A (call f us) (EP X pins σ Q) X.xe s
/-- a value's truth -/
def TruR (X : Cx) (r : V → Hp → (Bool → Hp → Prop) → Prop) : Prop :=
  ∀ (pins : List (Addr × Obj)) (s : Shared) (σ : St) (H : Hp) (x : V) (v : Value) (Q : Bool → Hp → Prop), Inv X pins σ H s → RelV x v → r x H Q →
    wpAny (model X.prog X.w) X.A (truthy v) (TP X pins σ Q) X.xe s

def tOp (r : R2) (ta tb : TE) : TE := fun σ H Q => ta σ H fun x H1 => tb σ H1 fun y H2 => r x y H2 Q
def tUn (r : V → Hp → VK → Prop) (ta : TE) : TE := fun σ H Q => ta σ H fun x H1 => r x H1 Q
/-- ints in, under C, and a value out -/
def rI (C : Int → Int → Prop) (g : Int → Int → V) : R2 := fun x y H Q => ∃ i j, x = .int i ∧ y = .int j ∧ C i j ∧ Q (g i j) H
def rI0 (g : Int → Int → V) : R2 := fun x y H Q => ∃ i j, x = .int i ∧ y = .int j ∧ Q (g i j) H
def rU (g : Int → V) : V → Hp → VK → Prop := fun x H Q => ∃ i, x = .int i ∧ Q (g i) H

section
variable {X : Cx} {a b c : Expr} {ta tb tc : TE} {pos : Pos}

theorem binT (ha : PE X a ta) (hb : PE X b tb) {pins : List (Addr × Obj)} {s : Shared} {σ : St} {H : Hp} {R : V → V → Hp → Prop} (I : Inv X pins σ H s)
    (h : ta σ H fun x H1 => tb σ H1 fun y H2 => R x y H2) {Q : Value → Shared → Prop} {f : Value → Value → Sem Value}
    (hf : ∀ v u s2 x y H2, Inv X pins σ H2 s2 → RelV x v → RelV y u → R x y H2 → wpAny (model X.prog X.w) X.A (f v u) Q X.xe s2) :
    wpAny (model X.prog X.w) X.A (eval a X.env) (fun v s₁ => wpAny (model X.prog X.w) X.A (eval b X.env) (fun u s₂ => wpAny (model X.prog X.w) X.A (f v u) Q X.xe s₂) X.xe s₁) X.xe s := by
  refine thn (ha pins s σ H _ I h) fun v s1 ⟨x, H1, I1, r1, q1⟩ => ?_
  refine thn (hb pins s1 σ H1 _ I1 q1) fun u s2 ⟨y, H2, I2, r2, q2⟩ => ?_
  exact hf v u s2 x y H2 I2 r1 r2 q2

theorem pe_op {op : Operator} {r : R2} (ho : OpR X (binaryOp op) r) (ha : PE X a ta) (hb : PE X b tb) : PE X (.BinOp a op b pos) (tOp r ta tb) := by
  intro pins s σ H Q I h
  exact wpAny_BinOp (binT ha hb I h fun v u s2 x y H2 I2 rx ry q => ho pins s2 σ H2 x y v u Q I2 rx ry q)
theorem pe_un {op : UnaryOp} {r : V → Hp → VK → Prop} (ho : UnR X (unaryOp op) r) (ha : PE X a ta) : PE X (.UnaryOp op a pos) (tUn r ta) := by
  intro pins s σ H Q I h
  exact UnaryOp_ (thn (ha pins s σ H _ I h) fun v s1 ⟨x, H1, I1, r1, q1⟩ => ho pins s1 σ H1 x v Q I1 r1 q1)
/-- a op= e at a name: the name's slot i -/
theorem augR {op : Operator} {r : R2} (ho : OpR X (inplaceOp op) r) {pins : List (Addr × Obj)} {s : Shared} {σ : St} {H : Hp} {x y : V} {v u : Value} {Q : VK} (I : Inv X pins σ H s)
    (rx : RelV x v) (ry : RelV y u) (q : r x y H Q) : wpAny (model X.prog X.w) X.A (inplaceOp op v u) (EP X pins σ Q) X.xe s := ho pins s σ H x y v u Q I rx ry q

/-! ### ints -/
theorem opI {f : Value → Value → Sem Value} {C : Int → Int → Prop} {g : Int → Int → Int}
    (rule : ∀ (i j : Int) (t u : Tok) (s : Shared) (Q : Value → Shared → Prop) (E : Value → Shared → Prop), C i j → Q (.int (g i j) s.toks) { s with toks := s.toks + 1 } → wpAny (model X.prog X.w) X.A (f (.int i t) (.int j u)) Q E s) :
    OpR X f (rI C fun i j => .int (g i j)) := by
  intro pins s σ H x y v u Q I rx ry h
  obtain ⟨i, j, rfl, rfl, hc, q⟩ := h
  obtain ⟨t, rfl⟩ := rx
  obtain ⟨t', rfl⟩ := ry
  exact rule i j t t' s _ _ hc ⟨.int (g i j), H, I.tok _, ⟨_, rfl⟩, q⟩
theorem opI0 {f : Value → Value → Sem Value} {g : Int → Int → Int}
    (rule : ∀ (i j : Int) (t u : Tok) (s : Shared) (Q : Value → Shared → Prop) (E : Value → Shared → Prop), Q (.int (g i j) s.toks) { s with toks := s.toks + 1 } → wpAny (model X.prog X.w) X.A (f (.int i t) (.int j u)) Q E s) :
    OpR X f (rI0 fun i j => .int (g i j)) := by
  intro pins s σ H x y v u Q I rx ry h
  obtain ⟨i, j, rfl, rfl, q⟩ := h
  obtain ⟨t, rfl⟩ := rx
  obtain ⟨t', rfl⟩ := ry
  exact rule i j t t' s _ _ ⟨.int (g i j), H, I.tok _, ⟨_, rfl⟩, q⟩
theorem opB0 {f : Value → Value → Sem Value} {g : Int → Int → Bool}
    (rule : ∀ (i j : Int) (t u : Tok) (s : Shared) (Q : Value → Shared → Prop) (E : Value → Shared → Prop), Q (.bool (g i j)) s → wpAny (model X.prog X.w) X.A (f (.int i t) (.int j u)) Q E s) :
    OpR X f (rI0 fun i j => .bl (g i j)) := by
  intro pins s σ H x y v u Q I rx ry h
  obtain ⟨i, j, rfl, rfl, q⟩ := h
  obtain ⟨t, rfl⟩ := rx
  obtain ⟨t', rfl⟩ := ry
  exact rule i j t t' s _ _ ⟨.bl (g i j), H, I, rfl, q⟩

def CDiv (i j : Int) : Prop := 0 < j ∧ j < 1073741824
def CDivN (i j : Int) : Prop := j ≠ 0 ∧ j.natAbs < 1073741824
def CPow (i j : Int) : Prop := 0 ≤ j ∧ j ≤ 1000000 ∧ i.natAbs < 2 ^ 64
def CMul (i j : Int) : Prop := (-(2 ^ 64) < i ∧ i < 2 ^ 64) ∨ (-(2 ^ 64) < j ∧ j < 2 ^ 64)
theorem CMul.ok {i j : Int} (h : CMul i j) : IntMulOk i j := by
  rcases h with ⟨h1, h2⟩ | ⟨h1, h2⟩
  · exact .of_left (intBits_le_64 h1 h2)
  · exact .of_right (intBits_le_64 h1 h2)
theorem two_pow_nn (k : Nat) : (0 : Int) ≤ 2 ^ k := by
  rw [two_pow_cast]
  exact Int.natCast_nonneg _

theorem op_add : OpR X (binaryOp .Add) (rI0 fun i j => .int (i + j)) := opI0 fun _ _ _ _ _ _ _ q => add_int q
theorem op_sub : OpR X (binaryOp .Sub) (rI0 fun i j => .int (i - j)) := opI0 fun _ _ _ _ _ _ _ q => sub_int q
theorem op_mul : OpR X (binaryOp .Mult) (rI CMul fun i j => .int (i * j)) := opI fun _ _ _ _ _ _ _ hc q => mul_int q hc.ok
/-- // by a positive divisor -/
theorem op_fdiv : OpR X (binaryOp .FloorDiv) (rI CDiv fun i j => .int (i / j)) := opI fun i j _ _ _ _ _ hc q => by
  have h1 : (0 : Int) < j := hc.1
  have h2 : j < 1073741824 := hc.2
  exact floordiv_int (by omega) (by rw [Int.fdiv_eq_ediv_of_nonneg i (by omega)]; exact q) (.inl (PyProof.noPylong_small (by omega)))
theorem op_fdivN : OpR X (binaryOp .FloorDiv) (rI CDivN fun i j => .int (i.fdiv j)) := opI fun _ _ _ _ _ _ _ hc q => floordiv_int hc.1 q (.inl (PyProof.noPylong_small hc.2))
/-- % by a positive divisor of any size -/
theorem op_mod : OpR X (binaryOp .Mod) (rI (fun _ j => 0 < j) fun i j => .int (i % j)) := opI fun i j _ _ _ _ _ hc q => by
  have h1 : (0 : Int) < j := hc
  exact mod_int' (by omega) (by rw [Int.fmod_eq_emod_of_nonneg i (by omega)]; exact q)
theorem op_modN : OpR X (binaryOp .Mod) (rI (fun _ j => j ≠ 0) fun i j => .int (i.fmod j)) := opI fun _ _ _ _ _ _ _ hc q => mod_int' hc q
theorem op_pow : OpR X (binaryOp .Pow) (rI CPow fun i j => .int (i ^ j.toNat)) := opI fun _ _ _ _ _ _ _ hc q => pow_int_small hc.1 hc.2.1 hc.2.2 q
theorem op_shl : OpR X (binaryOp .LShift) (rI CPow fun i j => .int (i * 2 ^ j.toNat)) := opI fun _ _ _ _ _ _ _ hc q => lshift_int_small hc.1 hc.2.1 hc.2.2 q
theorem op_shr : OpR X (binaryOp .RShift) (rI (fun _ j => 0 ≤ j) fun i j => .int (i / 2 ^ j.toNat)) := opI fun i j _ _ _ _ _ hc q =>
  rshift_int hc (by rw [Int.fdiv_eq_ediv_of_nonneg i (two_pow_nn _)]; exact q)
theorem op_and : OpR X (binaryOp .BitAnd) (rI0 fun i j => .int (Builtin.bitAnd i j)) := opI0 fun _ _ _ _ _ _ _ q => and_int q
theorem op_or : OpR X (binaryOp .BitOr) (rI0 fun i j => .int (Builtin.bitOr i j)) := opI0 fun _ _ _ _ _ _ _ q => or_int q
theorem op_xor : OpR X (binaryOp .BitXor) (rI0 fun i j => .int (Builtin.bitXor i j)) := opI0 fun _ _ _ _ _ _ _ q => xor_int q

theorem iop_add : OpR X (inplaceOp .Add) (rI0 fun i j => .int (i + j)) := opI0 fun _ _ _ _ _ _ _ q => iadd_int q
theorem iop_sub : OpR X (inplaceOp .Sub) (rI0 fun i j => .int (i - j)) := opI0 fun _ _ _ _ _ _ _ q => isub_int q
theorem iop_mul : OpR X (inplaceOp .Mult) (rI CMul fun i j => .int (i * j)) := opI fun _ _ _ _ _ _ _ hc q => imul_int q hc.ok
theorem iop_fdiv : OpR X (inplaceOp .FloorDiv) (rI CDiv fun i j => .int (i / j)) := opI fun i j _ _ _ _ _ hc q => by
  have h1 : (0 : Int) < j := hc.1
  have h2 : j < 1073741824 := hc.2
  exact ifloordiv_int (by omega) (by rw [Int.fdiv_eq_ediv_of_nonneg i (by omega)]; exact q) (.inl (PyProof.noPylong_small (by omega)))
theorem iop_mod : OpR X (inplaceOp .Mod) (rI (fun _ j => 0 < j) fun i j => .int (i % j)) := opI fun i j _ _ _ _ _ hc q => by
  have h1 : (0 : Int) < j := hc
  exact imod_int (by omega) (by rw [Int.fmod_eq_emod_of_nonneg i (by omega)]; exact q)
theorem iop_shl : OpR X (inplaceOp .LShift) (rI CPow fun i j => .int (i * 2 ^ j.toNat)) := opI fun _ _ _ _ _ _ _ hc q => ilshift_int_small hc.1 hc.2.1 hc.2.2 q
theorem iop_shr : OpR X (inplaceOp .RShift) (rI (fun _ j => 0 ≤ j) fun i j => .int (i / 2 ^ j.toNat)) := opI fun i j _ _ _ _ _ hc q =>
  irshift_int hc (by rw [Int.fdiv_eq_ediv_of_nonneg i (two_pow_nn _)]; exact q)
theorem iop_and : OpR X (inplaceOp .BitAnd) (rI0 fun i j => .int (Builtin.bitAnd i j)) := opI0 fun _ _ _ _ _ _ _ q => iand_int q
theorem iop_or : OpR X (inplaceOp .BitOr) (rI0 fun i j => .int (Builtin.bitOr i j)) := opI0 fun _ _ _ _ _ _ _ q => ior_int q
theorem iop_xor : OpR X (inplaceOp .BitXor) (rI0 fun i j => .int (Builtin.bitXor i j)) := opI0 fun _ _ _ _ _ _ _ q => ixor_int q

theorem unI {f : Value → Sem Value} {g : Int → Int}
    (rule : ∀ (i : Int) (t : Tok) (s : Shared) (Q : Value → Shared → Prop) (E : Value → Shared → Prop), Q (.int (g i) s.toks) { s with toks := s.toks + 1 } → wpAny (model X.prog X.w) X.A (f (.int i t)) Q E s) :
    UnR X f (rU fun i => .int (g i)) := by
  intro pins s σ H x v Q I rx h
  obtain ⟨i, rfl, q⟩ := h
  obtain ⟨t, rfl⟩ := rx
  exact rule i t s _ _ ⟨.int (g i), H, I.tok _, ⟨_, rfl⟩, q⟩
theorem un_neg : UnR X (unaryOp .USub) (rU fun i => .int (-i)) := unI fun _ _ _ _ _ q => neg_int q
theorem un_inv : UnR X (unaryOp .Invert) (rU fun i => .int (Builtin.bitNot i)) := unI fun _ _ _ _ _ q => invert_int q

/-! ### bools among ints: n += (a < b) -/
theorem op_add_ib : OpR X (binaryOp .Add) (fun x y H Q => ∃ i k, x = .int i ∧ y = .bl k ∧ Q (.int (i + b2i k)) H) := by
  intro pins s σ H x y v u Q I rx ry h
  obtain ⟨i, k, rfl, rfl, q⟩ := h
  obtain ⟨t, rfl⟩ := rx
  cases ry
  exact add_int_bool ⟨.int (i + b2i k), H, I.tok _, ⟨_, rfl⟩, q⟩
end

/-! ### comparisons -/
/-- the scalars that == tells apart as data does -/
def scal : V → V → Bool
  | .non, .non => true | .non, .int _ => true | .int _, .non => true | .non, .bl _ => true | .bl _, .non => true | .non, .str _ => true | .str _, .non => true
  | .int _, .int _ => true | .bl _, .bl _ => true | .str _, .str _ => true | .byt _, .byt _ => true
  | .int _, .str _ => true | .str _, .int _ => true | .bl _, .str _ => true | .str _, .bl _ => true
  | _, _ => false
def rEq : R2 := fun x y H Q => scal x y = true ∧ Q (.bl (decide (x = y))) H
def rNe : R2 := fun x y H Q => scal x y = true ∧ Q (.bl (!decide (x = y))) H

theorem dec_int {i j : Int} : decide (V.int i = V.int j) = (i == j) := by
  rw [Bool.eq_iff_iff]
  simp
theorem dec_bl {i j : Bool} : decide (V.bl i = V.bl j) = (i == j) := by
  rw [Bool.eq_iff_iff]
  simp
theorem dec_str {i j : Str} : decide (V.str i = V.str j) = (i == j) := by
  rw [Bool.eq_iff_iff]
  simp
theorem dec_byt {i j : Array UInt8} : decide (V.byt i = V.byt j) = (i.toList == j.toList) := by
  rw [Bool.eq_iff_iff]
  cases i
  cases j
  simp

section
variable {X : Cx} {a b c : Expr} {ta tb tc : TE} {pos : Pos}
theorem fin_bl {pins : List (Addr × Obj)} {σ : St} {H : Hp} {s : Shared} {Q : VK} {k k' : Bool} (I : Inv X pins σ H s) (q : Q (.bl k) H) (e : k = k') : EP X pins σ Q (.bool k') s := by
  subst e
  exact ⟨.bl k, H, I, rfl, q⟩
theorem op_eq : OpR X (compareOp .Eq) rEq := by
  intro pins s σ H x y v u Q I rx ry h
  obtain ⟨hs, q⟩ := h
  cases x with
  | non =>
    cases rx
    cases y with
    | non => cases ry; exact PySem.EqNone.eq_none_none (fin_bl I q (by simp))
    | bl j => cases ry; exact PySem.EqNone.eq_none_bool (fin_bl I q (by simp))
    | int j => obtain ⟨t', rfl⟩ := ry; exact PySem.EqNone.eq_none_int (fin_bl I q (by simp))
    | str j => obtain ⟨t', rfl⟩ := ry; exact PySem.EqNone.eq_none_str (fin_bl I q (by simp))
    | _ => exact absurd (show false = true from hs) Bool.false_ne_true
  | bl i =>
    cases rx
    cases y with
    | non => cases ry; exact PySem.EqNone.eq_bool_none (fin_bl I q (by simp))
    | bl j => cases ry; exact eq_bool (fin_bl I q dec_bl)
    | str j => obtain ⟨t', rfl⟩ := ry; exact PySem.EqMixed.eq_bool_str (fin_bl I q (by simp))
    | _ => exact absurd (show false = true from hs) Bool.false_ne_true
  | int i =>
    obtain ⟨t, rfl⟩ := rx
    cases y with
    | non => cases ry; exact PySem.EqNone.eq_int_none (fin_bl I q (by simp))
    | int j => obtain ⟨t', rfl⟩ := ry; exact eq_int (fin_bl I q dec_int)
    | str j => obtain ⟨t', rfl⟩ := ry; exact PySem.EqMixed.eq_int_str (fin_bl I q (by simp))
    | _ => exact absurd (show false = true from hs) Bool.false_ne_true
  | str i =>
    obtain ⟨t, rfl⟩ := rx
    cases y with
    | non => cases ry; exact PySem.EqNone.eq_str_none (fin_bl I q (by simp))
    | bl j => cases ry; exact PySem.EqMixed.eq_str_bool (fin_bl I q (by simp))
    | int j => obtain ⟨t', rfl⟩ := ry; exact PySem.EqMixed.eq_str_int (fin_bl I q (by simp))
    | str j => obtain ⟨t', rfl⟩ := ry; exact eq_str (fin_bl I q dec_str)
    | _ => exact absurd (show false = true from hs) Bool.false_ne_true
  | byt i =>
    obtain ⟨t, rfl⟩ := rx
    cases y with
    | byt j => obtain ⟨t', rfl⟩ := ry; exact PySem.W.eq_bytes (fin_bl I q dec_byt)
    | _ => exact absurd (show false = true from hs) Bool.false_ne_true
  | _ => cases y <;> exact absurd (show false = true from hs) Bool.false_ne_true
theorem op_ne : OpR X (compareOp .NotEq) rNe := by
  intro pins s σ H x y v u Q I rx ry h
  obtain ⟨hs, q⟩ := h
  cases x with
  | non =>
    cases rx
    cases y with
    | non => cases ry; exact PySem.EqNone.ne_none_none (fin_bl I q (by simp))
    | bl j => cases ry; exact PySem.EqNone.ne_none_bool (fin_bl I q (by simp))
    | int j => obtain ⟨t', rfl⟩ := ry; exact PySem.EqNone.ne_none_int (fin_bl I q (by simp))
    | str j => obtain ⟨t', rfl⟩ := ry; exact PySem.EqNone.ne_none_str (fin_bl I q (by simp))
    | _ => exact absurd (show false = true from hs) Bool.false_ne_true
  | bl i =>
    cases rx
    cases y with
    | non => cases ry; exact PySem.EqNone.ne_bool_none (fin_bl I q (by simp))
    | bl j => cases ry; exact ne_bool (fin_bl I q (congrArg not dec_bl))
    | str j => obtain ⟨t', rfl⟩ := ry; exact PySem.EqMixed.ne_bool_str (fin_bl I q (by simp))
    | _ => exact absurd (show false = true from hs) Bool.false_ne_true
  | int i =>
    obtain ⟨t, rfl⟩ := rx
    cases y with
    | non => cases ry; exact PySem.EqNone.ne_int_none (fin_bl I q (by simp))
    | int j => obtain ⟨t', rfl⟩ := ry; exact ne_int (fin_bl I q (congrArg not dec_int))
    | str j => obtain ⟨t', rfl⟩ := ry; exact PySem.EqMixed.ne_int_str (fin_bl I q (by simp))
    | _ => exact absurd (show false = true from hs) Bool.false_ne_true
  | str i =>
    obtain ⟨t, rfl⟩ := rx
    cases y with
    | non => cases ry; exact PySem.EqNone.ne_str_none (fin_bl I q (by simp))
    | bl j => cases ry; exact PySem.EqMixed.ne_str_bool (fin_bl I q (by simp))
    | int j => obtain ⟨t', rfl⟩ := ry; exact PySem.EqMixed.ne_str_int (fin_bl I q (by simp))
    | str j => obtain ⟨t', rfl⟩ := ry; exact ne_str (fin_bl I q (congrArg not dec_str))
    | _ => exact absurd (show false = true from hs) Bool.false_ne_true
  | byt i =>
    obtain ⟨t, rfl⟩ := rx
    cases y with
    | byt j => obtain ⟨t', rfl⟩ := ry; exact PySem.W.ne_bytes (fin_bl I q (congrArg not dec_byt))
    | _ => exact absurd (show false = true from hs) Bool.false_ne_true
  | _ => cases y <;> exact absurd (show false = true from hs) Bool.false_ne_true

theorem op_lt : OpR X (compareOp .Lt) (rI0 fun i j => .bl (decide (i < j))) := opB0 fun _ _ _ _ _ _ _ q => lt_int q
theorem op_le : OpR X (compareOp .LtE) (rI0 fun i j => .bl (decide (i ≤ j))) := opB0 fun _ _ _ _ _ _ _ q => le_int q
theorem op_gt : OpR X (compareOp .Gt) (rI0 fun i j => .bl (decide (j < i))) := opB0 fun _ _ _ _ _ _ _ q => gt_int q
theorem op_ge : OpR X (compareOp .GtE) (rI0 fun i j => .bl (decide (j ≤ i))) := opB0 fun _ _ _ _ _ _ _ q => ge_int q
theorem op_lt_str : OpR X (compareOp .Lt) (fun x y H Q => ∃ i j, x = .str i ∧ y = .str j ∧ Q (.bl (decide (i.cps.toList < j.cps.toList))) H) := by
  intro pins s σ H x y v u Q I rx ry h
  obtain ⟨i, j, rfl, rfl, q⟩ := h
  obtain ⟨t, rfl⟩ := rx
  obtain ⟨t', rfl⟩ := ry
  exact lt_str (fin_bl I q rfl)
/-- the one string within the other -/
theorem op_in_str : OpR X (compareOp .In) (fun x y H Q => ∃ i j, x = .str i ∧ y = .str j ∧ Q (.bl (!(Builtin.Str.occurrences j i 0 j.length 1).isEmpty)) H) := by
  intro pins s σ H x y v u Q I rx ry h
  obtain ⟨i, j, rfl, rfl, q⟩ := h
  obtain ⟨t, rfl⟩ := rx
  obtain ⟨t', rfl⟩ := ry
  exact in_str (fin_bl I q rfl)

/-- is None, is not None: the right side a value none -/
theorem op_isN : OpR X (compareOp .Is) (fun x y H Q => y = .non ∧ Q (.bl (decide (x = .non))) H) := by
  intro pins s σ H x y v u Q I rx ry h
  obtain ⟨rfl, q⟩ := h
  cases ry
  refine is_none_gen (fin_bl I q ?_)
  cases x <;> first
    | (cases rx; rfl)
    | (obtain ⟨t, rfl⟩ := rx; rfl)
theorem op_notN : OpR X (compareOp .IsNot) (fun x y H Q => y = .non ∧ Q (.bl (!decide (x = .non))) H) := by
  intro pins s σ H x y v u Q I rx ry h
  obtain ⟨rfl, q⟩ := h
  cases ry
  refine isnot_none_gen (fin_bl I q ?_)
  cases x <;> first
    | (cases rx; rfl)
    | (obtain ⟨t, rfl⟩ := rx; rfl)

theorem op_notin_str : OpR X (compareOp .NotIn) (fun x y H Q => ∃ i j, x = .str i ∧ y = .str j ∧ Q (.bl (!(!(Builtin.Str.occurrences j i 0 j.length 1).isEmpty))) H) := by
  intro pins s σ H x y v u Q I rx ry h
  obtain ⟨i, j, rfl, rfl, q⟩ := h
  obtain ⟨t, rfl⟩ := rx
  obtain ⟨t', rfl⟩ := ry
  exact notIn_str (fin_bl I q rfl)
/-- is, is not of two objects that are tracked lists or instances -/
def isObj : HO → Bool
  | .lst _ => true
  | .ins _ _ _ => true
  | _ => false
theorem obj_there {pins : List (Addr × Obj)} {s : Shared} {σ : St} {H : Hp} {a : Addr} {o : HO} (I : Inv X pins σ H s) (h : H a = some o) (p : isObj o = true) : ∃ ob, s.heap.get? a = some ob ∧ ob.cls ≠ .type "tuple" := by
  cases o with
  | lst xs =>
    obtain ⟨_, its, n, _, e⟩ : xs.length ≤ sizeLine ∧ ∃ (its : List Value) (n : Nat), Vals xs its ∧ s.heap.get? a = some { cls := .type "list", data := .seq its.toArray n } := I.hok a _ h
    exact ⟨_, e, (by show Value.type "list" ≠ .type "tuple"; decide +kernel)⟩
  | ins C dx fs =>
    have x := I.hok a _ h
    obtain ⟨_, _, _, e, _⟩ := x
    exact ⟨_, e, (by show Value.ref C ≠ .type "tuple"; exact fun z => by cases z)⟩
  | _ => exact absurd (show false = true from p) Bool.false_ne_true
theorem op_is_ref : OpR X (compareOp .Is) (fun x y H Q => ∃ a b oa ob, x = .ref a ∧ y = .ref b ∧ H a = some oa ∧ isObj oa = true ∧ H b = some ob ∧ isObj ob = true ∧ Q (.bl (decide (a = b))) H) := by
  intro pins s σ H x y v u Q I rx ry h
  obtain ⟨a, b, oa, ob, rfl, rfl, ha, pa, hb, pb, q⟩ := h
  cases rx
  cases ry
  obtain ⟨o1, e1, n1⟩ := obj_there I ha pa
  obtain ⟨o2, e2, _⟩ := obj_there I hb pb
  by_cases z : a = b
  · subst z
    exact wpAny_is_ref_self (fin_bl I q (by simp))
  · exact wpAny_is_ref_other z e1 e2 n1 (fin_bl I q (by simp [z]))
theorem op_isnot_ref : OpR X (compareOp .IsNot) (fun x y H Q => ∃ a b oa ob, x = .ref a ∧ y = .ref b ∧ H a = some oa ∧ isObj oa = true ∧ H b = some ob ∧ isObj ob = true ∧ Q (.bl (!decide (a = b))) H) := by
  intro pins s σ H x y v u Q I rx ry h
  obtain ⟨a, b, oa, ob, rfl, rfl, ha, pa, hb, pb, q⟩ := h
  cases rx
  cases ry
  obtain ⟨o1, e1, n1⟩ := obj_there I ha pa
  obtain ⟨o2, e2, _⟩ := obj_there I hb pb
  by_cases z : a = b
  · subst z
    exact wpAny_isNot_ref_self (fin_bl I q (by simp))
  · exact wpAny_isNot_ref_other z e1 e2 n1 (fin_bl I q (by simp [z]))

/-- two rules for one operation: by cases -/
theorem OpR.or {f : Value → Value → Sem Value} {r r' : R2} (h : OpR X f r) (h' : OpR X f r') : OpR X f (fun x y H Q => r x y H Q ∨ r' x y H Q) := by
  intro pins s σ H x y v u Q I rx ry q
  rcases q with q | q
  · exact h pins s σ H x y v u Q I rx ry q
  · exact h' pins s σ H x y v u Q I rx ry q

theorem nomark (b : Expr) {op : CmpOp} (h : op ≠ .In := by decide) (h2 : op ≠ .NotIn := by decide) : behindInMarks op b = false := by
  have e1 : (op == CmpOp.In) = false := by cases op <;> first | rfl | exact absurd rfl h
  have e2 : (op == CmpOp.NotIn) = false := by cases op <;> first | rfl | exact absurd rfl h2
  cases b <;> simp [behindInMarks, e1, e2]
/-- a comparison as a value; hm: nomark b, or (for in, not in) by with_unfolding_all rfl -/
theorem pe_cmpR {op : CmpOp} {r : R2} (ho : OpR X (compareOp op) r) (ha : PE X a ta) (hb : PE X b tb) (hm : behindInMarks op b = false) : PE X (.Compare a [op] [b] pos) (tOp r ta tb) := by
  intro pins s σ H Q I h
  exact wpAny_Compare1 (binT ha hb I h fun v u s2 x y H2 I2 rx ry q => ho pins s2 σ H2 x y v u Q I2 rx ry q) hm
/-- a reading of a value as a test -/
def tTest (t : TE) : TT := fun σ H Q => t σ H fun x H' => ∃ k, x = .bl k ∧ Q k H'
theorem pt_cmpR {op : CmpOp} {r : R2} (ho : OpR X (compareOp op) r) (ha : PE X a ta) (hb : PE X b tb) (hm : behindInMarks op b = false) : PT X (.Compare a [op] [b] pos) (tTest (tOp r ta tb)) := by
  intro pins s σ H Q I h
  refine wpAny_isTrue_Compare1 (thn (ha pins s σ H _ I h) fun v s1 ⟨x, H1, I1, r1, q1⟩ => thn (hb pins s1 σ H1 _ I1 q1) fun u s2 ⟨y, H2, I2, r2, q2⟩ =>
    thn (ho pins s2 σ H2 x y v u _ I2 r1 r2 q2) fun c s3 ⟨z, H3, I3, r3, k, e, q3⟩ => ?_) hm
  subst e
  cases r3
  exact wpAny_truthy_bool ⟨H3, I3, q3⟩
/-- a op1 b op2 c -/
def tChain (r r' : R2) (ta tb tc : TE) : TE := fun σ H Q => ta σ H fun x H1 => tb σ H1 fun y H2 => r x y H2 fun z H3 => ∃ k, z = .bl k ∧
  (if k = true then tc σ H3 fun w' H4 => r' y w' H4 Q else Q (.bl false) H3)
theorem pe_chain {op op' : CmpOp} {r r' : R2} (ho : OpR X (compareOp op) r) (ho' : OpR X (compareOp op') r') (ha : PE X a ta) (hb : PE X b tb) (hc : PE X c tc)
    (hm : lastMarks [op, op'] [b, c] = false := by with_unfolding_all rfl) : PE X (.Compare a [op, op'] [b, c] pos) (tChain r r' ta tb tc) := by
  intro pins s σ H Q I h
  refine Compare_chain (thn (ha pins s σ H _ I h) fun v s1 ⟨x, H1, I1, r1, q1⟩ => chain_link (thn (hb pins s1 σ H1 _ I1 q1) fun u s2 ⟨y, H2, I2, r2, q2⟩ =>
    thn (ho pins s2 σ H2 x y v u _ I2 r1 r2 q2) fun d s3 ⟨z, H3, I3, r3, k, e, q3⟩ => ?_)) hm
  subst e
  cases r3
  refine wpAny_truthy_bool ?_
  cases k with
  | false => exact ite_ff ⟨.bl false, H3, I3, rfl, q3⟩
  | true => exact ite_tt (chain_last (thn (hc pins s3 σ H3 _ I3 q3) fun w' s4 ⟨z', H4, I4, r4, q4⟩ => ho' pins s4 σ H4 y z' u w' Q I4 r2 r4 q4))
theorem pt_chain {op op' : CmpOp} {r r' : R2} (ho : OpR X (compareOp op) r) (ho' : OpR X (compareOp op') r') (ha : PE X a ta) (hb : PE X b tb) (hc : PE X c tc)
    (hm : lastMarks [op, op'] [b, c] = false := by with_unfolding_all rfl) : PT X (.Compare a [op, op'] [b, c] pos) (tTest (tChain r r' ta tb tc)) := by
  intro pins s σ H Q I h
  refine isTrue_chain (thn (ha pins s σ H _ I h) fun v s1 ⟨x, H1, I1, r1, q1⟩ => test_link (thn (hb pins s1 σ H1 _ I1 q1) fun u s2 ⟨y, H2, I2, r2, q2⟩ =>
    thn (ho pins s2 σ H2 x y v u _ I2 r1 r2 q2) fun d s3 ⟨z, H3, I3, r3, k, e, q3⟩ => ?_)) hm
  subst e
  cases r3
  refine wpAny_truthy_bool ?_
  cases k with
  | false =>
    obtain ⟨k', e', q'⟩ := q3
    cases e'
    exact ite_ff ⟨H3, I3, q'⟩
  | true =>
    refine ite_tt (test_last (thn (hc pins s3 σ H3 _ I3 q3) fun w' s4 ⟨z', H4, I4, r4, q4⟩ => thn (ho' pins s4 σ H4 y z' u w' _ I4 r2 r4 q4) fun d' s5 ⟨z2, H5, I5, r5, k2, e2, q5⟩ => ?_))
    subst e2
    cases r5
    exact wpAny_truthy_bool ⟨H5, I5, q5⟩

/-! ### truth -/
/-- a value's truth by the abstract heap -/
def TruV (K : PySem.W.Frag) (x : V) (H : Hp) (k : Bool) : Prop :=
  match x with
  | .non => k = false
  | .bl b => k = b
  | .int i => k = (i != 0)
  | .str y => y.length ≤ sizeLine ∧ k = ((y.length : Int) != 0)
  | .byt y => y.size ≤ sizeLine ∧ k = ((y.size : Int) != 0)
  | .ref p => (∃ xs, SqL K H p xs ∧ k = !xs.isEmpty) ∨ (∃ xs, SqT K H p xs ∧ k = !xs.isEmpty) ∨ ∃ kvs, H p = some (.dK kvs) ∧ k = !kvs.isEmpty
  | _ => False
theorem isEmpty_kv {κ : Type} {kvs : List (κ × V)} {vs : List (κ × Value)} (r : KV kvs vs) : (!vs.isEmpty) = !kvs.isEmpty := by
  cases r <;> rfl
theorem isEmpty_of {xs : List V} {its : List Value} (r : Vals xs its) : (!its.toArray.isEmpty) = !xs.isEmpty := by
  cases r <;> simp
theorem line63 : (sizeLine : Nat) < 2 ^ 63 := by rw [sizeLine_eq]; decide
theorem tru_ok : TruR X (fun x H Q => ∃ k, TruV X.K x H k ∧ Q k H) := by
  intro pins s σ H x v Q I rx h
  obtain ⟨k, e, q⟩ := h
  have hl := line63
  have hs : sizeLine = 16777216 := sizeLine_eq
  cases x with
  | non =>
    cases rx
    have e' : k = false := e
    subst e'
    exact truthy_none ⟨H, I, q⟩
  | bl b =>
    cases rx
    have e' : k = b := e
    subst e'
    exact wpAny_truthy_bool ⟨H, I, q⟩
  | int i =>
    obtain ⟨t, rfl⟩ := rx
    have e' : k = (i != 0) := e
    subst e'
    exact PySem.P.truthy_int ⟨H, I, q⟩
  | str y =>
    obtain ⟨t, rfl⟩ := rx
    obtain ⟨hy, e'⟩ : y.length ≤ sizeLine ∧ k = ((y.length : Int) != 0) := e
    subst e'
    exact PySem.P.truthy_str (by omega) ⟨H, I.tok _, q⟩
  | byt y =>
    obtain ⟨t, rfl⟩ := rx
    obtain ⟨hy, e'⟩ : y.size ≤ sizeLine ∧ k = ((y.size : Int) != 0) := e
    subst e'
    exact PySem.W.truthy_bytes (by omega) ⟨H, I.tok _, q⟩
  | ref p =>
    cases rx
    have e' : (∃ xs, SqL X.K H p xs ∧ k = !xs.isEmpty) ∨ (∃ xs, SqT X.K H p xs ∧ k = !xs.isEmpty) ∨ ∃ kvs, H p = some (.dK kvs) ∧ k = !kvs.isEmpty := e
    rcases e' with ⟨xs, hx, e'⟩ | ⟨xs, hx, e'⟩ | ⟨kvs, hx, e'⟩
    · subst e'
      obtain ⟨its, r, pl, hz⟩ := I.list hx
      have hlen := r.length
      exact wpAny_truthy_list pl.isList (by simp only [List.size_toArray]; omega) ⟨H, I.tok _, by rw [isEmpty_of r]; exact q⟩
    · subst e'
      obtain ⟨its, r, pl, hz⟩ := I.tuple hx
      have hlen := r.length
      exact truthy_tuple pl (by simp only [List.size_toArray]; omega) ⟨H, I.tok _, by rw [isEmpty_of r]; exact q⟩
    · subst e'
      obtain ⟨hz, hS, vs, r, m⟩ : kvs.length ≤ sizeLine ∧ (p == sysModules) = false ∧ ∃ vs, KV kvs vs ∧ s.heap.DictOf (mixKind X.prog X.w) p vs := I.hok p _ hx
      have hlen : kvs.length = vs.length := Paired.length r
      exact wpAny_truthy_dict hS m (by omega) ⟨H, I.tok _, by rw [isEmpty_kv r]; exact q⟩
  | _ => exact (show False from e).elim
/-- any expression whose test is its value's truth (a name, a call, a subscript, a field ..: he by fun _ => rfl) -/
theorem pt_truth (ha : PE X a ta) (he : ∀ whole, isTrue a X.env whole = (do let v ← whole; standAt a.pos; holding [v] (truthy v))) :
    PT X a (fun σ H Q => ta σ H fun x H' => ∃ k, TruV X.K x H' k ∧ Q k H') := by
  intro pins s σ H Q I h
  exact isTrue_plain (thn (ha pins s σ H _ I h) fun v s1 ⟨x, H1, I1, r1, q1⟩ => tru_ok pins s1 σ H1 x v Q I1 r1 q1) (he _)

/-! ### strs and bytes -/
theorem pe_byt {x : List UInt8} {k : Nat} : PE X (.Constant (.bytes x) k pos) (fun _ H Q => Q (.byt x.toArray) H) := fun _ _ _ H _ I h => PySem.W.Constant_bytes ⟨.byt x.toArray, H, I.tok _, ⟨_, rfl⟩, h⟩
theorem op_add_str : OpR X (binaryOp .Add) (fun x y H Q => ∃ i j, x = .str i ∧ y = .str j ∧ i.length + j.length ≤ sizeLine ∧ Q (.str (i ++ j)) H) := by
  intro pins s σ H x y v u Q I rx ry h
  obtain ⟨i, j, rfl, rfl, hz, q⟩ := h
  obtain ⟨t, rfl⟩ := rx
  obtain ⟨t', rfl⟩ := ry
  exact add_str (fun t' tk => ⟨.str (i ++ j), H, I.tok _, ⟨_, rfl⟩, q⟩) hz
theorem iop_add_str : OpR X (inplaceOp .Add) (fun x y H Q => ∃ i j, x = .str i ∧ y = .str j ∧ i.length + j.length ≤ sizeLine ∧ Q (.str (i ++ j)) H) := by
  intro pins s σ H x y v u Q I rx ry h
  obtain ⟨i, j, rfl, rfl, hz, q⟩ := h
  obtain ⟨t, rfl⟩ := rx
  obtain ⟨t', rfl⟩ := ry
  exact iadd_str (fun t' tk => ⟨.str (i ++ j), H, I.tok _, ⟨_, rfl⟩, q⟩) hz
theorem op_add_byt : OpR X (binaryOp .Add) (fun x y H Q => ∃ i j, x = .byt i ∧ y = .byt j ∧ i.size + j.size ≤ 16777216 ∧ Q (.byt (i ++ j)) H) := by
  intro pins s σ H x y v u Q I rx ry h
  obtain ⟨i, j, rfl, rfl, hz, q⟩ := h
  obtain ⟨t, rfl⟩ := rx
  obtain ⟨t', rfl⟩ := ry
  exact PySem.W.KBy.add_bytes hz (fun t' tk => ⟨.byt (i ++ j), H, I.tok _, ⟨_, rfl⟩, q⟩)

def PlainIxT (b : Expr) : Prop := ∀ o i, subscripted b false o i = operate [o, i] (getItem o i)
/-- s[i], 0 ≤ i < len -/
theorem pe_item_str (ha : PE X a ta) (hb : PE X b tb) (hs : PlainIxT b) :
    PE X (.Subscript a b pos) (tOp (fun x y H Q => ∃ z i c, x = .str z ∧ y = .int i ∧ 0 ≤ i ∧ i < 2 ^ 63 ∧ i < z.length ∧ z.cps[i.toNat]? = some c ∧ Q (.str ⟨#[c]⟩) H) ta tb) := by
  intro pins s σ H Q I h
  refine Subscript_ (binT ha hb I h fun v u s2 x y H2 I2 rx ry q => ?_)
  obtain ⟨z, i, c, rfl, rfl, h0, h63, h1, hc, q⟩ := q
  obtain ⟨t, rfl⟩ := rx
  obtain ⟨t', rfl⟩ := ry
  have e : seqIndex? i z.length = some i.toNat := PySem.StrLaws.seqIndex_nonneg h0 h1
  exact tail_any (typeIs_str s2 z t) slot_str_getitem.lookup (getItem_str (c := c) (by
    have e1 : decide (i < -(2 ^ 63 : Int)) = false := decide_eq_false (by omega)
    have e2 : decide (i ≥ 2 ^ 63) = false := decide_eq_false (by omega)
    rw [e1, e2] <;> rfl) (by rw [e]; exact hc) ⟨.str ⟨#[c]⟩, H2, I2.tok _, ⟨_, rfl⟩, q⟩) (hs _ _)
/-- b[i], 0 ≤ i < len -/
theorem pe_item_byt (ha : PE X a ta) (hb : PE X b tb) (hs : PlainIxT b) :
    PE X (.Subscript a b pos) (tOp (fun x y H Q => ∃ (z : List UInt8) (i : Int), x = .byt z.toArray ∧ y = .int i ∧ z.length ≤ sizeLine ∧ 0 ≤ i ∧ i < z.length ∧ Q (.int ((z.getD i.toNat 0).toNat : Nat)) H) ta tb) := by
  intro pins s σ H Q I h
  refine Subscript_ (binT ha hb I h fun v u s2 x y H2 I2 rx ry q => ?_)
  obtain ⟨z, i, rfl, rfl, hz, h0, h1, q⟩ := q
  obtain ⟨t, rfl⟩ := rx
  obtain ⟨t', rfl⟩ := ry
  have hl : sizeLine = 16777216 := sizeLine_eq
  exact tail_any (PySem.W.typeIs_bytes s2 z.toArray t) PySem.W.FB.slot_bytes_getitem.lookup (PySem.W.getItem_bytes (by omega) h0 h1 ⟨.int ((z.getD i.toNat 0).toNat : Nat), H2, I2.tok _, ⟨_, rfl⟩, q⟩) (hs _ _)

/-! ### scalar builtins, by CallR -/
theorem vals1 {x : V} {us : List Value} (r : Vals [x] us) : ∃ u, us = [u] ∧ RelV x u := by
  cases r with
  | cons r1 r2 => cases r2; exact ⟨_, rfl, r1⟩
theorem vals2 {x y : V} {us : List Value} (r : Vals [x, y] us) : ∃ u w', us = [u, w'] ∧ RelV x u ∧ RelV y w' := by
  cases r with
  | cons r1 r2 =>
    cases r2 with
    | cons r3 r4 => cases r4; exact ⟨_, _, rfl, r1, r3⟩
theorem call_abs : CallR X (.builtin "abs") (fun xs H Q => ∃ i, xs = [.int i] ∧ Q (.int (if i < 0 then -i else i)) H) := by
  intro pins s σ H xs us Q I r h
  obtain ⟨i, rfl, q⟩ := h
  obtain ⟨u, rfl, t, rfl⟩ := vals1 r
  exact call_abs_int fun u tk => ⟨.int (if i < 0 then -i else i), H, I.tok _, ⟨_, rfl⟩, q⟩
theorem call_max2 (hc : X.calm = true) : CallR X (.builtin "max") (fun xs H Q => ∃ i j, xs = [.int i, .int j] ∧ Q (.int (if j > i then j else i)) H) := by
  intro pins s σ H xs us Q I r h
  obtain ⟨i, j, rfl, q⟩ := h
  obtain ⟨u, w', rfl, ⟨t, rfl⟩, ⟨t', rfl⟩⟩ := vals2 r
  refine max_two_ints (I.ok.hd hc) fun h' tk k => ⟨_, H, I.kept k, ?_, q⟩
  by_cases hj : j > i
  · rw [if_pos hj, if_pos hj]; exact ⟨_, rfl⟩
  · rw [if_neg hj, if_neg hj]; exact ⟨_, rfl⟩
theorem call_min2 (hc : X.calm = true) : CallR X (.builtin "min") (fun xs H Q => ∃ i j, xs = [.int i, .int j] ∧ Q (.int (if j < i then j else i)) H) := by
  intro pins s σ H xs us Q I r h
  obtain ⟨i, j, rfl, q⟩ := h
  obtain ⟨u, w', rfl, ⟨t, rfl⟩, ⟨t', rfl⟩⟩ := vals2 r
  refine min_two_ints (I.ok.hd hc) fun h' tk k => ⟨_, H, I.kept k, ?_, q⟩
  by_cases hj : j < i
  · rw [if_pos hj, if_pos hj]; exact ⟨_, rfl⟩
  · rw [if_neg hj, if_neg hj]; exact ⟨_, rfl⟩
theorem call_int1 : CallR X (.type "int") (fun xs H Q => (∃ i, xs = [.int i] ∧ Q (.int i) H) ∨ ∃ k, xs = [.bl k] ∧ Q (.int (if k then 1 else 0)) H) := by
  intro pins s σ H xs us Q I r h
  rcases h with ⟨i, rfl, q⟩ | ⟨k, rfl, q⟩
  · obtain ⟨u, rfl, t, rfl⟩ := vals1 r
    exact call_int_int ⟨.int i, H, I, ⟨_, rfl⟩, q⟩
  · obtain ⟨u, rfl, r1⟩ := vals1 r
    cases r1
    exact call_int_bool ⟨.int (if k then 1 else 0), H, I.tok _, ⟨_, rfl⟩, q⟩
theorem call_bool1 : CallR X (.type "bool") (fun xs H Q => (∃ i, xs = [.int i] ∧ Q (.bl (i != 0)) H) ∨ ∃ k, xs = [.bl k] ∧ Q (.bl k) H) := by
  intro pins s σ H xs us Q I r h
  rcases h with ⟨i, rfl, q⟩ | ⟨k, rfl, q⟩
  · obtain ⟨u, rfl, t, rfl⟩ := vals1 r
    exact call_bool_int ⟨.bl (i != 0), H, I, rfl, q⟩
  · obtain ⟨u, rfl, r1⟩ := vals1 r
    cases r1
    exact call_bool_bool ⟨.bl k, H, I, rfl, q⟩
theorem call_str_int : CallR X (.type "str") (fun xs H Q => ∃ i, xs = [.int i] ∧ i.natAbs.log2 < 1920 ∧ Q (.str (toString i)) H) := by
  intro pins s σ H xs us Q I r h
  obtain ⟨i, rfl, hz, q⟩ := h
  obtain ⟨u, rfl, t, rfl⟩ := vals1 r
  exact PySem.P.str_of_int hz ⟨.str _, H, I.tok _, ⟨_, rfl⟩, q⟩
theorem call_ord : CallR X (.builtin "ord") (fun xs H Q => ∃ x, xs = [.str x] ∧ x.length = 1 ∧ Q (.int (x.cps.getD 0 0 : Nat)) H) := by
  intro pins s σ H xs us Q I r h
  obtain ⟨x, rfl, hz, q⟩ := h
  obtain ⟨u, rfl, t, rfl⟩ := vals1 r
  exact ord_of_one hz ⟨.int _, H, I.tok _, ⟨_, rfl⟩, q⟩
theorem call_chr : CallR X (.builtin "chr") (fun xs H Q => ∃ i, xs = [.int i] ∧ 0 ≤ i ∧ i ≤ 1114111 ∧ Q (.str ⟨#[i.toNat]⟩) H) := by
  intro pins s σ H xs us Q I r h
  obtain ⟨i, rfl, h0, h1, q⟩ := h
  obtain ⟨u, rfl, t, rfl⟩ := vals1 r
  exact chr_of_range h0 h1 ⟨.str _, H, I.tok _, ⟨_, rfl⟩, q⟩
/-- len of a str, a bytes, a list, a tuple -/
def LenV (K : PySem.W.Frag) (x : V) (H : Hp) (n : Nat) : Prop :=
  match x with
  | .str y => y.length ≤ sizeLine ∧ n = y.length
  | .byt y => y.size ≤ sizeLine ∧ n = y.size
  | .ref p => (∃ xs, SqL K H p xs ∧ n = xs.length) ∨ ∃ xs, SqT K H p xs ∧ n = xs.length
  | _ => False
theorem call_len : CallR X (.builtin "len") (fun xs H Q => ∃ x n, xs = [x] ∧ LenV X.K x H n ∧ Q (.int n) H) := by
  intro pins s σ H xs us Q I r h
  obtain ⟨x, n, rfl, e, q⟩ := h
  obtain ⟨u, rfl, rx⟩ := vals1 r
  have hl := line63
  have hs : sizeLine = 16777216 := sizeLine_eq
  cases x with
  | str y =>
    obtain ⟨t, rfl⟩ := rx
    obtain ⟨hy, e'⟩ : y.length ≤ sizeLine ∧ n = y.length := e
    subst e'
    exact len_str (by omega) ⟨.int _, H, I.tok _, ⟨_, rfl⟩, q⟩
  | byt y =>
    obtain ⟨t, rfl⟩ := rx
    obtain ⟨hy, e'⟩ : y.size ≤ sizeLine ∧ n = y.size := e
    subst e'
    exact PySem.W.len_bytes (by omega) ⟨.int _, H, I.tok _, ⟨_, rfl⟩, q⟩
  | ref p =>
    cases rx
    have e' : (∃ xs, SqL X.K H p xs ∧ n = xs.length) ∨ ∃ xs, SqT X.K H p xs ∧ n = xs.length := e
    rcases e' with ⟨xs, hx, e'⟩ | ⟨xs, hx, e'⟩
    · subst e'
      obtain ⟨its, r', pl, hz⟩ := I.list hx
      have hlen := r'.length
      exact Calls.call_len_list pl.isList (by simp only [List.size_toArray]; omega) ⟨.int xs.length, H, I.tok _, ⟨_, by simp only [List.size_toArray]; rw [hlen]⟩, q⟩
    · subst e'
      obtain ⟨its, r', pl, hz⟩ := I.tuple hx
      have hlen := r'.length
      exact len_tuple pl (by simp only [List.size_toArray]; omega) ⟨.int xs.length, H, I.tok _, ⟨_, by simp only [List.size_toArray]; rw [hlen]⟩, q⟩
  | _ => exact (show False from e).elim
/-- divmod: a new tuple -/
theorem call_divmod : CallR X (.builtin "divmod") (fun xs H Q => ∃ i j, xs = [.int i, .int j] ∧ CDiv i j ∧ ∀ p, H p = none → Q (.ref p) (upd H p (.tup [.int (i / j), .int (i % j)]))) := by
  intro pins s σ H xs us Q I r h
  obtain ⟨i, j, rfl, ⟨h1, h2⟩, q⟩ := h
  obtain ⟨u, w', rfl, ⟨t, rfl⟩, ⟨t', rfl⟩⟩ := vals2 r
  refine divmod_int (by omega) ?_ (.inl (PyProof.noPylong_small (by omega)))
  rw [Int.fdiv_eq_ediv_of_nonneg i (by omega), Int.fmod_eq_emod_of_nonneg i (by omega)]
  have hn : H s.heap.objs.size = none := I.hok.fresh (Nat.le_refl _)
  refine ⟨.ref s.heap.objs.size, _, ?_, rfl, q _ hn⟩
  refine I.laid (fun b o e => Heap.get?_push_of_some _ e) (Nat.le_refl _) ⟨by simp only [List.length_cons, List.length_nil]; rw [sizeLine_eq]; decide, [.int (i / j) s.toks, .int (i % j) (s.toks + 1)], .cons ⟨_, rfl⟩ (.cons ⟨_, rfl⟩ .nil), ?_⟩
  exact ⟨_, Heap.get?_push_size s.heap rfl, rfl, 0, rfl⟩
end
end L2

namespace L2
open PySem PySem.Spec PyProof.Rows

/-! ### an instance, its attributes a map -/
structure ObjM (h : Heap) (x dx C : Addr) (mA : Str → Option Value) : Prop where
  obj : h.get? x = some (PySem.W.instObj C dx)
  ns : h.Ns1 dx mA
  ne : dx ≠ x

theorem lookIn_ns {h : Heap} {dx : Addr} {mA : Str → Option Value} (n : h.Ns1 dx mA) : ∃ od, h.get? dx = some od ∧ ∀ name, PySem.W.lookIn name od = some (mA name) := by
  obtain ⟨o, es, ep, ho, hd, hk, _, hm⟩ := n
  refine ⟨o, ho, fun name => ?_⟩
  have e := hm name
  unfold nsFind findBy at e
  rw [← Array.find?_toList] at e
  unfold PySem.W.lookIn
  rw [hd]
  dsimp only
  split
  · rename_i y q
    rw [q] at e
    exact congrArg some e
  · rename_i q
    rw [q] at e
    have a : es.toList.any (·.refKey) = false := by
      rw [List.any_eq_false]
      intro y hy
      obtain ⟨z, t, hkey⟩ := hk y (Array.mem_toList_iff.mp hy)
      simp [DictEntry.refKey, hkey]
    have a' : ¬ es.toList.any (·.refKey) = true := by rw [a]; exact Bool.false_ne_true
    rw [if_neg a']
    exact congrArg some e

theorem ObjM.look {h : Heap} {x dx C : Addr} {mA : Str → Option Value} (I : ObjM h x dx C mA) : ∃ od, PySem.W.InstAt h x (PySem.W.instObj C dx) C (some od) ∧ ∀ name, PySem.W.lookIn name od = some (mA name) :=
  let ⟨od, ho, hl⟩ := lookIn_ns I.ns
  ⟨od, ⟨I.obj, rfl, rfl, ho⟩, hl⟩

section
variable {prog : Program} {w : World} {A : Around} {E : Value → Shared → Prop} {s : Shared} {K : PySem.W.Frag} {x dx C f : Addr} {mA : Str → Option Value} {name : Str} {v : Value}

theorem get_map {expr : Bool} {Q : Value → Shared → Prop} (X : K.In s.heap) (I : ObjM s.heap x dx C mA) (hg : PySem.W.plainGet K C name = true) (hh : PySem.W.hasDictIn K C = true)
    (ha : PySem.W.findIn K (.ref C) name = some none) (hv : mA name = some v) (hv' : PySem.W.handedIn v = true) (h : Q v { s with toks := s.toks + 1 }) :
    wpAny (model prog w) A (getAttr (.ref x) name expr) Q E s := by
  obtain ⟨od, J, hl⟩ := I.look
  exact PySem.W.get_value X J (PySem.W.plainGet_of hg).1 (PySem.W.findObj_own hh ha rfl (by rw [hl, hv])) hv' h

theorem get_const {expr : Bool} {a : Value} {Q : Value → Shared → Prop} (X : K.In s.heap) (I : ObjM s.heap x dx C mA) (hg : PySem.W.plainGet K C name = true) (hh : PySem.W.hasDictIn K C = true)
    (ha : PySem.W.findIn K (.ref C) name = some (some a)) (hn : PySem.W.specialIn K a "__get__" = some none) (hc : PySem.W.copiedNames.contains name = false) (hv : mA name = none) (hv' : PySem.W.handedIn a = true)
    (h : Q a { s with toks := s.toks + 1 }) : wpAny (model prog w) A (getAttr (.ref x) name expr) Q E s := by
  obtain ⟨od, J, hl⟩ := I.look
  exact PySem.W.get_value X J (PySem.W.plainGet_of hg).1 (PySem.W.findObj_cls hh ha hn hv' hc (by rw [hl, hv])) hv' h

theorem get_meth {pl : Sem Bool} {Q : Value × List Value → Shared → Prop} (X : K.In s.heap) (I : ObjM s.heap x dx C mA) (hg : PySem.W.plainGet K C name = true)
    (hf : PySem.W.findIn K (.ref C) name = some (some (.ref f))) (ht : PySem.W.isFn K (.ref f) = true) (hv : mA name = none) (h : Q (.ref f, [.ref x]) s) :
    wpAny (model prog w) A (getMethod (.ref x) name pl) Q E s := by
  obtain ⟨od, J, hl⟩ := I.look
  exact PySem.W.method_fn X J (PySem.W.plainGet_of hg).1 (PySem.W.plainGet_of hg).2 hf (beq_iff_eq.mp ht) (by show (PySem.W.lookIn name od).map (·.isSome) = some false; rw [hl, hv]; rfl) h

theorem set_map {ns : List Str} {Q : Unit → Shared → Prop} (X : K.In s.heap) (I : ObjM s.heap x dx C mA)
    (hs : PySem.W.findIn K (.ref C) "__setattr__" = some (some (.builtin "object.__setattr__"))) (hp : PySem.W.plainOver K C = true) (ht : PySem.W.takerIn K C name = some none) (hh : PySem.W.hasDictIn K C = true)
    (hw : PySem.Within mA ns) (hsz : ns.length ≤ sizeLine)
    (h : ∀ h', ObjM h' x dx C (fun y => if y = name then some v else mA y) → Heap.SameBut dx s.heap h' → Q () { s with heap := h', toks := s.toks + 2 }) :
    wpAny (model prog w) A (setAttr (.ref x) name v) Q E s := by
  obtain ⟨od, J, hl⟩ := I.look
  refine PySem.W.set_plain X J hs (PySem.W.osa_open (s := { s with toks := s.toks + 1 }) (r := none) X J hp ht fun b => ?_)
  obtain ⟨cd, hc, hd'⟩ := PySem.W.any_some hh
  have hx : s.heap.get? x = some ⟨.ref C, some dx, .plain, #[]⟩ := I.obj
  refine wpAny_bind (wpAny_pure (wpAny_bind (wpAny_bind (wpAny_loadPart hx (wpAny_bind (PySem.W.Looks.here (s := { s with toks := s.toks + 1 }) (PySem.W.looks_clsIn X hc) ?_))))))
  rw [hd']
  refine wpAny_pure (a := some dx) (wpAny_bind (wpAny_pure (wpAny_bind ?_)))
  refine wpAny_nsSet1 (s := { s with toks := s.toks + 1 }) I.ns fun h' hn2 hs2 => ?_
  obtain ⟨oD, esD, epD, hoD, hdD, hcD⟩ := hn2.count (PySem.Within.cons name v hw)
  refine wpAny_bind (wpAny_lookBehind hoD (by rw [hdD]; exact pastItsLine_dict (Nat.le_trans hcD (by rw [List.length_cons]; omega))) ?_)
  exact wpAny_pure (h _ ⟨(hs2.2 _ (Ne.symm I.ne)).trans I.obj, hn2, I.ne⟩ hs2)

/-- C(..): the dict at the heap's end, the instance behind it; then its __init__ -/
theorem make_map {R : Result → Shared → Prop} {vs : List Value} {kw : List (Str × Value)} (X : K.In s.heap) (hm : PySem.W.makesIn K C = true)
    (hi : PySem.W.findIn K (.ref C) "__init__" = some (some (.ref f))) (hf : PySem.W.typeIn K (.ref f) = some (.type "function"))
    (h : codeAny (model prog w) (A.under (.builtin "type.__call__" ⟨.ref C :: vs, kw⟩)) (.call (.ref f) ⟨.ref (s.heap.objs.size + 1) :: vs, kw⟩) (PySem.W.InitBack (s.heap.objs.size + 1) R)
      { s with heap := (s.heap.push PySem.W.emptyDict).push (PySem.W.instObj C s.heap.objs.size) }) :
    codeAny (model prog w) A (.call (.ref C) ⟨vs, kw⟩) R s := by
  obtain ⟨hh, g, d, t, os⟩ := s
  exact PySem.W.make_core (PySem.W.makes_of X hm) (PySem.W.looks_findIn X hi) (fun self => PySem.W.bind_fn X self hf) (.inl rfl) h
/-- C() where there is no __init__ but object's -/
theorem make_map0 {R : Result → Shared → Prop} (X : K.In s.heap) (hm : PySem.W.makesIn K C = true)
    (hi : PySem.W.findIn K (.ref C) "__init__" = some (some (.builtin "object.__init__")))
    (hb : ∀ self, PySem.W.Looks (model prog w) s.heap (bindSpecial (.builtin "object.__init__") self) (.builtin "object.__init__", [self]))
    (h : codeAny (model prog w) (A.under (.builtin "type.__call__" ⟨[.ref C], []⟩)) (.call (.builtin "object.__init__") ⟨[.ref (s.heap.objs.size + 1)], []⟩) (PySem.W.InitBack (s.heap.objs.size + 1) R)
      { s with heap := (s.heap.push PySem.W.emptyDict).push (PySem.W.instObj C s.heap.objs.size) }) :
    codeAny (model prog w) A (.call (.ref C) ⟨[], []⟩) R s := by
  obtain ⟨hh, g, d, t, os⟩ := s
  exact PySem.W.make_core (PySem.W.makes_of X hm) (PySem.W.looks_findIn X hi) hb (.inr ⟨rfl, rfl⟩) h
end

/-! ### the attributes as a list of pairs -/
def putF (f : Str) (v : V) : List (Str × V) → List (Str × V)
  | [] => [(f, v)]
  | (g, x) :: r => if g = f then (g, v) :: r else (g, x) :: putF f v r
theorem lookup_putF (f g : Str) (v : V) : ∀ fs : List (Str × V), (putF f v fs).lookup g = if g = f then some v else fs.lookup g
  | [] => by
    show List.lookup g [(f, v)] = _
    by_cases h : g = f
    · have hb : (g == f) = true := beq_iff_eq.mpr h
      simp only [List.lookup, hb, if_pos h]
    · have hb : (g == f) = false := beq_eq_false_iff_ne.mpr h
      simp only [List.lookup, hb, if_neg h]
  | (k, x) :: r => by
    have ih := lookup_putF f g v r
    rw [show putF f v ((k, x) :: r) = (if k = f then (k, v) :: r else (k, x) :: putF f v r) from rfl]
    by_cases hk : k = f
    · rw [if_pos hk]
      by_cases h : g = k
      · have hb : (g == k) = true := beq_iff_eq.mpr h
        simp only [List.lookup, hb, if_pos (h.trans hk)]
      · have hb : (g == k) = false := beq_eq_false_iff_ne.mpr h
        simp only [List.lookup, hb, if_neg (fun e : g = f => h (e.trans hk.symm))]
    · rw [if_neg hk]
      by_cases h : g = k
      · have hb : (g == k) = true := beq_iff_eq.mpr h
        simp only [List.lookup, hb, if_neg (fun e : g = f => hk (h.symm.trans e))]
      · have hb : (g == k) = false := beq_eq_false_iff_ne.mpr h
        simp only [List.lookup, hb]
        exact ih
theorem keys_putF (f : Str) (v : V) : ∀ fs : List (Str × V), f ∈ (putF f v fs).map (·.1) ∧ ∀ g, g ∈ fs.map (·.1) → g ∈ (putF f v fs).map (·.1)
  | [] => ⟨by simp [putF], fun g h => by simp at h⟩
  | (k, x) :: r => by
    obtain ⟨i1, i2⟩ := keys_putF f v r
    rw [show putF f v ((k, x) :: r) = (if k = f then (k, v) :: r else (k, x) :: putF f v r) from rfl]
    by_cases hk : k = f
    · rw [if_pos hk]
      subst hk
      exact ⟨by simp, fun g h => by simpa using h⟩
    · rw [if_neg hk]
      refine ⟨?_, fun g h => ?_⟩
      · rw [List.map_cons]
        exact List.mem_cons_of_mem _ i1
      · rw [List.map_cons] at h ⊢
        rcases List.mem_cons.mp h with e | e
        · exact List.mem_cons.mpr (.inl e)
        · exact List.mem_cons_of_mem _ (i2 g e)
theorem length_putF (f : Str) (v : V) : ∀ fs : List (Str × V), (putF f v fs).length ≤ fs.length + 1
  | [] => by simp [putF]
  | (k, x) :: r => by
    have ih := length_putF f v r
    rw [show putF f v ((k, x) :: r) = (if k = f then (k, v) :: r else (k, x) :: putF f v r) from rfl]
    by_cases hk : k = f
    · rw [if_pos hk, List.length_cons, List.length_cons]; omega
    · rw [if_neg hk, List.length_cons, List.length_cons]; omega

theorem RelO.some_of {v : V} {o : Option Value} (r : RelO (some v) o) : ∃ u, o = some u ∧ RelV v u := by
  cases o with
  | none => exact (show False from r).elim
  | some u => exact ⟨u, rfl, r⟩
theorem RelO.none_of {o : Option Value} (r : RelO none o) : o = none := by
  cases o with
  | none => rfl
  | some u => exact (show False from r).elim
theorem handed_of {v : V} {u : Value} (r : RelV v u) : PySem.W.handedIn u = true := by
  cases v with
  | non => cases (show u = Value.none from r); rfl
  | bl b => cases (show u = Value.bool b from r); rfl
  | int i => obtain ⟨t, e⟩ := (show ∃ t, u = Value.int i t from r); cases e; rfl
  | str x => obtain ⟨t, e⟩ := (show ∃ t, u = Value.str x t from r); cases e; rfl
  | byt b => obtain ⟨t, e⟩ := (show ∃ t, u = Value.bytes b t from r); cases e; rfl
  | flt b => obtain ⟨t, e⟩ := (show ∃ t, u = Value.float b t from r); cases e; rfl
  | ref a => cases (show u = Value.ref a from r); rfl
  | ty n => cases (show u = Value.type n from r); rfl

section
variable {P : Program} {w : World} {H H' : Hp} {h h' : Heap} {a C dx : Addr} {fs fs' : List (Str × V)}
theorem ins_get (hok : HOk P w H h) (e : H a = some (.ins C dx fs)) : ∃ mA, ObjM h a dx C mA ∧ (∀ f, RelO (fs.lookup f) (mA f)) ∧ PySem.Within mA (fs.map (·.1)) ∧ fs.length ≤ 1000 ∧ H dx = some (.own a) := by
  obtain ⟨d, z, ne, ob, mA, n, r, q⟩ := (show ObjOk P w H h a (.ins C dx fs) from hok a _ e)
  exact ⟨mA, ⟨ob, n, ne⟩, r, q, z, d⟩
end

/-! ### what of the text a class must have -/
structure Cls (K : PySem.W.Frag) (C : Addr) : Prop where
  pg : PySem.W.plainGet K C Str.empty = true
  hd : PySem.W.hasDictIn K C = true
  po : PySem.W.plainOver K C = true
  sa : PySem.W.findIn K (.ref C) "__setattr__" = some (some (.builtin "object.__setattr__"))
theorem Cls.get {K : PySem.W.Frag} {C : Addr} (c : Cls K C) (f : Str) : PySem.W.plainGet K C f = true := c.pg
/-- no class of it has the name -/
def NoAttr (K : PySem.W.Frag) (C : Addr) (f : Str) : Prop := PySem.W.findIn K (.ref C) f = some none
theorem NoAttr.taker {K : PySem.W.Frag} {C : Addr} {f : Str} (n : NoAttr K C f) : PySem.W.takerIn K C f = some none := by
  unfold PySem.W.takerIn
  rw [show PySem.W.findIn K (.ref C) f = some none from n]
  rfl
/-- a constant of the class -/
structure Con (K : PySem.W.Frag) (C : Addr) (f : Str) (v : V) (u : Value) : Prop where
  at_ : PySem.W.findIn K (.ref C) f = some (some u)
  rel : RelV v u
  get : PySem.W.specialIn K u "__get__" = some none
  cp : PySem.W.copiedNames.contains f = false
/-- a method: a plain def of the class or of one above it -/
structure Meth (K : PySem.W.Frag) (C : Addr) (m : Str) (f : Addr) : Prop where
  at_ : PySem.W.findIn K (.ref C) m = some (some (.ref f))
  fn : PySem.W.isFn K (.ref f) = true
  kp : PySem.W.keepIn K (.ref f) = true

section
variable {X : Cx} {pins : List (Addr × Obj)} {σ : St} {H : Hp} {s : Shared} {a C dx : Addr} {fs : List (Str × V)} {f : Str} {v : V} {A : Around} {E : Value → Shared → Prop}

theorem getattr_ok {b : Bool} {Q : Value → Shared → Prop} (I : Inv X pins σ H s) (e : H a = some (.ins C dx fs)) (c : Cls X.K C) (n : NoAttr X.K C f) (l : fs.lookup f = some v)
    (h : ∀ u s', Inv X pins σ H s' → RelV v u → Q u s') : wpAny (model X.prog X.w) A (getAttr (.ref a) f b) Q E s := by
  obtain ⟨mA, O, r, _, _, _⟩ := ins_get I.hok e
  obtain ⟨u, hu, ru⟩ := RelO.some_of (v := v) (o := mA f) (by rw [← l]; exact r f)
  exact get_map I.kIn O (c.get f) c.hd n hu (handed_of ru) (h u _ (I.tok _) ru)

theorem getcon_ok {b : Bool} {u : Value} {Q : Value → Shared → Prop} (I : Inv X pins σ H s) (e : H a = some (.ins C dx fs)) (c : Cls X.K C) (k : Con X.K C f v u) (l : fs.lookup f = none)
    (h : ∀ s', Inv X pins σ H s' → Q u s') : wpAny (model X.prog X.w) A (getAttr (.ref a) f b) Q E s := by
  obtain ⟨mA, O, r, _, _, _⟩ := ins_get I.hok e
  have hn : mA f = none := RelO.none_of (by rw [← l]; exact r f)
  exact get_const I.kIn O (c.get f) c.hd k.at_ k.get k.cp hn (handed_of k.rel) (h _ (I.tok _))

theorem getmeth_ok {m : Str} {g : Addr} {pl : Sem Bool} {Q : Value × List Value → Shared → Prop} (I : Inv X pins σ H s) (e : H a = some (.ins C dx fs)) (c : Cls X.K C) (k : Meth X.K C m g) (l : fs.lookup m = none)
    (h : Q (.ref g, [.ref a]) s) : wpAny (model X.prog X.w) A (getMethod (.ref a) m pl) Q E s := by
  obtain ⟨mA, O, r, _, _, _⟩ := ins_get I.hok e
  have hn : mA m = none := RelO.none_of (by rw [← l]; exact r m)
  exact get_meth I.kIn O (c.get m) k.at_ k.fn hn h

theorem setattr_ok {y : V} {u : Value} {Q : Unit → Shared → Prop} (I : Inv X pins σ H s) (e : H a = some (.ins C dx fs)) (c : Cls X.K C) (n : NoAttr X.K C f) (hl : fs.length < 1000) (ry : RelV y u)
    (h : ∀ s', Inv X pins σ (upd H a (.ins C dx (putF f y fs))) s' → Q () s') : wpAny (model X.prog X.w) A (setAttr (.ref a) f u) Q E s := by
  obtain ⟨mA, O, r, wi, _, ho⟩ := ins_get I.hok e
  have hz : (fs.map (·.1)).length ≤ sizeLine := by rw [List.length_map, sizeLine_eq]; omega
  refine set_map I.kIn O c.sa c.po n.taker c.hd wi hz fun h' O' sb => h _ ?_
  have hd : ∃ o, h'.get? dx = some o := let ⟨o, _, _, e', _⟩ := O'.ns; ⟨o, e'⟩
  refine I.write (x := a) (e := dx) (by rw [e]; exact True.intro) (.inr ho) (fun b q hb z => (sb.2 b hb).trans z) hd ?_
  refine ⟨by rw [upd_ne O.ne]; exact ho, ?_, O.ne, O'.obj, _, O'.ns, fun g => ?_, fun g hg => ?_⟩
  · have := length_putF f y fs; omega
  · show RelO ((putF f y fs).lookup g) (if g = f then some u else mA g)
    rw [lookup_putF]
    by_cases q : g = f
    · rw [if_pos q, if_pos q]; exact ry
    · rw [if_neg q, if_neg q]; exact r g
  · by_cases q : g = f
    · rw [q]; exact (keys_putF f y fs).1
    · refine (keys_putF f y fs).2 g (wi g fun z => hg ?_)
      show (if g = f then some u else mA g) = none
      rw [if_neg q]; exact z

/-- a new instance, tracked, without attributes -/
theorem Inv.made (I : Inv X pins σ H s) : Inv X pins σ (upd (upd H s.heap.objs.size (.own (s.heap.objs.size + 1))) (s.heap.objs.size + 1) (.ins C s.heap.objs.size []))
    { s with heap := (s.heap.push PySem.W.emptyDict).push (PySem.W.instObj C s.heap.objs.size) } := by
  have e1 : (s.heap.push PySem.W.emptyDict).get? s.heap.objs.size = some PySem.W.emptyDict := Heap.get?_push_size s.heap rfl
  have e2 : ((s.heap.push PySem.W.emptyDict).push (PySem.W.instObj C s.heap.objs.size)).get? (s.heap.objs.size + 1) = some (PySem.W.instObj C s.heap.objs.size) := by
    have := Heap.get?_push_size (s.heap.push PySem.W.emptyDict) (o := PySem.W.instObj C s.heap.objs.size) rfl
    rwa [Heap.size_push] at this
  have e3 : (s.heap.push PySem.W.emptyDict).Ns s.heap.objs.size (fun _ => none) := ⟨PySem.W.emptyDict, #[], _, e1, rfl, (fun e he => absurd he (by simp)), fun _ => rfl⟩
  have I1 := I.laid (a := s.heap.objs.size) (o := .own (s.heap.objs.size + 1)) (h' := s.heap.push PySem.W.emptyDict) (t' := s.toks) (fun b u q => Heap.get?_push_of_some _ q) (Nat.le_refl _) ⟨_, e1⟩
  refine I1.laid (a := s.heap.objs.size + 1) (o := .ins C s.heap.objs.size []) (t' := s.toks) (fun b u q => Heap.get?_push_of_some _ q) (Nat.le_of_eq (Heap.size_push _ _)) ?_
  have ne : s.heap.objs.size ≠ s.heap.objs.size + 1 := Nat.ne_of_lt (Nat.lt_succ_self _)
  refine ⟨by rw [upd_ne ne, upd_same], Nat.zero_le _, ne, e2, fun _ => none, (Heap.Ns1.of_empty e3).at fun o q => Heap.get?_push_of_some _ q, fun _ => True.intro, fun y hy => absurd rfl hy⟩

/-- e.f where nothing but the object is asked: through attributeBase (super) and the last hold -/
theorem attr_of {prog : Program} {w : World} {env : Env} {e : Expr} {f : Str} {pos : Pos} {s : Shared} {Q : Value → Shared → Prop} (hb : attributeBase e f env (eval e env) = eval e env)
    (h : wpAny (model prog w) A (eval e env) (fun o s₁ => wpAny (model prog w) A (getAttr o f true) Q E s₁) E s) : wpAny (model prog w) A (eval (.Attribute e f pos) env) Q E s :=
  Attribute_any_ h (by rw [arm_eval_Attribute, hb])
end

/-! ### readings and rules -/
/-- e.f, an attribute of the instance -/
def tFld (K : PySem.W.Frag) (ta : TE) (f : Str) : TE := fun σ H Q => ta σ H fun x H1 => ∃ a C dx fs v, x = .ref a ∧ H1 a = some (.ins C dx fs) ∧ Cls K C ∧ NoAttr K C f ∧ fs.lookup f = some v ∧ Q v H1
/-- e.f, a constant of the class -/
def tCon (K : PySem.W.Frag) (ta : TE) (f : Str) : TE := fun σ H Q => ta σ H fun x H1 => ∃ a C dx fs v u, x = .ref a ∧ H1 a = some (.ins C dx fs) ∧ Cls K C ∧ Con K C f v u ∧ fs.lookup f = none ∧ Q v H1
/-- e.f = value -/
def sFld (K : PySem.W.Frag) (ta tv : TE) (f : Str) : TS := fun D σ H => tv σ H fun y H1 => ta σ H1 fun x H2 => ∃ a C dx fs, x = .ref a ∧ H2 a = some (.ins C dx fs) ∧ Cls K C ∧ NoAttr K C f ∧ fs.length < 1000 ∧
  D.nx σ (upd H2 a (.ins C dx (putF f y fs)))
/-- an augmented operator on two values -/
def InOp (X : Cx) (op : Operator) (rd : V → V → Hp → VK → Prop) : Prop :=
  ∀ (pins : List (Addr × Obj)) (s : Shared) (σ : St) (H : Hp) (x y : V) (u v : Value) (Q : VK), Inv X pins σ H s → RelV x u → RelV y v → rd x y H Q → wpAny (model X.prog X.w) X.A (inplaceOp op u v) (EP X pins σ Q) X.xe s
/-- e.f op= value -/
def sFldAug (K : PySem.W.Frag) (ta tv : TE) (rd : V → V → Hp → VK → Prop) (f : Str) : TS := fun D σ H => ta σ H fun x H1 => ∃ a C dx fs v, x = .ref a ∧ H1 a = some (.ins C dx fs) ∧ Cls K C ∧ NoAttr K C f ∧ fs.lookup f = some v ∧
  tv σ H1 fun y H2 => rd v y H2 fun z H3 => ∃ dx' fs', H3 a = some (.ins C dx' fs') ∧ fs'.length < 1000 ∧ D.nx σ (upd H3 a (.ins C dx' (putF f z fs')))

section
variable {X : Cx} {o e value : Expr} {f : Str} {pos pos' tpos : Pos} {ta tv : TE}
theorem pe_fld (he : PE X e ta) (hb : attributeBase e f X.env (eval e X.env) = eval e X.env) : PE X (.Attribute e f pos) (tFld X.K ta f) := by
  intro pins s σ H Q I h
  refine attr_of hb (thn (he pins s σ H _ I h) fun u s1 ⟨x, H1, I1, rx, a, C, dx, fs, v, ex, ea, c, n, l, q⟩ => ?_)
  subst ex
  obtain rfl : u = Value.ref a := rx
  exact getattr_ok I1 ea c n l fun u' s2 I2 ru => ⟨v, H1, I2, ru, q⟩
theorem pe_con (he : PE X e ta) (hb : attributeBase e f X.env (eval e X.env) = eval e X.env) : PE X (.Attribute e f pos) (tCon X.K ta f) := by
  intro pins s σ H Q I h
  refine attr_of hb (thn (he pins s σ H _ I h) fun u s1 ⟨x, H1, I1, rx, a, C, dx, fs, v, u0, ex, ea, c, k, l, q⟩ => ?_)
  subst ex
  obtain rfl : u = Value.ref a := rx
  exact getcon_ok I1 ea c k l fun s2 I2 => ⟨v, H1, I2, k.rel, q⟩
theorem ps_fld (ha : PE X o ta) (hv : PE X value tv) (hs : swapsWith value (some (.Attribute o f pos')) pos.line X.env = pure false) : PS X (.Assign [.Attribute o f pos'] value pos) (sFld X.K ta tv f) := by
  intro pins s σ H D I h
  refine plainObj_wpAny_Assign_Attribute (thn (hv pins s σ H _ I h) fun u s1 ⟨y, H1, I1, ry, q⟩ => thn (ha pins s1 σ H1 _ I1 q) fun ov s2 ⟨x, H2, I2, rx, a, C, dx, fs, ex, ea, c, n, l, q2⟩ => ?_) hs
  subst ex
  obtain rfl : ov = Value.ref a := rx
  exact setattr_ok I2 ea c n l ry fun s3 I3 => ⟨σ, _, I3, q2⟩
theorem ps_fldaug {op : Operator} {rd : V → V → Hp → VK → Prop} (ha : PE X o ta) (hv : PE X value tv) (hop : InOp X op rd) : PS X (.AugAssign (.Attribute o f tpos) op value pos) (sFldAug X.K ta tv rd f) := by
  intro pins s σ H D I h
  refine wpAny_AugAssign_AttributeAny (thn (ha pins s σ H _ I h) fun ov s1 ⟨x, H1, I1, rx, a, C, dx, fs, v, ex, ea, c, n, l, q⟩ => ?_)
  subst ex
  obtain rfl : ov = Value.ref a := rx
  refine getattr_ok I1 ea c n l fun u s2 I2 ru => thn (hv pins s2 σ H1 _ I2 q) fun w3 s3 ⟨y, H2, I3, ry, q3⟩ => thn (hop pins s3 σ H2 v y u w3 _ I3 ru ry q3) fun w4 s4 ⟨z, H3, I4, rz, dx', fs', ea', l', q4⟩ => ?_
  exact setattr_ok I4 ea' c n l' rz fun s5 I5 => ⟨σ, _, I5, q4⟩
def rAdd : V → V → Hp → VK → Prop := fun x y H Q => ∃ i j, x = .int i ∧ y = .int j ∧ Q (.int (i + j)) H
def rSub : V → V → Hp → VK → Prop := fun x y H Q => ∃ i j, x = .int i ∧ y = .int j ∧ Q (.int (i - j)) H
theorem in_add : InOp X .Add rAdd := by
  rintro pins s σ H x y u v Q I rx ry ⟨i, j, rfl, rfl, q⟩
  obtain ⟨t, rfl⟩ := (show ∃ t, u = Value.int i t from rx)
  obtain ⟨t', rfl⟩ := (show ∃ t', v = Value.int j t' from ry)
  exact PyProof.Rows.iadd_int ⟨.int (i + j), H, I.tok _, ⟨_, rfl⟩, q⟩
theorem in_sub : InOp X .Sub rSub := by
  rintro pins s σ H x y u v Q I rx ry ⟨i, j, rfl, rfl, q⟩
  obtain ⟨t, rfl⟩ := (show ∃ t, u = Value.int i t from rx)
  obtain ⟨t', rfl⟩ := (show ∃ t', v = Value.int j t' from ry)
  exact PyProof.Rows.isub_int ⟨.int (i - j), H, I.tok _, ⟨_, rfl⟩, q⟩

/-- what is between an instance and its method: the tree of a method call -/
theorem methcall_of {pl : Sem Bool} {m : Str} {apos : Pos} {args : List Expr} {pins : List (Addr × Obj)} {s : Shared} {σ : St} {H : Hp} {Q : Value → Shared → Prop} {te : TE} (he : PE X e te) (I : Inv X pins σ H s)
    (h : te σ H fun x H1 => ∃ a C dx fs g, x = .ref a ∧ H1 a = some (.ins C dx fs) ∧ Cls X.K C ∧ Meth X.K C m g ∧ fs.lookup m = none ∧
      ∀ s1, Inv X pins σ H1 s1 → wpAny (model X.prog X.w) X.A (callWith pos (.ref g) [.ref a] (backTo pos (starEach args X.env)) (backToKw pos (keywordEach [] X.env))) Q X.xe s1)
    (ht : eval (.Call (.Attribute e m apos) args [] pos) X.env = (do
      let ov ← eval e X.env
      standAt apos.atName
      let (f, first) ← holding [ov] (getMethod ov m pl)
      callWith pos f first (backTo pos (starEach args X.env)) (backToKw pos (keywordEach [] X.env)))) :
    wpAny (model X.prog X.w) X.A (eval (.Call (.Attribute e m apos) args [] pos) X.env) Q X.xe s := by
  refine PySem.W.methodCall_KW (pl := pl) (thn (he pins s σ H _ I h) fun u s1 ⟨x, H1, I1, rx, a, C, dx, fs, g, ex, ea, c, k, l, q⟩ => ?_) ht
  subst ex
  obtain rfl : u = Value.ref a := rx
  exact getmeth_ok I1 ea c k l (q s1 I1)
end

/-! ### isinstance -/
section
variable {X : Cx} {pins : List (Addr × Obj)} {σ : St} {H : Hp} {s : Shared} {A : Around} {E : Value → Shared → Prop} {Q : Value → Shared → Prop} {c : Value} {b : Bool}
/-- the type of a value, as the fragment's deciders take it; for an instance its class -/
inductive TyOf (K : PySem.W.Frag) (H : Hp) : V → Value → Prop where
  | non : TyOf K H .non (.type "NoneType")
  | bl (x : Bool) : TyOf K H (.bl x) (.type "bool")
  | int (i : Int) : TyOf K H (.int i) (.type "int")
  | str (x : Str) : TyOf K H (.str x) (.type "str")
  | flt (x : UInt64) : TyOf K H (.flt x) (.type "float")
  | lst {a : Addr} {xs : List V} (e : H a = some (.lst xs)) : TyOf K H (.ref a) (.type "list")
  | frz {a : Addr} {o : Obj} {xs : List V} (e : H a = some (.frz o (.lst xs))) : TyOf K H (.ref a) (.type "list")
  | tup {a : Addr} {xs : List V} (e : H a = some (.tup xs)) : TyOf K H (.ref a) (.type "tuple")
  | dK {a : Addr} {kvs : List (Key × V)} (e : H a = some (.dK kvs)) : TyOf K H (.ref a) (.type "dict")
  | dT {a : Addr} {kvs : List (List Key × V)} (e : H a = some (.dT kvs)) : TyOf K H (.ref a) (.type "dict")
  | ins {a C dx : Addr} {fs : List (Str × V)} (e : H a = some (.ins C dx fs)) (cl : Cls K C) (ha : PySem.W.findIn K (.ref C) "__class__" = some (some (.builtin "object.__class__")))
      (hn : PySem.W.specialIn K (.builtin "object.__class__") "__get__" = some (some (.builtin "getset_descriptor.__get__"))) (htk : PySem.W.takesIn K (.builtin "object.__class__") = some true)
      (hm : PySem.W.mroIn K C (.type "object") = some true) : TyOf K H (.ref a) (.ref C)
/-- isinstance(x, c) for one class c, a built-in or an own one: kitOne's answer -/
theorem isinst_ok {x : V} {u t : Value} (I : Inv X pins σ H s) (rx : RelV x u) (ty : TyOf X.K H x t) (e : PySem.W.kitOne X.K t c = some b) (h : ∀ tk, Q (.bool b) { s with toks := tk }) :
    wpAny (model X.prog X.w) A (call (.builtin "isinstance") [u, c]) Q E s := by
  cases ty with
  | non => cases (show u = Value.none from rx); exact PySem.W.kia_one PySem.W.kitx_none I.kIn True.intro e (fun z => nomatch z) h
  | bl y => cases (show u = Value.bool y from rx); exact PySem.W.kia_one PySem.W.kitx_bool I.kIn True.intro e (fun z => nomatch z) h
  | int i => obtain ⟨t, q⟩ := (show ∃ t, u = Value.int i t from rx); cases q; exact PySem.W.kia_one PySem.W.kitx_int I.kIn True.intro e (fun z => nomatch z) h
  | str y => obtain ⟨t, q⟩ := (show ∃ t, u = Value.str y t from rx); cases q; exact PySem.W.kia_one PySem.W.kitx_str I.kIn True.intro e (fun z => nomatch z) h
  | flt y => obtain ⟨t, q⟩ := (show ∃ t, u = Value.float y t from rx); cases q; exact PySem.W.kia_one PySem.W.kitx_float I.kIn True.intro e (fun z => nomatch z) h
  | @lst a xs ea =>
    cases (show u = Value.ref a from rx)
    obtain ⟨_, _, n, _, h1⟩ := (show ObjOk X.prog X.w H s.heap a (.lst xs) from I.hok a _ ea)
    exact PySem.W.kia_one PySem.W.kitx_list I.kIn ⟨_, h1, rfl⟩ e (fun z => nomatch z) h
  | @frz a ob xs ea =>
    cases (show u = Value.ref a from rx)
    obtain ⟨_, _, _, n, _, h1⟩ := (show ObjOk X.prog X.w H s.heap a (.frz ob (.lst xs)) from I.hok a _ ea)
    exact PySem.W.kia_one PySem.W.kitx_list I.kIn ⟨_, h1, rfl⟩ e (fun z => nomatch z) h
  | @tup a xs ea =>
    cases (show u = Value.ref a from rx)
    obtain ⟨_, _, _, p⟩ := (show ObjOk X.prog X.w H s.heap a (.tup xs) from I.hok a _ ea)
    obtain ⟨o, h1, h2, _⟩ := p
    exact PySem.W.kia_one PySem.W.kitx_tuple I.kIn ⟨o, h1, h2⟩ e (fun z => nomatch z) h
  | @dK a kvs ea =>
    cases (show u = Value.ref a from rx)
    obtain ⟨_, _, vs, _, p⟩ := (show ObjOk X.prog X.w H s.heap a (.dK kvs) from I.hok a _ ea)
    obtain ⟨o, es, ep, h1, h2, _⟩ := p
    exact PySem.W.kia_one PySem.W.kitx_dict I.kIn ⟨o, h1, h2.1⟩ e (fun z => nomatch z) h
  | @dT a kvs ea =>
    cases (show u = Value.ref a from rx)
    obtain ⟨_, _, xs, _, o, es, ep, h1, h2, _⟩ := (show ObjOk X.prog X.w H s.heap a (.dT kvs) from I.hok a _ ea)
    exact PySem.W.kia_one PySem.W.kitx_dict I.kIn ⟨o, h1, h2.1⟩ e (fun z => nomatch z) h
  | @ins a C dx fs ea cl ha hn htk hm =>
    cases (show u = Value.ref a from rx)
    obtain ⟨mA, O, _⟩ := ins_get I.hok ea
    obtain ⟨od, J, _⟩ := O.look
    exact PySem.W.kia_one (PySem.W.kitx_own (cl.get _) cl.hd ha hn htk hm) I.kIn J e (fun z => nomatch z) h
end
end L2

namespace L2
open PySem PySem.Spec PyProof.Rows

/-! ### room -/
structure Room (k : Nat) (A : Around) : Prop where
  hd : A.handled = none
  dp : A.depth + 3 * k + 5 < recursionLimit
  un : A.units + 16 * k + 200 < cLine
  gd : A.guards = some []
theorem Room.mono {j k : Nat} {A : Around} (r : Room k A) (h : j ≤ k) : Room j A := ⟨r.hd, by have := r.dp; omega, by have := r.un; omega, r.gd⟩
theorem Room.deeper {k : Nat} {A : Around} (r : Room (k + 1) A) (env : Env) : Room k (A.deeper env) :=
  ⟨r.hd, by have := r.dp; show A.depth + 1 + 3 * k + 5 < _; omega, by have := r.un; show A.units + 3 + 16 * k + 200 < _; omega, r.gd⟩
theorem Room.in1 {k : Nat} {A : Around} (r : Room (k + 1) A) : Room k A.in1 :=
  ⟨r.hd, by have := r.dp; show A.depth + 3 * k + 5 < _; omega, by have := r.un; show A.units + 1 + 16 * k + 200 < _; omega, r.gd⟩
theorem make_depth {A : Around} {C : Addr} {us : List Value} {kw : List (Str × Value)} : (A.under (.builtin "type.__call__" ⟨.ref C :: us, kw⟩)).depth = A.depth + 1 := by
  first | rfl | simp [Around.under, Code.weight, Code.isCreation, Code.isGuard, Code.isCaller, Code.frames, Code.isFrame, guardIds]
theorem make_units {A : Around} {C : Addr} {us : List Value} {kw : List (Str × Value)} : (A.under (.builtin "type.__call__" ⟨.ref C :: us, kw⟩)).units = A.units + 1 := by
  first | rfl | simp [Around.under, Code.cUnits, Code.frames, Code.isFrame]
theorem make_guards {A : Around} {C : Addr} {us : List Value} {kw : List (Str × Value)} : (A.under (.builtin "type.__call__" ⟨.ref C :: us, kw⟩)).guards = A.guards := by
  have e : Code.guards (.builtin "type.__call__" ⟨.ref C :: us, kw⟩) = [] := by
    have : (Code.builtin "type.__call__" ⟨.ref C :: us, kw⟩).isGuard = false := by show guardIds.contains "type.__call__" = false; decide +kernel
    simp [Code.guards, this]
  unfold Around.under
  dsimp only
  rw [e]
  rfl
theorem Room.make {k : Nat} {A : Around} (r : Room (k + 1) A) (C : Addr) (us : List Value) (kw : List (Str × Value)) : Room k (A.under (.builtin "type.__call__" ⟨.ref C :: us, kw⟩)) :=
  ⟨r.hd, by have := r.dp; rw [make_depth]; omega, by have := r.un; rw [make_units]; omega, by rw [make_guards]; exact r.gd⟩
theorem Room.depth {k : Nat} {A : Around} (r : Room k A) : A.depth < recursionLimit := by have := r.dp; omega
theorem Room.units {k : Nat} {A : Around} (r : Room k A) : A.units + 64 < cLine := by have := r.un; omega
theorem Room.units0 {k : Nat} {A : Around} (r : Room k A) : A.units < cLine := by have := r.un; omega

/-! ### argument lists and displays -/
def tNil : TA := fun _ H Q => Q [] H
def tCons (ta : TE) (tr : TA) : TA := fun σ H Q => ta σ H fun x H1 => tr σ H1 fun xs H2 => Q (x :: xs) H2
section
variable {X : Cx} {e : Expr} {es : List Expr} {te : TE} {t : TA} {pos : Pos}
theorem pa_nil : PA X [] tNil := fun _ _ _ _ H Q I h => Calls.spliced_nil ⟨[], H, I, .nil, h⟩
theorem pa_cons (ha : PE X e te) (hr : PA X es t) (hs : starEach (e :: es) X.env = (false, eval e X.env) :: starEach es X.env := by rfl) : PA X (e :: es) (tCons te t) := by
  intro pos pins s σ H Q I h
  rw [hs]
  show wpAny _ _ (spliced ((false, eval e X.env) :: backTo pos (starEach es X.env))) _ _ s
  refine Calls.spliced_cons (thn (ha pins s σ H _ I h) fun u s1 ⟨x, H1, I1, r1, q1⟩ => ?_)
  exact thn (hr pos pins s1 σ H1 _ I1 q1) fun us s2 ⟨xs, H2, I2, r2, q2⟩ => ⟨x :: xs, H2, I2, .cons r1 r2, q2⟩

/-- a tuple, a list of written items -/
def tTup (t : TA) : TE := fun σ H Q => t σ H fun xs H1 => xs.length ≤ sizeLine ∧ ∀ p, H1 p = none → Q (.ref p) (upd H1 p (.tup xs))
def tLst (t : TA) : TE := fun σ H Q => t σ H fun xs H1 => xs.length ≤ sizeLine ∧ ∀ p, H1 p = none → Q (.ref p) (upd H1 p (.lst xs))
theorem pe_tup {x1} (h : PA X es t) : PE X (.Tuple es x1 pos) (tTup t) := by
  intro pins s σ H Q I hq
  refine wpAny_Tuple_spliced (thn (h pos pins s σ H _ I hq) fun us s1 ⟨xs, H1, I1, r, z, q⟩ => ⟨by rw [← r.length]; exact z, ?_⟩)
  have hf : H1 s1.heap.objs.size = none := I1.hok.fresh (Nat.le_refl _)
  refine ⟨.ref s1.heap.objs.size, upd H1 s1.heap.objs.size (.tup xs), I1.laid (t' := s1.toks) (fun b u e => Heap.get?_push_of_some _ e) (Nat.le_refl _) ?_, rfl, q _ hf⟩
  exact ⟨z, us, r, ⟨_, Heap.get?_push_size _ rfl, rfl, _, rfl⟩⟩
theorem pe_lst (h : PA X es t) : PE X (.List es pos) (tLst t) := by
  intro pins s σ H Q I hq
  refine wpAny_List_spliced (thn (h pos pins s σ H _ I hq) fun us s1 ⟨xs, H1, I1, r, z, q⟩ => ⟨by rw [← r.length]; exact z, ?_⟩)
  have hf : H1 s1.heap.objs.size = none := I1.hok.fresh (Nat.le_refl _)
  refine ⟨.ref s1.heap.objs.size, upd H1 s1.heap.objs.size (.lst xs), I1.laid (t' := s1.toks) (fun b u e => Heap.get?_push_of_some _ e) (Nat.le_refl _) ?_, rfl, q _ hf⟩
  exact ⟨z, us, 0, r, Heap.get?_push_size _ rfl⟩
end

/-! ### what a def promises -/
/-- a def's promise: the bound arguments in the parameters' order, the heap, the wanted end, the wanted exception -/
abbrev Sp := List V → Hp → VK → XK → Prop
/-- how an exception lies behind a call (file 08 gives it): the callers' frames, abstract heap and state ahead of the call, the wish, the exception, the state -/
abbrev CXT := List Env → Hp → Shared → XK → Value → Shared → Prop

/-- the state at a call -/
structure Env0 (P : Program) (w : World) (K : PySem.W.Frag) (mg : Str → Option Value) (base : Heap) (A : Around) (outer : List Env) (s : Shared) (H : Hp) : Prop where
  frames : A.frames = some outer
  mod : Mod K mg base
  bs : ∀ b o, base.get? b = some o → s.heap.get? b = some o ∧ H b = none
  bsz : base.objs.size ≤ s.heap.objs.size
  funs : s.heap.FunFrames base outer
  frf : ∀ b ∈ frs outer, H b = none
  hok : HOk P w H s.heap
  bare : AllBare s.gens
/-- a call's end -/
def CE (outer : List Env) (P : Program) (w : World) (H : Hp) (s : Shared) (Q : VK) (u : Value) (s' : Shared) : Prop :=
  ∃ v H', s'.os = s.os ∧ AllBare s'.gens ∧ Un (frs outer) [] H H' s.heap s'.heap ∧ HOk P w H' s'.heap ∧ RelV v u ∧ Q v H'
def CR (CX : CXT) (outer : List Env) (P : Program) (w : World) (H : Hp) (s : Shared) (Q : VK) (E : XK) (r : Result) (s' : Shared) : Prop :=
  match r with
  | .ok (.ret u) => CE outer P w H s Q u s'
  | .ok _ => False
  | .error e => CX outer H s E e s'
structure FnOk (P : Program) (w : World) (K : PySem.W.Frag) (mg : Str → Option Value) (base : Heap) (CX : CXT) (k : Nat) (f : Addr) (fd : FuncData) (ps : List Str) (sp : Sp) : Prop where
  len : ∀ vs H Q E, sp vs H Q E → vs.length = ps.length
  run : ∀ (A : Around) (outer : List Env) (s : Shared) (H : Hp) (args : Args) (us : List Value) (vs : List V) (Q : VK) (E : XK), Room k A → Env0 P w K mg base A outer s H → BindsTo s fd args (ps.zip us) → Vals vs us → sp vs H Q E →
    codeAny (model P w) A (.call (.ref f) args) (CR CX outer P w H s Q E) s
theorem FnOk.mono {P : Program} {w : World} {K : PySem.W.Frag} {mg : Str → Option Value} {base : Heap} {CX : CXT} {j k : Nat} {f : Addr} {fd : FuncData} {ps : List Str} {sp : Sp} (F : FnOk P w K mg base CX j f fd ps sp) (h : j ≤ k) :
    FnOk P w K mg base CX k f fd ps sp := ⟨F.len, fun A outer s H args us vs Q E hr => F.run A outer s H args us vs Q E (hr.mono h)⟩
/-- a weaker promise -/
theorem FnOk.imp {P : Program} {w : World} {K : PySem.W.Frag} {mg : Str → Option Value} {base : Heap} {CX : CXT} {k : Nat} {f : Addr} {fd : FuncData} {ps : List Str} {sp sp' : Sp} (F : FnOk P w K mg base CX k f fd ps sp)
    (h : ∀ vs H Q E, sp' vs H Q E → sp vs H Q E) : FnOk P w K mg base CX k f fd ps sp' :=
  ⟨fun vs H Q E q => F.len vs H Q E (h _ _ _ _ q), fun A outer s H args us vs Q E hr he hb hv hs => F.run A outer s H args us vs Q E hr he hb hv (h _ _ _ _ hs)⟩

theorem Env0.make {P : Program} {w : World} {K : PySem.W.Frag} {mg : Str → Option Value} {base : Heap} {A : Around} {outer : List Env} {s : Shared} {H : Hp} (e : Env0 P w K mg base A outer s H) (C : Addr) (us : List Value) (kw : List (Str × Value)) :
    Env0 P w K mg base (A.under (.builtin "type.__call__" ⟨.ref C :: us, kw⟩)) outer s H := ⟨by first | exact e.frames | (simpa [Around.under, Code.envs, Code.isFrame, pushEnvs] using e.frames), e.mod, e.bs, e.bsz, e.funs, e.frf, e.hok, e.bare⟩
theorem Env0.in1 {P : Program} {w : World} {K : PySem.W.Frag} {mg : Str → Option Value} {base : Heap} {A : Around} {outer : List Env} {s : Shared} {H : Hp} (e : Env0 P w K mg base A outer s H) :
    Env0 P w K mg base A.in1 outer s H := ⟨e.frames, e.mod, e.bs, e.bsz, e.funs, e.frf, e.hok, e.bare⟩

section
variable {X : Cx} {pins : List (Addr × Obj)} {σ : St} {H : Hp} {s s' : Shared}
/-- from a body: what a callee wants -/
theorem Inv.env0 (I : Inv X pins σ H s) : Env0 X.prog X.w X.K X.mg X.base X.A X.stack s H :=
  ⟨I.ok.frames, I.ok.mod, I.bs, Nat.le_trans I.ok.bsz I.sz, I.stack, I.stkFree, I.hok, I.bare⟩
/-- behind a call -/
theorem Inv.after {Q : VK} {u : Value} (I : Inv X pins σ H s) (h : CE X.stack X.prog X.w H s Q u s') : EP X pins σ Q u s' := by
  obtain ⟨v, H', os, bare, un, hok, r, q⟩ := h
  obtain ⟨hh, g, d, t, os'⟩ := s'
  obtain rfl : os' = s.os := os
  exact ⟨v, H', I.call (h' := hh) (g' := g) (d' := d) (t' := t) (ch := []) un hok bare (fun b z => absurd z (by simp)), r, q⟩
end

/-! ### calls -/
/-- f(..): the written arguments, then the defaults dvs; E: what is wanted of an exception -/
def tCall (sp : Sp) (dvs : List V) (E : XK) (t : TA) : TE := fun σ H Q => t σ H fun vs H1 => sp (vs ++ dvs) H1 Q E
/-- o.m(..) of an instance of the class at C -/
def tMeth (C : Addr) (m : Str) (sp : Sp) (dvs : List V) (E : XK) (ta : TE) (t : TA) : TE := fun σ H Q => ta σ H fun x H1 => ∃ a dx fs, x = .ref a ∧ H1 a = some (.ins C dx fs) ∧ fs.lookup m = none ∧
  t σ H1 fun vs H2 => sp (x :: (vs ++ dvs)) H2 Q E
/-- C(..): a new instance and its dict, then __init__ -/
def tMake (C : Addr) (sp : Sp) (dvs : List V) (E : XK) (t : TA) : TE := fun σ H Q => t σ H fun vs H1 => ∀ x dx, H1 x = none → H1 dx = none → dx ≠ x →
  sp (.ref x :: (vs ++ dvs)) (upd (upd H1 dx (.own x)) x (.ins C dx [])) (fun v H2 => v = .non ∧ Q (.ref x) H2) E

/-- how the parameters are bound: us the positional arguments, kw the keywords' values by name, ds the defaults that fill up -/
def Binds (K : PySem.W.Frag) (fd : FuncData) (ps : List Str) (ds : List Value) : Prop :=
  ∀ (s : Shared) (us : List Value), K.In s.heap → (us ++ ds).length = ps.length → BindsTo s fd ⟨us, []⟩ (ps.zip (us ++ ds))
/-- every parameter is given -/
theorem Binds.all {K : PySem.W.Frag} {fd : FuncData} {ps : List Str} (h : ∀ us : List Value, us.length = ps.length → bindArgs fd ⟨us, []⟩ = pure (ps.zip us)) : Binds K fd ps [] := fun s us _ hl => by
  rw [List.append_nil] at hl ⊢
  exact .of_eq (h us hl)

/-- an exception of a callee reaches what this body wants of exceptions -/
def Passes (CX : CXT) (X : Cx) (E : XK) : Prop := ∀ (pins : List (Addr × Obj)) (σ : St) (H : Hp) (s : Shared) (e : Value) (s' : Shared), Inv X pins σ H s → CX X.stack H s E e s' → X.xe e s'

section
variable {X : Cx} {CX : CXT} {k : Nat} {f C : Addr} {fd : FuncData} {ps : List Str} {sp : Sp} {dvs : List V} {ds : List Value} {E : XK} {x m : Str} {p pos apos : Pos} {e o : Expr} {es : List Expr} {ta : TE} {t : TA}

/-- the callee runs -/
theorem run_fn {pins : List (Addr × Obj)} {σ : St} {H : Hp} {s : Shared} {Q : VK} {us : List Value} {vs : List V} (F : FnOk X.prog X.w X.K X.mg X.base CX k f fd ps sp) (hr : Room k X.A) (hb : Binds X.K fd ps ds) (hd : Vals dvs ds) (hx : Passes CX X E)
    (I : Inv X pins σ H s) (r : Vals vs us) (h : sp (vs ++ dvs) H Q E) : wpAny (model X.prog X.w) X.A (call (.ref f) us) (EP X pins σ Q) X.xe s := by
  have r2 : Vals (vs ++ dvs) (us ++ ds) := r.append hd
  have hl : (us ++ ds).length = ps.length := by rw [← r2.length]; exact F.len _ _ _ _ h
  refine wpAny_call (codeAny_mono (F.run X.A X.stack s H ⟨us, []⟩ (us ++ ds) (vs ++ dvs) Q E hr I.env0 (hb s us I.kIn hl) r2 h) fun r s' hq => ?_)
  cases r with
  | error e => exact hx pins σ H s e s' I hq
  | ok fl =>
    cases fl with
    | ret u => exact I.after hq
    | next => exact False.elim hq
    | brk => exact False.elim hq
    | cont => exact False.elim hq

theorem pe_call (F : FnOk X.prog X.w X.K X.mg X.base CX k f fd ps sp) (hr : Room k X.A) (hg : Gl X x) (hm : X.mg x = some (.ref f)) (hk : PySem.W.keepIn X.K (.ref f) = true) (hb : Binds X.K fd ps ds) (hd : Vals dvs ds) (hx : Passes CX X E)
    (ha : PA X (e :: es) t) (hdb : (x == ("__debug__" : Str)) = false := by decide) (he : starEach (e :: es) X.env = (false, eval e X.env) :: starEach es X.env := by rfl) (hpl : (backTo pos (starEach es X.env)).any (·.1) = false := by rfl) :
    PE X (.Call (.Name x p) (e :: es) [] pos) (tCall sp dvs E t) := by
  intro pins s σ H Q I h
  refine wpAny_Call_Name_kw (ld_glob I hg hm ?_ hdb)
  refine PySem.W.callWith_K (h₀ := X.base) I.ok.mod.kin hk (thn (ha pos pins s σ H _ I h) fun us s1 ⟨vs, H1, I1, r, q⟩ => ⟨I1.kIn, ?_⟩) he hpl
  exact run_fn F hr hb hd hx I1 r q
theorem pe_call0 (F : FnOk X.prog X.w X.K X.mg X.base CX k f fd ps sp) (hr : Room k X.A) (hg : Gl X x) (hm : X.mg x = some (.ref f)) (hk : PySem.W.keepIn X.K (.ref f) = true) (hb : Binds X.K fd ps ds) (hd : Vals dvs ds) (hx : Passes CX X E)
    (hdb : (x == ("__debug__" : Str)) = false := by decide) : PE X (.Call (.Name x p) [] [] pos) (tCall sp dvs E tNil) := by
  intro pins s σ H Q I h
  refine wpAny_Call_Name_kw (ld_glob I hg hm ?_ hdb)
  exact PySem.W.callWith_K0 I.kIn hk (run_fn (us := []) F hr hb hd hx I .nil h)

/-- o.m(e, ..) -/
theorem pe_meth {pl : Sem Bool} (he : PE X o ta) (c : Cls X.K C) (hm : Meth X.K C m f) (F : FnOk X.prog X.w X.K X.mg X.base CX k f fd ps sp) (hr : Room k X.A) (hb : Binds X.K fd ps ds) (hd : Vals dvs ds) (hx : Passes CX X E) (ha : PA X (e :: es) t)
    (hst : starEach (e :: es) X.env = (false, eval e X.env) :: starEach es X.env := by rfl) (hpl : (backTo pos (starEach es X.env)).any (·.1) = false := by rfl)
    (ht : eval (.Call (.Attribute o m apos) (e :: es) [] pos) X.env = (do
      let ov ← eval o X.env
      standAt apos.atName
      let (f, first) ← holding [ov] (getMethod ov m pl)
      callWith pos f first (backTo pos (starEach (e :: es) X.env)) (backToKw pos (keywordEach [] X.env))) := by rfl) :
    PE X (.Call (.Attribute o m apos) (e :: es) [] pos) (tMeth C m sp dvs E ta t) := by
  intro pins s σ H Q I h
  refine PySem.W.methodCall_KW (pl := pl) (thn (he pins s σ H _ I h) fun u s1 ⟨x, H1, I1, rx, a, dx, fs, ex, ea, l, q⟩ => ?_) ht
  subst ex
  obtain rfl : u = Value.ref a := rx
  refine getmeth_ok I1 ea c hm l ?_
  refine PySem.W.callWith_K (first := [.ref a]) (h₀ := X.base) I.ok.mod.kin hm.kp (thn (ha pos pins s1 σ H1 _ I1 q) fun us s2 ⟨vs, H2, I2, r, q2⟩ => ⟨I2.kIn, ?_⟩) hst hpl
  exact run_fn (us := .ref a :: us) (vs := .ref a :: vs) F hr hb hd hx I2 (.cons rfl r) q2
/-- o.m() -/
theorem pe_meth0 {pl : Sem Bool} (he : PE X o ta) (c : Cls X.K C) (hm : Meth X.K C m f) (F : FnOk X.prog X.w X.K X.mg X.base CX k f fd ps sp) (hr : Room k X.A) (hb : Binds X.K fd ps ds) (hd : Vals dvs ds) (hx : Passes CX X E)
    (ht : eval (.Call (.Attribute o m apos) [] [] pos) X.env = (do
      let ov ← eval o X.env
      standAt apos.atName
      let (f, first) ← holding [ov] (getMethod ov m pl)
      callWith pos f first (backTo pos (starEach [] X.env)) (backToKw pos (keywordEach [] X.env))) := by rfl) :
    PE X (.Call (.Attribute o m apos) [] [] pos) (tMeth C m sp dvs E ta tNil) := by
  intro pins s σ H Q I h
  refine PySem.W.methodCall_KW (pl := pl) (thn (he pins s σ H _ I h) fun u s1 ⟨x, H1, I1, rx, a, dx, fs, ex, ea, l, q⟩ => ?_) ht
  subst ex
  obtain rfl : u = Value.ref a := rx
  refine getmeth_ok I1 ea c hm l ?_
  exact PySem.W.callWith_K0 (first := [.ref a]) I1.kIn hm.kp (run_fn (us := [.ref a]) (vs := [.ref a]) F hr hb hd hx I1 (.cons rfl .nil) q)

/-- what a class must have to be made -/
structure Mk (K : PySem.W.Frag) (C f : Addr) : Prop where
  makes : PySem.W.makesIn K C = true
  init : PySem.W.findIn K (.ref C) "__init__" = some (some (.ref f))
  fn : PySem.W.isFn K (.ref f) = true
  kp : PySem.W.keepIn K (.ref C) = true

theorem run_make {pins : List (Addr × Obj)} {σ : St} {H : Hp} {s : Shared} {Q : VK} {us : List Value} {vs : List V} (M : Mk X.K C f) (F : FnOk X.prog X.w X.K X.mg X.base CX k f fd ps sp) (hr : Room (k + 1) X.A) (hb : Binds X.K fd ps ds) (hd : Vals dvs ds)
    (hx : Passes CX X E) (I : Inv X pins σ H s) (r : Vals vs us)
    (h : ∀ x dx, H x = none → H dx = none → dx ≠ x → sp (.ref x :: (vs ++ dvs)) (upd (upd H dx (.own x)) x (.ins C dx [])) (fun v H2 => v = .non ∧ Q (.ref x) H2) E) :
    wpAny (model X.prog X.w) X.A (call (.ref C) us) (EP X pins σ Q) X.xe s := by
  have hq := h (s.heap.objs.size + 1) s.heap.objs.size (I.hok.fresh (Nat.le_succ _)) (I.hok.fresh (Nat.le_refl _)) (Nat.ne_of_lt (Nat.lt_succ_self _))
  have I2 := Inv.made (C := C) I
  have r2 : Vals (V.ref (s.heap.objs.size + 1) :: (vs ++ dvs)) (Value.ref (s.heap.objs.size + 1) :: (us ++ ds)) := .cons rfl (r.append hd)
  have hl : (Value.ref (s.heap.objs.size + 1) :: us ++ ds).length = ps.length := by
    have e := r2.length
    rw [F.len _ _ _ _ hq] at e
    exact e.symm
  refine wpAny_call (make_map (f := f) I.kIn M.makes M.init (beq_iff_eq.mp M.fn) (codeAny_mono (F.run _ X.stack _ _ ⟨Value.ref (s.heap.objs.size + 1) :: us, []⟩ (Value.ref (s.heap.objs.size + 1) :: (us ++ ds)) _ _ E (hr.make C us [])
    (I2.env0.make C us []) (hb _ (Value.ref (s.heap.objs.size + 1) :: us) I2.kIn hl) r2 hq) fun r s' hq' => ?_))
  cases r with
  | error e => exact hx pins σ _ _ e s' I2 hq'
  | ok fl =>
    cases fl with
    | ret u =>
      obtain ⟨v, H', I3, rv, ev, q3⟩ := I2.after hq'
      subst ev
      exact ⟨rv, ⟨V.ref (s.heap.objs.size + 1), H', I3, rfl, q3⟩⟩
    | next => exact False.elim hq'
    | brk => exact False.elim hq'
    | cont => exact False.elim hq'
theorem pe_make (M : Mk X.K C f) (F : FnOk X.prog X.w X.K X.mg X.base CX k f fd ps sp) (hr : Room (k + 1) X.A) (hg : Gl X x) (hm : X.mg x = some (.ref C)) (hb : Binds X.K fd ps ds) (hd : Vals dvs ds) (hx : Passes CX X E)
    (ha : PA X (e :: es) t) (hdb : (x == ("__debug__" : Str)) = false := by decide) (he : starEach (e :: es) X.env = (false, eval e X.env) :: starEach es X.env := by rfl) (hpl : (backTo pos (starEach es X.env)).any (·.1) = false := by rfl) :
    PE X (.Call (.Name x p) (e :: es) [] pos) (tMake C sp dvs E t) := by
  intro pins s σ H Q I h
  refine wpAny_Call_Name_kw (ld_glob I hg hm ?_ hdb)
  refine PySem.W.callWith_K (h₀ := X.base) I.ok.mod.kin M.kp (thn (ha pos pins s σ H _ I h) fun us s1 ⟨vs, H1, I1, r, q⟩ => ⟨I1.kIn, ?_⟩) he hpl
  exact run_make M F hr hb hd hx I1 r q
theorem pe_make0 (M : Mk X.K C f) (F : FnOk X.prog X.w X.K X.mg X.base CX k f fd ps sp) (hr : Room (k + 1) X.A) (hg : Gl X x) (hm : X.mg x = some (.ref C)) (hb : Binds X.K fd ps ds) (hd : Vals dvs ds) (hx : Passes CX X E)
    (hdb : (x == ("__debug__" : Str)) = false := by decide) : PE X (.Call (.Name x p) [] [] pos) (tMake C sp dvs E tNil) := by
  intro pins s σ H Q I h
  refine wpAny_Call_Name_kw (ld_glob I hg hm ?_ hdb)
  exact PySem.W.callWith_K0 I.kIn M.kp (run_make (us := []) M F hr hb hd hx I .nil h)
end

/-! ### keywords -/
/-- the values of the keywords, from the left -/
def PK (X : Cx) (kws : List Keyword) (t : TA) : Prop :=
  ∀ (pos : Pos) (pins : List (Addr × Obj)) (s : Shared) (σ : St) (H : Hp) (Q : List V → Hp → Prop), Inv X pins σ H s → t σ H Q → wpAny (model X.prog X.w) X.A (evalAll ((backToKw pos (keywordEach kws X.env)).map (·.2))) (AP X pins σ Q) X.xe s
section
variable {X : Cx} {CX : CXT} {k : Nat} {f C : Addr} {fd : FuncData} {ps ks : List Str} {sp : Sp} {E : XK} {x m : Str} {p pos apos kpos : Pos} {e o : Expr} {es : List Expr} {kws : List Keyword} {te ta : TE} {t tk : TA} {nm : Option Str}
theorem pk_nil : PK X [] tNil := fun _ _ _ _ H Q I h => wpAny_evalAll_nil ⟨[], H, I, .nil, h⟩
theorem pk_cons (ha : PE X e te) (hr : PK X kws t) : PK X (⟨nm, e, kpos⟩ :: kws) (tCons te t) := by
  intro pos pins s σ H Q I h
  show wpAny _ _ (evalAll ((do let v ← eval e X.env; standAt pos; pure v) :: (backToKw pos (keywordEach kws X.env)).map (·.2))) _ _ s
  refine wpAny_evalAll_cons (wpAny_bind (thn (ha pins s σ H _ I h) fun u s1 ⟨x, H1, I1, r1, q1⟩ => wpAny_bind (wpAny_standAt (wpAny_pure ?_))))
  exact thn (hr pos pins s1 σ H1 _ I1 q1) fun us s2 ⟨xs, H2, I2, r2, q2⟩ => ⟨x :: xs, H2, I2, .cons r1 r2, q2⟩

/-- how a call with keywords binds: g puts the positional values us and the keywords' values ws (names ks) in the parameters' order, defaults among them -/
structure KBinds (K : PySem.W.Frag) (fd : FuncData) (ps ks : List Str) (g : List Value → List Value → List Value) (gV : List V → List V → List V) : Prop where
  to : ∀ (s : Shared) (us ws : List Value), K.In s.heap → (g us ws).length = ps.length → BindsTo s fd ⟨us, ks.zip ws⟩ (ps.zip (g us ws))
  rel : ∀ {vs : List V} {us : List Value} {zs : List V} {ws : List Value}, Vals vs us → Vals zs ws → Vals (gV vs zs) (g us ws)
def tCallK (sp : Sp) (gV : List V → List V → List V) (E : XK) (t tk : TA) : TE := fun σ H Q => t σ H fun vs H1 => tk σ H1 fun zs H2 => sp (gV vs zs) H2 Q E
variable {g : List Value → List Value → List Value} {gV : List V → List V → List V}
theorem run_fnk {pins : List (Addr × Obj)} {σ : St} {H : Hp} {s : Shared} {Q : VK} {us ws : List Value} {vs zs : List V} (F : FnOk X.prog X.w X.K X.mg X.base CX k f fd ps sp) (hr : Room k X.A) (hb : KBinds X.K fd ps ks g gV) (hx : Passes CX X E)
    (I : Inv X pins σ H s) (r : Vals vs us) (rz : Vals zs ws) (h : sp (gV vs zs) H Q E) : wpAny (model X.prog X.w) X.A (call (.ref f) us (ks.zip ws)) (EP X pins σ Q) X.xe s := by
  have r2 := hb.rel r rz
  have hl : (g us ws).length = ps.length := by rw [← r2.length]; exact F.len _ _ _ _ h
  refine wpAny_call (codeAny_mono (F.run X.A X.stack s H ⟨us, ks.zip ws⟩ (g us ws) (gV vs zs) Q E hr I.env0 (hb.to s us ws I.kIn hl) r2 h) fun r s' hq => ?_)
  cases r with
  | error e => exact hx pins σ H s e s' I hq
  | ok fl =>
    cases fl with
    | ret u => exact I.after hq
    | next => exact False.elim hq
    | brk => exact False.elim hq
    | cont => exact False.elim hq
/-- f(e, .., k = v, ..) -/
theorem pe_callK (F : FnOk X.prog X.w X.K X.mg X.base CX k f fd ps sp) (hr : Room k X.A) (hg : Gl X x) (hm : X.mg x = some (.ref f)) (hk : PySem.W.keepIn X.K (.ref f) = true) (hb : KBinds X.K fd ps ks g gV) (hx : Passes CX X E)
    (ha : PA X (e :: es) t) (hkw : PK X kws tk) (hall : (backToKw pos (keywordEach kws X.env)).all (·.1.isSome) = true := by rfl) (hks : (backToKw pos (keywordEach kws X.env)).filterMap (·.1) = ks := by rfl)
    (hdb : (x == ("__debug__" : Str)) = false := by decide) (he : starEach (e :: es) X.env = (false, eval e X.env) :: starEach es X.env := by rfl)
    (hpl : ((backTo pos (starEach (e :: es) X.env)).any (·.1) || (backToKw pos (keywordEach kws X.env)).any (·.1.isNone)) = false := by rfl) :
    PE X (.Call (.Name x p) (e :: es) kws pos) (tCallK sp gV E t tk) := by
  intro pins s σ H Q I h
  refine wpAny_Call_Name_kw (ld_glob I hg hm ?_ hdb)
  refine PySem.W.callWith_KW (h₀ := X.base) I.ok.mod.kin hk hall (thn (ha pos pins s σ H _ I h) fun us s1 ⟨vs, H1, I1, r, q⟩ => ?_) hpl he
  refine thn (hkw pos pins s1 σ H1 _ I1 q) fun ws s2 ⟨zs, H2, I2, rz, q2⟩ => ⟨I2.kIn, ?_⟩
  rw [hks]
  exact run_fnk F hr hb hx I2 r rz q2
end

/-! ### a def's body keeps its promise -/
/-- names: the parameters first -/
structure FnScope (N P : List Str) (sc : Scope) : Prop where
  kind : sc.kind = .function
  co : sc.isCoroutine = false
  gen : sc.isGenerator = false
  nd : N.Nodup
  pre : N.take P.length = P
  par : ∀ x ∈ P, sc.names.lookup x = some .local ∨ sc.names.lookup x = some .cell
  nofree : ∀ y ∈ sc.names, y.2 ≠ .free

theorem bindL_out {kindOf : Str → Option NameKind} {x : Str} : ∀ {binds : List (Str × Value)} {m : Str → Option Value}, (∀ v, (x, v) ∉ binds) → bindL kindOf binds m x = m x
  | [], _, _ => rfl
  | (n, v) :: r, m, h => by
    unfold bindL
    rw [bindL_out fun w hw => h w (List.mem_cons_of_mem _ hw)]
    split
    · have : x ≠ n := by rintro rfl; exact h v List.mem_cons_self
      simp [this]
    · rfl
theorem bindC_out {kindOf : Str → Option NameKind} {x : Str} : ∀ {binds : List (Str × Value)} {m : Str → Option Value}, (∀ v, (x, v) ∉ binds) → bindC kindOf binds m x = m x
  | [], _, _ => rfl
  | (n, v) :: r, m, h => by
    unfold bindC
    rw [bindC_out fun w hw => h w (List.mem_cons_of_mem _ hw)]
    split
    · rfl
    · have : x ≠ n := by rintro rfl; exact h v List.mem_cons_self
      simp [this]
theorem bindL_get {kindOf : Str → Option NameKind} {x : Str} {v : Value} : ∀ {P : List Str} {vs : List Value} {i : Nat} {m : Str → Option Value}, P.Nodup → P[i]? = some x → vs[i]? = some v → kindOf x = some .local →
    bindL kindOf (P.zip vs) m x = some v
  | [], _, _, _, _, h, _, _ => by simp at h
  | _ :: _, [], _, _, _, _, h, _ => by simp at h
  | p :: P, w :: vs, 0, m, nd, h1, h2, hk => by
    simp at h1 h2; subst h1; subst h2
    show bindL kindOf ((p, w) :: P.zip vs) m p = _
    unfold bindL
    rw [bindL_out fun v hv => (List.nodup_cons.mp nd).1 (List.of_mem_zip hv).1, if_pos hk]
    simp
  | p :: P, w :: vs, i + 1, m, nd, h1, h2, hk => by
    show bindL kindOf ((p, w) :: P.zip vs) m x = _
    unfold bindL
    exact bindL_get (i := i) (List.nodup_cons.mp nd).2 (by simpa using h1) (by simpa using h2) hk
theorem bindC_get {kindOf : Str → Option NameKind} {x : Str} {v : Value} : ∀ {P : List Str} {vs : List Value} {i : Nat} {m : Str → Option Value}, P.Nodup → P[i]? = some x → vs[i]? = some v → kindOf x ≠ some .local →
    bindC kindOf (P.zip vs) m x = some v
  | [], _, _, _, _, h, _, _ => by simp at h
  | _ :: _, [], _, _, _, _, h, _ => by simp at h
  | p :: P, w :: vs, 0, m, nd, h1, h2, hk => by
    simp at h1 h2; subst h1; subst h2
    show bindC kindOf ((p, w) :: P.zip vs) m p = _
    unfold bindC
    rw [bindC_out fun v hv => (List.nodup_cons.mp nd).1 (List.of_mem_zip hv).1, if_neg hk]
    simp
  | p :: P, w :: vs, i + 1, m, nd, h1, h2, hk => by
    show bindC kindOf ((p, w) :: P.zip vs) m x = _
    unfold bindC
    exact bindC_get (i := i) (List.nodup_cons.mp nd).2 (by simpa using h1) (by simpa using h2) hk

/-- the names' values at the entry -/
def start (N : List Str) (vs : List V) : St := vs.map some ++ List.replicate (N.length - vs.length) none

/-- the context of a def's body, at its entry; an exception leaves the frame, then lies as CX says -/
def cxOf (CX : CXT) (P : Program) (w : World) (K : PySem.W.Frag) (mg : Str → Option Value) (base : Heap) (N : List Str) (qual : Str) (scope : Scope) (f : Addr) (cd : Value) (A : Around) (outer : List Env) (s : Shared) (H : Hp) (E : XK) : Cx where
  prog := P
  w := w
  K := K
  mg := mg
  base := base
  A := A.deeper (envOfC qual scope s.heap.objs.size f cd)
  N := N
  s₀ := s
  H₀ := H
  env := envOfC qual scope s.heap.objs.size f cd
  outer := outer
  stack := envOfC qual scope s.heap.objs.size f cd :: outer
  ex := []
  calm := true
  fn := fun _ => true
  pn := []
  xe := fun e s' => wpAny (model P w) (A.deeper (envOfC qual scope s.heap.objs.size f cd)) (leaving (envOfC qual scope s.heap.objs.size f cd) e) (fun _ s'' => CX outer H s E e s'') (fun e' s'' => CX outer H s E e' s'') s'

theorem cell_has {sc : Scope} {n : Nat} {x : Str} (h : sc.names.lookup x = some .cell) : ∃ c, (cellsFrom n sc.names []).lookup x = some c := by
  have q := PySem.W.cellsFrom_some sc.names n [] (.inl h)
  exact Option.isSome_iff_exists.mp q

theorem inv_start {CX : CXT} {P : Program} {w : World} {K : PySem.W.Frag} {mg : Str → Option Value} {base : Heap} {N ps : List Str} {qual : Str} {scope : Scope} {f : Addr} {cd : Value} {A : Around} {outer : List Env} {s s1 : Shared} {H : Hp} {E : XK} {us : List Value} {vs : List V}
    (S : FnScope N ps scope) (hd : A.handled = none) (e0 : Env0 P w K mg base A outer s H) (hl : vs.length = ps.length) (r : Vals vs us)
    (x : InCallC s s.heap.objs.size (bindL (envOfC qual scope s.heap.objs.size f cd).kindOf (ps.zip us) fun _ => none) (cellsFrom (s.heap.objs.size + 1) scope.names []) (bindC (envOfC qual scope s.heap.objs.size f cd).kindOf (ps.zip us) fun _ => none) s1) :
    Inv (cxOf CX P w K mg base N qual scope f cd A outer s H E) [] (start N vs) H s1 := by
  have hpl : ps.length ≤ N.length := by have := congrArg List.length S.pre; rw [List.length_take] at this; omega
  obtain ⟨h1, tk, rfl, hk⟩ := x.done
  have noA : ∀ b : Addr, b ∉ (cxOf CX P w K mg base N qual scope f cd A outer s H E).ex := fun b z => absurd (show b ∈ ([] : List Addr) from z) (by simp)
  refine ⟨⟨e0.mod, S.kind, rfl, rfl, Nat.le_refl _, fun y z c h1 h2 => ?_, fun y hy => ?_, fun y c _ h => ?_, fun _ => hd, Around.frames_deeper e0.frames, .inr ⟨rfl, rfl⟩, fun b z => absurd z (noA b), e0.bs, e0.bsz, fun b _ _ => noA b, fun b z => absurd z (noA b), e0.funs, e0.frf⟩,
    rfl, e0.bare, Un.kept hk, ⟨_, x.toInCall.ns, fun i y v h1 h2 h3 => ?_⟩, fun y c h => ⟨_, x.cell y c h⟩, e0.hok.fresh (Nat.le_refl _), fun y c h => ?_, fun p hp => absurd (show p ∈ ([] : List (Addr × Obj)) from hp) (by simp), e0.hok.kept hk, ?_⟩
  · exact name_of_addr x.apart (PySem.mem_of_lookup h1) (PySem.mem_of_lookup h2)
  · have hy : scope.names.lookup y = some .cell ∨ scope.names.lookup y = some .free := hy
    rcases hy with hy | hy
    · exact cell_has hy
    · exact absurd rfl (S.nofree _ (PySem.mem_of_lookup hy))
  · exact Nat.le_of_lt (x.above y c (PySem.mem_of_lookup h))
  · have hi : i < vs.length := by
      unfold start at h2
      by_cases hi : i < vs.length
      · exact hi
      · rw [List.getElem?_append_right (by simpa using hi)] at h2
        rw [List.getElem?_replicate] at h2
        split at h2 <;> cases h2
    have ha : vs[i]? = some v := by
      unfold start at h2
      rw [List.getElem?_append_left (by simpa using hi), List.getElem?_map] at h2
      cases e : vs[i]? with
      | none => rw [e] at h2; cases h2
      | some a => rw [e] at h2; cases h2; rfl
    obtain ⟨u, hu, rv⟩ := r.get ha
    have hp : ps[i]? = some y := by
      rw [← S.pre, List.getElem?_take_of_lt (by omega)]; exact h1
    have ndP : ps.Nodup := by rw [← S.pre]; exact S.nd.sublist (List.take_sublist _ _)
    refine ⟨u, rv, ?_⟩
    rcases S.par y (List.mem_of_getElem? hp) with k | k
    · exact .inl ⟨k, bindL_get ndP hp hu k⟩
    · obtain ⟨c, e⟩ := cell_has (n := s.heap.objs.size + 1) k
      refine .inr ⟨.inl k, c, e, ?_⟩
      have q := x.cell y c e
      rw [bindC_get ndP hp hu (by show scope.names.lookup y ≠ _; rw [k]; decide)] at q
      exact q
  · exact e0.hok.fresh (Nat.le_of_lt (x.above y c (PySem.mem_of_lookup h)))
  · unfold start
    show _ = N.length
    rw [List.length_append, List.length_map, List.length_replicate]
    omega

/-- THE RULE: a def (or a method) of the text, by its body. The body's reading t is chosen for each entry; it is run at the parameters' values -/
theorem fn_of {CX : CXT} {P : Program} {w : World} {K : PySem.W.Frag} {mg : Str → Option Value} {base : Heap} {k : Nat} {f : Addr} {name qual : Str} {params : Arguments} {body : List Stmt} {scope : Scope} {dV kV doc pm cdv ct oc : Value} {an od : Option Addr}
    {osl : Array (Option Value)} {N ps : List Str} {sp : Sp} (lk : K.lookup f = some ⟨oc, od, .func (PySem.W.fnOf name qual params body scope dV kV doc pm an cdv ct), osl⟩) (hcd : PySem.W.codeIn K cdv qual = true) (S : FnScope N ps scope)
    (len : ∀ vs H Q E, sp vs H Q E → vs.length = ps.length)
    (hbody : ∀ (A : Around) (outer : List Env) (s : Shared) (H : Hp) (vs : List V) (Q : VK) (E : XK), Room k (A.deeper (envOfC qual scope s.heap.objs.size f cdv)) → sp vs H Q E →
      ∃ t, PSs (cxOf CX P w K mg base N qual scope f cdv A outer s H E) body t ∧ t { nx := fun _ H' => Q .non H', rt := Q } (start N vs) H) :
    FnOk P w K mg base CX (k + 1) f (PySem.W.fnOf name qual params body scope dV kV doc pm an cdv ct) ps sp := by
  refine ⟨len, fun A outer s H args us vs Q E hr e0 hb r hsp => ?_⟩
  have hl := len _ _ _ _ hsp
  have KX : K.In s.heap := e0.mod.kin.keeps fun b o e => (e0.bs b o e).1
  have lim : s.heap.NoLimit := e0.mod.nolimit.keeps fun b o e => (e0.bs b o e).1
  have hkind : ∀ y ∈ ps.zip us, scope.names.lookup y.1 = some .local ∨ (scope.names.lookup y.1 = some .cell ∧ ((cellsFrom (s.heap.objs.size + 1) scope.names []).lookup y.1).isSome = true) := fun ⟨n, v⟩ hy => by
    rcases S.par n (List.of_mem_zip hy).1 with q | q
    · exact .inl q
    · exact .inr ⟨q, PySem.W.cellsFrom_some _ _ _ (.inl q)⟩
  refine codeAny_call_function hr.depth (KX _ _ lk) rfl S.co S.gen rfl (PySem.W.codeRec_of KX hcd) (hb _ _ _ _ ?_)
  refine wpAny_newFunctionEnv_cells S.kind hkind fun env he s1 x => ?_
  subst he
  refine ⟨lim.keeps x.toInCall.keep, codeAny_func ?_⟩
  obtain ⟨t, ht, hq⟩ := hbody A outer s H vs Q E (hr.deeper _) hsp
  have I : Inv (cxOf CX P w K mg base N qual scope f cdv A outer s H E) [] (start N vs) H s1 := inv_start S hr.hd e0 hl r x
  refine wpAny_mono (ht [] s1 (start N vs) H _ I hq) (fun fl s' hs => ?_) fun e s' hs => hs
  have fin : ∀ {σ' : St} {H' : Hp} {v : V} {u : Value}, Inv (cxOf CX P w K mg base N qual scope f cdv A outer s H E) [] σ' H' s' → RelV v u → Q v H' → CE outer P w H s Q u s' :=
    fun {σ' H' v u} J rv q => ⟨v, H', J.os, J.bare, J.base, J.hok, rv, q⟩
  cases fl with
  | ret u =>
    obtain ⟨v, σ', H', J, rv, q⟩ := hs
    exact fin J rv q
  | next =>
    obtain ⟨σ', H', J, q⟩ := hs
    exact fin (v := V.non) (u := Value.none) J rfl q
  | brk =>
    obtain ⟨_, _, _, q⟩ := hs
    exact False.elim q
  | cont =>
    obtain ⟨_, _, _, q⟩ := hs
    exact False.elim q
end L2

namespace L2
open PySem PySem.Spec PyProof.Rows
section
variable {X : Cx} {x : Str} {p pos : Pos} {e : Expr} {es : List Expr} {t : TA} {id T : String} {r : List V → Hp → VK → Prop}

def tCB (r : List V → Hp → VK → Prop) (t : TA) : TE := fun σ H Q => t σ H fun vs H1 => r vs H1 Q
/-- f(e, ..), f a built-in function -/
theorem pe_callB (hc : CallR X (.builtin id) r) (hg : Gl X x) (hm : X.mg x = none) (hv : bootBuiltins x = some (.builtin id)) (ha : PA X (e :: es) t) (hn : x ≠ "__name__" := by decide) (hdb : (x == ("__debug__" : Str)) = false := by decide)
    (he : starEach (e :: es) X.env = (false, eval e X.env) :: starEach es X.env := by rfl) (hpl : (backTo pos (starEach es X.env)).any (·.1) = false := by rfl) : PE X (.Call (.Name x p) (e :: es) [] pos) (tCB r t) := by
  intro pins s σ H Q I h
  refine wpAny_Call_Name_kw (ld_blt I hg hm hv ?_ hn hdb)
  exact PyProof.Rows.callWith_builtin1 (thn (ha pos pins s σ H _ I h) fun us s1 ⟨vs, H1, I1, r1, q1⟩ => hc pins s1 σ H1 vs us Q I1 r1 q1) he hpl
/-- T(e, ..), T a built-in type -/
theorem pe_callTy (hc : CallR X (.type T) r) (hg : Gl X x) (hm : X.mg x = none) (hv : bootBuiltins x = some (.type T)) (ha : PA X (e :: es) t) (hn : x ≠ "__name__" := by decide) (hdb : (x == ("__debug__" : Str)) = false := by decide)
    (he : starEach (e :: es) X.env = (false, eval e X.env) :: starEach es X.env := by rfl) (hpl : (backTo pos (starEach es X.env)).any (·.1) = false := by rfl) : PE X (.Call (.Name x p) (e :: es) [] pos) (tCB r t) := by
  intro pins s σ H Q I h
  refine wpAny_Call_Name_kw (ld_blt I hg hm hv ?_ hn hdb)
  exact PyProof.Rows.callWith_type1 (thn (ha pos pins s σ H _ I h) fun us s1 ⟨vs, H1, I1, r1, q1⟩ => hc pins s1 σ H1 vs us Q I1 r1 q1) he hpl
/-- T() -/
theorem pe_callTy0 (hc : CallR X (.type T) r) (hg : Gl X x) (hm : X.mg x = none) (hv : bootBuiltins x = some (.type T)) (hn : x ≠ "__name__" := by decide) (hdb : (x == ("__debug__" : Str)) = false := by decide) :
    PE X (.Call (.Name x p) [] [] pos) (tCB r tNil) := by
  intro pins s σ H Q I h
  refine wpAny_Call_Name_kw (ld_blt I hg hm hv ?_ hn hdb)
  exact PyProof.Rows.callWith_type0 (hc pins s σ H [] [] Q I .nil h)
end
end L2

namespace HT
open PySem PyProof.Rows

/-- t < u of tuples of ints -/
def lexLt : List Int → List Int → Bool
  | [], [] => false
  | [], _ :: _ => true
  | _ :: _, [] => false
  | x :: xs, y :: ys => if x = y then lexLt xs ys else decide (x < y)
theorem lexLt_cons (x y : Int) (xs ys : List Int) : lexLt (x :: xs) (y :: ys) = if x = y then lexLt xs ys else decide (x < y) := rfl
theorem lexLt_nil_nil : lexLt [] [] = false := rfl
theorem lexLt_nil_cons (y : Int) (ys : List Int) : lexLt [] (y :: ys) = true := rfl
theorem lexLt_cons_nil (x : Int) (xs : List Int) : lexLt (x :: xs) [] = false := rfl

theorem eqAt_int (A : Around) (s : Shared) (a : Int) (t : Tok) (c : Int) (u : Tok) : ∃ e, SeqAt.EqAt A s (.int a t) (.int c u) e ∧ (e = true ↔ a = c) :=
  ⟨(a == c), SeqAt.EqAt.int_int a t c u, by simp⟩
theorem rcLt_int (A : Around) (s : Shared) (a : Int) (t : Tok) (c : Int) (u : Tok) (prog : Program) (w : World) (E : Value → Shared → Prop) (Q : Value → Shared → Prop) (h : Q (.bool (decide (a < c))) s) :
    wpAny (model prog w) A (richCompare .Lt (.int a t) (.int c u)) Q E s :=
  (PyProof.Rows.lt_int h : wpAny (model prog w) A (compareOp .Lt (.int a t) (.int c u)) Q E s)

section
open PySem.SeqAt
open PySem.AutoSeq1 (wpAny_loadPart')
open PySem.MeetsSeq PySem.MeetsSeq2 PySem.MeetsSeq3

theorem tuple_lt_ints (l b : Addr) (items items2 : Array Value) (n n2 : Nat) (dd dd2 : Option Addr) (sl sl2 : Array (Option Value)) (ns ms : List Int) (hi : IntsAre items.toList ns) (hj : IntsAre items2.toList ms) :
    Meets (Builtin.«tuple.__lt__» ⟨[.ref l, .ref b], []⟩)
      (fun _ R s => s.heap.get? l = some { cls := .type "tuple", dict := dd, data := .seq items n, slots := sl } ∧ s.heap.get? b = some { cls := .type "tuple", dict := dd2, data := .seq items2 n2, slots := sl2 } ∧
        R (.ok (.ret (.bool (lexLt ns ms)))) s) :=
  .of_wp fun prog w A R s h => by
    obtain ⟨hp, g, d, tk, os⟩ := s; obtain ⟨hl, hb, h⟩ := h
    have f2 := AutoSeq1.sub_tuple_tuple
    have z1 : items.size = ns.length := by rw [← hi.length]; simp
    have z2 : items2.size = ms.length := by rw [← hj.length]; simp
    wp_walk using wpAny_loadPart' hl, wpAny_loadPart' hb, wpAny_forIn_list _ (fun rest b s' => b.1 = none ∧ s' = ⟨hp, g, d, tk, os⟩ ∧ ∃ (vs ws : List Value) (ns' ms' : List Int), rest = vs.zip ws ∧
      IntsAre vs ns' ∧ IntsAre ws ms' ∧ ns'.length + items2.size = ms'.length + items.size ∧ R (.ok (.ret (.bool (lexLt ns' ms')))) ⟨hp, g, d, tk, os⟩) _
    case turn =>
      rintro ⟨y, x⟩ rest b s' ⟨hb', rfl, vs, ws, ns', ms', hz, hvi, hwi, hlen, hR⟩
      cases hvi with
      | nil => rw [List.zip_nil_left] at hz; cases hz
      | cons a t hvi' =>
        cases hwi with
        | nil => rw [List.zip_nil_right] at hz; cases hz
        | cons c u hwi' =>
          rw [List.zip_cons_cons] at hz
          injection hz with hyx hrest
          injection hyx with hy hx
          subst hy hx
          rw [lexLt_cons] at hR
          simp only [List.length_cons] at hlen
          obtain ⟨e, he, hiff⟩ := eqAt_int A.in1 ⟨hp, g, d, tk, os⟩ a t c u
          refine wpAny_bind (he prog w _ _ ?_)
          cases e with
          | true =>
            rw [if_pos (hiff.mp rfl)] at hR
            wp_walk
            exact ⟨rfl, rfl, _, _, _, _, hrest, hvi', hwi', by omega, hR⟩
          | false =>
            rw [if_neg (fun q => absurd (hiff.mpr q) Bool.false_ne_true)] at hR
            have hri := rcLt_int A.in1 ⟨hp, g, d, tk, os⟩ a t c u prog w
            wp_walk using hri
            exact ⟨_, rfl, by simpa using hR⟩
    case fin =>
      rintro ⟨b1, b2⟩ s' ⟨hb', rfl, vs, ws, ns', ms', hz, hvi, hwi, hlen, hR⟩
      simp only at hb'
      subst hb'
      have hv : lexLt ns' ms' = decide (items.size < items2.size) := by
        cases hvi with
        | nil =>
          cases hwi with
          | nil =>
            simp only [List.length_nil] at hlen
            rw [lexLt_nil_nil]
            exact (decide_eq_false (by omega)).symm
          | cons c u hw =>
            simp only [List.length_nil, List.length_cons] at hlen
            rw [lexLt_nil_cons]
            exact (decide_eq_true (by omega)).symm
        | cons a t hv =>
          cases hwi with
          | nil =>
            simp only [List.length_nil, List.length_cons] at hlen
            rw [lexLt_cons_nil]
            exact (decide_eq_false (by omega)).symm
          | cons c u hw =>
            rw [List.zip_cons_cons] at hz
            cases hz
      rw [hv] at hR
      wp_walk
      exact ⟨_, rfl, by simpa [Builtin.Tuple.tupleCompareSizes] using hR⟩
    case h =>
      exact ⟨rfl, rfl, items.toList, items2.toList, ns, ms, rfl, hi, hj, by omega, h⟩
end

section
variable {prog : Program} {w : World} {A : Around} {E : Value → Shared → Prop} {s : Shared}

theorem lt_tupInts {l b : Addr} {items items2 : Array Value} {ns ms : List Int} {Q : Value → Shared → Prop} (hl : IsTup s.heap l items) (hb : IsTup s.heap b items2) (hi : IntsAre items.toList ns) (hj : IntsAre items2.toList ms)
    (hu : A.units < cLine) (h : Q (.bool (lexLt ns ms)) s) : wpAny (model prog w) A (compareOp .Lt (.ref l) (.ref b)) Q E s := by
  obtain ⟨⟨cls, dd, data, sl⟩, ho, hc, n, hd⟩ := id hl
  obtain ⟨⟨cls2, dd2, data2, sl2⟩, ho2, hc2, n2, hd2⟩ := id hb
  simp only at hc hd hc2 hd2
  subst hc hd hc2 hd2
  exact richCompare_meets_room (op := .Lt) ⟨_, ho, rfl⟩ ⟨_, ho2, rfl⟩ PySem.F.slot_tuple_lt PySem.F.entry_tuple_lt (PySem.F.args_tuple_lt_2 _ _) (tuple_lt_ints l b items items2 n n2 dd dd2 sl sl2 ns ms hi hj)
    ⟨ho, ho2, show Value.bool (lexLt ns ms) ≠ Value.notImplemented ∧ Q (.bool (lexLt ns ms)) s from ⟨(fun x => nomatch x), h⟩⟩ hu

/-- t + u, t not empty -/
theorem cat_tup {t b : Addr} {vs ws : List Value} {Q : Value → Shared → Prop} (ht : IsTup s.heap t vs.toArray) (hb : IsTup s.heap b ws.toArray) (hv : vs ≠ [])
    (h1 : ws = [] → Q (.ref t) s) (h2 : ws ≠ [] → Q (.ref s.heap.objs.size) { s with heap := s.heap.push { cls := .type "tuple", data := .seq (vs ++ ws).toArray } })
    (hsz : vs.length + ws.length ≤ sizeLine) : wpAny (model prog w) A (binaryOp .Add (.ref t) (.ref b)) Q E s := by
  obtain ⟨⟨cls, dd, data, sl⟩, ho, hc, n, hd⟩ := id ht
  obtain ⟨⟨cls2, dd2, data2, sl2⟩, ho2, hc2, n2, hd2⟩ := id hb
  simp only at hc hd hc2 hd2
  subst hc hd hc2 hd2
  have e : vs.toArray ++ ws.toArray = (vs ++ ws).toArray := by simp
  by_cases hw : ws = []
  · exact concat_meets ⟨_, ho, rfl⟩ ⟨_, ho2, rfl⟩ noFill_tuple_add seq_tuple_add PySem.F.slot_tuple_add PySem.F.entry_tuple_add (PySem.F.args_tuple_add_2 _ _)
      (tuple_addW1 t b vs.toArray ws.toArray n n2 dd dd2 sl sl2 (by simpa using hv) (by simp [hw])) ⟨ho, ho2, h1 hw⟩
  · refine concat_meets ⟨_, ho, rfl⟩ ⟨_, ho2, rfl⟩ noFill_tuple_add seq_tuple_add PySem.F.slot_tuple_add PySem.F.entry_tuple_add (PySem.F.args_tuple_add_2 _ _)
      (tuple_addW2 t b vs.toArray ws.toArray n n2 dd dd2 sl sl2 (by simpa using hv) (by simpa using hw) (by rw [List.size_toArray, List.size_toArray]; exact hsz)) ⟨ho, ho2, ?_⟩
    rw [e]
    exact h2 hw

/-! ### t[a:b], not the whole -/
/-- a slice's bound as a place among n (d where it is left out) -/
def sIx (n d : Nat) : Option Int → Nat
  | none => d
  | some v => if v < 0 then (v + (n : Int)).toNat else min v.toNat n
theorem sIx_none (n d : Nat) : sIx n d none = d := rfl
theorem sIx_nat (n d k : Nat) : sIx n d (some (k : Int)) = min k n := by
  show (if (k : Int) < 0 then ((k : Int) + (n : Int)).toNat else min (k : Int).toNat n) = min k n
  rw [if_neg (by omega), Int.toNat_natCast]
theorem sIx_le (n d : Nat) (hd : d ≤ n) (o : Option Int) : sIx n d o ≤ n := by
  cases o with
  | none => exact hd
  | some v =>
    show (if v < 0 then (v + (n : Int)).toNat else min v.toNat n) ≤ n
    by_cases hv : v < 0
    · rw [if_pos hv]; omega
    · rw [if_neg hv]; exact Nat.min_le_right _ _
theorem clip_eq (v : Int) (n d : Nat) : (if v < 0 then max (v + (n : Int)) 0 else min v (n : Int)) = ((sIx n d (some v) : Nat) : Int) := by
  show (if v < 0 then max (v + (n : Int)) 0 else min v (n : Int)) = (((if v < 0 then (v + (n : Int)).toNat else min v.toNat n) : Nat) : Int)
  by_cases hv : v < 0
  · simp only [if_pos hv]; omega
  · simp only [if_neg hv]; omega
theorem adjust_gen (lo hi : Option Int) (n : Nat) : Builtin.Slice.sliceAdjust lo hi 1 (n : Int) = (((sIx n 0 lo : Nat) : Int), ((sIx n n hi : Nat) : Int)) := by
  have h1 : ¬ ((1 : Int) < 0) := by omega
  unfold Builtin.Slice.sliceAdjust
  simp only [h1, if_false]
  refine Prod.ext ?_ ?_
  · cases lo with
    | none => rfl
    | some v => exact clip_eq v n 0
  · cases hi with
    | none => rfl
    | some v => exact clip_eq v n n
theorem places_gen (i j : Nat) : Builtin.Slice.slicePlaces (i : Int) (j : Int) 1 = j - i := by
  unfold Builtin.Slice.slicePlaces
  have h1 : (1 : Int) > 0 := by omega
  simp only [h1, if_true, Int.ediv_one]
  split <;> omega
theorem slicePart_ {v : Value} {o : Option Int} {Q : Option Int → Shared → Prop} (p : IsPart v o) (h : Q o s) : wpAny (model prog w) A (Builtin.Slice.slicePartIndex v) Q E s := by
  cases p with
  | none => exact slicePart_none h
  | int i t => exact slicePart_int h
theorem sliceApplied_gen {sl : Addr} {vl vu : Value} {lo hi : Option Int} {n : Nat} {Q : Int × Int × Nat → Shared → Prop} (hs : s.heap.IsSliceOf sl vl vu .none) (pl : IsPart vl lo) (pu : IsPart vu hi)
    (h : Q (((sIx n 0 lo : Nat) : Int), 1, sIx n n hi - sIx n 0 lo) s) : wpAny (model prog w) A (Builtin.Slice.sliceApplied (.ref sl) (pure (n : Int))) Q E s := by
  obtain ⟨os, hos, hcs, hds⟩ := id hs
  unfold Builtin.Slice.sliceApplied Builtin.Slice.sliceFields
  refine wpAny_bind (wpAny_bind (wpAny_field hos hds (x := vl) rfl (wpAny_bind (wpAny_field hos hds (x := vu) rfl (wpAny_bind (wpAny_field hos hds (x := .none) rfl (wpAny_pure ?_)))))))
  refine wpAny_bind (slicePart_none ?_)
  show wpAny _ _ (if ((1 : Int) == 0) = true then _ else _) _ _ s
  rw [if_neg (by decide)]
  refine wpAny_bind (slicePart_ pl (wpAny_bind (slicePart_ pu (wpAny_bind (wpAny_pure ?_)))))
  show wpAny _ _ (match Builtin.Slice.sliceAdjust lo hi 1 (n : Int) with | (lo, hi) => pure (lo, (1 : Int), Builtin.Slice.slicePlaces lo hi 1)) _ _ s
  rw [adjust_gen lo hi n]
  show wpAny _ _ (pure (((sIx n 0 lo : Nat) : Int), (1 : Int), Builtin.Slice.slicePlaces ((sIx n 0 lo : Nat) : Int) ((sIx n n hi : Nat) : Int) 1)) _ _ s
  rw [places_gen]
  exact wpAny_pure h
theorem pick_gen (xs : Array Value) (i k : Nat) : ((List.range k).filterMap fun (m : Nat) => xs[((i : Int) + (m : Int) * 1).toNat]?).toArray = ((xs.toList.drop i).take k).toArray := by
  have e : (fun (m : Nat) => xs[((i : Int) + (m : Int) * 1).toNat]?) = fun m => xs[i + m]? := by
    funext m
    have : ((i : Int) + (m : Int) * 1).toNat = i + m := by omega
    rw [this]
  rw [e]
  have := pick_run xs i k
  rw [List.filterMap_map] at this
  have e2 : ((fun x => xs[x]?) ∘ fun x => i + x) = fun m => xs[i + m]? := rfl
  rw [e2] at this
  rw [this]

theorem getItem_tuple_cut {t sl : Addr} {items : Array Value} {vl vu : Value} {lo hi : Option Int} {Q : Value → Shared → Prop} (ht : IsTup s.heap t items) (hs : s.heap.IsSliceOf sl vl vu .none) (pl : IsPart vl lo) (pu : IsPart vu hi)
    (hw : ¬ (sIx items.size 0 lo = 0 ∧ sIx items.size items.size hi = items.size))
    (h : Q (.ref s.heap.objs.size) { s with heap := s.heap.push { cls := .type "tuple", data := .seq ((items.toList.drop (sIx items.size 0 lo)).take (sIx items.size items.size hi - sIx items.size 0 lo)).toArray } })
    (hsz : items.size ≤ sizeLine) : wpAny (model prog w) A (getItem (.ref t) (.ref sl)) Q E s := by
  have htake : sizeOk (.seq ((items.toList.drop (sIx items.size 0 lo)).take (sIx items.size items.size hi - sIx items.size 0 lo)).toArray) := by
    show ((items.toList.drop (sIx items.size 0 lo)).take (sIx items.size items.size hi - sIx items.size 0 lo)).toArray.size ≤ sizeLine
    rw [List.size_toArray, List.length_take, List.length_drop, Array.length_toList]
    omega
  have hj : sIx items.size items.size hi ≤ items.size := sIx_le _ _ (Nat.le_refl _) hi
  obtain ⟨os, hos, hcs, hds⟩ := id hs
  have hTs : s.TypeIs (.ref sl) "slice" := ⟨os, hos, hcs⟩
  unfold getItem
  try with_reducible refine wpAny_holding ?_
  first | refine wpAny_bind (wpAny_pure ?_) | skip
  refine wpAny_bind (wpAny_sequenceKey ht.typeIs (by decide) ?_)
  refine wpAny_bind (wpAny_callSpecial?_slot (name := Str.ofString "__getitem__") ht.typeIs PyProof.Rows.slot_tuple_getitem
    (wpAny_call_entry PyProof.Rows.slot_tuple_getitem ht.typeIs entry_tuple_getitem ?_ (args_tuple_getitem _ _)))
  show wpAny _ _ (Builtin.Tuple.tupleItemsOf (.ref t) >>= _) _ _ s
  refine wpAny_bind (tupleItemsOf_ ht ?_)
  refine wpAny_bind (wpAny_typeOf hTs ?_)
  rw [if_pos (by decide)]
  refine wpAny_bind (sliceApplied_gen hs pl pu ?_)
  have hno : ¬ ((((sIx items.size 0 lo : Nat) : Int) == 0 && (1 : Int) == 1 && (sIx items.size items.size hi - sIx items.size 0 lo) == items.size) = true) := by
    intro q
    rw [Bool.and_eq_true, Bool.and_eq_true] at q
    have q1 : ((sIx items.size 0 lo : Nat) : Int) = 0 := eq_of_beq q.1.1
    have q2 : sIx items.size items.size hi - sIx items.size 0 lo = items.size := eq_of_beq q.2
    exact hw ⟨by omega, by omega⟩
  show wpAny _ _ (if (((sIx items.size 0 lo : Nat) : Int) == 0 && (1 : Int) == 1 && (sIx items.size items.size hi - sIx items.size 0 lo) == items.size) = true then _ else _) _ _ s
  rw [if_neg hno, pick_gen]
  first
    | exact wpAny_bind (m := Builtin.Tuple.tupleExact _) (wpAny_newObj_type (wpAny_pure ⟨_, rfl, wpAny_pure h⟩) htake)
    | exact wpAny_bind (m := Builtin.Tuple.tupleExact _) (wpAny_newObj_type (wpAny_bind (wpAny_pure (wpAny_pure ⟨_, rfl, wpAny_pure h⟩))) htake)
    | exact wpAny_bind (wpAny_bind (m := Builtin.Tuple.tupleExact _) (wpAny_newObj_type (wpAny_pure (wpAny_pure ⟨_, rfl, wpAny_pure h⟩)) htake))
    | exact wpAny_bind (wpAny_bind (m := Builtin.Tuple.tupleExact _) (wpAny_newObj_type (wpAny_pure ⟨_, rfl, wpAny_pure h⟩) htake))
end
end HT

namespace L2
open PySem PySem.Spec PyProof.Rows

/-! ### the parts of a slice -/
abbrev TO := St → Hp → (Option Int → Hp → Prop) → Prop
/-- a slice's part (left out, or an int) -/
def PO (X : Cx) (e : Option Expr) (t : TO) : Prop :=
  ∀ (pins : List (Addr × Obj)) (s : Shared) (σ : St) (H : Hp) (Q : Option Int → Hp → Prop), Inv X pins σ H s → t σ H Q →
    wpAny (model X.prog X.w) X.A (evalPart e X.env) (fun u s' => ∃ o H', Inv X pins σ H' s' ∧ IsPart u o ∧ Q o H') X.xe s
def tNoPart : TO := fun _ H Q => Q none H
def tPart (t : TE) : TO := fun σ H Q => t σ H fun x H1 => ∃ i, x = .int i ∧ Q (some i) H1

theorem intsAre_of {ns : List Int} : ∀ {us : List Value}, Vals (ns.map V.int) us → IntsAre us ns := by
  induction ns with
  | nil => intro us r; rw [List.map_nil] at r; cases r; exact .nil
  | cons n ns ih =>
    intro us r
    rw [List.map_cons] at r
    cases r with
    | cons r1 r2 =>
      obtain ⟨t, e⟩ := r1
      subst e
      exact .cons n t (ih r2)

section
variable {X : Cx} {e : Expr} {te : TE} {lo hi : Option Expr} {tl th : TO} {pos p2 : Pos}

theorem po_none : PO X none tNoPart := by
  intro pins s σ H Q I h
  rw [evalPart_none]
  exact wpAny_pure ⟨none, H, I, .none, h⟩
theorem po_some (h : PE X e te) : PO X (some e) (tPart te) := by
  intro pins s σ H Q I hw
  rw [evalPart_some]
  refine thn (h pins s σ H _ I hw) fun u s1 ⟨x, H1, I1, r1, q1⟩ => ?_
  obtain ⟨i, rfl, q⟩ := q1
  obtain ⟨t, rfl⟩ := r1
  exact ⟨some i, H1, I1, .int i t, q⟩

/-- what a slice of a value is, by values: the slice object stands at sl -/
def SlR (X : Cx) (r : V → Option Int → Option Int → Hp → VK → Prop) : Prop :=
  ∀ (pins : List (Addr × Obj)) (s : Shared) (σ : St) (H : Hp) (x : V) (v vl vu : Value) (lo hi : Option Int) (sl : Addr) (Q : VK), Inv X pins σ H s → RelV x v → s.heap.IsSliceOf sl vl vu .none → IsPart vl lo → IsPart vu hi → r x lo hi H Q →
    ∃ T id, typeLookup (.type T) "__getitem__" = pure (some (.builtin id)) ∧ s.TypeIs v T ∧ wpAny (model X.prog X.w) X.A (getItem v (.ref sl)) (EP X pins σ Q) X.xe s
theorem SlR.or {r r' : V → Option Int → Option Int → Hp → VK → Prop} (h : SlR X r) (h' : SlR X r') : SlR X (fun x lo hi H Q => r x lo hi H Q ∨ r' x lo hi H Q) := by
  intro pins s σ H x v vl vu lo hi sl Q I rx hs pl pu q
  rcases q with q | q
  · exact h pins s σ H x v vl vu lo hi sl Q I rx hs pl pu q
  · exact h' pins s σ H x v vl vu lo hi sl Q I rx hs pl pu q
def tSl (r : V → Option Int → Option Int → Hp → VK → Prop) (te : TE) (tl th : TO) : TE := fun σ H Q => te σ H fun x H1 => tl σ H1 fun l H2 => th σ H2 fun u H3 => r x l u H3 Q
/-- a[lo:hi], any a -/
theorem pe_slice {r : V → Option Int → Option Int → Hp → VK → Prop} (hr : SlR X r) (he : PE X e te) (hl : PO X lo tl) (hu : PO X hi th) : PE X (.Subscript e (.Slice lo hi none p2) pos) (tSl r te tl th) := by
  intro pins s σ H Q I h
  refine Subscript_ (thn (he pins s σ H _ I h) fun v s1 ⟨x, H1, I1, r1, q1⟩ => ?_)
  refine wpAny_Slice (thn (hl pins s1 σ H1 _ I1 q1) fun vl s2 ⟨l, H2, I2, pl, q2⟩ => thn (hu pins s2 σ H2 _ I2 q2) fun vu s3 ⟨u, H3, I3, pu, q3⟩ => ?_)
  rw [evalPart_none]
  refine wpAny_pure ?_
  have I4 : Inv X pins σ H3 { s3 with heap := s3.heap.push { cls := .type "slice", data := .fields #[vl, vu, .none] } } := I3.kept (t' := s3.toks) fun b ob q => Heap.get?_push_of_some _ q
  obtain ⟨T, id, hT, ht, hg⟩ := hr pins { s3 with heap := s3.heap.push { cls := .type "slice", data := .fields #[vl, vu, .none] } } σ H3 x v vl vu l u s3.heap.objs.size Q I4 r1 (Heap.IsSliceOf.new ..) pl pu q3
  show wpAny (model X.prog X.w) X.A (subscriptTail e (.Slice lo hi none p2) v (.ref s3.heap.objs.size)) (EP X pins σ Q) X.xe { s3 with heap := s3.heap.push { cls := .type "slice", data := .fields #[vl, vu, .none] } }
  exact tail_any (ops := [.ref s3.heap.objs.size, v]) ht hT hg (by with_unfolding_all rfl)

/-- the items of xs[lo:hi] -/
def cutV (xs : List V) (lo hi : Option Int) : List V := (xs.drop (HT.sIx xs.length 0 lo)).take (HT.sIx xs.length xs.length hi - HT.sIx xs.length 0 lo)
theorem cutV_length (xs : List V) (lo hi : Option Int) : (cutV xs lo hi).length ≤ xs.length := by
  unfold cutV
  rw [List.length_take, List.length_drop]
  omega
/-- t[lo:hi], not the whole of it (the whole would be t itself) -/
def rSlT (K : PySem.W.Frag) : V → Option Int → Option Int → Hp → VK → Prop := fun x lo hi H Q => ∃ a xs, x = .ref a ∧ SqT K H a xs ∧
  ¬ (HT.sIx xs.length 0 lo = 0 ∧ HT.sIx xs.length xs.length hi = xs.length) ∧ ∀ p, H p = none → Q (.ref p) (upd H p (.tup (cutV xs lo hi)))
theorem sl_tup : SlR X (rSlT X.K) := by
  intro pins s σ H x v vl vu lo hi sl Q I rx hs pl pu h
  obtain ⟨a, xs, rfl, hx, hw, q⟩ := h
  cases rx
  obtain ⟨its, r, ht, hz⟩ := I.tuple hx
  have hlen : its.toArray.size = xs.length := by rw [List.size_toArray]; exact r.length.symm
  refine ⟨"tuple", _, PyProof.Rows.slot_tuple_getitem.lookup, ht.typeIs, ?_⟩
  refine HT.getItem_tuple_cut ht hs pl pu (by rw [hlen]; exact hw) ?_ (by rw [hlen]; exact hz)
  rw [hlen]
  refine ⟨.ref s.heap.objs.size, _, I.laid (t' := s.toks) (o := .tup (cutV xs lo hi)) (fun b ob q => Heap.get?_push_of_some _ q) (Nat.le_refl _) ?_, rfl, q _ (I.hok.fresh (Nat.le_refl _))⟩
  exact ⟨Nat.le_trans (cutV_length xs lo hi) hz, _, (r.drop (HT.sIx xs.length 0 lo)).take (HT.sIx xs.length xs.length hi - HT.sIx xs.length 0 lo), IsTup.new _ _⟩

/-! ### t < u, t + u -/
def rLtT (K : PySem.W.Frag) : R2 := fun x y H Q => ∃ a b ns ms, x = .ref a ∧ y = .ref b ∧ SqT K H a (ns.map V.int) ∧ SqT K H b (ms.map V.int) ∧ Q (.bl (HT.lexLt ns ms)) H
theorem op_ltT (hu : X.A.units < cLine) : OpR X (compareOp .Lt) (rLtT X.K) := by
  intro pins s σ H x y v u Q I rx ry h
  obtain ⟨a, b, ns, ms, rfl, rfl, ha, hb, q⟩ := h
  cases rx
  cases ry
  obtain ⟨its, r1, p1, _⟩ := I.tuple ha
  obtain ⟨its2, r2, p2, _⟩ := I.tuple hb
  have i1 : IntsAre its.toArray.toList ns := intsAre_of r1
  have i2 : IntsAre its2.toArray.toList ms := intsAre_of r2
  exact HT.lt_tupInts p1 p2 i1 i2 hu ⟨.bl (HT.lexLt ns ms), H, I, rfl, q⟩
/-- t + u, t not empty: u empty gives t itself -/
def rCatT (K : PySem.W.Frag) : R2 := fun x y H Q => ∃ a b xs ys, x = .ref a ∧ y = .ref b ∧ SqT K H a xs ∧ SqT K H b ys ∧ xs ≠ [] ∧ xs.length + ys.length ≤ sizeLine ∧
  (ys = [] → Q (.ref a) H) ∧ (ys ≠ [] → ∀ p, H p = none → Q (.ref p) (upd H p (.tup (xs ++ ys))))
theorem Vals.nil_iff {xs : List V} {us : List Value} (r : Vals xs us) : us = [] ↔ xs = [] := by
  cases r with
  | nil => simp
  | cons _ _ => simp
theorem op_catT : OpR X (binaryOp .Add) (rCatT X.K) := by
  intro pins s σ H x y v u Q I rx ry h
  obtain ⟨a, b, xs, ys, rfl, rfl, ha, hb, hx, hz, q1, q2⟩ := h
  cases rx
  cases ry
  obtain ⟨its, r1, p1, _⟩ := I.tuple ha
  obtain ⟨its2, r2, p2, _⟩ := I.tuple hb
  refine HT.cat_tup p1 p2 (fun z => hx (r1.nil_iff.mp z)) (fun z => ⟨.ref a, H, I, rfl, q1 (r2.nil_iff.mp z)⟩) (fun z => ?_) (by rw [← r1.length, ← r2.length]; exact hz)
  refine ⟨.ref s.heap.objs.size, _, I.laid (t' := s.toks) (o := .tup (xs ++ ys)) (fun b ob q => Heap.get?_push_of_some _ q) (Nat.le_refl _) ?_, rfl, q2 (fun w => z (r2.nil_iff.mpr w)) _ (I.hok.fresh (Nat.le_refl _))⟩
  exact ⟨by rw [List.length_append]; exact hz, _, r1.append r2, IsTup.new _ _⟩
/-- tuple(t) -/
theorem call_tupleT : CallR X (.type "tuple") (fun xs H Q => ∃ a ys, xs = [.ref a] ∧ SqT X.K H a ys ∧ Q (.ref a) H) := by
  intro pins s σ H xs us Q I r h
  obtain ⟨a, ys, rfl, ha, q⟩ := h
  obtain ⟨u, rfl, ru⟩ := vals1 r
  cases ru
  obtain ⟨its, _, p1, _⟩ := I.tuple ha
  exact call_tuple_same (items := its.toArray) p1 ⟨.ref a, H, I, rfl, q⟩
end
end L2

namespace L2
open PySem PySem.Spec PyProof.Rows

/-! ### places -/
/-- the place that an index of any sign means -/
def ixN (n : Nat) (i : Int) : Option Nat := if 0 ≤ i then (if i < n then some i.toNat else none) else if -(n : Int) ≤ i then some (i + n).toNat else none
def atI {α : Type} (xs : List α) (i : Int) : Option α := (ixN xs.length i).bind fun j => xs[j]?
theorem ixN_seq {n : Nat} {i : Int} {j : Nat} (h : ixN n i = some j) : seqIndex? i n = some j ∧ j < n ∧ -(n : Int) ≤ i ∧ i < n := by
  unfold ixN at h
  by_cases h0 : 0 ≤ i
  · rw [if_pos h0] at h
    by_cases h1 : i < n
    · rw [if_pos h1] at h
      have e : i.toNat = j := Option.some.inj h
      exact ⟨by rw [seqIndex_of h0 h1, e], by omega, by omega, h1⟩
    · rw [if_neg h1] at h; cases h
  · rw [if_neg h0] at h
    by_cases h1 : -(n : Int) ≤ i
    · rw [if_pos h1] at h
      have e : (i + n).toNat = j := Option.some.inj h
      exact ⟨by rw [seqIndex_neg (by omega) h1, e], by omega, h1, by omega⟩
    · rw [if_neg h1] at h; cases h
theorem atI_get {α : Type} {xs : List α} {i : Int} {v : α} (h : atI xs i = some v) : ∃ j, seqIndex? i xs.length = some j ∧ xs[j]? = some v ∧ j < xs.length ∧ -(xs.length : Int) ≤ i ∧ i < xs.length := by
  unfold atI at h
  cases e : ixN xs.length i with
  | none => rw [e] at h; cases h
  | some j =>
    rw [e] at h
    obtain ⟨h1, h2, h3, h4⟩ := ixN_seq e
    exact ⟨j, h1, h, h2, h3, h4⟩
theorem atI_nat {α : Type} {xs : List α} {j : Nat} {v : α} (h : xs[j]? = some v) : atI xs (j : Int) = some v := by
  have hj : j < xs.length := (List.getElem?_eq_some_iff.mp h).1
  have e : ixN xs.length (j : Int) = some j := by
    unfold ixN
    rw [if_pos (by omega), if_pos (by omega)]; simp
  unfold atI; rw [e]; exact h
theorem atI_last {α : Type} (xs : List α) (v : α) : atI (xs ++ [v]) (-1) = some v := by
  have hl : (xs ++ [v]).length = xs.length + 1 := by simp
  have e : ixN (xs ++ [v]).length (-1) = some xs.length := by
    unfold ixN
    rw [hl, if_neg (by decide), if_pos (by omega)]
    congr 1
    omega
  unfold atI
  rw [e]
  show (xs ++ [v])[xs.length]? = some v
  simp

/-! ### what may be subscripted -/
/-- what stands as an index of a plain subscript -/
def PlainIx (b : Expr) : Prop := ∀ o i, subscripted b false o i = operate [o, i] (getItem o i)
/-- a subscript by values -/
def IxR (X : Cx) (r : R2) : Prop :=
  ∀ (value slice : Expr) (pins : List (Addr × Obj)) (s : Shared) (σ : St) (H : Hp) (x y : V) (v u : Value) (Q : VK), Inv X pins σ H s → RelV x v → RelV y u → r x y H Q →
    subscripted slice false v u = operate [v, u] (getItem v u) → wpAny (model X.prog X.w) X.A (subscriptTail value slice v u) (EP X pins σ Q) X.xe s
/-- a call of a builtin's method by values: the receiver, the arguments -/
def MtR (X : Cx) (id : String) (r : V → List V → Hp → VK → Prop) : Prop :=
  ∀ (pins : List (Addr × Obj)) (s : Shared) (σ : St) (H : Hp) (x : V) (xs : List V) (v : Value) (us : List Value) (Q : VK), Inv X pins σ H s → RelV x v → Vals xs us → r x xs H Q →
    wpAny (model X.prog X.w) X.A (call (.builtin id) (v :: us)) (EP X pins σ Q) X.xe s
section
variable {X : Cx} {a b : Expr} {ta tb : TE} {pos : Pos}
theorem IxR.or {r r' : R2} (h : IxR X r) (h' : IxR X r') : IxR X (fun x y H Q => r x y H Q ∨ r' x y H Q) := by
  intro value slice pins s σ H x y v u Q I rx ry q hs
  rcases q with q | q
  · exact h value slice pins s σ H x y v u Q I rx ry q hs
  · exact h' value slice pins s σ H x y v u Q I rx ry q hs
theorem MtR.or {id : String} {r r' : V → List V → Hp → VK → Prop} (h : MtR X id r) (h' : MtR X id r') : MtR X id (fun x xs H Q => r x xs H Q ∨ r' x xs H Q) := by
  intro pins s σ H x xs v us Q I rx rs q
  rcases q with q | q
  · exact h pins s σ H x xs v us Q I rx rs q
  · exact h' pins s σ H x xs v us Q I rx rs q
/-- a[b] -/
theorem pe_ix {r : R2} (hr : IxR X r) (ha : PE X a ta) (hb : PE X b tb) (hs : PlainIx b) : PE X (.Subscript a b pos) (tOp r ta tb) := by
  intro pins s σ H Q I h
  exact Subscript_ (binT ha hb I h fun v u s2 x y H2 I2 rx ry q => hr a b pins s2 σ H2 x y v u Q I2 rx ry q (hs _ _))

def rIxL (K : PySem.W.Frag) : R2 := fun x y H Q => ∃ p xs i v, x = .ref p ∧ y = .int i ∧ SqL K H p xs ∧ atI xs i = some v ∧ Q v H
def rIxT (K : PySem.W.Frag) : R2 := fun x y H Q => ∃ p xs i v, x = .ref p ∧ y = .int i ∧ SqT K H p xs ∧ atI xs i = some v ∧ Q v H
def rIxS : R2 := fun x y H Q => ∃ z i c, x = .str z ∧ y = .int i ∧ z.length ≤ sizeLine ∧ atI z.cps.toList i = some c ∧ Q (.str ⟨#[c]⟩) H
theorem ix_list : IxR X (rIxL X.K) := by
  intro value slice pins s σ H x y v u Q I rx ry h hs
  obtain ⟨p, xs, i, z, rfl, rfl, hq, he, q⟩ := h
  cases rx
  obtain ⟨t, rfl⟩ := ry
  obtain ⟨its, r, pl, hz⟩ := I.list hq
  obtain ⟨j, h1, h2, h3, h4, h5⟩ := atI_get he
  obtain ⟨w, ew, rw'⟩ := r.get h2
  have hl := r.length
  have hn := line63
  have fin : EP X pins σ Q w s := ⟨z, H, I, rw', q⟩
  by_cases h0 : 0 ≤ i
  · have hj : i.toNat = j := by
      rw [seqIndex_of h0 h5] at h1
      exact Option.some.inj h1
    exact item_listR pl.isList h0 (by omega) (by rw [hj]; simpa using ew) fin hs
  · have hj : (i + (its.toArray.size : Int)).toNat = j := by
      rw [seqIndex_neg (by omega) h4] at h1
      rw [List.size_toArray, ← hl]
      exact Option.some.inj h1
    exact subscriptTail_builtinR (x := w) pl.isList.typeIs slot_list_getitem.lookup
      (wpAny_getItem_list_neg (Q := fun r s' => r = w ∧ EP X pins σ Q r s') pl.isList (by omega) (by rw [List.size_toArray] <;> omega) (by omega) (by rw [hj]; simpa using ew) ⟨rfl, fin⟩) hs
theorem ix_tup : IxR X (rIxT X.K) := by
  intro value slice pins s σ H x y v u Q I rx ry h hs
  obtain ⟨p, xs, i, z, rfl, rfl, hq, he, q⟩ := h
  cases rx
  obtain ⟨t, rfl⟩ := ry
  obtain ⟨its, r, pl, hz⟩ := I.tuple hq
  obtain ⟨j, h1, h2, h3, h4, h5⟩ := atI_get he
  obtain ⟨w, ew, rw'⟩ := r.get h2
  have hl := r.length
  have hn := line63
  have fin : EP X pins σ Q w s := ⟨z, H, I, rw', q⟩
  exact subscriptTail_builtinR (x := w) pl.typeIs slot_tuple_getitem.lookup
    (getItem_tuple (j := j) (Q := fun r s' => r = w ∧ EP X pins σ Q r s') pl (by omega) (by omega) (by rw [List.size_toArray, ← hl]; exact h1) (by simpa using ew) ⟨rfl, fin⟩) hs
theorem ix_str : IxR X rIxS := by
  intro value slice pins s σ H x y v u Q I rx ry h hs
  obtain ⟨z, i, c, rfl, rfl, hz, he, q⟩ := h
  obtain ⟨t, rfl⟩ := rx
  obtain ⟨t', rfl⟩ := ry
  obtain ⟨j, h1, h2, h3, h4, h5⟩ := atI_get he
  have hl : z.cps.toList.length = z.length := by simp [Str.length]
  rw [hl] at h1 h4 h5
  have hn := line63
  exact tail_any (typeIs_str s z t) slot_str_getitem.lookup (getItem_str (c := c) (by
    have e1 : decide (i < -(2 ^ 63 : Int)) = false := decide_eq_false (by omega)
    have e2 : decide (i ≥ 2 ^ 63) = false := decide_eq_false (by omega)
    rw [e1, e2, Bool.or_false]) (by rw [h1]; simpa using h2) ⟨.str ⟨#[c]⟩, H, I.tok _, ⟨_, rfl⟩, q⟩) hs
/-- list, tuple or str -/
def rIx (K : PySem.W.Frag) : R2 := fun x y H Q => rIxL K x y H Q ∨ rIxT K x y H Q ∨ rIxS x y H Q
theorem ix_seq : IxR X (rIx X.K) := ix_list.or (ix_tup.or ix_str)

/-! ### xs[i] = v, any sign -/
/-- the list's object behind a store -/
theorem mapSeq_set (its : List Value) (n j : Nat) (u : Value) : Obj.mapSeq (·.setIfInBounds j u) { cls := .type "list", data := .seq its.toArray n } = { cls := .type "list", data := .seq (its.set j u).toArray n } := by
  simp [Obj.mapSeq]
theorem Inv.lst {pins : List (Addr × Obj)} {σ : St} {H : Hp} {s : Shared} {p : Addr} {xs : List V} (I : Inv X pins σ H s) (h : H p = some (.lst xs)) :
    ∃ (its : List Value) (n : Nat), Vals xs its ∧ s.heap.get? p = some { cls := .type "list", data := .seq its.toArray n } ∧ xs.length ≤ sizeLine := by
  obtain ⟨z, its, n, r, e⟩ := I.hok p _ h
  exact ⟨its, n, r, e, z⟩
/-- the list at p is written by an update of its object -/
theorem Inv.lstUpd {pins : List (Addr × Obj)} {σ : St} {H : Hp} {s : Shared} {p : Addr} {xs ys : List V} {its its' : List Value} {n n' : Nat} {f : Obj → Obj} (I : Inv X pins σ H s) (h : H p = some (.lst xs))
    (ho : s.heap.get? p = some { cls := .type "list", data := .seq its.toArray n }) (hf : f { cls := .type "list", data := .seq its.toArray n } = { cls := .type "list", data := .seq its'.toArray n' }) (r : Vals ys its') (hz : ys.length ≤ sizeLine) (t : Nat) :
    Inv X pins σ (upd H p (.lst ys)) { s with heap := s.heap.update p f, toks := t } := by
  have e : (s.heap.update p f).get? p = some { cls := .type "list", data := .seq its'.toArray n' } := by
    rw [Heap.get?_update_self f ho (by rw [hf] <;> rfl), hf]
  refine I.write (x := p) (e := p) (by rw [h]; trivial) (.inl rfl) (fun b u hb q => (Heap.get?_update_other _ _ (Ne.symm hb)).trans q) ⟨_, e⟩ ?_
  exact ⟨hz, its', n', r, e⟩
def rSetL : V → V → V → Hp → (Hp → Prop) → Prop := fun o i v H Q => ∃ p xs k j, o = .ref p ∧ i = .int k ∧ H p = some (.lst xs) ∧ ixN xs.length k = some j ∧ Q (upd H p (.lst (xs.set j v)))
theorem set_list : PSet X rSetL := by
  intro pins s σ H o i v ov iv u Q I ro ri rv h
  obtain ⟨p, xs, k, j, rfl, rfl, hp, hj, q⟩ := h
  cases ro
  obtain ⟨t, rfl⟩ := ri
  obtain ⟨its, n, r, ho, hz⟩ := I.lst hp
  obtain ⟨h1, h2, h3, h4⟩ := ixN_seq hj
  have hl := r.length
  have hn := line63
  have I' : Inv X pins σ (upd H p (.lst (xs.set j v))) { s with heap := s.heap.update p (Obj.mapSeq (·.setIfInBounds j u)) } :=
    I.lstUpd hp ho (mapSeq_set its n j u) (r.set rv j) (by rw [List.length_set]; exact hz) s.toks
  by_cases h0 : 0 ≤ k
  · have hk : k.toNat = j := by
      rw [seqIndex_of h0 h4] at h1
      exact Option.some.inj h1
    exact PySem.W.ki_setAt ho h0 (by omega) (by rw [List.size_toArray, ← hl]; exact h4) (by rw [hk]; exact ⟨_, I', q⟩)
  · have hk : (k + (its.toArray.size : Int)).toNat = j := by
      rw [seqIndex_neg (by omega) h3] at h1
      rw [List.size_toArray, ← hl]
      exact Option.some.inj h1
    exact PySem.W.ki_setBack ho (by omega) (by rw [List.size_toArray, ← hl]; exact h3) (by omega) (by rw [hk]; exact ⟨_, I', q⟩)

/-! ### slices -/
theorem slice_bounds (lo hi : Option Int) (n : Nat) : (sliceBounds lo hi none n).1 = ((HT.sIx n 0 lo : Nat) : Int) ∧ (sliceBounds lo hi none n).2.1 = ((HT.sIx n n hi : Nat) : Int) ∧ (sliceBounds lo hi none n).2.2 = 1 := by
  refine ⟨?_, ?_, rfl⟩
  · cases lo with
    | none => simp [sliceBounds, HT.sIx]
    | some i =>
      simp only [sliceBounds, HT.sIx, Option.getD_none, show (1 : Int) > 0 by decide, if_true]
      by_cases h : i < 0
      · simp only [h, if_true] <;> omega
      · simp only [h, if_false] <;> omega
  · cases hi with
    | none => simp [sliceBounds, HT.sIx]
    | some i =>
      simp only [sliceBounds, HT.sIx, Option.getD_none, show (1 : Int) > 0 by decide, if_true]
      by_cases h : i < 0
      · simp only [h, if_true] <;> omega
      · simp only [h, if_false] <;> omega
theorem slicePick_cut (its : List Value) (lo hi : Option Int) : slicePick its.toArray lo hi none = ((its.drop (HT.sIx its.length 0 lo)).take (HT.sIx its.length its.length hi - HT.sIx its.length 0 lo)).toArray := by
  obtain ⟨h1, h2, h3⟩ := slice_bounds lo hi its.toArray.size
  unfold slicePick
  rw [h1, h2, h3]
  simp only [sliceRange_one, pick_run, List.size_toArray] <;> rfl
/-- xs[lo:hi] of a list: a new list -/
def rSlL (K : PySem.W.Frag) : V → Option Int → Option Int → Hp → VK → Prop := fun x lo hi H Q => ∃ a xs, x = .ref a ∧ SqL K H a xs ∧ ∀ p, H p = none → Q (.ref p) (upd H p (.lst (cutV xs lo hi)))
theorem sl_list : SlR X (rSlL X.K) := by
  intro pins s σ H x v vl vu lo hi sl Q I rx hs pl pu h
  obtain ⟨a, xs, rfl, hx, q⟩ := h
  cases rx
  obtain ⟨its, r, ht, hz⟩ := I.list hx
  have hlen := r.length
  refine ⟨"list", _, slot_list_getitem.lookup, ht.isList.typeIs, ?_⟩
  refine wpAny_getItem_list_slice ht.isList hs pl pu .none (by simp) ?_ (by rw [List.size_toArray] <;> omega)
  rw [slicePick_cut, ← hlen]
  refine ⟨.ref s.heap.objs.size, _, I.laid (t' := s.toks) (o := .lst (cutV xs lo hi)) (fun b ob q => Heap.get?_push_of_some _ q) (Nat.le_refl _) ?_, rfl, q _ (I.hok.fresh (Nat.le_refl _))⟩
  exact ⟨Nat.le_trans (cutV_length xs lo hi) hz, _, 0, (r.drop (HT.sIx xs.length 0 lo)).take (HT.sIx xs.length xs.length hi - HT.sIx xs.length 0 lo), Heap.get?_push_size _ rfl⟩

/-! ### in, not in: flat items -/
def flatV : V → Bool
  | .non => true
  | .bl _ => true
  | .int _ => true
  | .str _ => true
  | _ => false
/-- == of flat values -/
def eqV : V → V → Bool
  | .non, .non => true
  | .bl a, .bl b => a == b
  | .bl a, .int b => (if a then 1 else 0) == b
  | .int a, .bl b => a == (if b then 1 else 0)
  | .int a, .int b => a == b
  | .str a, .str b => a == b
  | _, _ => false
theorem eqAt_V {A : Around} {s : Shared} {y x : V} {u v : Value} (ry : RelV y u) (rx : RelV x v) (fy : flatV y = true) (fx : flatV x = true) : SeqAt.EqAt A s u v (eqV y x) := by
  cases y with
  | non =>
    cases ry
    cases x with
    | non => cases rx; exact SeqAt.EqAt.same _
    | bl b => cases rx; exact SeqAt.EqAt.none_bool b
    | int b => obtain ⟨t, rfl⟩ := rx; exact SeqAt.EqAt.none_int b t
    | str b => obtain ⟨t, rfl⟩ := rx; exact SeqAt.EqAt.none_str b t
    | _ => exact absurd (show false = true from fx) Bool.false_ne_true
  | bl a =>
    cases ry
    cases x with
    | non => cases rx; exact SeqAt.EqAt.bool_none a
    | bl b => cases rx; exact SeqAt.EqAt.bool_bool a b
    | int b => obtain ⟨t, rfl⟩ := rx; exact SeqAt.EqAt.bool_int a b t
    | str b => obtain ⟨t, rfl⟩ := rx; exact SeqAt.EqAt.bool_str a b t
    | _ => exact absurd (show false = true from fx) Bool.false_ne_true
  | int a =>
    obtain ⟨t', rfl⟩ := ry
    cases x with
    | non => cases rx; exact SeqAt.EqAt.int_none a t'
    | bl b => cases rx; exact SeqAt.EqAt.int_bool a t' b
    | int b => obtain ⟨t, rfl⟩ := rx; exact SeqAt.EqAt.int_int a t' b t
    | str b => obtain ⟨t, rfl⟩ := rx; exact SeqAt.EqAt.int_str a t' b t
    | _ => exact absurd (show false = true from fx) Bool.false_ne_true
  | str a =>
    obtain ⟨t', rfl⟩ := ry
    cases x with
    | non => cases rx; exact SeqAt.EqAt.str_none a t'
    | bl b => cases rx; exact SeqAt.EqAt.str_bool a t' b
    | int b => obtain ⟨t, rfl⟩ := rx; exact SeqAt.EqAt.str_int a t' b t
    | str b => obtain ⟨t, rfl⟩ := rx; exact SeqAt.EqAt.str_str a t' b t
    | _ => exact absurd (show false = true from fx) Bool.false_ne_true
  | _ => exact absurd (show false = true from fy) Bool.false_ne_true
/-- the items' answers, read off the values (a value's own answer does not lean on its token) -/
def eqU (x : V) (u : Value) : Bool := match u with
  | .none => eqV .non x
  | .bool b => eqV (.bl b) x
  | .int i _ => eqV (.int i) x
  | .str z _ => eqV (.str z) x
  | _ => false
theorem eqU_of {x y : V} {u : Value} (r : RelV y u) (f : flatV y = true) : eqU x u = eqV y x := by
  cases y with
  | non => cases r; rfl
  | bl b => cases r; rfl
  | int i => obtain ⟨t, rfl⟩ := r; rfl
  | str z => obtain ⟨t, rfl⟩ := r; rfl
  | _ => exact absurd (show false = true from f) Bool.false_ne_true
theorem any_eqU {x : V} : ∀ {xs : List V} {us : List Value}, Vals xs us → xs.all flatV = true → us.any (eqU x) = xs.any fun y => eqV y x
  | _, _, .nil, _ => rfl
  | y :: xs, u :: us, .cons r t, f => by
    rw [List.all_cons, Bool.and_eq_true] at f
    rw [List.any_cons, List.any_cons, eqU_of r f.1, any_eqU t f.2]
theorem mem_eqAt {A : Around} {s : Shared} {x : V} {v : Value} (rx : RelV x v) (fx : flatV x = true) : ∀ {xs : List V} {us : List Value}, Vals xs us → xs.all flatV = true → ∀ u ∈ us, SeqAt.EqAt A s u v (eqU x u)
  | _, _, .nil, _ => fun u hu => by cases hu
  | y :: xs, u :: us, .cons r t, f => fun u' hu => by
    rw [List.all_cons, Bool.and_eq_true] at f
    rcases List.mem_cons.mp hu with rfl | hu
    · rw [eqU_of r f.1]; exact eqAt_V r rx f.1 fx
    · exact mem_eqAt rx fx t f.2 u' hu
def inV (x : V) (xs : List V) : Bool := xs.any fun y => eqV y x
/-- x in a list or tuple of flat items -/
def rIn (K : PySem.W.Frag) (neg : Bool) : R2 := fun x y H Q => ∃ p xs, y = .ref p ∧ (SqL K H p xs ∨ SqT K H p xs) ∧ flatV x = true ∧ xs.all flatV = true ∧ Q (.bl (if neg then !inV x xs else inV x xs)) H
theorem op_in_seq : OpR X (compareOp .In) (rIn X.K false) := by
  intro pins s σ H x y v u Q I rx ry h
  obtain ⟨p, xs, rfl, hq, fx, fs, q⟩ := h
  cases ry
  rcases hq with hq | hq
  · obtain ⟨its, r, pl, hz⟩ := I.list hq
    refine SeqAt.in_listAt (eqU x) pl.isList (fun w hw => mem_eqAt rx fx r fs w (by simpa using hw)) ⟨.bl _, H, I, rfl, ?_⟩
    rw [show its.toArray.any (eqU x) = its.any (eqU x) by simp, any_eqU r fs]
    exact q
  · obtain ⟨its, r, pl, hz⟩ := I.tuple hq
    refine SeqAt.in_tupleAt (eqU x) pl (fun w hw => mem_eqAt rx fx r fs w (by simpa using hw)) ⟨.bl _, H, I, rfl, ?_⟩
    rw [show its.toArray.any (eqU x) = its.any (eqU x) by simp, any_eqU r fs]
    exact q
theorem op_notIn_seq : OpR X (compareOp .NotIn) (rIn X.K true) := by
  intro pins s σ H x y v u Q I rx ry h
  obtain ⟨p, xs, rfl, hq, fx, fs, q⟩ := h
  cases ry
  rcases hq with hq | hq
  · obtain ⟨its, r, pl, hz⟩ := I.list hq
    refine SeqAt.notIn_listAt (eqU x) pl.isList (fun w hw => mem_eqAt rx fx r fs w (by simpa using hw)) ⟨.bl _, H, I, rfl, ?_⟩
    rw [show its.toArray.any (eqU x) = its.any (eqU x) by simp, any_eqU r fs]
    exact q
  · obtain ⟨its, r, pl, hz⟩ := I.tuple hq
    refine SeqAt.notIn_tupleAt (eqU x) pl (fun w hw => mem_eqAt rx fx r fs w (by simpa using hw)) ⟨.bl _, H, I, rfl, ?_⟩
    rw [show its.toArray.any (eqU x) = its.any (eqU x) by simp, any_eqU r fs]
    exact q
theorem op_notIn_str : OpR X (compareOp .NotIn) (fun x y H Q => ∃ i j, x = .str i ∧ y = .str j ∧ Q (.bl (!(!(Builtin.Str.occurrences j i 0 j.length 1).isEmpty))) H) := by
  intro pins s σ H x y v u Q I rx ry h
  obtain ⟨i, j, rfl, rfl, q⟩ := h
  obtain ⟨t, rfl⟩ := rx
  obtain ⟨t', rfl⟩ := ry
  exact notIn_str ⟨.bl _, H, I, rfl, q⟩

/-! ### len, list(x), tuple(x) of any list or tuple that is read -/
theorem call_len_seq : CallR X (.builtin "len") (fun xs H Q => ∃ p ys, xs = [.ref p] ∧ (SqL X.K H p ys ∨ SqT X.K H p ys) ∧ Q (.int ys.length) H) := by
  intro pins s σ H xs us Q I r h
  obtain ⟨p, ys, rfl, hq, q⟩ := h
  obtain ⟨u, rfl, rx⟩ := vals1 r
  cases rx
  have hn := line63
  rcases hq with hq | hq
  · obtain ⟨its, r', pl, hz⟩ := I.list hq
    have hlen := r'.length
    exact Calls.call_len_list pl.isList (by simp only [List.size_toArray] <;> omega) ⟨.int ys.length, H, I.tok _, ⟨s.toks + 1, by rw [List.size_toArray, hlen]⟩, q⟩
  · obtain ⟨its, r', pl, hz⟩ := I.tuple hq
    have hlen := r'.length
    exact len_tuple pl (by simp only [List.size_toArray] <;> omega) ⟨.int ys.length, H, I.tok _, ⟨s.toks + 1, by rw [List.size_toArray, hlen]⟩, q⟩
theorem call_len_str : CallR X (.builtin "len") (fun xs H Q => ∃ z, xs = [.str z] ∧ z.length ≤ sizeLine ∧ Q (.int z.length) H) := by
  intro pins s σ H xs us Q I r h
  obtain ⟨z, rfl, hz, q⟩ := h
  obtain ⟨u, rfl, t, rfl⟩ := vals1 r
  have hn := line63
  exact len_str (by omega) ⟨.int z.length, H, I.tok _, ⟨_, rfl⟩, q⟩
theorem CallR.or {f : Value} {r r' : List V → Hp → VK → Prop} (h : CallR X f r) (h' : CallR X f r') : CallR X f (fun xs H Q => r xs H Q ∨ r' xs H Q) := by
  intro pins s σ H xs us Q I rs q
  rcases q with q | q
  · exact h pins s σ H xs us Q I rs q
  · exact h' pins s σ H xs us Q I rs q
theorem call_list_of : CallR X (.type "list") (fun xs H Q => ∃ p ys, xs = [.ref p] ∧ (SqL X.K H p ys ∨ SqT X.K H p ys) ∧ ∀ l, H l = none → Q (.ref l) (upd H l (.lst ys))) := by
  intro pins s σ H xs us Q I r h
  obtain ⟨p, ys, rfl, hq, q⟩ := h
  obtain ⟨u, rfl, rx⟩ := vals1 r
  cases rx
  have fin : ∀ (its : List Value), Vals ys its → ys.length ≤ sizeLine → ∀ (h' : Heap) (c' : Nat), (∀ b o', s.heap.get? b = some o' → h'.get? b = some o') →
      h'.get? s.heap.objs.size = some { cls := .type "list", dict := none, data := .seq its.toArray c', slots := #[] } → EP X pins σ Q (.ref s.heap.objs.size) { s with heap := h' } := fun its r' hz h' c' kp e =>
    ⟨.ref s.heap.objs.size, _, I.laid (t' := s.toks) kp (Nat.le_refl _) (show ObjOk X.prog X.w _ h' _ (.lst ys) from ⟨hz, its, c', r', e⟩), rfl, q _ (I.hok.fresh (Nat.le_refl _))⟩
  rcases hq with hq | hq
  · obtain ⟨its, r', pl, hz⟩ := I.list hq
    have hlen := r'.length
    obtain ⟨o, ho, hc, n, hd⟩ := pl.isList
    exact call_list_seq p (.inl rfl) ho hc hd (fun h' c' kp e => fin its r' hz h' c' kp e) (by simp only [List.size_toArray] <;> omega)
  · obtain ⟨its, r', pl, hz⟩ := I.tuple hq
    have hlen := r'.length
    obtain ⟨o, ho, hc, n, hd⟩ := pl
    exact call_list_seq p (.inr rfl) ho hc hd (fun h' c' kp e => fin its r' hz h' c' kp e) (by simp only [List.size_toArray] <;> omega)
theorem call_tuple_of : CallR X (.type "tuple") (fun xs H Q => ∃ p ys, xs = [.ref p] ∧ ((SqL X.K H p ys ∧ ∀ l, H l = none → Q (.ref l) (upd H l (.tup ys))) ∨ (SqT X.K H p ys ∧ Q (.ref p) H))) := by
  intro pins s σ H xs us Q I r h
  obtain ⟨p, ys, rfl, h⟩ := h
  obtain ⟨u, rfl, rx⟩ := vals1 r
  cases rx
  rcases h with ⟨hq, q⟩ | ⟨hq, q⟩
  · obtain ⟨its, r', pl, hz⟩ := I.list hq
    have hlen := r'.length
    refine call_tuple_list pl.isList (fun h' kp => ?_) (by simp only [List.size_toArray] <;> omega)
    have I1 : Inv X pins σ H { s with heap := h' } := I.kept (t' := s.toks) kp
    have I2 : Inv X pins σ (upd H h'.objs.size (.tup ys)) { s with heap := h'.push { cls := .type "tuple", data := .seq its.toArray } } :=
      I1.laid (t' := s.toks) (fun b o e => Heap.get?_push_of_some _ e) (Nat.le_refl _) (show ObjOk X.prog X.w _ _ _ (.tup ys) from ⟨hz, its, r', IsTup.new _ _⟩)
    exact ⟨.ref h'.objs.size, _, I2, rfl, q _ (I1.hok.fresh (Nat.le_refl _))⟩
  · obtain ⟨its, r', pl, hz⟩ := I.tuple hq
    exact call_tuple_same pl ⟨.ref p, H, I, rfl, q⟩

/-! ### the call of a builtin's method: o.m(..) -/
/-- the value is of that builtin type -/
def tyV (K : PySem.W.Frag) (T : String) (x : V) (H : Hp) : Prop := match x with
  | .str _ => T = "str"
  | .int _ => T = "int"
  | .ref p => (T = "list" ∧ ∃ xs, SqL K H p xs) ∨ (T = "tuple" ∧ ∃ o, K.lookup p = some o ∧ o.cls = .type "tuple" ∧ o.dict = none) ∨
      (T = "dict" ∧ ((∃ kvs, H p = some (.dK kvs)) ∨ ∃ kvs, H p = some (.dT kvs))) ∨ (T = "set" ∧ ∃ S n, H p = some (.set S n))
  | _ => False
theorem tyV_is {pins : List (Addr × Obj)} {σ : St} {H : Hp} {s : Shared} {T : String} {x : V} {v : Value} (I : Inv X pins σ H s) (r : RelV x v) (ty : tyV X.K T x H) :
    s.TypeIs v T ∧ ∀ a, v = .ref a → ∃ ob, s.heap.get? a = some ob ∧ ob.dict = none := by
  cases x with
  | str z =>
    obtain ⟨t, rfl⟩ := r
    cases (show T = "str" from ty)
    exact ⟨typeIs_str s z t, fun _ e => nomatch e⟩
  | int i =>
    obtain ⟨t, rfl⟩ := r
    cases (show T = "int" from ty)
    exact ⟨typeIs_int s i t, fun _ e => nomatch e⟩
  | ref p =>
    cases r
    rcases ty with ⟨rfl, xs, hq⟩ | ⟨rfl, o, hk, hc, hd⟩ | ⟨rfl, hk⟩ | ⟨rfl, S, n, hk⟩
    · obtain ⟨its, _, pl, _⟩ := I.list hq
      refine ⟨pl.isList.typeIs, fun a e => ?_⟩
      cases e
      obtain ⟨o, n, e, c, hd, _⟩ := pl
      exact ⟨o, e, hd⟩
    · refine ⟨⟨o, I.kIn p o hk, hc⟩, fun a e => ?_⟩
      cases e
      exact ⟨o, I.kIn _ o hk, hd⟩
    · have z : ∃ o, s.heap.get? p = some o ∧ o.ExactDict := by
        rcases hk with ⟨kvs, hk⟩ | ⟨kvs, hk⟩
        · obtain ⟨_, _, _, _, o, _, _, e, ex, _⟩ := I.hok p _ hk
          exact ⟨o, e, ex⟩
        · obtain ⟨_, _, _, _, o, _, _, e, ex, _⟩ := I.hok p _ hk
          exact ⟨o, e, ex⟩
      obtain ⟨o, e, ex⟩ := z
      refine ⟨⟨o, e, ex.1⟩, fun a e2 => ?_⟩
      cases e2
      exact ⟨o, e, ex.2.1⟩
    · obtain ⟨o, _, _, _, e, ex, _⟩ := I.hok p _ hk
      refine ⟨⟨o, e, ex.1⟩, fun a e2 => ?_⟩
      cases e2
      exact ⟨o, e, ex.2.1⟩
  | _ => exact False.elim ty
def tBM0 (K : PySem.W.Frag) (T : String) (r : V → List V → Hp → VK → Prop) (to : TE) : TE := fun σ H Q => to σ H fun x H1 => tyV K T x H1 ∧ r x [] H1 Q
def tBM (K : PySem.W.Frag) (T : String) (r : V → List V → Hp → VK → Prop) (to : TE) (t : TA) : TE := fun σ H Q => to σ H fun x H1 => tyV K T x H1 ∧ t σ H1 fun xs H2 => r x xs H2 Q
variable {o e : Expr} {es : List Expr} {to : TE} {t : TA} {name : Str} {apos cpos : Pos} {T id : String} {r : V → List V → Hp → VK → Prop}
theorem pe_bm0 (pa : PlainAttrs T) (slot : Slot T name id) (hty : typeOf (.builtin id) = pure (.type "method_descriptor")) (hm : MtR X id r) (ho : PE X o to)
    (hbase : attributeBase o name X.env (eval o X.env) = eval o X.env := by rfl) (hline : (apos.endLine == cpos.line) = true := by rfl) : PE X (.Call (.Attribute o name apos) [] [] cpos) (tBM0 X.K T r to) := by
  intro pins s σ H Q I h
  refine wpAny_Call_method0_late hbase hline (thn (ho pins s σ H _ I h) fun v s1 ⟨x, H1, I1, r1, ty, q1⟩ => ?_)
  obtain ⟨h1, h2⟩ := tyV_is I1 r1 ty
  exact ⟨T, id, pa, slot, hty, h1, h2, Calls.callWith_builtin rfl (PySem.evalArgs_none (hm pins s1 σ H1 x [] v [] Q I1 r1 .nil q1))⟩
theorem pe_bm (pa : PlainAttrs T) (slot : Slot T name id) (hty : typeOf (.builtin id) = pure (.type "method_descriptor")) (hm : MtR X id r) (ho : PE X o to) (ha : PA X (e :: es) t)
    (hbase : attributeBase o name X.env (eval o X.env) = eval o X.env := by rfl)
    (hfew : ((backTo cpos (starEach (e :: es) X.env)).all (fun x => !x.1) && (backToKw cpos (keywordEach [] X.env)).all (fun x => x.1.isSome)
      && decide ((e :: es).length + ([] : List Keyword).length + (if ([] : List Keyword).isEmpty then 0 else 1) < 30)) = true := by rfl)
    (hline : (apos.endLine == cpos.line) = true := by rfl) (hs : starEach (e :: es) X.env = (false, eval e X.env) :: starEach es X.env := by rfl) (hplain : (backTo cpos (starEach es X.env)).any (·.1) = false := by rfl) :
    PE X (.Call (.Attribute o name apos) (e :: es) [] cpos) (tBM X.K T r to t) := by
  intro pins s σ H Q I h
  refine wpAny_Call_method_late hbase hfew hline rfl (thn (ho pins s σ H _ I h) fun v s1 ⟨x, H1, I1, r1, ty, q1⟩ => ?_)
  obtain ⟨h1, h2⟩ := tyV_is I1 r1 ty
  refine ⟨T, id, pa, slot, hty, h1, h2, ?_⟩
  have hA := ha cpos pins s1 σ H1 _ I1 q1
  rw [hs] at hA ⊢
  refine Calls.callWith_builtin (by show (false || (backTo cpos (starEach es X.env)).any (·.1)) = false; rw [hplain] <;> rfl) (Calls.evalArgs_plain ?_)
  exact thn hA fun us s2 ⟨vs, H2, I2, r2, q2⟩ => hm pins s2 σ H2 x vs v us Q I2 r1 r2 q2
/- xs.append(e), list.index on a module's tuple .. are MtR facts of 06m -/
end
end L2

namespace L2
open PySem PySem.Spec PyProof.Rows

def MtM (X : Cx) (id : String) (r : V → List V → Hp → VK → Prop) : Prop :=
  ∀ (pins : List (Addr × Obj)) (s : Shared) (σ : St) (H : Hp) (x : V) (xs : List V) (v : Value) (us : List Value) (Q : VK), Inv X pins σ H s → RelV x v → Vals xs us → r x xs H Q →
    wpAny (model X.prog X.w) X.A (call (.builtin id) (v :: us)) (EP X pins σ Q) X.xe s

/-! ### lists of values -/
theorem Vals.one : ∀ {x : V} {us : List Value}, Vals [x] us → ∃ u, us = [u] ∧ RelV x u
  | _, _, .cons r .nil => ⟨_, rfl, r⟩
theorem Vals.two : ∀ {x y : V} {us : List Value}, Vals [x, y] us → ∃ u v, us = [u, v] ∧ RelV x u ∧ RelV y v
  | _, _, _, .cons r (.cons q .nil) => ⟨_, _, rfl, r, q⟩
theorem Vals.zero : ∀ {us : List Value}, Vals [] us → us = []
  | _, .nil => rfl
theorem Vals.dropLast {xs : List V} {us : List Value} (h : Vals xs us) : Vals xs.dropLast us.dropLast := by
  induction h with
  | nil => exact .nil
  | cons r t ih =>
    cases t with
    | nil => exact .nil
    | cons q t' => exact .cons r ih
theorem Vals.eraseIdx : ∀ {xs : List V} {us : List Value} (i : Nat), Vals xs us → Vals (xs.eraseIdx i) (us.eraseIdx i)
  | _, _, _, .nil => .nil
  | _, _, 0, .cons _ t => t
  | _, _, i + 1, .cons r t => .cons r (Vals.eraseIdx i t)
theorem Vals.reverse {xs : List V} {us : List Value} (h : Vals xs us) : Vals xs.reverse us.reverse := by
  induction h with
  | nil => exact .nil
  | cons r t ih => rw [List.reverse_cons, List.reverse_cons]; exact Vals.append ih (.cons r .nil)
theorem Vals.rep {xs : List V} {us : List Value} (h : Vals xs us) : ∀ k : Nat, Vals (List.replicate k xs).flatten (List.replicate k us).flatten
  | 0 => .nil
  | k + 1 => by
    rw [List.replicate_succ, List.replicate_succ, List.flatten_cons, List.flatten_cons]
    exact Vals.append h (Vals.rep h k)
theorem erase_last {α : Type} (l : List α) : l.eraseIdx (l.length - 1) = l.dropLast := by
  induction l with
  | nil => rfl
  | cons a r ih =>
    cases r with
    | nil => rfl
    | cons b r =>
      have e : (a :: b :: r).length - 1 = ((b :: r).length - 1) + 1 := by
        have h1 : (a :: b :: r).length = r.length + 2 := rfl
        have h2 : (b :: r).length = r.length + 1 := rfl
        omega
      rw [e, List.eraseIdx_cons_succ, ih]
      all_goals rfl
theorem len_erase {α : Type} : ∀ (l : List α) (i : Nat), (l.eraseIdx i).length ≤ l.length
  | [], _ => Nat.le_refl _
  | _ :: _, 0 => Nat.le_succ _
  | _ :: r, i + 1 => Nat.succ_le_succ (len_erase r i)
theorem foldl_rep (its : List Value) : ∀ (k : Nat) (acc : List Value),
    List.foldl (fun x1 x2 => x1 ++ x2) acc.toArray (List.replicate k its.toArray) = (acc ++ (List.replicate k its).flatten).toArray
  | 0, acc => by simp
  | k + 1, acc => by
    have e : acc.toArray ++ its.toArray = (acc ++ its).toArray := by simp
    have e2 : (acc ++ its) ++ (List.replicate k its).flatten = acc ++ (List.replicate (k + 1) its).flatten := by
      rw [List.replicate_succ, List.flatten_cons, List.append_assoc]
    rw [← e2, ← foldl_rep its k (acc ++ its), ← e, List.replicate_succ, List.foldl_cons]

section
variable {X : Cx} {pins : List (Addr × Obj)} {σ : St} {H : Hp} {s : Shared} {l b : Addr} {xs ys zs : List V}

/-! ### the two steps: a tracked list is rewritten, a new list is laid -/
theorem Inv.lset {its its' : List Value} {n : Nat} {f : Array Value → Array Value} {t' : Nat} (I : Inv X pins σ H s) (hH : H l = some (.lst xs))
    (e : s.heap.get? l = some { cls := .type "list", data := .seq its.toArray n }) (hf : f its.toArray = its'.toArray) (hv : Vals ys its') (hz : ys.length ≤ sizeLine) :
    Inv X pins σ (upd H l (.lst ys)) { s with heap := s.heap.update l (Obj.mapSeq f), toks := t' } := by
  have q := PySem.IsL.update e f
  rw [hf] at q
  refine I.write (x := l) (e := l) (by rw [hH]; exact trivial) (.inl rfl) (fun b' u hb hu => (Heap.get?_update_other s.heap (Obj.mapSeq f) (Ne.symm hb)).trans hu) ⟨_, q⟩ ?_
  exact ⟨hz, its', _, hv, q⟩
theorem Inv.lnew {its : List Value} {t' : Nat} (I : Inv X pins σ H s) (hv : Vals ys its) (hz : ys.length ≤ sizeLine) :
    Inv X pins σ (upd H s.heap.objs.size (.lst ys)) { s with heap := s.heap.push { cls := .type "list", data := .seq its.toArray }, toks := t' } :=
  I.laid (fun _ _ q => Heap.get?_push_of_some _ q) (Nat.le_refl _) ⟨hz, its, 0, hv, Heap.get?_push_size _ rfl⟩
theorem Inv.fresh (I : Inv X pins σ H s) : H s.heap.objs.size = none := I.hok.fresh (Nat.le_refl _)
theorem Inv.lstM (I : Inv X pins σ H s) (hH : H l = some (.lst xs)) : xs.length ≤ sizeLine ∧ ∃ (its : List Value) (n : Nat), Vals xs its ∧ xs.length = its.length ∧ s.heap.get? l = some { cls := .type "list", data := .seq its.toArray n } := by
  obtain ⟨z, its, n, r, e⟩ := I.hok l _ hH
  exact ⟨z, its, n, r, r.length, e⟩

theorem notLongL {n : Nat} (h : n ≤ sizeLine) : Builtin.List.listTooLong n = false := by
  unfold Builtin.List.listTooLong
  exact decide_eq_false (by omega)
end

section
variable {X : Cx}

/-! ### methods -/
def rAppend : V → List V → Hp → VK → Prop := fun x vs H Q => ∃ l xs y, x = .ref l ∧ vs = [y] ∧ H l = some (.lst xs) ∧ xs.length < sizeLine ∧ Q .non (upd H l (.lst (xs ++ [y])))
theorem mt_append : MtM X "list.append" rAppend := by
  intro pins s σ H x vs v us Q I rx rv h
  obtain ⟨l, xs, y, rfl, rfl, hH, hz, q⟩ := h
  cases rx
  obtain ⟨u, rfl, ru⟩ := rv.one
  obtain ⟨z, its, n, r, hl, e⟩ := I.lstM hH
  refine call_meets F.slot_list_append ⟨_, e, rfl⟩ F.entry_list_append (F.args_list_append_2 _ _) (PySem.list_append l its.toArray n u (by rw [List.size_toArray]; omega)) ⟨e, ?_⟩
  refine ⟨.non, _, I.lset (its' := its ++ [u]) hH e (by simp) (r.append (.cons ru .nil)) ?_, rfl, q⟩
  rw [List.length_append, List.length_singleton]
  omega

def rExtend : V → List V → Hp → VK → Prop := fun x vs H Q => ∃ l b xs zs, x = .ref l ∧ vs = [.ref b] ∧ H l = some (.lst xs) ∧ H b = some (.lst zs) ∧ xs.length + zs.length ≤ sizeLine ∧ Q .non (upd H l (.lst (xs ++ zs)))
theorem mt_extend : MtM X "list.extend" rExtend := by
  intro pins s σ H x vs v us Q I rx rv h
  obtain ⟨l, b, xs, zs, rfl, rfl, hH, hB, hz, q⟩ := h
  cases rx
  obtain ⟨u, rfl, ru⟩ := rv.one
  cases ru
  obtain ⟨z, its, n, r, hl, e⟩ := I.lstM hH
  obtain ⟨z2, its2, n2, r2, hl2, e2⟩ := I.lstM hB
  have hsz : its.toArray.size + its2.toArray.size ≤ sizeLine := by rw [List.size_toArray, List.size_toArray]; omega
  have hlong : ¬ (!its.toArray.isEmpty && Builtin.List.listTooLong (its.toArray.size + its2.toArray.size)) = true := by
    rw [notLongL hsz, Bool.and_false]
    exact Bool.false_ne_true
  refine call_meets F.slot_list_extend ⟨_, e, rfl⟩ F.entry_list_extend (F.args_list_extend_2 _ _)
    (AutoSeq1.list_extend_list_list_0 l its.toArray n b its2.toArray n2 hlong (by rw [List.size_toArray]; omega) (by omega)) ⟨e, e2, ?_⟩
  refine ⟨.non, _, I.lset (its' := its ++ its2) hH e (by simp) (r.append r2) ?_, rfl, q⟩
  rw [List.length_append]
  omega

def rPop : V → List V → Hp → VK → Prop := fun x vs H Q => ∃ l xs y, x = .ref l ∧ vs = [] ∧ H l = some (.lst xs) ∧ xs[xs.length - 1]? = some y ∧ Q y (upd H l (.lst xs.dropLast))
theorem mt_pop : MtM X "list.pop" rPop := by
  intro pins s σ H x vs v us Q I rx rv h
  obtain ⟨l, xs, y, rfl, rfl, hH, hy, q⟩ := h
  cases rx
  have hus := rv.zero
  subst hus
  obtain ⟨z, its, n, r, hl, e⟩ := I.lstM hH
  obtain ⟨u, hu, ru⟩ := r.get hy
  have hy' : its.toArray[its.toArray.size - 1]? = some u := by
    show its.toArray[its.length - 1]? = some u
    rw [← Array.getElem?_toList, ← hl]
    exact hu
  refine call_meets F.slot_list_pop ⟨_, e, rfl⟩ F.entry_list_pop (F.args_list_pop_1 _) (MeetsSeq.list_pop_last l its.toArray n u hy' (by rw [List.size_toArray]; omega)) ⟨e, ?_⟩
  refine ⟨y, _, I.lset (its' := its.dropLast) hH e ?_ r.dropLast ?_, ru, q⟩
  · show its.toArray.eraseIdxIfInBounds (its.toArray.size - 1) = its.dropLast.toArray
    rw [List.size_toArray, List.eraseIdxIfInBounds_toArray, erase_last]
  · rw [List.length_dropLast]
    omega

def rPopAt : V → List V → Hp → VK → Prop := fun x vs H Q => ∃ l xs i k y, x = .ref l ∧ vs = [.int i] ∧ H l = some (.lst xs) ∧ -(2 ^ 63) ≤ i ∧ i < 2 ^ 63 ∧ seqIndex? i xs.length = some k ∧ xs[k]? = some y ∧ Q y (upd H l (.lst (xs.eraseIdx k)))
theorem mt_popAt : MtM X "list.pop" rPopAt := by
  intro pins s σ H x vs v us Q I rx rv h
  obtain ⟨l, xs, i, k, y, rfl, rfl, hH, h1, h2, hk, hy, q⟩ := h
  cases rx
  obtain ⟨u, rfl, ru⟩ := rv.one
  obtain ⟨t, rfl⟩ := ru
  obtain ⟨z, its, n, r, hl, e⟩ := I.lstM hH
  obtain ⟨w, hw, rw'⟩ := r.get hy
  refine call_meets F.slot_list_pop ⟨_, e, rfl⟩ F.entry_list_pop (F.args_list_pop_2 _ _)
    (MeetsSeq.list_pop_at l its.toArray n i t k w (fitsIndex_both h1 h2) (by rw [List.size_toArray, ← hl]; exact hk) (by rw [← Array.getElem?_toList]; exact hw) (by rw [List.size_toArray]; omega)) ⟨e, ?_⟩
  refine ⟨y, _, I.lset (its' := its.eraseIdx k) hH e ?_ (r.eraseIdx k) ?_, rw', q⟩
  · show its.toArray.eraseIdxIfInBounds k = (its.eraseIdx k).toArray
    rw [List.eraseIdxIfInBounds_toArray]
  · have := len_erase xs k
    omega

def rReverse : V → List V → Hp → VK → Prop := fun x vs H Q => ∃ l xs, x = .ref l ∧ vs = [] ∧ H l = some (.lst xs) ∧ Q .non (upd H l (.lst xs.reverse))
theorem mt_reverse : MtM X "list.reverse" rReverse := by
  intro pins s σ H x vs v us Q I rx rv h
  obtain ⟨l, xs, rfl, rfl, hH, q⟩ := h
  cases rx
  have hus := rv.zero
  subst hus
  obtain ⟨z, its, n, r, hl, e⟩ := I.lstM hH
  refine call_meets F.slot_list_reverse ⟨_, e, rfl⟩ F.entry_list_reverse (F.args_list_reverse_1 _) (AutoSeq1.list_reverse_list_0 l its.toArray n (by rw [List.size_toArray]; omega)) ⟨e, ?_⟩
  refine ⟨.non, _, I.lset (its' := its.reverse) hH e (by simp) r.reverse ?_, rfl, q⟩
  rw [List.length_reverse]
  omega

def rClear : V → List V → Hp → VK → Prop := fun x vs H Q => ∃ l xs, x = .ref l ∧ vs = [] ∧ H l = some (.lst xs) ∧ Q .non (upd H l (.lst []))
theorem mt_clear : MtM X "list.clear" rClear := by
  intro pins s σ H x vs v us Q I rx rv h
  obtain ⟨l, xs, rfl, rfl, hH, q⟩ := h
  cases rx
  have hus := rv.zero
  subst hus
  obtain ⟨z, its, n, r, hl, e⟩ := I.lstM hH
  refine call_meets F.slot_list_clear ⟨_, e, rfl⟩ F.entry_list_clear (F.args_list_clear_1 _) (AutoSeq1.list_clear_list_0 l its.toArray n (by rw [List.size_toArray]; omega)) ⟨e, ?_⟩
  exact ⟨.non, _, I.lset (its' := []) (ys := []) hH e rfl .nil (Nat.zero_le _), rfl, q⟩

/-! ### list + list, list += list, list * int -/
def rCat : R2 := fun x y H Q => ∃ l b xs zs, x = .ref l ∧ y = .ref b ∧ H l = some (.lst xs) ∧ H b = some (.lst zs) ∧ xs.length + zs.length ≤ sizeLine ∧ ∀ p, H p = none → Q (.ref p) (upd H p (.lst (xs ++ zs)))
theorem op_cat : OpR X (binaryOp .Add) rCat := by
  intro pins s σ H x y v u Q I rx ry h
  obtain ⟨l, b, xs, zs, rfl, rfl, hH, hB, hz, q⟩ := h
  cases rx
  cases ry
  obtain ⟨z, its, n, r, hl, e⟩ := I.lstM hH
  obtain ⟨z2, its2, n2, r2, hl2, e2⟩ := I.lstM hB
  refine PySem.P.add_list e e2 ?_ (by rw [List.size_toArray, List.size_toArray]; omega)
  have ea : its.toArray ++ its2.toArray = (its ++ its2).toArray := by simp
  rw [ea]
  exact ⟨.ref _, _, I.lnew (t' := s.toks) (r.append r2) (by rw [List.length_append]; omega), rfl, q _ I.fresh⟩
/-- a list times an int (a negative one is nothing) -/
def rRep : R2 := fun x y H Q => ∃ l k xs, x = .ref l ∧ y = .int k ∧ H l = some (.lst xs) ∧ -(2 ^ 63) ≤ k ∧ k < 2 ^ 63 ∧ xs.length * k.toNat ≤ sizeLine ∧
  ∀ p, H p = none → Q (.ref p) (upd H p (.lst (List.replicate k.toNat xs).flatten))
theorem len_rep {α : Type} (xs : List α) (k : Nat) : (List.replicate k xs).flatten.length = k * xs.length := by
  induction k with
  | zero => simp
  | succ k ih => rw [List.replicate_succ, List.flatten_cons, List.length_append, ih, Nat.succ_mul, Nat.add_comm]
theorem op_rep : OpR X (binaryOp .Mult) rRep := by
  intro pins s σ H x y v u Q I rx ry h
  obtain ⟨l, k, xs, rfl, rfl, hH, h1, h2, hz, q⟩ := h
  cases rx
  obtain ⟨t, rfl⟩ := ry
  obtain ⟨z, its, n, r, hl, e⟩ := I.lstM hH
  have hlen : its.toArray.size * k.toNat ≤ sizeLine := by rw [List.size_toArray, ← hl]; exact hz
  have hcap : ¬ its.toArray.size * k.toNat > (2 ^ 63 - 1) / 8 := by
    have : (sizeLine : Nat) ≤ (2 ^ 63 - 1) / 8 := by decide
    omega
  have hfit : ¬ (!Builtin.List.listFitsIndex k) = true := by
    rw [fitsIndex_both h1 h2]
    exact Bool.false_ne_true
  have hlong : ¬ Builtin.List.listTooLong (its.toArray.size * k.toNat) = true := by
    rw [notLongL hlen]
    exact Bool.false_ne_true
  have hnew : List.foldl (fun x1 x2 => x1 ++ x2) #[] (List.replicate (if its.toArray.isEmpty = true then 0 else k.toNat) its.toArray) = (List.replicate k.toNat its).flatten.toArray := by
    have f0 : ∀ m : Nat, List.foldl (fun x1 x2 => x1 ++ x2) #[] (List.replicate m its.toArray) = (List.replicate m its).flatten.toArray := fun m => by
      have := foldl_rep its m []
      rw [List.nil_append] at this
      exact this
    rw [f0]
    cases its with
    | nil => simp
    | cons a r' => rw [if_neg (by simp)]
  refine wpAny_binaryOp_repeat_ref (T := "list") (U := "int") (by decide) ⟨_, e, rfl⟩ (fun s' => typeIs_int s' k t) noFill_list_mul F.fills_int_mul F.slot_int_rmul repeat_list F.slot_int_index.lookup
    (call_meets F.slot_int_rmul (typeIs_int s k t) F.entry_int_rmul (F.args_int_rmul_2 _ _) (int___rmul___int_list k t l its.toArray n)
      ⟨e, rfl, ⟨_, e, rfl⟩, call_meets F.slot_list_mul ⟨_, e, rfl⟩ F.entry_list_mul (F.args_list_mul_2 _ _) (AutoListH.list___mul___list_int_3 l its.toArray n k t hfit hcap hlong) ⟨e, ?_⟩⟩)
  rw [hnew]
  exact ⟨.ref _, _, I.lnew (t' := s.toks) (r.rep k.toNat) (by rw [len_rep, Nat.mul_comm]; exact hz), rfl, q _ I.fresh⟩

/-! ### del xs[i] -/
theorem del_list {pins : List (Addr × Obj)} {s : Shared} {σ : St} {H : Hp} {l : Addr} {xs : List V} {i : Int} {t : Tok} {k : Nat} {Q : Unit → Shared → Prop} (I : Inv X pins σ H s) (hH : H l = some (.lst xs))
    (h1 : -(2 ^ 63) ≤ i) (h2 : i < 2 ^ 63) (hk : seqIndex? i xs.length = some k) (h : ∀ s', Inv X pins σ (upd H l (.lst (xs.eraseIdx k))) s' → Q () s') :
    wpAny (model X.prog X.w) X.A (delItem (.ref l) (.int i t)) Q X.xe s := by
  obtain ⟨z, its, n, r, hl, e⟩ := I.lstM hH
  refine PySem.P.delItem_list (k := k) e (fitsIndex_both h1 h2) (by rw [List.size_toArray, ← hl]; exact hk) (h _ ?_) (by rw [List.size_toArray]; omega)
  refine I.lset (its' := its.eraseIdx k) (t' := s.toks) hH e ?_ (r.eraseIdx k) ?_
  · show its.toArray.eraseIdxIfInBounds k = (its.eraseIdx k).toArray
    rw [List.eraseIdxIfInBounds_toArray]
  · have := len_erase xs k
    omega
end

/-! ### xs[a:b] = ys -/
section
variable {prog : Program} {w : World} {A : Around} {E : Value → Shared → Prop} {s : Shared}
theorem splice_eq (its its2 : List Value) (a c : Nat) : its.toArray.extract 0 a ++ its2.toArray ++ its.toArray.extract c its.toArray.size = (its.take a ++ its2 ++ its.drop c).toArray := by
  apply Array.toList_inj.mp
  first
    | (simp
       exact List.take_of_length_le (by simp))
    | simp [List.take_of_length_le]
    | simp
theorem bounds_run {a c n : Nat} (hac : a ≤ c) (hc : c ≤ n) : sliceBounds (some (a : Int)) (some (c : Int)) none n = ((a : Int), (c : Int), 1) := by
  simp only [sliceBounds, Option.getD_none]
  have h1 : ¬ ((a : Int) < 0) := by omega
  have h2 : ¬ ((c : Int) < 0) := by omega
  simp only [h1, h2, if_false, show (1 : Int) > 0 by decide, if_true]
  congr 1
  · omega
  · congr 1; omega
set_option maxRecDepth 100000 in
/-- list.__setitem__ with a slice of step one and another list -/
theorem setItem_slice {l b sl : Addr} {items new : Array Value} {n n2 : Nat} {vl vu : Value} {a c : Nat} {Q : Unit → Shared → Prop}
    (e : s.heap.get? l = some { cls := .type "list", data := .seq items n }) (e2 : s.heap.get? b = some { cls := .type "list", data := .seq new n2 }) (hne : l ≠ b)
    (hs : s.heap.IsSliceOf sl vl vu .none) (pl : IsPart vl (some (a : Int))) (pu : IsPart vu (some (c : Int))) (hac : a ≤ c) (hc : c ≤ items.size)
    (hsz : items.size + new.size ≤ sizeLine) (h : Q () { s with heap := s.heap.update l (Obj.mapSeq fun xs => xs.extract 0 a ++ new ++ xs.extract c xs.size) }) :
    wpAny (model prog w) A (setItem (.ref l) (.ref sl) (.ref b)) Q E s := by
  have hl : s.heap.IsList l items := PySem.IsL.isList e
  have hb : s.heap.IsList b new := PySem.IsL.isList e2
  obtain ⟨os, hos, hcs, hds⟩ := id hs
  have hTs : s.TypeIs (.ref sl) "slice" := ⟨os, hos, hcs⟩
  have hstep : ¬ ((rawPart none == rawInt 0) = true) := Bool.false_ne_true
  have hsame : Builtin.List.listSameRef (.ref l) (.ref b) = false := by
    unfold Builtin.List.listSameRef
    exact beq_eq_false_iff_ne.mpr hne
  have hmax : (max (a : Int) (c : Int)).toNat = c := by omega
  have hz' : ((fun xs : Array Value => xs.extract 0 a ++ new ++ xs.extract c xs.size) items).size ≤ sizeLine + 1 := by
    simp only [Array.size_append, Array.size_extract]
    omega
  unfold setItem
  try with_reducible refine wpAny_holding ?_
  first | refine wpAny_bind (wpAny_pure ?_) | skip
  refine wpAny_bind (wpAny_sequenceKey hl.typeIs (by decide) ?_)
  refine wpAny_bind (wpAny_callSpecial?_slot (name := Str.ofString "__setitem__") hl.typeIs slot_list_setitem
    (wpAny_call_entry slot_list_setitem hl.typeIs entry_list_setitem ?_ (args_list_setitem _ _ _)))
  show wpAny _ _ (Builtin.List.listSubscript? (.ref sl) >>= _) _ _ s
  refine wpAny_bind ?_
  unfold Builtin.List.listSubscript?
  refine wpAny_bind (wpAny_specialOf hTs slice_no_index ?_)
  simp only [Option.isNone_none, if_true]
  refine wpAny_pure ?_
  show wpAny _ _ (typeOf (.ref sl) >>= _) _ _ s
  refine wpAny_bind (wpAny_typeOf hTs ?_)
  first
    | rw [if_neg (by decide)]
    | refine PySem.W.KFB.if_not (by decide) ?_
  rw [listSliceParts_eq]
  refine wpAny_bind (wpAny_bind (wpAny_field hos hds (x := .none) rfl (wpAny_bind (wpAny_listPart .none ?_))))
  rw [if_neg hstep]
  refine wpAny_bind (wpAny_field hos hds (x := vl) rfl (wpAny_bind (wpAny_listPart pl ?_)))
  refine wpAny_bind (wpAny_field hos hds (x := vu) rfl (wpAny_bind (wpAny_listPart pu (wpAny_pure ?_))))
  first
    | simp only [hsame, Bool.false_eq_true, if_false]
    | refine PySem.W.KFB.if_not hsame ?_
    | (dsimp only
       rw [if_neg (by rw [hsame]; exact Bool.false_ne_true)])
  refine wpAny_bind (m := Builtin.List.listAllItems (.ref b) "must assign iterable to extended slice") ?_
  unfold Builtin.List.listAllItems
  refine wpAny_bind (wpAny_typeOf hb.typeIs ?_)
  first
    | refine PySem.W.KFB.if_so (by decide) ?_
    | rw [if_pos (by decide)]
    | simp only [beq_self_eq_true, Bool.true_or, if_true]
  unfold Builtin.List.listItems
  refine wpAny_bind (wpAny_seqItems e2 rfl (wpAny_pure ?_))
  refine wpAny_bind (wpAny_bind (wpAny_seqItems e rfl (wpAny_pure ?_)))
  refine wpAny_bind (wpAny_of_eq ((sliceIndices_raw (some (a : Int)) (some (c : Int)) none items.size (by simp)).trans (congrArg (pure : Int × Int × Int → Sem (Int × Int × Int)) (bounds_run hac hc))) ?_)
  show wpAny _ _ (if ((1 : Int) == 1) = true then _ else _) _ _ s
  rw [if_pos (by decide)]
  refine wpAny_bind (wpAny_rule ?_)
  first
    | simp only [notLongL hsz, Bool.false_eq_true, if_false]
    | refine PySem.W.KFB.if_not (notLongL hsz) ?_
  first | refine wpAny_bind (wpAny_pure ?_) | skip
  show wpAny _ _ (updateSeq l (fun xs => xs.extract 0 ((a : Int)).toNat ++ new ++ xs.extract (max (a : Int) (c : Int)).toNat xs.size) >>= _) _ _ s
  rw [hmax, Int.toNat_natCast]
  refine wpAny_bind (wpAny_updateSeq (hz := Nat.le_trans (Nat.le_add_right _ _) hsz) (_hz' := hz') e rfl ?_)
  refine wpAny_bind (wpAny_letGo ?_)
  first
    | exact wpAny_bind (wpAny_pure (wpAny_pure ⟨.none, rfl, wpAny_pure h⟩))
    | exact wpAny_pure ⟨.none, rfl, wpAny_pure h⟩
end

section
variable {X : Cx}
/-- xs[a:c] = ys of another list, at the value level: sl is the slice object that was just made -/
theorem set_slice {pins : List (Addr × Obj)} {s : Shared} {σ : St} {H : Hp} {l b sl : Addr} {xs ys : List V} {a c : Int} {vl vu : Value} {Q : Unit → Shared → Prop} (I : Inv X pins σ H s)
    (hH : H l = some (.lst xs)) (hB : H b = some (.lst ys)) (hne : l ≠ b) (hs : s.heap.IsSliceOf sl vl vu .none) (ra : RelV (.int a) vl) (rc : RelV (.int c) vu) (h0 : 0 ≤ a) (hac : a ≤ c) (hc : c ≤ xs.length)
    (hz : xs.length + ys.length ≤ sizeLine) (h : ∀ s', Inv X pins σ (upd H l (.lst (xs.take a.toNat ++ ys ++ xs.drop c.toNat))) s' → Q () s') :
    wpAny (model X.prog X.w) X.A (setItem (.ref l) (.ref sl) (.ref b)) Q X.xe s := by
  obtain ⟨ta, rfl⟩ := ra
  obtain ⟨tc, rfl⟩ := rc
  obtain ⟨z, its, n, r, hl, e⟩ := I.lstM hH
  obtain ⟨z2, its2, n2, r2, hl2, e2⟩ := I.lstM hB
  obtain ⟨a', rfl⟩ := Int.eq_ofNat_of_zero_le h0
  obtain ⟨c', rfl⟩ := Int.eq_ofNat_of_zero_le (Int.le_trans h0 hac)
  simp only [Int.toNat_natCast] at h
  refine setItem_slice (a := a') (c := c') e e2 hne hs (.int _ _) (.int _ _) (by omega) (by rw [List.size_toArray]; omega) (by rw [List.size_toArray, List.size_toArray]; omega) (h _ ?_)
  refine I.lset (its' := its.take a' ++ its2 ++ its.drop c') (t' := s.toks) hH e ?_ (Vals.append (Vals.append (r.take _) r2) (r.drop _)) ?_
  · exact splice_eq its its2 a' c'
  · rw [List.length_append, List.length_append, List.length_take, List.length_drop]
    omega
end
end L2

namespace Att
open PySem PySem.W PySem.Calls PyProof.Rows

/-! ### the script -/
theorem ints_of_wellAll {P : Params} {h : Heap} : ∀ (ns : List Int) (vs : List Value), WellAll P h vs (ns.map WData.int) → IntsAre vs ns := by
  intro ns
  induction ns with
  | nil =>
    intro vs w
    rw [List.map_nil] at w
    cases w
    exact .nil
  | cons n ns ih =>
    intro vs w
    rw [List.map_cons] at w
    cases w with
    | cons a b =>
      cases a
      exact .cons _ _ (ih _ b)

theorem script_of {l : OpenLaw} {n : Nat} (hn : l.most = some n) {P : Params} {h : Heap} {args : List WData} {vals : List Value}
    (hpre : l.row.toRowW.claim.pre args = true) (hwl : WellAll P h vals args) :
    ∃ a vs ns, vals = [Value.ref a] ∧ args = [WData.list (ns.map WData.int)] ∧ h.get? a = some { cls := .type "list", data := .seq vs.toArray } ∧ IntsAre vs ns ∧ ns.length ≤ n := by
  have hsh : WShape.hasAll [] args [.list .int] = true := (pre_splitW hpre).1
  have hc : l.pre.holds [] { args := args } = true := (pre_splitW hpre).2
  obtain ⟨d, r, rfl, h1, h2⟩ := hasAllW_cons hsh
  obtain rfl := hasAllW_nil h2
  obtain ⟨xs, rfl, h3⟩ := hasW_list h1
  obtain ⟨ns, rfl⟩ := items_int h3
  have hlen : ns.length ≤ n := by
    unfold OpenLaw.pre at hc
    have h4 : (WTm.not (.lt (.lit (.int (n : Int))) (.len (.arg 0)))).holds [] { args := [.list (ns.map .int)] } = true := by
      have h4 := (holds_andW hc).1
      rw [hn] at h4
      exact h4
    have h5 := condW_of h4 (w_not (w_lt w_lit (w_len_list (w_arg rfl))))
    rw [List.length_map] at h5
    refine Nat.le_of_not_lt fun q => ?_
    have q' : (n : Int) < ((ns.length : Nat) : Int) := by omega
    first
      | (rw [decide_eq_true q'] at h5; exact absurd h5 (by decide))
      | (simp at h5; omega)
  cases hwl with
  | cons w1 w2 =>
    cases w2
    cases w1 with
    | list ho hall => exact ⟨_, _, ns, rfl, rfl, ho, ints_of_wellAll ns _ hall, hlen⟩

theorem post_true (l : OpenLaw) (args : List WData) : l.row.toRowW.claim.post args (.bool true) args = true :=
  postW_of (r := l.row.toRowW) (X := (true == true))
    (show WShape.has [] (.bool true) .bool = true by first | rfl | decide | simp [WShape.has, WShape.arms, WShape.armsAll])
    (show (WTm.eq .res (.lit (.bool true))).value [] { args := args, res := some (.bool true), after := args } = some (.bool (true == true)) from w_eq_bool (w_res rfl) w_lit) rfl

/-! ### the attachment: holds_open's last premise (the goal 'hc' behind k_head) from a wpAny of the law's body -/
theorem attach {l : OpenLaw} {n : Nat} {q : Program} {loose : List Str} {XP : (Str → Option Value) → Heap → Prop} {YP : World → Heap → Prop} {d : DefRec} {x : Str}
    (hn : l.most = some n) (hdf : d.params.defaults = [])
    (hbind : ∀ pm cd doc v : Value, bindArgs (docDef d.name d.params d.body d.scope pm cd doc) ⟨[v], []⟩ = pure [(x, v)])
    (hx : d.scope.names.lookup x = some .local ∨ d.scope.names.lookup x = some .cell)
    (hk : d.scope.kind = .function) (hco : d.scope.isCoroutine = false) (hgen : d.scope.isGenerator = false)
    (body : ∀ (w : World) (s₀ s₁ s : Shared) (mg mb : Str → Option Value) (fa : Addr) (o : Obj) (pm cd doc : Value) (a : Addr) (vs : List Value) (ns : List Int),
      Ground q loose [] XP w s₀ mg mb s₁.heap → YP w s₁.heap →
      s₁.heap.get? fa = some o → o.data = .func (docDef d.name d.params d.body d.scope pm cd doc) → s₁.heap.CodeRec cd d.name → mg d.name = some (.ref fa) →
      s₁.heap.get? a = some { cls := .type "list", data := .seq vs.toArray } → IntsAre vs ns → ns.length ≤ n →
      s.gens = #[] → s.os = s₁.os →
      Fr s₁.heap s₁.heap.objs.size s.heap (bindL (envOfC d.name d.scope s₁.heap.objs.size fa cd).kindOf [(x, .ref a)] fun _ => none) →
      Cl s₁.heap.objs.size (cellsFrom (s₁.heap.objs.size + 1) d.scope.names []) s.heap (bindC (envOfC d.name d.scope s₁.heap.objs.size fa cd).kindOf [(x, .ref a)] fun _ => none) →
      wpAny (model l.prog w) (callerA.deeper (envOfC d.name d.scope s₁.heap.objs.size fa cd)) (execs d.body (envOfC d.name d.scope s₁.heap.objs.size fa cd))
        (fun f s' => f = .ret (.bool true) ∧ OldK s₁.heap s'.heap ∧ s'.os = s₁.os ∧ AllBare s'.gens) (fun _ _ => False) s) :
    WalkO q loose XP YP l.row.toRowW d [] (fun f vs => PySem.call f vs) := by
  intro w s₀ s₁ mg mb G Y fa o pm cd doc dV kV ho hd hcd hD hmg hg args vals as hpre hlay hrd hwl hlo
  obtain rfl : dV = .none := Dflts.none hD hdf
  obtain rfl : kV = .none := Dflts.noKw hD
  obtain ⟨a, vs, ns, rfl, rfl, hobj, hints, hlen⟩ := script_of hn hpre hwl
  refine enter_call ?_
  refine call_cells_ret (o := o) (by rw [depth_caller]; decide) ho (fd_plain hd) G.T.nolimit hcd (hbind pm cd doc (.ref a)) (fun y hy => ?_) (fun h₁ tk F X => ?_) hco hgen hk
  · obtain rfl : y = (x, Value.ref a) := List.mem_singleton.mp hy
    rcases hx with e | e
    · exact .inl e
    · exact .inr ⟨e, cellsFrom_some _ _ _ (.inl e)⟩
  · refine wpAny_mono (body w s₀ s₁ { s₁ with heap := h₁, toks := tk } mg mb fa o pm cd doc a vs ns G Y ho (fd_plain hd) hcd hmg hobj hints hlen hg rfl F X) (fun f s' hq => ?_) (fun _ _ hq => hq)
    obtain ⟨rfl, h2, h3, h4⟩ := hq
    exact ⟨.inl ⟨.bool true, .bool true, [], rfl, fun _ => rfl, .bool true, post_true l _, fun _ => ⟨List.Pairwise.nil, fun _ hm => (nomatch hm)⟩⟩, h2, h3, h4⟩

/-- the same from a codeAny of the CALL (for a layer whose function contracts speak of calls) -/
theorem attach_call {l : OpenLaw} {n : Nat} {q : Program} {loose : List Str} {XP : (Str → Option Value) → Heap → Prop} {YP : World → Heap → Prop} {d : DefRec}
    (hn : l.most = some n) (hdf : d.params.defaults = [])
    (call : ∀ (w : World) (s₀ s₁ : Shared) (mg mb : Str → Option Value) (fa : Addr) (o : Obj) (pm cd doc : Value) (a : Addr) (vs : List Value) (ns : List Int),
      Ground q loose [] XP w s₀ mg mb s₁.heap → YP w s₁.heap →
      s₁.heap.get? fa = some o → o.data = .func (docDef d.name d.params d.body d.scope pm cd doc) → s₁.heap.CodeRec cd d.name → mg d.name = some (.ref fa) →
      s₁.heap.get? a = some { cls := .type "list", data := .seq vs.toArray } → IntsAre vs ns → ns.length ≤ n → s₁.gens = #[] →
      codeAny (model l.prog w) callerA (.call (.ref fa) ⟨[.ref a], []⟩) (fun r s' => r = .ok (.ret (.bool true)) ∧ OldK s₁.heap s'.heap ∧ s'.os = s₁.os ∧ AllBare s'.gens) s₁) :
    WalkO q loose XP YP l.row.toRowW d [] (fun f vs => PySem.call f vs) := by
  intro w s₀ s₁ mg mb G Y fa o pm cd doc dV kV ho hd hcd hD hmg hg args vals as hpre hlay hrd hwl hlo
  obtain rfl : dV = .none := Dflts.none hD hdf
  obtain rfl : kV = .none := Dflts.noKw hD
  obtain ⟨a, vs, ns, rfl, rfl, hobj, hints, hlen⟩ := script_of hn hpre hwl
  refine enter_call (codeAny_mono (call w s₀ s₁ mg mb fa o pm cd doc a vs ns G Y ho (fd_plain hd) hcd hmg hobj hints hlen hg) fun r s' hq => ?_)
  obtain ⟨rfl, h2, h3, h4⟩ := hq
  exact ⟨.inl ⟨.bool true, .bool true, [], rfl, fun _ => rfl, .bool true, post_true l _, fun _ => ⟨List.Pairwise.nil, fun _ hm => (nomatch hm)⟩⟩, h2, h3, h4⟩

/-- the same where the top left finished generators (o_head chose holds_openN): nothing may have changed at all and no generator may be left -/
theorem attachN {l : OpenLaw} {n : Nat} {q : Program} {loose : List Str} {XP : (Str → Option Value) → Heap → Prop} {YP : World → Heap → Prop} {d : DefRec} {x : Str}
    (hn : l.most = some n) (hdf : d.params.defaults = [])
    (hbind : ∀ pm cd doc v : Value, bindArgs (docDef d.name d.params d.body d.scope pm cd doc) ⟨[v], []⟩ = pure [(x, v)])
    (hx : d.scope.names.lookup x = some .local ∨ d.scope.names.lookup x = some .cell)
    (hk : d.scope.kind = .function) (hco : d.scope.isCoroutine = false) (hgen : d.scope.isGenerator = false)
    (body : ∀ (w : World) (s₀ s₁ s : Shared) (mg mb : Str → Option Value) (fa : Addr) (o : Obj) (pm cd doc : Value) (a : Addr) (vs : List Value) (ns : List Int),
      Ground q loose [] XP w s₀ mg mb s₁.heap → YP w s₁.heap →
      s₁.heap.get? fa = some o → o.data = .func (docDef d.name d.params d.body d.scope pm cd doc) → s₁.heap.CodeRec cd d.name → mg d.name = some (.ref fa) →
      s₁.heap.get? a = some { cls := .type "list", data := .seq vs.toArray } → IntsAre vs ns → ns.length ≤ n →
      s.gens = #[] → s.os = s₁.os →
      Fr s₁.heap s₁.heap.objs.size s.heap (bindL (envOfC d.name d.scope s₁.heap.objs.size fa cd).kindOf [(x, .ref a)] fun _ => none) →
      Cl s₁.heap.objs.size (cellsFrom (s₁.heap.objs.size + 1) d.scope.names []) s.heap (bindC (envOfC d.name d.scope s₁.heap.objs.size fa cd).kindOf [(x, .ref a)] fun _ => none) →
      wpAny (model l.prog w) (callerA.deeper (envOfC d.name d.scope s₁.heap.objs.size fa cd)) (execs d.body (envOfC d.name d.scope s₁.heap.objs.size fa cd))
        (fun f s' => f = .ret (.bool true) ∧ (∀ b o, s₁.heap.get? b = some o → s'.heap.get? b = some o) ∧ s'.os = s₁.os ∧ s'.gens = #[]) (fun _ _ => False) s) :
    WalkN q loose XP YP l.row.toRowW d [] (fun f vs => PySem.call f vs) := by
  intro w s₀ s₁ mg mb G Y fa o pm cd doc dV kV ho hd hcd hD hmg hg args vals as hpre hlay hrd hwl hlo
  obtain rfl : dV = .none := Dflts.none hD hdf
  obtain rfl : kV = .none := Dflts.noKw hD
  obtain ⟨a, vs, ns, rfl, rfl, hobj, hints, hlen⟩ := script_of hn hpre hwl
  refine enter_callW ?_
  refine call_cells_ret (o := o) (by rw [depth_caller]; decide) ho (fd_plain hd) G.T.nolimit hcd (hbind pm cd doc (.ref a)) (fun y hy => ?_) (fun h₁ tk F X => ?_) hco hgen hk
  · obtain rfl : y = (x, Value.ref a) := List.mem_singleton.mp hy
    rcases hx with e | e
    · exact .inl e
    · exact .inr ⟨e, cellsFrom_some _ _ _ (.inl e)⟩
  · refine wpAny_mono (body w s₀ s₁ { s₁ with heap := h₁, toks := tk } mg mb fa o pm cd doc a vs ns G Y ho (fd_plain hd) hcd hmg hobj hints hlen hg rfl F X) (fun f s' hq => ?_) (fun _ _ hq => hq)
    obtain ⟨rfl, h2, h3, h4⟩ := hq
    exact ⟨.inl ⟨.bool true, .bool true, [], rfl, fun _ => rfl, .bool true, post_true l _, fun _ => ⟨List.Pairwise.nil, fun _ hm => (nomatch hm)⟩⟩, h2, h3, h4⟩

/-! ### rules over ANY heap (no ledger) from facts about the written part K: the library's own take a ledger (News) for what they write -/
section
variable {prog : Program} {w : World} {A : Around} {E : Value → Shared → Prop} {s : Shared} {K : Frag}

/-- a def of the module, or a method (qual 'C.m'), entered: the frame is the next address; cells behind it -/
theorem call_fn {R : Result → Shared → Prop} {name qual : Str} {params : Arguments} {body : List Stmt} {scope : Scope} {dV kV doc pm cdv ct oc : Value} {an od : Option Addr} {osl : Array (Option Value)} {f : Addr} {args : Args} {binds : List (Str × Value)}
    (X : K.In s.heap) (hlim : s.heap.NoLimit) (ho : K.lookup f = some ⟨oc, od, .func (fnOf name qual params body scope dV kV doc pm an cdv ct), osl⟩) (hcd : codeIn K cdv qual = true) (hroom : A.depth < recursionLimit)
    (hbind : BindsTo s (fnOf name qual params body scope dV kV doc pm an cdv ct) args binds)
    (hkind : (binds.all fun y => scope.names.lookup y.1 == some .local || scope.names.lookup y.1 == some .cell) = true)
    (h : ∀ s₁, InCallC s s.heap.objs.size (bindL (envOfC qual scope s.heap.objs.size f cdv).kindOf binds fun _ => none) (cellsFrom (s.heap.objs.size + 1) scope.names [])
        (bindC (envOfC qual scope s.heap.objs.size f cdv).kindOf binds fun _ => none) s₁ →
      wpAny (model prog w) (A.deeper (envOfC qual scope s.heap.objs.size f cdv)) (execs body (envOfC qual scope s.heap.objs.size f cdv))
        (fun fl s' => R (.ok (.ret (match fl with | .ret v => v | _ => .none))) s')
        (fun e s' => wpAny (model prog w) (A.deeper (envOfC qual scope s.heap.objs.size f cdv)) (leaving (envOfC qual scope s.heap.objs.size f cdv) e) (fun _ s'' => R (.error e) s'') (fun e' s'' => R (.error e') s'') s') s₁)
    (hco : scope.isCoroutine = false) (hgen : scope.isGenerator = false) (hk : scope.kind = .function) : codeAny (model prog w) A (.call (.ref f) args) R s := by
  refine codeAny_call_function hroom (X _ _ ho) rfl hco hgen rfl (codeRec_of X hcd) (hbind _ _ _ _ ?_)
  refine wpAny_newFunctionEnv_cells hk (kindsX hkind _) fun env he s₁ x => ?_
  subst he
  exact ⟨hlim.keeps x.toInCall.keep, codeAny_func (h s₁ x)⟩

/-- C(..): dict at size, instance at size + 1, then __init__ -/
theorem make_obj {R : Result → Shared → Prop} {C fI : Addr} {rest : List Value} {kw : List (Str × Value)}
    (X : K.In s.heap) (hm : makesIn K C = true) (hi : findIn K (.ref C) "__init__" = some (some (.ref fI))) (hf : isFn K (.ref fI) = true)
    (h : codeAny (model prog w) (A.under (.builtin "type.__call__" ⟨.ref C :: rest, kw⟩)) (.call (.ref fI) ⟨.ref (s.heap.objs.size + 1) :: rest, kw⟩) (InitBack (s.heap.objs.size + 1) R)
      { s with heap := (s.heap.push emptyDict).push (instObj C s.heap.objs.size) }) : codeAny (model prog w) A (.call (.ref C) ⟨rest, kw⟩) R s := by
  obtain ⟨hh, g, d, t, os⟩ := s
  exact make_core (makes_of X hm) (looks_findIn X hi) (fun self => bind_fn X self (beq_iff_eq.mp hf)) (.inl rfl) h

/-- x.name where the instance's dict holds the name and the class does not -/
theorem get_field {x C : Addr} {ox : Obj} {es : List DictEntry} {n : Nat} {name : Str} {expr : Bool} {v : Value} {Q : Value → Shared → Prop}
    (X : K.In s.heap) (I : PySem.W.InstAt s.heap x ox C (some (dictOf es n))) (hg : plainGet K C name = true) (hh : hasDictIn K C = true) (ha : findIn K (.ref C) name = some none)
    (hl : getL name es = some (some v)) (hv : handedIn v = true) (h : Q v { s with toks := s.toks + 1 }) : wpAny (model prog w) A (getAttr (.ref x) name expr) Q E s :=
  get_value X I (plainGet_of hg).1 (findObj_own hh ha rfl hl) hv h

/-- x.m(..): the method found in the class -/
theorem get_method {x C f : Addr} {ox : Obj} {es : List DictEntry} {n : Nat} {name : Str} {pl : Sem Bool} {Q : Value × List Value → Shared → Prop}
    (X : K.In s.heap) (I : PySem.W.InstAt s.heap x ox C (some (dictOf es n))) (hg : plainGet K C name = true) (hf : findIn K (.ref C) name = some (some (.ref f))) (ht : isFn K (.ref f) = true)
    (hl : getL name es = some none) (h : Q (.ref f, [.ref x]) s) : wpAny (model prog w) A (getMethod (.ref x) name pl) Q E s :=
  method_fn X I (plainGet_of hg).1 (plainGet_of hg).2 hf (beq_iff_eq.mp ht) (by show (lookIn name (dictOf es n)).map _ = _; rw [lookIn_dict, hl]; rfl) h

/-! the whole heap as the ledger: makes every rule that writes through a ledger a rule over any heap -/
def noObjs (h : Heap) : Heap := { h with objs := #[] }
theorem noObjs_get (h : Heap) (b : Addr) : (noObjs h).get? b = none := by
  cases e : (noObjs h).get? b with
  | none => rfl
  | some o => exact absurd (Heap.lt_size e) (Nat.not_lt_zero _)
def ledger (h : Heap) (L d : Addr) : List (Addr × Obj) := (List.range h.objs.size).filterMap fun a => if a = L ∨ a = d then none else (h.get? a).map fun o => (a, o)
theorem mem_ledger {h : Heap} {L d a : Addr} {o : Obj} : (a, o) ∈ ledger h L d ↔ a ≠ L ∧ a ≠ d ∧ h.get? a = some o := by
  unfold ledger
  rw [List.mem_filterMap]
  constructor
  · rintro ⟨b, _, e⟩
    split at e
    · cases e
    · rename_i hb
      obtain ⟨o', ho, e'⟩ := Option.map_eq_some_iff.mp e
      cases e'
      exact ⟨fun q => hb (.inl q), fun q => hb (.inr q), ho⟩
  · rintro ⟨n1, n2, ho⟩
    refine ⟨a, List.mem_range.mpr (Heap.lt_size ho), ?_⟩
    rw [if_neg (show ¬ (a = L ∨ a = d) from fun q => q.elim n1 n2), ho] <;> rfl
theorem news_ledger {h : Heap} {L d : Addr} {od : Obj} (hne : d ≠ L) (ho : h.get? d = some od) : News (noObjs h) L h ([] ++ (d, od) :: ledger h L d) := by
  rintro ⟨a, o⟩ hp
  rcases List.mem_cons.mp hp with e | hp
  · cases e
    exact ⟨ho, hne, noObjs_get _ _⟩
  · obtain ⟨n1, n2, e⟩ := mem_ledger.mp hp
    exact ⟨e, n1, noObjs_get _ _⟩
theorem fr_all {h : Heap} {L : Addr} {m : Str → Option Value} (n : h.Ns L m) : Fr (noObjs h) L h m :=
  ⟨n, fun b o e => (by rw [noObjs_get] at e; cases e), Nat.zero_le _⟩
/-- Upd of the head entry (for append_K, setItem_K ..) -/
theorem upd_ledger {h : Heap} {L d : Addr} {o o' : Obj} : Upd d o o' ((d, o) :: ledger h L d) ((d, o') :: ledger h L d) :=
  .head fun ⟨_, _⟩ hp => (mem_ledger.mp hp).2.1

/-- x.name = v over any heap: L is any namespace of the heap (the frame's, say): its map stays, its object is not told; all else but the dict stays -/
theorem set_field {x C dx L : Addr} {ox : Obj} {m : Str → Option Value} {es es' : List DictEntry} {n n' : Nat} {name : Str} {v : Value} {Q : Unit → Shared → Prop}
    (X : K.In s.heap) (I : PySem.W.InstAt s.heap x ox C (some (dictOf es n))) (hd : ox.dict = some dx) (hL : s.heap.Ns L m) (hne : dx ≠ L)
    (hs : findIn K (.ref C) "__setattr__" = some (some (.builtin "object.__setattr__"))) (hp : plainOver K C = true) (ht : takerIn K C name = some none) (hh : hasDictIn K C = true) (hl : (getL name es).isSome = true)
    (e : (putL name (PyData.keyHash w.params name) (.str name (s.toks + 1)) v es, putN name es n) = (es', n')) (hz : es'.length ≤ 1000)
    (h : ∀ h' : Heap, h'.Ns L m → h'.get? dx = some (dictOf es' n') → (∀ b o, b ≠ dx → b ≠ L → s.heap.get? b = some o → h'.get? b = some o) → Q () { s with heap := h', toks := s.toks + 2 }) :
    wpAny (model prog w) A (setAttr (.ref x) name v) Q E s := by
  obtain ⟨e1, e2⟩ := Prod.mk.inj e
  have hdx : s.heap.get? dx = some (dictOf es n) := by
    have := I.dict
    rw [hd] at this
    exact this
  refine set_plain X I hs (osa_dict (s := { s with toks := s.toks + 1 }) (h₀ := noObjs s.heap) (L := L) (m := m) (od := dictOf es n) (od' := dictOf es' n') (es := es') (n := n') (pre := []) (post := ledger s.heap L dx)
    (fr_all hL) (news_ledger hne hdx) X I hd hp ht hh hl (fun _ q => nomatch q) (fun ⟨_, _⟩ q => (mem_ledger.mp q).2.1) (by rw [putName_dict, e1, e2]) rfl hz fun h' F' N' => ?_)
  exact h h' F'.ns (N'.get (List.Mem.head _)) fun b o n1 n2 ho => N'.get (List.Mem.tail _ (mem_ledger.mpr ⟨n2, n1, ho⟩))
end
end Att

namespace L2
open PySem PySem.Spec PyProof.Rows

theorem vals_ints : ∀ {vs : List Value} {ns : List Int}, IntsAre vs ns → Vals (ns.map V.int) vs
  | _, _, .nil => .nil
  | _, _, .cons n t h => .cons ⟨t, rfl⟩ (vals_ints h)

/-- nothing is tracked but the script, known to the object (or it is an object of the module) -/
def Only (H : Hp) : Prop := ∀ b, H b = none ∨ ∃ o xs, H b = some (.frz o (.lst xs))

/-- THE HEAD: the law's promise, at the heap behind the top. F, the promise of the law's def, may use that base is part of the heap (so K.In base, base.Ns mainGlobals mg stand in Mod) -/
theorem law_call {P : Program} {w : World} {K : PySem.W.Frag} {mg mb : Str → Option Value} {CX : CXT} {k : Nat} {fa a : Addr} {fd : FuncData} {x : Str} {sp : Sp} {s₁ : Shared} {vs : List Value} {ns : List Int}
    (KX : K.In s₁.heap) (hns : s₁.heap.Ns mainGlobals mg) (hb : s₁.heap.Ns builtinsNs mb) (hbb : ∀ x : Str, x ≠ "__name__" → mb x = bootBuiltins x) (hlim : s₁.heap.NoLimit) (hg : s₁.gens = #[])
    (ha : s₁.heap.get? a = some { cls := .type "list", data := .seq vs.toArray }) (hi : IntsAre vs ns) (hl : ns.length ≤ sizeLine) (hr : Room k callerA)
    (F : ∀ base : Heap, K.In base → base.Ns mainGlobals mg → FnOk P w K mg base CX k fa fd [x] sp) (hbind : ∀ (s : Shared) (u : Value), BindsTo s fd ⟨[u], []⟩ [(x, u)])
    (hsp : ∀ H : Hp, Only H → SqL K H a (ns.map V.int) → sp [.ref a] H (fun v _ => v = .bl true) fun _ _ _ => False)
    (hCX : ∀ H e s', CX [] H s₁ (fun _ _ _ => False) e s' → False) :
    codeAny (model P w) callerA (.call (.ref fa) ⟨[.ref a], []⟩) (fun r s' => r = .ok (.ret (.bool true)) ∧ OldK s₁.heap s'.heap ∧ s'.os = s₁.os ∧ AllBare s'.gens) s₁ := by
  have rv := vals_ints hi
  have lenV := hi.length
  -- from an abstract heap in which nothing but the script may be tracked
  have core : ∀ H : Hp, Only H → SqL K H a (ns.map V.int) → HOk P w H s₁.heap → (∀ b, H b ≠ none → b = a) → (H a ≠ none → K.lookup a = none) →
      codeAny (model P w) callerA (.call (.ref fa) ⟨[.ref a], []⟩) (fun r s' => r = .ok (.ret (.bool true)) ∧ OldK s₁.heap s'.heap ∧ s'.os = s₁.os ∧ AllBare s'.gens) s₁ := by
    intro H hO hS hok hA hK
    have base_of : ∀ {b : Addr} {o : Obj}, s₁.heap.get? b = some o → H b = none → (hidT s₁.heap H).get? b = some o := fun e n => hidT_get e n
    have noA : ∀ {b : Addr} {o : Obj} {es : Array DictEntry} {ep : Nat}, s₁.heap.get? b = some o → o.data = .dict es ep → H b = none := fun {b o es ep} e d => by
      cases q : H b with
      | none => rfl
      | some u =>
        have e' : b = a := hA b (by rw [q]; simp)
        subst e'
        rw [ha] at e; cases e
        have d' : Data.seq vs.toArray _ = Data.dict es ep := d
        cases d'
    have nsK : ∀ {b : Addr} {m : Str → Option Value}, s₁.heap.Ns b m → (hidT s₁.heap H).Ns b m := fun {b m} ⟨o, es, ep, e, d, r⟩ => ⟨o, es, ep, base_of e (noA e d), d, r⟩
    have hKb : K.In (hidT s₁.heap H) := fun b o e => base_of (KX b o e) (by
      cases q : H b with
      | none => rfl
      | some u =>
        have e' : b = a := hA b (by rw [q]; simp)
        subst e'
        rw [hK (by rw [q]; simp)] at e; cases e)
    have hM : Mod K mg (hidT s₁.heap H) := ⟨hKb, nsK hns, ⟨mb, nsK hb, hbb⟩, let ⟨mc, h1, h2⟩ := hlim; ⟨mc, nsK h1, h2⟩⟩
    have e0 : Env0 P w K mg (hidT s₁.heap H) callerA [] s₁ H := ⟨rfl, hM, fun b o e => of_hidT e, Nat.le_of_eq (hidT_size _ _), trivial, fun b hb => absurd (show b ∈ ([] : List Addr) from hb) (by simp), hok, .of_eq hg⟩
    refine codeAny_mono ((F _ hKb (nsK hns)).run callerA [] s₁ H ⟨[.ref a], []⟩ [.ref a] [.ref a] _ _ hr e0 (hbind s₁ (.ref a)) (.cons rfl .nil) (hsp H hO hS)) fun r s' h => ?_
    cases r with
    | error e => exact (hCX H e s' h).elim
    | ok fl =>
      cases fl with
      | next => exact False.elim h
      | brk => exact False.elim h
      | cont => exact False.elim h
      | ret u =>
        obtain ⟨v, H', os, bare, un, hok', r', q⟩ := h
        have q' : v = .bl true := q
        subst q'
        obtain rfl : u = Value.bool true := r'
        refine ⟨rfl, OldK.of_keep fun b o e => ?_, os, bare⟩
        cases q : H b with
        | none => exact un.keep b o e q (by intro z; exact absurd (show b ∈ ([] : List Addr) from z) (by simp)) (by simp)
        | some u =>
          rcases hO b with z | ⟨ob, xs, z⟩
          · rw [q] at z; cases z
          · have z2 := un.frzs b ob _ z
            obtain ⟨e1, _⟩ := hok b _ z
            obtain ⟨e2, _⟩ := hok' b _ z2
            rw [e] at e1; cases e1
            exact e2
  cases hk : K.lookup a with
  | some o =>
    -- the script is one of the module's own objects
    have e := KX a o hk
    rw [ha] at e
    cases e
    refine core (fun _ => none) (fun _ => .inl rfl) (.inr ⟨_, vs.toArray, _, hk, rfl, rfl, rfl, by rw [List.size_toArray, lenV]; exact hl, by simpa using rv⟩) (fun b u z => by have z' : (none : Option HO) = some u := z; cases z') (fun b z => absurd rfl z) fun z => absurd rfl z
  | none =>
    refine core (fun b => if b = a then some (.frz { cls := .type "list", data := .seq vs.toArray } (.lst (ns.map V.int))) else none) (fun b => ?_) (.inl (.inr ⟨{ cls := .type "list", data := .seq vs.toArray }, if_pos rfl⟩)) (fun b u z => ?_) (fun b z => ?_) fun _ => hk
    · by_cases hb : b = a
      · exact .inr ⟨_, _, if_pos hb⟩
      · exact .inl (if_neg hb)
    · by_cases hb : b = a
      · have z' := (if_pos hb).symm.trans z
        cases z'
        subst hb
        exact ⟨ha, by rw [List.length_map]; exact hl, vs, _, rv, ha⟩
      · have z' := (if_neg hb).symm.trans z
        cases z'
    · by_cases hb : b = a
      · exact hb
      · exact absurd (if_neg hb) z
end L2

namespace L2
open PySem PySem.Spec PyProof.Rows

abbrev KOf {K : PySem.W.Frag} {h : Heap} (_ : K.In h) : PySem.W.Frag := K

/-- the goal that k_head leaves (case hc), from the law's promise. F gives the function object fd (K's own) once, then the promise over every base -/
theorem walk_of {l : PySem.W.OpenLaw} {n k : Nat} {q : Program} {loose : List Str} {XP : (Str → Option Value) → Heap → Prop} {YP : World → Heap → Prop} {d : DefRec} {K : Params → PySem.W.Frag} {CX : World → CXT} {sp : World → Sp} {x : Str}
    (hn : l.most = some n) (hn2 : n ≤ sizeLine) (hdf : d.params.defaults = []) (hr : Room k callerA)
    (hY : ∀ (w : World) (h : Heap), YP w h → (K w.params).In h)
    (F : ∀ (w : World) (mg : Str → Option Value) (fa : Addr) (h : Heap), (K w.params).In h → h.Ns mainGlobals mg → mg d.name = some (.ref fa) →
      ∃ fd : FuncData, (∀ (s : Shared) (u : Value), BindsTo s fd ⟨[u], []⟩ [(x, u)]) ∧
        ∀ base : Heap, (K w.params).In base → base.Ns mainGlobals mg → FnOk l.prog w (K w.params) mg base (CX w) k fa fd [x] (sp w))
    (hsp : ∀ (w : World) (H : Hp) (a : Addr) (ns : List Int), ns.length ≤ n → Only H → SqL (K w.params) H a (ns.map V.int) → sp w [.ref a] H (fun v _ => v = .bl true) fun _ _ _ => False)
    (hCX : ∀ (w : World) (H : Hp) (s : Shared) (e : Value) (s' : Shared), CX w [] H s (fun _ _ _ => False) e s' → False) :
    PySem.W.WalkO q loose XP YP l.row.toRowW d [] (fun f vs => PySem.call f vs) := by
  refine Att.attach_call hn hdf fun w s₀ s₁ mg mb fa o pm cd doc a vs ns G Y ho hd hcd hmg hobj hints hlen hg => ?_
  have KX := hY w _ Y
  obtain ⟨fd, hb, hF⟩ := F w mg fa _ KX G.T.g hmg
  exact law_call KX G.T.g G.T.b G.T.builtins G.T.nolimit hg hobj hints (Nat.le_trans hlen hn2) hr hF hb (fun H hO hS => hsp w H a ns hlen hO hS) fun H e s' => hCX w H s₁ e s'
/-- the same where the promise hangs on the written part alone: (sp := My.sp_law), no hole under a binder -/
theorem walk_ofK {l : PySem.W.OpenLaw} {n k : Nat} {q : Program} {loose : List Str} {XP : (Str → Option Value) → Heap → Prop} {YP : World → Heap → Prop} {d : DefRec} {K : Params → PySem.W.Frag} {CX : CXT} {sp : PySem.W.Frag → Sp} {x : Str}
    (hn : l.most = some n) (hn2 : n ≤ sizeLine) (hdf : d.params.defaults = []) (hr : Room k callerA)
    (hY : ∀ (w : World) (h : Heap), YP w h → (K w.params).In h)
    (F : ∀ (w : World) (mg : Str → Option Value) (fa : Addr) (h : Heap), (K w.params).In h → h.Ns mainGlobals mg → mg d.name = some (.ref fa) →
      ∃ fd : FuncData, (∀ (s : Shared) (u : Value), BindsTo s fd ⟨[u], []⟩ [(x, u)]) ∧
        ∀ base : Heap, (K w.params).In base → base.Ns mainGlobals mg → FnOk l.prog w (K w.params) mg base CX k fa fd [x] (sp (K w.params)))
    (hsp : ∀ (K : PySem.W.Frag) (H : Hp) (a : Addr) (ns : List Int), ns.length ≤ n → Only H → SqL K H a (ns.map V.int) → sp K [.ref a] H (fun v _ => v = .bl true) fun _ _ _ => False)
    (hCX : ∀ (H : Hp) (s : Shared) (e : Value) (s' : Shared), CX [] H s (fun _ _ _ => False) e s' → False) :
    PySem.W.WalkO q loose XP YP l.row.toRowW d [] (fun f vs => PySem.call f vs) :=
  walk_of (K := K) (CX := fun _ => CX) (sp := fun w => sp (K w.params)) hn hn2 hdf hr hY F (fun w H a ns h1 h2 h3 => hsp (K w.params) H a ns h1 h2 h3) fun _ H s e s' => hCX H s e s'
end L2

/- THE LAST THEOREM (shape; LID, My.* are yours):
   My.Adr: a structure of the addresses that your layer names (classes, functions); My.Txt K t: a structure (Prop) of the equations over K;
   My.txt_mk : {K} {implicit addresses ..} (e1 : nsIn K mainGlobals "law" = some (some (.ref f))) (e2 : K.lookup f = some ⟨oc, od, .func (fnOf "law" "law" params body scope dV kV doc pm an cdv ct), sl⟩) (e3 : codeIn K cdv "law" = true) .. : ∃ t, My.Txt K t

set_option maxRecDepth 100000 in
set_option maxHeartbeats 0 in
theorem PySem.Challenge.cw_LID_holds : PySem.Challenge.rw_LID.Holds := by
  w_on; o_law; k_head; (case hw => w_witness2)
  k_fill
  refine L2.walk_of (l := PySem.Challenge.rw_LID) (n := 63) (k := 40) (x := "script") (CX := fun w => ..) (sp := fun _ => My.sp_law) rfl (by decide) rfl ⟨rfl, by decide, by decide⟩ (fun w h Y => PySem.W.kIn_of Y) ?F ?S ?C
  case F =>
    intro w mg fa h KX G hmg
    have T : ∃ t, My.Txt (L2.KOf KX) t := by
      dsimp only [L2.KOf]                          -- K must stand as «<heap const> w.params» for k_is
      refine' My.txt_mk ?e1 ?e2 ?e3 ..
      (case e1 => PySem.W.k_is)                    -- in the order: a name -> its address -> its object -> its parts
      (case e2 => PySem.W.k_is)
      ..
    obtain ⟨t, T⟩ := T
    have e0 := hmg.symm.trans (PySem.W.mg_of KX G T.law)
    cases e0                                       -- fa is the law's own address
    exact ⟨_, fun s u => .of_eq rfl, fun base kb nb => My.law_fn T kb nb⟩     -- if «.of_eq rfl» comes too early: refine' ⟨_, ?b, fun base kb nb => My.law_fn T kb nb⟩; exact fun s u => .of_eq rfl
  case S => exact fun w H a ns hl hO hS => ..
  case C => exact ..
(the tactic k_is has no namespace: write k_is) -/

/-! SHORT WORDS over the layer: a def of the text, its body, what a loop and a test want. -/
namespace L2
open PySem PySem.Spec PyProof.Rows

/-! ### the text by places -/
/-- the j-th statement of a class's body -/
def inClass (s : Stmt) (j : Nat) : Stmt := match s with
  | .ClassDef _ _ _ body _ _ _ _ _ _ _ => body.getD j (.Pass ⟨0, 0, 0, 0⟩)
  | _ => .Pass ⟨0, 0, 0, 0⟩
def defArgs (s : Stmt) : Arguments := match s with
  | .FunctionDef _ a _ _ _ _ _ _ _ _ => a
  | _ => { posonlyargs := [], args := [], vararg := none, kwonlyargs := [], kw_defaults := [], kwarg := none, defaults := [] }
def defBody (s : Stmt) : List Stmt := match s with
  | .FunctionDef _ _ b _ _ _ _ _ _ _ => b
  | _ => []
def defScope (s : Stmt) : Scope := match s with
  | .FunctionDef _ _ _ _ _ _ sc _ _ _ => sc
  | _ => { kind := .function, names := [], isGenerator := false, isCoroutine := false }

/-! ### no exception leaves a def -/
abbrev CX0 : CXT := fun _ _ _ _ _ _ => False
abbrev E0 : XK := fun _ _ _ => False
theorem pass0 {X : Cx} : Passes CX0 X E0 := fun _ _ _ _ _ _ _ h => h.elim

/-! ### a def (or method) of the text as it stands behind the top -/
structure Fun (K : PySem.W.Frag) (x qual : Str) (st : Stmt) (f : Addr) (fd : FuncData) : Prop where
  ex : ∃ (oc : Value) (od : Option Addr) (kV doc pm : Value) (an : Option Addr) (cdv ct : Value) (osl : Array (Option Value)),
    fd = PySem.W.fnOf x qual (defArgs st) (defBody st) (defScope st) .none kV doc pm an cdv ct ∧ K.lookup f = some ⟨oc, od, .func fd, osl⟩ ∧ PySem.W.codeIn K cdv qual = true
  kp : PySem.W.keepIn K (.ref f) = true
section
variable {P : Program} {w : World} {K : PySem.W.Frag} {mg : Str → Option Value} {base : Heap}
/-- THE RULE for a def: its body as a term of rules, and the reading of that term -/
theorem Fun.ok {x qual : Str} {st : Stmt} {f : Addr} {fd : FuncData} {N ps : List Str} {k : Nat} {sp : Sp} (F : Fun K x qual st f fd) (S : FnScope N ps (defScope st)) (len : ∀ vs H Q E, sp vs H Q E → vs.length = ps.length)
    (hbody : ∀ (cdv : Value) (A : Around) (outer : List Env) (s : Shared) (H : Hp) (vs : List V) (Q : VK) (E : XK), Room k (A.deeper (envOfC qual (defScope st) s.heap.objs.size f cdv)) → sp vs H Q E →
      ∃ t, PSs (cxOf CX0 P w K mg base N qual (defScope st) f cdv A outer s H E).nox (defBody st) t ∧ t { nx := fun _ H' => Q .non H', rt := Q } (start N vs) H) : FnOk P w K mg base CX0 (k + 1) f fd ps sp := by
  obtain ⟨oc, od, kV, doc, pm, an, cdv, ct, osl, rfl, lk, hcd⟩ := F.ex
  refine fn_of lk hcd S len fun A outer s H vs Q E hr hsp => ?_
  obtain ⟨t, h, q⟩ := hbody cdv A outer s H vs Q E hr hsp
  exact ⟨t, h.nox, q⟩
/-- how its arguments bind (no defaults): h is «fun _ _ _ _ _ _ us hl => match us, hl with | [_, _], _ => rfl», one _ a parameter -/
theorem Fun.binds {x qual : Str} {st : Stmt} {f : Addr} {fd : FuncData} {ps : List Str} (F : Fun K x qual st f fd)
    (h : ∀ (kV doc pm : Value) (an : Option Addr) (cdv ct : Value) (us : List Value), us.length = ps.length → bindArgs (PySem.W.fnOf x qual (defArgs st) (defBody st) (defScope st) .none kV doc pm an cdv ct) ⟨us, []⟩ = pure (ps.zip us)) : Binds K fd ps [] := by
  obtain ⟨oc, od, kV, doc, pm, an, cdv, ct, osl, rfl, lk, hcd⟩ := F.ex
  exact .all (h kV doc pm an cdv ct)
theorem fun_mk {x qual : Str} {st : Stmt} {f : Addr} {oc : Value} {od an : Option Addr} {osl : Array (Option Value)} {kV doc pm cdv ct : Value} (l : K.lookup f = some ⟨oc, od, .func (PySem.W.fnOf x qual (defArgs st) (defBody st) (defScope st) .none kV doc pm an cdv ct), osl⟩)
    (c : PySem.W.codeIn K cdv qual = true) (k : PySem.W.keepIn K (.ref f) = true) : Fun K x qual st f (PySem.W.fnOf x qual (defArgs st) (defBody st) (defScope st) .none kV doc pm an cdv ct) := ⟨⟨oc, od, kV, doc, pm, an, cdv, ct, osl, rfl, l, c⟩, k⟩
end
theorem hu_of {A : Around} {k : Nat} (hr : Room k A) : A.units + 1 < cLine := Nat.lt_of_le_of_lt (Nat.add_le_add_left (by decide : 1 ≤ 64) _) hr.units
theorem small1000 {n : Nat} (h : n ≤ 1000) : n < sizeLine := Nat.lt_of_le_of_lt h (by decide)

/-! ### expressions in short: the name that stands in the i-th slot -/
section
variable {X : Cx}
theorem pv (i : Nat) {x : Str} {pos : Pos} (hN : X.N[i]? = some x := by rfl) (hv : Vis X.env.scope x := by first | exact Or.inl rfl | exact Or.inr (Or.inl rfl) | exact Or.inr (Or.inr rfl)) (hd : (x == ("__debug__" : Str)) = false := by decide)
    (hcd : (x == ("__classdict__" : Str)) = false := by decide) : PE X (.Name x pos) (tVar i) := pe_var hN hv hd hcd
end

/-! ### tests -/
theorem iteF {A B : Prop} (h : B) : if false = true then A else B := by
  rw [if_neg Bool.false_ne_true]
  exact h
theorem iteT {A B : Prop} (h : A) : if true = true then A else B := by
  rw [if_pos rfl]
  exact h
theorem ite2 {c A B : Prop} [Decidable c] (h1 : c → A) (h2 : ¬ c → B) : if c then A else B := by
  by_cases h : c
  · rw [if_pos h]
    exact h1 h
  · rw [if_neg h]
    exact h2 h
theorem iteNS {c A B : Prop} [Decidable c] (hc : c) (h : B) : if (!decide c) = true then A else B := by
  rw [decide_eq_true hc]
  exact iteF h

/-! ### heaps -/
/-- all that was tracked is as it was -/
def Same (H H' : Hp) : Prop := ∀ b o, H b = some o → H' b = some o
theorem Same.refl (H : Hp) : Same H H := fun _ _ h => h
theorem Same.trans {H H1 H2 : Hp} (a : Same H H1) (b : Same H1 H2) : Same H H2 := fun c o h => b c o (a c o h)
theorem Same.free {H H' : Hp} (e : Same H H') {l : Addr} (h : H' l = Option.none) : H l = Option.none := by
  cases q : H l with
  | none => rfl
  | some o =>
    rw [e l o q] at h
    cases h
theorem Same.seq {K : PySem.W.Frag} {H H' : Hp} {a : Addr} {xs : List V} (e : Same H H') (h : SqL K H a xs) : SqL K H' a xs := by
  rcases h with (h | ⟨o, h⟩) | h
  · exact .inl (.inl (e _ _ h))
  · exact .inl (.inr ⟨o, e _ _ h⟩)
  · exact .inr h

end L2

set_option Elab.async false
set_option linter.all false
set_option maxRecDepth 100000
namespace L2
open PySem PySem.Spec PyProof.Rows

/-! ### a comprehension's closure -/
def clAdd (env : Env) : List (Str × NameKind) → List (Str × Addr) → List (Str × Addr)
  | [], acc => acc
  | (n, k) :: r, acc => clAdd env r (if (k == NameKind.free) = true then (n, (env.cells.lookup n).getD 0) :: acc else acc)
theorem clAdd_lookup (env : Env) : ∀ (names : List (Str × NameKind)) (acc : List (Str × Addr)) (x : Str) (c : Addr), (∀ y ∈ names, y.2 = .free → ∃ c, env.cells.lookup y.1 = some c) →
    (∀ x c, acc.lookup x = some c → env.cells.lookup x = some c) → (clAdd env names acc).lookup x = some c → env.cells.lookup x = some c
  | [], acc, x, c, _, h, e => h x c e
  | (n, k) :: r, acc, x, c, hf, h, e => by
    refine clAdd_lookup env r _ x c (fun y hy => hf y (List.mem_cons_of_mem _ hy)) (fun x c e' => ?_) e
    by_cases hk : (k == NameKind.free) = true
    · rw [if_pos hk] at e'
      obtain ⟨c0, hc0⟩ := hf (n, k) List.mem_cons_self (by simpa using hk)
      have hc0' : env.cells.lookup n = some c0 := hc0
      rw [List.lookup_cons] at e'
      cases hx : x == n with
      | true =>
        rw [hx] at e'
        have : x = n := by simpa using hx
        subst this
        rw [hc0'] at e' ⊢
        simpa using e'
      | false => rw [hx] at e'; exact h x c e'
    · rw [if_neg hk] at e'; exact h x c e'
theorem clAdd_keep (env : Env) : ∀ (names : List (Str × NameKind)) (acc : List (Str × Addr)) (x : Str), (∃ c, acc.lookup x = some c) → ∃ c, (clAdd env names acc).lookup x = some c
  | [], acc, x, h => h
  | (n, k) :: r, acc, x, h => by
    refine clAdd_keep env r _ x ?_
    by_cases hk : (k == NameKind.free) = true
    · rw [if_pos hk, List.lookup_cons]
      cases hx : x == n with
      | true => exact ⟨_, rfl⟩
      | false => exact h
    · rw [if_neg hk]; exact h
theorem clAdd_has (env : Env) : ∀ (names : List (Str × NameKind)) (acc : List (Str × Addr)) (x : Str), (x, NameKind.free) ∈ names → ∃ c, (clAdd env names acc).lookup x = some c
  | [], acc, x, h => by simp at h
  | (n, k) :: r, acc, x, h => by
    rcases List.mem_cons.mp h with e | e
    · have e1 : x = n := congrArg Prod.fst e
      have e2 : NameKind.free = k := congrArg Prod.snd e
      subst e1
      subst e2
      refine clAdd_keep env r _ x ?_
      rw [if_pos (by simp), List.lookup_cons]
      simp
    · exact clAdd_has env r _ x e
theorem closure_eq {env : Env} {scope : Scope} (hf : ∀ y ∈ scope.names, y.2 = .free → ∃ c, env.cells.lookup y.1 = some c) : closureFor scope env = pure (clAdd env scope.names []) := by
  have key : ∀ (names : List (Str × NameKind)) (acc : List (Str × Addr)), (∀ y ∈ names, y.2 = .free → ∃ c, env.cells.lookup y.1 = some c) →
      (forIn names acc (fun (x : Str × NameKind) (r : List (Str × Addr)) => (if (x.2 == NameKind.free) = true then do
        let a ← cellOf env x.1
        pure (ForInStep.yield ((x.1, a) :: r)) else pure (ForInStep.yield r)) ) : Sem (List (Str × Addr))) = pure (clAdd env names acc) := by
    intro names
    induction names with
    | nil => intro acc _; rfl
    | cons y r ih =>
      intro acc h
      obtain ⟨n, k⟩ := y
      have ih' := fun acc => ih acc fun z hz => h z (List.mem_cons_of_mem _ hz)
      rw [List.forIn_cons]
      by_cases hk : (k == NameKind.free) = true
      · obtain ⟨c, hc⟩ := h (n, k) List.mem_cons_self (by simpa using hk)
        have hc' : env.cells.lookup n = some c := hc
        have e1 : cellOf env n = pure c := by unfold cellOf; rw [hc']
        have e2 : clAdd env ((n, k) :: r) acc = clAdd env r ((n, c) :: acc) := by
          show clAdd env r _ = _
          rw [if_pos hk, hc']; rfl
        rw [if_pos hk, e2, ← ih']
        show ((cellOf env n >>= fun a => pure (ForInStep.yield ((n, a) :: acc))) >>= _) = _
        rw [e1]
        rfl
      · have e2 : clAdd env ((n, k) :: r) acc = clAdd env r acc := by
          show clAdd env r _ = _
          rw [if_neg hk]
        rw [if_neg hk, e2, ← ih']
        rfl
  have := key scope.names [] hf
  simp only [closureFor]
  exact (congrArg (fun m => m >>= fun r => (pure r : Sem _)) this).trans rfl

theorem relabel_back {env : Env} {scope : Scope} (hcell : ∀ y ∈ scope.names, y.2 ≠ .cell) {x : Str} : ((relabel scope env).names.lookup x = some .cell ∨ (relabel scope env).names.lookup x = some .free) → (x, NameKind.free) ∈ scope.names := by
  have key : ∀ names : List (Str × NameKind), (∀ y ∈ names, y.2 ≠ .cell) → ∀ k, (names.map fun (n, k) => if (k == NameKind.free && env.scope.kind == .function && env.kindOf n == some .cell) then (n, NameKind.cell) else (n, k)).lookup x = some k →
      (k = .cell ∨ k = .free) → (x, NameKind.free) ∈ names := by
    intro names
    induction names with
    | nil => intro _ k h _; simp at h
    | cons y r ih =>
      obtain ⟨n, k'⟩ := y
      intro hc k h hk
      have nc : k' ≠ .cell := hc (n, k') List.mem_cons_self
      rw [List.map_cons] at h
      by_cases hb : (k' == NameKind.free && env.scope.kind == .function && env.kindOf n == some .cell) = true
      · have hb' : k' = .free := by simp at hb; exact hb.1.1
        dsimp only at h
        rw [if_pos hb, List.lookup_cons] at h
        cases hx : x == n with
        | true => have : x = n := by simpa using hx
                  subst this; subst hb'; exact List.mem_cons_self
        | false => rw [hx] at h; exact List.mem_cons_of_mem _ (ih (fun y hy => hc y (List.mem_cons_of_mem _ hy)) k h hk)
      · dsimp only at h
        rw [if_neg hb, List.lookup_cons] at h
        cases hx : x == n with
        | true =>
          rw [hx] at h
          have : x = n := by simpa using hx
          subst this
          have e : k' = k := by simpa using h
          rcases hk with q | q
          · exact absurd (e.trans q) nc
          · rw [e, q]; exact List.mem_cons_self
        | false => rw [hx] at h; exact List.mem_cons_of_mem _ (ih (fun y hy => hc y (List.mem_cons_of_mem _ hy)) k h hk)
  rintro (h | h)
  · exact key _ hcell _ h (.inl rfl)
  · exact key _ hcell _ h (.inr rfl)

/-! ### the block's context -/
def blkCx (X : Cx) (pins : List (Addr × Obj)) (s2 : Shared) (H2 : Hp) (scope : Scope) (C : Addr) (N' : List Str) (fp : List Addr) : Cx where
  prog := X.prog
  w := X.w
  K := X.K
  mg := X.mg
  base := X.base
  A := X.A
  N := N'
  s₀ := s2
  H₀ := H2
  env := compEnvC scope (clAdd X.env scope.names []) C X.env
  outer := X.stack
  stack := X.stack
  ex := fp
  fn := fun _ => false
  calm := X.calm
  pn := X.pn ++ pins
  xe := fun _ _ => False

/-- the block's names at a turn: its own are forgotten, the captured ones stand -/
def blkSt (σ : St) (cap : List Nat) (k : Nat) : St := List.replicate k none ++ cap.map fun j => (σ[j]?).join
def leS (σ σ' : St) : Prop := σ'.length = σ.length ∧ ∀ (i : Nat) v, σ[i]? = some (some v) → σ'[i]? = some (some v)
theorem leS.set {σ : St} {i : Nat} {v : V} (h : σ[i]? = some none) : leS σ (σ.set i (some v)) := by
  refine ⟨by simp, fun j w e => ?_⟩
  by_cases hj : j = i
  · subst hj; rw [h] at e; cases e
  · rw [List.getElem?_set_ne (Ne.symm hj)]; exact e

/-- what a comprehension's scope must be: decided -/
structure CompOk (X : Cx) (scope : Scope) (own : List Str) (cs : List Str) (cap : List Nat) : Prop where
  kind : scope.kind = .function
  cell : ∀ y ∈ scope.names, y.2 ≠ .cell
  names : ∀ y ∈ scope.names, y.2 = .local → scope.names.lookup y.1 = some .local
  free : ∀ y ∈ scope.names, y.2 = .free → X.env.kindOf y.1 = some .cell ∨ X.env.kindOf y.1 = some .free
  caps : ∀ (i : Nat) y, cs[i]? = some y → ∃ j, cap[i]? = some j ∧ X.N[j]? = some y ∧ (y, NameKind.free) ∈ scope.names
  ownl : ∀ y ∈ own, scope.names.lookup y = some .local
  len : cs.length = cap.length
  free2 : ∀ y, (y, NameKind.free) ∈ scope.names → scope.names.lookup y = some .local → False

/-- the tests of a clause -/
def PIfs (X : Cx) (ifs : List Expr) (tt : TT) : Prop :=
  ∀ (pins : List (Addr × Obj)) (s : Shared) (σ : St) (H : Hp) (Q : Bool → Hp → Prop), Inv X pins σ H s → tt σ H Q →
    wpAny (model X.prog X.w) X.A (forIn ifs true fun c r => if r = true then do let ok ← isTrue c X.env (eval c X.env); pure (ForInStep.yield ok) else pure (ForInStep.yield r)) (TP X pins σ Q) X.xe s
def tYes : TT := fun _ H Q => Q true H
theorem pifs_nil {X : Cx} : PIfs X [] tYes := fun _ _ _ H _ I h => wpAny_tests_nil ⟨H, I, h⟩
theorem pifs_one {X : Cx} {c : Expr} {tt : TT} (h : PT X c tt) : PIfs X [c] tt := fun pins s σ H Q I q => wpAny_tests_one (h pins s σ H Q I q)

/-- the turns of a comprehension -/
def CompW (σ : St) (cap : List Nat) (k : Nat) (J : It) (g : TG) (tt : TT) (te : TE) (Q : List V → Hp → Prop) (W : Nat → Nat → List V → Hp → Prop) : Prop :=
  ∀ i m ys H, W i m ys H → (J.stop i H ∧ ys.length ≤ sizeLine ∧ Q ys H) ∨
    (J.go i H ∧ ys.length < sizeLine ∧ ∀ x H', J.yld i H x H' → g x (blkSt σ cap k) H' fun σ2 H2 => leS (blkSt σ cap k) σ2 ∧ tt σ2 H2 fun ok H3 =>
      if ok = true then te σ2 H3 (fun v H4 => ∃ m', m' < m ∧ W (i + 1) m' (ys ++ [v]) H4) else ∃ m', m' < m ∧ W (i + 1) m' ys H3)

theorem HOk.but {P : Program} {w : World} {H : Hp} {h h' : Heap} {C : Addr} (x : HOk P w H h) (n : H C = none) (k : Heap.SameBut C h h') : HOk P w H h' := fun b ob e => by
  refine (x b ob e).stay (fun c w' hc q => (k.2 c ?_).trans q) (fun _ q => q) fun _ _ q => q
  rintro rfl
  rcases hc with rfl | hc
  · rw [n] at e; cases e
  · rw [n] at hc; cases hc
/-- an object that stands there untracked is tracked -/
theorem HOk.add {P : Program} {w : World} {H : Hp} {h : Heap} {a : Addr} {o : HO} (x : HOk P w H h) (n : H a = none) (new : ObjOk P w (upd H a o) h a o) : HOk P w (upd H a o) h := fun b u e => by
  by_cases hb : b = a
  · subst hb; rw [upd_same] at e; cases e; exact new
  · rw [upd_ne hb] at e
    exact (x b u e).stay (fun c v _ q => q) (fun c q => by rw [upd_ne (ne_of_none q n)]; exact q) fun c xs q => by rw [upd_ne (ne_of_none q n)]; exact q

section
variable {X : Cx} {pins : List (Addr × Obj)} {σ : St} {H2 : Hp} {s2 : Shared} {scope : Scope} {own cs : List Str} {cap : List Nat} {fp : List Addr}
theorem blk_start {h1 : Heap} {C : Addr} {tk : Nat} (I : Inv X pins σ H2 s2) (ok : CompOk X scope own cs cap) (hf : ∀ b ∈ fp, FpOk X pins H2 b) (hfl : ∀ b ∈ fp, b < s2.heap.objs.size)
    (hC : s2.heap.objs.size ≤ C) (hns : h1.Ns C (fun _ => none)) (old : ∀ b o, s2.heap.get? b = some o → h1.get? b = some o) :
    Inv (blkCx X pins s2 H2 scope C (own ++ cs) fp) [] (blkSt σ cap own.length) H2 { s2 with heap := h1, toks := tk } := by
  have hfr : ∀ y ∈ scope.names, y.2 = .free → ∃ c, X.env.cells.lookup y.1 = some c := fun y hy e => I.ok.has y.1 (ok.free y hy e)
  have sub : ∀ x c, (clAdd X.env scope.names []).lookup x = some c → X.env.cells.lookup x = some c := fun x c e => clAdd_lookup X.env scope.names [] x c hfr (fun _ _ z => by simp at z) e
  have clt : ∀ x c, (clAdd X.env scope.names []).lookup x = some c → c < s2.heap.objs.size := fun x c e => by
    obtain ⟨v, o, ho, _⟩ := I.cell x c (sub x c e)
    exact Heap.lt_size ho
  refine ⟨⟨I.ok.mod, ok.kind, I.ok.glob, I.ok.blt, hC, fun y z c h1 h2 => I.ok.inj y z c (sub y c h1) (sub z c h2), fun y hy => ?_, fun y c z => ?_, I.ok.hd, I.ok.frames, .inl rfl, fun b hb => ?_, I.bs, Nat.le_trans I.ok.bsz I.sz, fun b o e hb => ?_, fun b hb z => ?_, I.stack, I.stkFree⟩,
    rfl, I.bare, Un.kept old, ⟨_, hns, fun i y v e1 e2 e3 => ?_⟩, fun y c e => ?_, I.hok.fresh hC, fun y c e => I.freeC y c (sub y c e), fun p hp => ?_, I.hok.kept old, ?_⟩
  · have hm := relabel_back ok.cell hy
    exact clAdd_has X.env scope.names [] y hm
  · exact absurd (show false = true from z) Bool.false_ne_true
  · exact ⟨Nat.ne_of_lt (Nat.lt_of_lt_of_le (hfl b hb) hC), fun x c e => (hf b hb).2.2.2.2.1 x c (sub x c e)⟩
  · rcases (hf b hb).2.2.2.1 with z | z
    · exact I.ok.noex b o e z
    · exact absurd (Nat.lt_of_lt_of_le (Heap.lt_size (I.ok.bs b o e).1) z) (Nat.lt_irrefl _)
  · rcases List.mem_cons.mp (I.stkSub b z) with q | q
    · exact (hf b hb).2.1 q
    · exact (hf b hb).2.2.1 q
  · have hi : own.length ≤ i := by
      refine Nat.le_of_not_lt fun q => ?_
      unfold blkSt at e2
      rw [List.getElem?_append_left (by simpa using q), List.getElem?_replicate] at e2
      split at e2 <;> cases e2
    have e1' : cs[i - own.length]? = some y := by
      have e1 : (own ++ cs)[i]? = some y := e1
      rwa [List.getElem?_append_right hi] at e1
    obtain ⟨j, hj, hN, hm⟩ := ok.caps _ y e1'
    have hk := ok.free _ hm rfl
    have e2' : σ[j]? = some (some v) := by
      unfold blkSt at e2
      rw [List.getElem?_append_right (by simpa using hi), List.length_replicate, List.getElem?_map, hj] at e2
      have e2 : (σ[j]?).join = some v := by simpa using e2
      cases q : σ[j]? with
      | none => rw [q] at e2; cases e2
      | some w => rw [q] at e2; have : w = some v := e2; rw [this]
    obtain ⟨m, hn, hl⟩ := I.loc
    obtain ⟨u, ru, l⟩ := hl j y v hN e2' (by rcases hk with q | q; exact .inr (.inl q); exact .inr (.inr q))
    refine ⟨u, ru, .inr ?_⟩
    obtain ⟨c, hc⟩ := clAdd_has X.env scope.names [] y hm
    have hc' := sub y c hc
    have cellu : h1.IsCell c (some u) := by
      rcases l with ⟨k, _⟩ | ⟨k, c', e, o, ho, hd⟩
      · rcases hk with q | q <;> (have z : X.env.kindOf y = _ := q; rw [k] at z; cases z)
      · rw [hc'] at e; cases e
        exact ⟨o, old _ _ ho, hd⟩
    refine ⟨?_, c, hc, cellu⟩
    rcases e3 with z | z | z
    · exfalso
      -- a captured name is no local of the block
      have key : ∀ names : List (Str × NameKind), True := fun _ => trivial
      have z : (relabel scope X.env).names.lookup y = some .local := z
      have zz : scope.names.lookup y = some .local := by
        unfold relabel at z
        dsimp only at z
        revert z
        generalize scope.names = names
        induction names with
        | nil => intro z; simp at z
        | cons q r ih =>
          obtain ⟨n, k⟩ := q
          intro z
          rw [List.map_cons] at z
          by_cases hb : (k == NameKind.free && X.env.scope.kind == .function && X.env.kindOf n == some .cell) = true
          · dsimp only at z
            rw [if_pos hb, List.lookup_cons] at z
            rw [List.lookup_cons]
            cases hx : y == n with
            | true => rw [hx] at z; cases z
            | false => rw [hx] at z; exact ih z
          · dsimp only at z
            rw [if_neg hb, List.lookup_cons] at z
            rw [List.lookup_cons]
            cases hx : y == n with
            | true => rw [hx] at z; exact z
            | false => rw [hx] at z; exact ih z
      have := ok.free2 y hm zz
      exact this
    · exact .inl z
    · exact .inr z
  · obtain ⟨v, o, ho, hd⟩ := I.cell y c (sub y c e)
    exact ⟨v, o, old _ _ ho, hd⟩
  · have hp' : p ∈ X.pn ++ pins := by
      have : p ∈ (X.pn ++ pins) ++ [] := hp
      simpa using this
    obtain ⟨e, n, ne, nf, d⟩ := I.pin p hp'
    refine ⟨old _ _ e, n, Nat.ne_of_lt (Nat.lt_of_lt_of_le (Heap.lt_size e) hC), fun z => ?_, d⟩
    rcases List.mem_cons.mp (I.stkSub p.1 z) with q | q
    · exact ne q
    · exact nf q
  · show (blkSt σ cap own.length).length = (own ++ cs).length
    unfold blkSt
    rw [List.length_append, List.length_replicate, List.length_map, List.length_append, ok.len]
end
end L2

set_option Elab.async false
set_option linter.all false
set_option maxRecDepth 100000
namespace L2
open PySem PySem.Spec PyProof.Rows
section
variable {X : Cx} {pins : List (Addr × Obj)} {σ : St} {H2 : Hp} {s2 : Shared} {scope : Scope} {own cs : List Str} {cap : List Nat} {fp : List Addr} {it : Addr} {tn : Nat → Heap → Prop}
  {elt tg iter : Expr} {ifs : List Expr} {pos : Pos} {J : It} {g : TG} {tt : TT} {te : TE} {E : Value → Shared → Prop} {W : Nat → Nat → List V → Hp → Prop} {Qf : List V → Hp → Prop}

/-- what stands behind the block -/
structure BlkEnd (X : Cx) (pins : List (Addr × Obj)) (σ : St) (Qf : List V → Hp → Prop) (D C : Addr) (s' : Shared) : Prop where
  ex : ∃ (ys : List V) (H' : Hp), H' D = none ∧ Qf ys H' ∧ Inv X pins σ (upd H' D (.lst ys)) s' ∧ FpOk X pins (upd H' D (.lst ys)) C
  ns : ∃ m, s'.heap.Ns C m

theorem Inv.bareP {pins' : List (Addr × Obj)} {H : Hp} {s : Shared} (I : Inv X pins' σ H s) : Inv X [] σ H s := I.pins_of fun p hp => absurd hp (by simp)

theorem comp_run {RR : Value → Addr → Result → Shared → Prop} (I : Inv X pins σ H2 s2) (ok : CompOk X scope own cs cap) (hc : X.calm = true) (T : Turn X.prog X.w X.K tg J fp it tn) (st : tn 0 s2.heap) (hf : ∀ b ∈ fp, FpOk X pins H2 b)
    (hg : ∀ C, PG (blkCx X pins s2 H2 scope C (own ++ cs) fp) tg g) (hi : ∀ C, PIfs (blkCx X pins s2 H2 scope C (own ++ cs) fp) ifs tt) (he : ∀ C, PE (blkCx X pins s2 H2 scope C (own ++ cs) fp) elt te)
    (w0 : ∃ m, W 0 m [] H2) (turn : CompW σ cap own.length J g tt te Qf W)
    (hRR : ∀ D C s', BlkEnd X pins σ Qf D C s' → RR (.ref D) C (.ok .next) s') :
    wpAny (model X.prog X.w) X.A (newList []) (fun acc s₃ => wpAny (model X.prog X.w) X.A (newFunctionEnv scope X.env.globals (clAdd X.env scope.names []) [] X.env.qual none .none (some X.env)) (fun cenv s₄ =>
      codeAny (model X.prog X.w) X.A (.compStart (.ListComp elt [⟨tg, iter, ifs, 0⟩] scope pos) 0 (.ref it) acc { cenv with scope := relabel scope X.env }) (RR acc cenv.locals) s₄) E s₃) E s2 := by
  refine wpAny_newObj_type (wpAny_newFunctionEnv ok.cell (by intro y hy; simp at hy) (fun h₁ hns₁ hsb₁ => ?_) ok.kind)
  dsimp only at hns₁ hsb₁ ⊢
  generalize hHH : s2.heap.push { cls := .type "list", dict := none, data := .seq ([] : List Value).toArray } = HH at hns₁ hsb₁ ⊢
  have hCs : HH.objs.size = s2.heap.objs.size + 1 := by rw [← hHH, Heap.size_push]
  have hDC : s2.heap.objs.size ≠ HH.objs.size := by rw [hCs]; exact Nat.ne_of_lt (Nat.lt_succ_self _)
  have hCle : s2.heap.objs.size ≤ HH.objs.size := by rw [hCs]; exact Nat.le_succ _
  have hfl : ∀ b ∈ fp, b < s2.heap.objs.size := fun b hb => by
    obtain ⟨o, e, _⟩ := T.obj 0 _ st b hb
    exact Heap.lt_size e
  have old : ∀ b o, s2.heap.get? b = some o → h₁.get? b = some o := fun b o e => hsb₁.extBut b o (by rw [hCs]; exact Nat.ne_of_lt (Nat.lt_succ_of_lt (Heap.lt_size e))) (Heap.get?_push_of_some _ (hHH ▸ Heap.get?_push_of_some _ e))
  have hacc : h₁.PlainList s2.heap.objs.size #[] := ⟨_, hsb₁.extBut _ _ hDC (Heap.get?_push_of_some _ (hHH ▸ Heap.get?_push_size _ rfl))⟩
  generalize hD : s2.heap.objs.size = D at *
  generalize hCC : HH.objs.size = C at *
  have hns₁' : h₁.Ns C (fun _ => none) := hns₁
  have I0 : Inv (blkCx X pins s2 H2 scope C (own ++ cs) fp) [] (blkSt σ cap own.length) H2 { s2 with heap := h₁, toks := s2.toks + ([] : List (Str × Value)).length } :=
    blk_start I ok hf (fun b hb => by rw [hD]; exact hfl b hb) (by rw [hD]; exact hCle) hns₁' old
  -- static facts
  have Dfs : D ∉ frs X.stack := fun hb => by
    obtain ⟨_, o, ho, _⟩ := I.stack.mem hb
    exact absurd (Heap.lt_size ho) (by rw [hD]; exact Nat.lt_irrefl _)
  have Dfp : ∀ b ∈ fp, D ≠ b := fun b hb z => absurd (hfl b hb) (by rw [← z]; exact Nat.lt_irrefl _)
  have clt : ∀ x c, (clAdd X.env scope.names []).lookup x = some c → c < D := fun x c e => by
    have e' := clAdd_lookup X.env scope.names [] x c (fun y hy e => I.ok.has y.1 (ok.free y hy e)) (fun _ _ z => by simp at z) e
    obtain ⟨v, o, ho, _⟩ := I.cell x c e'
    have := Heap.lt_size ho
    rw [hD] at this; exact this
  have plt : ∀ p ∈ X.pn ++ pins, p.1 < D := fun p hp => by
    have := Heap.lt_size (I.pin p hp).1
    rw [hD] at this; exact this
  have stat : ∀ {H' : Hp} {ob : Obj}, (∀ b ∈ fp, H' b = none) → ∀ b ∈ fp, FpOk (blkCx X pins s2 H2 scope C (own ++ cs) fp) [(D, ob)] H' b := fun {H' ob} hn b hb => by
    have q := I0.ok.exf b hb
    refine ⟨hn b hb, q.1, I0.ok.exfs b hb, .inl hb, q.2, fun p hp => ?_⟩
    rcases List.mem_append.mp hp with z | z
    · exact (hf b hb).2.2.2.2.2 p z
    · have : p = (D, ob) := by simpa using z
      subst this
      exact Dfp b hb
  have loop : codeAny (model X.prog X.w) X.A (.compLoop (.ListComp elt [⟨tg, iter, ifs, 0⟩] scope pos) 0 (.ref it) (.ref D) (compEnvC scope (clAdd X.env scope.names []) C X.env)) (RR (.ref D) C)
      { s2 with heap := h₁, toks := s2.toks + ([] : List (Str × Value)).length } := by
    obtain ⟨m0, w0⟩ := w0
    refine codeAny_loop rfl (fun n s' => ∃ i H' its ys, Inv (blkCx X pins s2 H2 scope C (own ++ cs) fp) [] (blkSt σ cap own.length) H' s' ∧ tn i s'.heap ∧ (∀ b ∈ fp, H' b = none) ∧ s'.heap.PlainList D its.toArray ∧ Vals ys its ∧ H' D = none ∧ W i n ys H') ?_ m0
      ⟨0, H2, [], [], I0, T.keep 0 _ _ st fun b _ o e => old b o e, fun b hb => (hf b hb).1, hacc, .nil, I.hok.fresh (by rw [hD]; exact Nat.le_refl _), w0⟩
    rintro n s3 ⟨i, H3, its, ys, I3, st3, fr3, ⟨nn, pl3⟩, rv3, hD3, w3⟩
    show wpAny _ X.A ((compTurn (.ListComp elt [⟨tg, iter, ifs, 0⟩] scope pos) 0 (.ref it) (.ref D) (compEnvC scope (clAdd X.env scope.names []) C X.env)).onRaise (fun x => do noteFrame x (compEnvC scope (clAdd X.env scope.names []) C X.env); theTreesLotGoes x)) _ _ s3
    refine wpAny_noted ?_
    rw [compTurn_list]
    refine wpAny_bind (wpAny_standAt (wpAny_bind ?_))
    have I3' : Inv (blkCx X pins s2 H2 scope C (own ++ cs) fp) [(D, { cls := .type "list", data := .seq its.toArray nn })] (blkSt σ cap own.length) H3 s3 :=
      I3.pins_of fun p hp => by
        have : p = (D, { cls := .type "list", data := .seq its.toArray nn }) := by simpa using hp
        subst this
        exact ⟨pl3, hD3, hDC, Dfs, fun v z => by cases z⟩
    rcases turn i n ys H3 w3 with ⟨stop, hz, qf⟩ | ⟨go, hz, step⟩
    · refine thn (T.done (blkCx X pins s2 H2 scope C (own ++ cs) fp) rfl rfl rfl hc i _ s3 _ H3 _ I3' (stat fr3) st3 stop) fun r s4 ⟨hr, I4⟩ => ?_
      subst hr
      refine wpAny_pure (hRR D C s4 ⟨⟨ys, H3, hD3, qf, ?_, ?_⟩, ?_⟩)
      · have pl4 := (I4.pin (D, _) (List.mem_append_right _ (List.mem_singleton.mpr rfl))).1
        have u4 := I4.base
        have Ds2 : s2.heap.get? D = none := Heap.get?_none_of_le (by rw [hD]; exact Nat.le_refl _)
        refine I.call' (s' := s4) (ch := fp) I4.os ⟨u4.keep, u4.slot, fun b o e n hx => ?_, u4.there, fun b xs e => ?_, fun b o u e => ?_, fun b ps e => ?_⟩ ?_ I4.bare fun b hb => ⟨(hf b hb).2.2.2.1, (hf b hb).2.1, (hf b hb).2.2.2.2.1, (hf b hb).2.2.2.2.2⟩
        · rw [upd_ne (fun z => by rw [z, Ds2] at e; cases e)]
          exact u4.free b o e n hx
        · have := u4.tups b xs e
          rw [upd_ne (ne_of_none this hD3)]; exact this
        · have := u4.frzs b o u e
          rw [upd_ne (ne_of_none this hD3)]; exact this
        · obtain ⟨more, e'⟩ := u4.tbls b ps e
          exact ⟨more, by rw [upd_ne (ne_of_none e' hD3)]; exact e'⟩
        · exact I4.hok.add hD3 ⟨hz, its, nn, rv3, pl4⟩
      · have CH : (upd H3 D (.lst ys)) C = none := by rw [upd_ne (Ne.symm hDC)]; exact I4.free
        exact I.fpOk (H' := upd H3 D (.lst ys)) (by rw [hD]; exact hCle) CH
      · obtain ⟨m, hn, _⟩ := I4.loc
        exact ⟨m, hn⟩
    · refine thn (T.item (blkCx X pins s2 H2 scope C (own ++ cs) fp) rfl rfl rfl hc i _ s3 _ H3 _ I3' (stat fr3) st3 go) fun r s4 ⟨u, hr, h4⟩ => ?_
      subst hr
      refine wpAny_bind (thn h4 fun _ s5 ⟨x, H5, I5, r5, y5, st5, fr5⟩ => ?_)
      have I5' := I5.pinned (stat fr5) (T.obj _ _ st5)
      refine wpAny_bind (wpAny_mono (hg C _ s5 _ H5 x u _ I5' r5 (step x H5 y5)) (fun _ s6 ⟨σ6, H6, I6, le6, q6⟩ => ?_) fun _ _ z => False.elim z)
      refine wpAny_bind (wpAny_mono (hi C _ s6 σ6 H6 _ I6 q6) (fun b s7 ⟨H7, I7, q7⟩ => ?_) fun _ _ z => False.elim z)
      have back : ∀ {pins' : List (Addr × Obj)} {H8 : Hp} {s8 : Shared}, Inv (blkCx X pins s2 H2 scope C (own ++ cs) fp) pins' σ6 H8 s8 → Inv (blkCx X pins s2 H2 scope C (own ++ cs) fp) [] (blkSt σ cap own.length) H8 s8 := fun I8 =>
        I8.bareP.weak le6.1.symm fun i v e => le6.2 i v e
      cases b with
      | false =>
        rw [if_neg Bool.false_ne_true] at q7
        obtain ⟨m', hm, w7⟩ := q7
        refine wpAny_pure ⟨rfl, m', hm, i + 1, H7, its, ys, back I7, T.keep _ _ _ st5 fun b hb o e => ?_, fun b hb => ?_, ⟨nn, ?_⟩, rv3, ?_, w7⟩
        · exact (I7.pin (b, o) (List.mem_append_right _ (List.mem_append_right _ (mem_pinsAt hb e)))).1
        · obtain ⟨o, e, d⟩ := T.obj _ _ st5 b hb
          exact (I7.pin (b, o) (List.mem_append_right _ (List.mem_append_right _ (mem_pinsAt hb e)))).2.1
        · exact (I7.pin (D, _) (List.mem_append_right _ (List.mem_append_left _ (List.mem_singleton.mpr rfl)))).1
        · exact (I7.pin (D, _) (List.mem_append_right _ (List.mem_append_left _ (List.mem_singleton.mpr rfl)))).2.1
      | true =>
        rw [if_pos rfl] at q7
        refine wpAny_bind (wpAny_bind (wpAny_mono (he C _ s7 σ6 H7 _ I7 q7) (fun y s8 ⟨v, H8, I8, r8, m', hm, w8⟩ => ?_) fun _ _ z => False.elim z))
        have pD := I8.pin (D, { cls := .type "list", data := .seq its.toArray nn }) (List.mem_append_right _ (List.mem_append_left _ (List.mem_singleton.mpr rfl)))
        have hlen := rv3.length
        refine wpAny_bind (wpAny_list_append_plain (hsz := by rw [List.size_toArray]; omega) ⟨nn, pD.1⟩ fun h9 pl9 sb9 => wpAny_pure (wpAny_pure ?_))
        have I8' := back I8
        refine ⟨rfl, m', hm, i + 1, H8, its ++ [y], ys ++ [v], ?_, T.keep _ _ _ st5 fun b hb o e => ?_, fun b hb => ?_, ?_, rv3.append (.cons r8 .nil), pD.2.1, w8⟩
        · exact I8'.turned (t' := s8.toks) (fun b o hb e => sb9.extBut b o hb e) pD.2.1 hDC (.inr (by show s2.heap.objs.size ≤ D; rw [hD]; exact Nat.le_refl _)) (fun x c e => Nat.ne_of_lt (clt x c e)) fun p hp => by
            have hp' : p ∈ X.pn ++ pins := by
              have : p ∈ (X.pn ++ pins) ++ [] := hp
              simpa using this
            exact Nat.ne_of_lt (plt p hp')
        · exact sb9.extBut b o (Ne.symm (Dfp b hb)) (I8.pin (b, o) (List.mem_append_right _ (List.mem_append_right _ (mem_pinsAt hb e)))).1
        · obtain ⟨o, e, d⟩ := T.obj _ _ st5 b hb
          exact (I8.pin (b, o) (List.mem_append_right _ (List.mem_append_right _ (mem_pinsAt hb e)))).2.1
        · have e : its.toArray.push y = (its ++ [y]).toArray := by simp
          rw [← e]; exact pl9
  exact codeAny_compStart_list loop (T.self _ 0 _ _ _ (T.keep 0 _ _ st fun b _ o e => old b o e) loop)

/-- the reading of [elt for tg in iter if ..] -/
def tComp (wi : TI) (cap : List Nat) (k : Nat) (g : TG) (tt : TT) (te : TE) : TE := fun σ H Q => wi σ H fun J H1 =>
  ∃ W : Nat → Nat → List V → Hp → Prop, (∃ m, W 0 m [] H1) ∧ CompW σ cap k J g tt te (fun ys H' => ∀ p, H' p = none → Q (.ref p) (upd H' p (.lst ys))) W
theorem pe_comp {wi : TI} (hc : X.calm = true) (hit : PI X tg iter wi) (ok : CompOk X scope own cs cap)
    (hg : ∀ pins s2 H2 C fp, PG (blkCx X pins s2 H2 scope C (own ++ cs) fp) tg g) (hi : ∀ pins s2 H2 C fp, PIfs (blkCx X pins s2 H2 scope C (own ++ cs) fp) ifs tt) (he : ∀ pins s2 H2 C fp, PE (blkCx X pins s2 H2 scope C (own ++ cs) fp) elt te)
    (hs : ∀ x, foldedSetIterable iter X.env x = pure x := by intro _; rfl) : PE X (.ListComp elt [⟨tg, iter, ifs, 0⟩] scope pos) (tComp wi cap own.length g tt te) := by
  intro pins s σ H Q I h
  rw [eval_ListComp]
  refine wpAny_comprehension_free (use := none) rfl hs (closure_eq fun y hy e => I.ok.has y.1 (ok.free y hy e)) ok.kind ok.names (thn (hit pins s σ H _ I h) fun v s1 h1 => thn h1 fun itv s2 h2 => ?_)
  obtain ⟨it, fp, tn, J, H2, e, I2, T, st2, f2, W, w0, turn⟩ := h2
  subst e
  refine comp_run (RR := fun acc C => compPost (model X.prog X.w) X.A X.xe none (EP X pins σ Q) acc C) I2 ok hc T st2 f2 (fun C => hg _ _ _ _ _) (fun C => hi _ _ _ _ _) (fun C => he _ _ _ _ _) w0 turn fun D C s' B => ?_
  obtain ⟨⟨ys, H', hD, q, I', fp'⟩, m, hn⟩ := B
  obtain ⟨f0, f1, f2', f3, f4, f5⟩ := fp'
  exact ⟨m, hn, fun h' sb => ⟨.ref D, _, I'.turned (t' := s'.toks) (fun b o hb e => sb.extBut b o hb e) f0 f1 f3 f4 f5, rfl, q D hD⟩⟩
/-- name = [elt for tg in iter if ..] where the store comes ahead of the block's end -/
theorem ps_comp {wi : TI} {i : Nat} {y : Str} {py spos : Pos} (hc : X.calm = true) (hN : X.N.Nodup) (hiy : X.N[i]? = some y) (hy : X.env.scope.names.lookup y = some .local)
    (hsw : swapsWith (.ListComp elt [⟨tg, iter, ifs, 0⟩] scope pos) (some (.Name y py)) spos.line X.env = pure true) (hit : PI X tg iter wi) (ok : CompOk X scope own cs cap)
    (hg : ∀ pins s2 H2 C fp, PG (blkCx X pins s2 H2 scope C (own ++ cs) fp) tg g) (hi : ∀ pins s2 H2 C fp, PIfs (blkCx X pins s2 H2 scope C (own ++ cs) fp) ifs tt) (he : ∀ pins s2 H2 C fp, PE (blkCx X pins s2 H2 scope C (own ++ cs) fp) elt te)
    (hs : ∀ x, foldedSetIterable iter X.env x = pure x := by intro _; rfl) : PS X (.Assign [.Name y py] (.ListComp elt [⟨tg, iter, ifs, 0⟩] scope pos) spos) (tAsg (tComp wi cap own.length g tt te) (gName i)) := by
  intro pins s σ H D0 I h
  rw [exec_Assign_Name_used _ _ _ _ hsw]
  refine wpAny_bind (wpAny_standAt (wpAny_bind ?_))
  show wpAny _ X.A (do let _ ← comprehension (.ListComp elt [⟨tg, iter, ifs, 0⟩] scope pos) scope X.env _ (newList []) false (eval iter X.env) (some (assign (.Name y py) X.env))) _ _ s
  refine wpAny_bind (wpAny_mono (wpAny_comprehension_free (use := some (assign (.Name y py) X.env)) (Q := fun _ s' => SP X pins D0 .next s') rfl hs (closure_eq fun y hy e => I.ok.has y.1 (ok.free y hy e)) ok.kind ok.names
    (thn (hit pins s σ H _ I h) fun v s1 h1 => thn h1 fun itv s2 h2 => ?_)) (fun _ s' hq => wpAny_pure (wpAny_pure hq)) fun _ _ e => e)
  obtain ⟨it, fp, tn, J, H2, e, I2, T, st2, f2, W, w0, turn⟩ := h2
  subst e
  refine comp_run (RR := fun acc C => compPost (model X.prog X.w) X.A X.xe (some (assign (.Name y py) X.env)) (fun _ s' => SP X pins D0 .next s') acc C) I2 ok hc T st2 f2 (fun C => hg _ _ _ _ _) (fun C => hi _ _ _ _ _) (fun C => he _ _ _ _ _) w0 turn fun D C s' B => ?_
  obtain ⟨⟨ys, H', hD, q, I', fp'⟩, m, hn⟩ := B
  obtain ⟨f0, f1, f2', f3, f4, f5⟩ := fp'
  show wpAny _ X.A (assign (.Name y py) X.env (.ref D)) _ _ _
  refine wpAny_assign_Name (store_ok2 I' hN hiy (.inl hy) (v := .ref D) rfl (fun s3 I3 ⟨a, sb, ha⟩ => ?_) (.inr hy))
  have hCa : C ≠ a := by
    rcases ha with z | z
    · rw [z]; exact f1
    · exact fun q => f4 y a z q.symm
  refine ⟨m, hn.sameBut sb hCa, fun h' sb' => ⟨_, _, I3.turned (t' := s3.toks) (fun b o hb e => sb'.extBut b o hb e) f0 f1 f3 f4 f5, q D hD⟩⟩
end
end L2

set_option Elab.async false
set_option linter.all false
set_option maxRecDepth 100000
namespace L2
open PySem PySem.Spec PyProof.Rows

/-! ### // by a number of up to 60 figures -/
def CDivB (i j : Int) : Prop := 0 < j ∧ j ≤ 10 ^ 60
theorem CDivB.np {i j : Int} (h : CDivB i j) : Builtin.divisionGoesByPylong i j = false := by
  refine PyProof.noPylong_of_log2 ?_
  have h1 : j.natAbs < 2 ^ 200 := by
    obtain ⟨a, b⟩ := h
    omega
  have h2 : j.natAbs.log2 < 200 := (Nat.log2_lt (by have := h.1; omega)).mpr h1
  omega
section
variable {X : Cx}
theorem op_fdivB : OpR X (binaryOp .FloorDiv) (rI CDivB fun i j => .int (i / j)) := opI fun i j _ _ _ _ _ hc q => by
  refine floordiv_int (by have := hc.1; omega) ?_ (.inl hc.np)
  rw [Int.fdiv_eq_ediv_of_nonneg _ (by have := hc.1; omega)]
  exact q

/-! ### isinstance of built-in types -/
theorem Inv.kitx {pins : List (Addr × Obj)} {σ : St} {H : Hp} {s : Shared} {x : V} {u t : Value} (I : Inv X pins σ H s) (rx : RelV x u) (ty : TyOf X.K H x t) :
    ∃ P : Heap → Prop, PySem.W.KitX X.K u t P ∧ P s.heap ∧ u ≠ .builtin "__main__.__loader__#opaque" := by
  cases ty with
  | non => cases (show u = Value.none from rx); exact ⟨_, PySem.W.kitx_none, True.intro, fun z => nomatch z⟩
  | bl y => cases (show u = Value.bool y from rx); exact ⟨_, PySem.W.kitx_bool, True.intro, fun z => nomatch z⟩
  | int i => obtain ⟨t, q⟩ := (show ∃ t, u = Value.int i t from rx); cases q; exact ⟨_, PySem.W.kitx_int, True.intro, fun z => nomatch z⟩
  | str y => obtain ⟨t, q⟩ := (show ∃ t, u = Value.str y t from rx); cases q; exact ⟨_, PySem.W.kitx_str, True.intro, fun z => nomatch z⟩
  | flt y => obtain ⟨t, q⟩ := (show ∃ t, u = Value.float y t from rx); cases q; exact ⟨_, PySem.W.kitx_float, True.intro, fun z => nomatch z⟩
  | @lst a xs ea =>
    cases (show u = Value.ref a from rx)
    obtain ⟨_, _, n, _, h1⟩ := (show ObjOk X.prog X.w H s.heap a (.lst xs) from I.hok a _ ea)
    exact ⟨_, PySem.W.kitx_list, ⟨_, h1, rfl⟩, fun z => nomatch z⟩
  | @frz a ob xs ea =>
    cases (show u = Value.ref a from rx)
    obtain ⟨_, _, _, n, _, h1⟩ := (show ObjOk X.prog X.w H s.heap a (.frz ob (.lst xs)) from I.hok a _ ea)
    exact ⟨_, PySem.W.kitx_list, ⟨_, h1, rfl⟩, fun z => nomatch z⟩
  | @tup a xs ea =>
    cases (show u = Value.ref a from rx)
    obtain ⟨_, _, _, p⟩ := (show ObjOk X.prog X.w H s.heap a (.tup xs) from I.hok a _ ea)
    obtain ⟨o, h1, h2, _⟩ := p
    exact ⟨_, PySem.W.kitx_tuple, ⟨o, h1, h2⟩, fun z => nomatch z⟩
  | @dK a kvs ea =>
    cases (show u = Value.ref a from rx)
    obtain ⟨_, _, vs, _, p⟩ := (show ObjOk X.prog X.w H s.heap a (.dK kvs) from I.hok a _ ea)
    obtain ⟨o, es, ep, h1, h2, _⟩ := p
    exact ⟨_, PySem.W.kitx_dict, ⟨o, h1, h2.1⟩, fun z => nomatch z⟩
  | @dT a kvs ea =>
    cases (show u = Value.ref a from rx)
    obtain ⟨_, _, xs, _, o, es, ep, h1, h2, _⟩ := (show ObjOk X.prog X.w H s.heap a (.dT kvs) from I.hok a _ ea)
    exact ⟨_, PySem.W.kitx_dict, ⟨o, h1, h2.1⟩, fun z => nomatch z⟩
  | @ins a C dx fs ea cl ha hn htk hm =>
    cases (show u = Value.ref a from rx)
    obtain ⟨mA, O, _⟩ := ins_get I.hok ea
    obtain ⟨od, J, _⟩ := O.look
    exact ⟨_, PySem.W.kitx_own (cl.get _) cl.hd ha hn htk hm, J, fun z => nomatch z⟩

/-- a class as a value -/
def clV : V → Option Value
  | .ty T => some (.type T)
  | .ref C => some (.ref C)
  | _ => none
theorem clV.rel {v : V} {u c : Value} (e : clV v = some c) (r : RelV v u) : u = c := by
  cases v with
  | ty T => have e' : Value.type T = c := Option.some.inj e; rw [← e']; exact r
  | ref C => have e' : Value.ref C = c := Option.some.inj e; rw [← e']; exact r
  | _ => cases e
def clVs : List V → Option (List Value)
  | [] => some []
  | v :: r => match clV v, clVs r with
    | some c, some cs => some (c :: cs)
    | _, _ => none
theorem clVs.rel : ∀ {vs : List V} {us cs : List Value}, clVs vs = some cs → Vals vs us → us = cs
  | [], _, _, e, .nil => Option.some.inj e
  | v :: r, _, _, e, .cons r1 r2 => by
    unfold clVs at e
    split at e
    · rename_i c cs' e1 e2
      cases e
      rw [clV.rel e1 r1, clVs.rel e2 r2]
    · cases e
/-- isinstance(x, c), isinstance(x, (c, ..)) -/
theorem call_isinst : CallR X (.builtin "isinstance") (fun xs H Q => ∃ x cv t c b, xs = [x, cv] ∧ TyOf X.K H x t ∧ clV cv = some c ∧ PySem.W.kitOne X.K t c = some b ∧ Q (.bl b) H) := by
  intro pins s σ H xs us Q I rv h
  obtain ⟨x, cv, t, c, b, rfl, ty, e1, e2, q⟩ := h
  cases rv with
  | cons r1 rr =>
    cases rr with
    | cons r2 rr =>
      cases rr
      rw [clV.rel e1 r2]
      exact isinst_ok I r1 ty e2 fun tk => ⟨.bl b, H, I.tok tk, rfl, q⟩
theorem call_isinstT : CallR X (.builtin "isinstance") (fun xs H Q => ∃ x p t cvs cs b, xs = [x, .ref p] ∧ TyOf X.K H x t ∧ H p = some (.tup cvs) ∧ clVs cvs = some cs ∧ PySem.W.kitAny X.K t cs = some b ∧ Q (.bl b) H) := by
  intro pins s σ H xs us Q I rv h
  obtain ⟨x, p, t, cvs, cs, b, rfl, ty, hp, e1, e2, q⟩ := h
  cases rv with
  | cons r1 rr =>
    cases rr with
    | cons r2 rr =>
      cases rr
      cases r2
      obtain ⟨_, its, rits, o, ho, hc, n, hd⟩ := I.hok p _ hp
      obtain ⟨P, Z, p1, p2⟩ := I.kitx r1 ty
      obtain ⟨oc, od, dt, osl⟩ := o
      replace hc : oc = .type "tuple" := hc
      replace hd : dt = .seq its.toArray n := hd
      subst hc hd
      have e3 := clVs.rel e1 rits
      subst e3
      exact PySem.W.kia_tup Z I.kIn p1 ho e2 p2 fun tk => ⟨.bl b, H, I.tok tk, rfl, q⟩
end

/-! ### == of data -/
mutual
inductive DatV (K : PySem.W.Frag) (H : Hp) : V → PyData → Prop
  | non : DatV K H .non .none
  | bl (b : Bool) : DatV K H (.bl b) (.bool b)
  | int (i : Int) : DatV K H (.int i) (.int i)
  | str (x : Str) : DatV K H (.str x) (.str x)
  | lst {a : Addr} {xs : List V} {ds : List PyData} : SqL K H a xs → DatVs K H xs ds → DatV K H (.ref a) (.list ds)
  | tup {a : Addr} {xs : List V} {ds : List PyData} : SqT K H a xs → DatVs K H xs ds → DatV K H (.ref a) (.tuple ds)
inductive DatVs (K : PySem.W.Frag) (H : Hp) : List V → List PyData → Prop
  | nil : DatVs K H [] []
  | cons {x : V} {d : PyData} {xs : List V} {ds : List PyData} : DatV K H x d → DatVs K H xs ds → DatVs K H (x :: xs) (d :: ds)
end
section
variable {X : Cx} {pins : List (Addr × Obj)} {σ : St} {H : Hp} {s : Shared}
mutual
theorem Inv.reads (I : Inv X pins σ H s) : ∀ {v : V} {d : PyData}, DatV X.K H v d → ∀ {u : Value}, RelV v u → ∃ as, Reads s.heap u d as
  | _, _, .non, u, r => by cases (show u = Value.none from r); exact ⟨_, .none⟩
  | _, _, .bl b, u, r => by cases (show u = Value.bool b from r); exact ⟨_, .bool b⟩
  | _, _, .int i, u, r => by obtain ⟨t, e⟩ := (show ∃ t, u = Value.int i t from r); subst e; exact ⟨_, .int i t⟩
  | _, _, .str x, u, r => by obtain ⟨t, e⟩ := (show ∃ t, u = Value.str x t from r); subst e; exact ⟨_, .str x t⟩
  | _, _, .lst (a := a) h hs, u, r => by
    cases (show u = Value.ref a from r)
    obtain ⟨its, rv, ⟨o, n, e, c, _, d⟩, _⟩ := I.list h
    obtain ⟨as, ra⟩ := I.readsAll hs rv
    exact ⟨_, .list e c d (by simpa using ra)⟩
  | _, _, .tup (a := a) h hs, u, r => by
    cases (show u = Value.ref a from r)
    obtain ⟨its, rv, ⟨o, e, c, n, d⟩, _⟩ := I.tuple h
    obtain ⟨as, ra⟩ := I.readsAll hs rv
    exact ⟨_, .tuple e c d (by simpa using ra)⟩
theorem Inv.readsAll (I : Inv X pins σ H s) : ∀ {vs : List V} {ds : List PyData}, DatVs X.K H vs ds → ∀ {us : List Value}, Vals vs us → ∃ as, ReadsAll s.heap us ds as
  | _, _, .nil, _, .nil => ⟨_, .nil⟩
  | _, _, .cons h hs, _, .cons r rs => by
    obtain ⟨as, ra⟩ := I.reads h r
    obtain ⟨bs, rb⟩ := I.readsAll hs rs
    exact ⟨_, .cons ra rb⟩
end
end
section
variable {X : Cx}
theorem op_neD (hu : X.A.units + 64 < cLine) : OpR X (compareOp .NotEq) (fun x y H Q => ∃ da db, DatV X.K H x da ∧ DatV X.K H y db ∧ SeqAt.shaped da = true ∧ SeqAt.shaped db = true ∧ Q (.bl (!PyData.eqv da db)) H) := by
  intro pins s σ H x y v u Q I rx ry h
  obtain ⟨da, db, hx, hy, s1, s2, q⟩ := h
  obtain ⟨as, ra⟩ := I.reads hx rx
  obtain ⟨bs, rb⟩ := I.reads hy ry
  exact ne_dataH ra rb s1 s2 hu ⟨.bl _, H, I, rfl, q⟩
theorem op_eqD (hu : X.A.units + 64 < cLine) : OpR X (compareOp .Eq) (fun x y H Q => ∃ da db, DatV X.K H x da ∧ DatV X.K H y db ∧ SeqAt.shaped da = true ∧ SeqAt.shaped db = true ∧ Q (.bl (PyData.eqv da db)) H) := by
  intro pins s σ H x y v u Q I rx ry h
  obtain ⟨da, db, hx, hy, s1, s2, q⟩ := h
  obtain ⟨as, ra⟩ := I.reads hx rx
  obtain ⟨bs, rb⟩ := I.reads hy ry
  exact eq_dataH ra rb s1 s2 hu ⟨.bl _, H, I, rfl, q⟩
end

/-! ### (a, b, ..) = a list of that length -/
section
variable {prog : Program} {w : World} {A : Around} {E : Value → Shared → Prop}
theorem draw_listN {it l : Addr} {items : Array Value} (hne : l ≠ it) : ∀ (n i : Nat) (s : Shared) (Q : List Value → Shared → Prop), s.heap.IsListIter it l i → s.heap.IsList l items → i + n ≤ items.size →
    (∀ h', h'.IsListIter it l (i + n) → Heap.SameBut it s.heap h' → Q ((items.toList.drop i).take n) { s with heap := h' }) → wpAny (model prog w) A (draw (.ref it) n) Q E s
  | 0, i, s, Q, hit, _, _, hQ => by
    show wpAny _ _ (pure []) Q E s
    exact wpAny_pure (by simpa using hQ s.heap hit (Heap.SameBut.refl ..))
  | n + 1, i, s, Q, hit, ht, hle, hQ => by
    have hlt : i < items.size := by omega
    show wpAny _ _ (pyNext (.ref it) >>= _) Q E s
    refine wpAny_bind (wpAny_pyNext_list_item hit ht (x := items[i]) (by simp [hlt]) fun h₁ hit₁ hs₁ => ?_)
    refine wpAny_bind (wpAny_holding (draw_listN hne n (i + 1) _ _ hit₁ (ht.extBut hs₁.extBut hne) (by omega) fun h₂ hit₂ hs₂ => wpAny_pure ?_))
    have hd : items.toList.drop i = items[i] :: items.toList.drop (i + 1) := by simp [List.drop_eq_getElem_cons, hlt]
    have q := hQ h₂ (by rw [show i + (n + 1) = i + 1 + n by omega]; exact hit₂) (hs₁.trans hs₂)
    rw [hd, List.take_succ_cons] at q
    exact q
theorem unpackItems_listN {s : Shared} {l : Addr} {items : Array Value} {Q : List Value → Shared → Prop} (hh : A.handled = none) (ht : s.heap.IsList l items)
    (hQ : ∀ h', Heap.ExtBut s.heap.objs.size s.heap h' → Q items.toList { s with heap := h' }) : wpAny (model prog w) A (unpackItems (.ref l) items.size none) Q E s := by
  have hlt : l ≠ s.heap.objs.size := by obtain ⟨o, ho, _⟩ := ht; exact Nat.ne_of_lt (Heap.lt_size ho)
  have hp : (s.heap.push { cls := .type "list_iterator", data := .fields #[.ref l, .int 0 0] }).IsList l items := by
    obtain ⟨o, ho, r⟩ := ht; exact ⟨o, Heap.get?_push_of_some _ ho, r⟩
  unfold unpackItems
  refine wpAny_bind ?_
  · unfold notIterableAtAll
    refine wpAny_bind (wpAny_specialOf ht.typeIs PySem.slot_list_iter.lookup ?_)
    refine wpAny_pure ?_
    simp only [Bool.false_eq_true, if_false]
    refine wpAny_bind (wpAny_holding (wpAny_pyIter_list ht ?_))
    refine wpAny_bind (wpAny_holding (draw_listN hlt items.size 0 _ _ ⟨_, Heap.get?_push_size _ rfl, rfl, rfl⟩ hp (by omega) fun h₁ hit₁ hs₁ => ?_))
    have hall : List.take items.size (List.drop 0 items.toList) = items.toList := by
      rw [List.drop_zero]; exact List.take_of_length_le (by simp)
    rw [hall]
    rw [if_neg (by simp)]
    have ht₁ : h₁.IsList l items := hp.extBut hs₁.extBut hlt
    refine wpAny_bind (wpAny_holding (wpAny_pyNext_list_end hh hit₁ ht₁ (by simp) fun h₂ he₂ => ?_))
    simp only [Option.isSome_none, Bool.false_eq_true, if_false]
    refine wpAny_pure (hQ h₂ fun b o hb e => he₂ b o hb (hs₁.extBut b o hb (Heap.get?_push_of_some _ e)))
theorem assign_Tuple_listN {s : Shared} {env : Env} {elts : List Expr} {x1} {pos : Pos} {l : Addr} {items : Array Value} {Q : Unit → Shared → Prop} (hh : A.handled = none) (ht : s.heap.IsList l items)
    (hn : (assignEach elts env).length = items.size) (hstar : (assignEach elts env).findIdx? (·.1) = none)
    (h : ∀ h', Heap.ExtBut s.heap.objs.size s.heap h' → wpAny (model prog w) A (assignInOrder ((assignEach elts env).map (·.2)) items.toList) Q E { s with heap := h' }) :
    wpAny (model prog w) A (assign (.Tuple elts x1 pos) env (.ref l)) Q E s := by
  rw [assign_Tuple]
  refine wpAny_bind (wpAny_standAt ?_)
  unfold unpack
  rw [hn, hstar]
  exact wpAny_bind (wpAny_holding (unpackItems_listN hh ht h))
end
section
variable {X : Cx} {pos : Pos}
/-- .. = a list or a tuple of that length -/
def gSeq (K : PySem.W.Frag) (n : Nat) (t : TGs) : TG := fun v σ H Q => ∃ a xs, v = .ref a ∧ (SqL K H a xs ∨ SqT K H a xs) ∧ xs.length = n ∧ t xs σ H Q
theorem pg_seq {es : List Expr} {k : Nat} {t : TGs} {n : Nat} (hc : X.calm = true) (h : PGs X es t)
    (hn : (assignEach es X.env).length = n := by rfl) (hst : (assignEach es X.env).findIdx? (·.1) = none := by rfl) : PG X (.Tuple es k pos) (gSeq X.K n t) := by
  intro pins s σ H v u Q I r hw
  obtain ⟨a, xs, e1, hq, hl, hw⟩ := hw
  rcases hq with hq | hq
  · subst e1
    cases r
    obtain ⟨its, rv, ht, hz⟩ := I.list hq
    refine assign_Tuple_listN (I.ok.hd hc) ht.isList (by simp [hn, ← hl, rv.length]) hst fun h' hx => ?_
    have I1 : Inv X pins σ H { s with heap := h' } := I.kept (t' := s.toks) fun b o e => hx b o (Nat.ne_of_lt (Heap.lt_size e)) e
    exact h pins _ σ H xs _ Q I1 (by simpa using rv) hw
  · exact pg_tup hc h hn hst pins s σ H v u Q I r ⟨a, xs, e1, hq, hl, hw⟩
end

/-! ### zip of two tracked lists -/
def Itz (l1 l2 : Addr) : It :=
  ⟨fun i H => ∃ xs ys x y, H l1 = some (.lst xs) ∧ H l2 = some (.lst ys) ∧ xs[i]? = some x ∧ ys[i]? = some y,
   fun i H v H' => ∃ p xs ys x y, H p = none ∧ v = .ref p ∧ H' = upd H p (.tup [x, y]) ∧ H l1 = some (.lst xs) ∧ H l2 = some (.lst ys) ∧ xs[i]? = some x ∧ ys[i]? = some y,
   fun i H => ∃ xs ys, H l1 = some (.lst xs) ∧ H l2 = some (.lst ys) ∧ (xs.length ≤ i ∨ ys.length ≤ i)⟩
section
variable {X : Cx}
/-- some untracked records have turned, a new object was laid and is tracked (or none) -/
theorem Inv.turnedN {pins : List (Addr × Obj)} {σ : St} {H : Hp} {s : Shared} {h' : Heap} {t' : Nat} {ch : List Addr} (I : Inv X pins σ H s) (hf : ∀ b ∈ ch, FpOk X pins H b) (k : ∀ b o, b ∉ ch → s.heap.get? b = some o → h'.get? b = some o) : Inv X pins σ H { s with heap := h', toks := t' } := by
  have hLc : X.env.locals ∉ ch := fun z => (hf _ z).2.1 rfl
  have nt : ∀ b u, H b = some u → b ∉ ch := fun b u e z => by rw [(hf b z).1] at e; cases e
  refine I.step (g' := s.gens) (d' := s.drawn) (ch := ch) (fun b hb => ⟨(hf b hb).2.2.2.1, (hf b hb).2.1, (hf b hb).2.2.2.2.1, (hf b hb).2.2.2.2.2⟩) (fun b o _ _ hc e _ => k b o hc e) (fun b o _ _ hc e _ => ⟨o.slots, k b o hc e⟩) (fun _ _ _ _ n => n)
    (fun b o hc e => ⟨o, k b o hc e⟩) (fun _ _ e => e) (fun _ _ _ e => e) (fun b ps e => ⟨#[], by rw [e]; simp⟩) (fun m hm => ?_) (fun b u e => ?_) I.bare
  · obtain ⟨o, es, ep, ho, r⟩ := hm
    exact ⟨o, es, ep, k _ o hLc ho, r⟩
  · refine (I.hok b u e).stay (fun c v hc q => k c v ?_ q) (fun _ q => q) fun _ _ q => q
    rcases hc with z | z
    · rw [z]; exact nt b u e
    · exact nt c _ z
/-- an untracked object that is younger than the entry is tracked -/
theorem Inv.track {pins : List (Addr × Obj)} {σ : St} {H : Hp} {s : Shared} {a : Addr} {o : HO} (I : Inv X pins σ H s) (hf : FpOk X pins H a) (fa : X.s₀.heap.objs.size ≤ a) (new : ObjOk X.prog X.w (upd H a o) s.heap a o) : Inv X pins σ (upd H a o) s := by
  obtain ⟨f0, f1, f2, f3, f4, f5⟩ := hf
  have s0 : ∀ b o, X.s₀.heap.get? b = some o → b ≠ a := fun b o e => Nat.ne_of_lt (Nat.lt_of_lt_of_le (Heap.lt_size e) fa)
  refine ⟨I.ok, I.os, I.bare, ⟨I.base.keep, I.base.slot, fun b o e n hx => ?_, I.base.there, fun b xs e => ?_, fun b o u e => ?_, fun b ps e => ?_⟩, I.loc, I.cell, ?_, fun x c e => ?_, fun p hp => ?_, I.hok.add f0 new, I.len⟩
  · rw [upd_ne (s0 b o e)]; exact I.base.free b o e n hx
  · have q := I.base.tups b xs e
    rw [upd_ne (ne_of_none q f0)]; exact q
  · have q := I.base.frzs b o u e
    rw [upd_ne (ne_of_none q f0)]; exact q
  · obtain ⟨more, q⟩ := I.base.tbls b ps e
    exact ⟨more, by rw [upd_ne (ne_of_none q f0)]; exact q⟩
  · rw [upd_ne (Ne.symm f1)]; exact I.free
  · rw [upd_ne (f4 x c e)]; exact I.freeC x c e
  · obtain ⟨e, n, r⟩ := I.pin p hp
    exact ⟨e, by rw [upd_ne (f5 p hp)]; exact n, r⟩
end
structure ZipAp (z TI TO i1 i2 : Addr) : Prop where
  nd : [z, TI, TO, i1, i2].Nodup
theorem turn_zip {P : Program} {w : World} {K : PySem.W.Frag} {es : List Expr} {kk : Nat} {tp : Pos} (l1 l2 z TI TO i1 i2 : Addr) (D : ZipAp z TI TO i1 i2) :
    Turn P w K (.Tuple es kk tp) (Itz l1 l2) [z, TI, TO, i1, i2] z (fun i h => IsZip h z TI TO .none ∧ IsPair h TI (.ref i1) (.ref i2) ∧ (∃ a b, IsPair h TO a b) ∧ h.IsListIter i1 l1 i ∧ h.IsListIter i2 l2 i) where
  mem := by simp
  obj := fun i h st b hb => by
    obtain ⟨a1, a2, ⟨x, y, a3⟩, ⟨o4, a4, _, d4⟩, ⟨o5, a5, _, d5⟩⟩ := st
    simp only [List.mem_cons, List.not_mem_nil, or_false] at hb
    rcases hb with rfl | rfl | rfl | rfl | rfl
    · exact ⟨_, a1, fun v q => by cases q⟩
    · exact ⟨_, a2, fun v q => by cases q⟩
    · exact ⟨_, a3, fun v q => by cases q⟩
    · exact ⟨_, a4, fun v q => by rw [d4] at q; cases q⟩
    · exact ⟨_, a5, fun v q => by rw [d5] at q; cases q⟩
  keep := fun i h h' st k => by
    obtain ⟨a1, a2, ⟨x, y, a3⟩, a4, a5⟩ := st
    exact ⟨k z (by simp) _ a1, k TI (by simp) _ a2, ⟨x, y, k TO (by simp) _ a3⟩, a4.at fun o e => k i1 (by simp) o e, a5.at fun o e => k i2 (by simp) o e⟩
  item := by
    intro X hP hw hK hc i pins s σ H E I hf st hg
    subst hP hw hK
    obtain ⟨a1, a2, ⟨x0, y0, a3⟩, a4, a5⟩ := st
    obtain ⟨xs, ys, x, y, e1, e2, ex, ey⟩ := hg
    have tr : ∀ {l : Addr} {zs : List V}, H l = some (.lst zs) → ∀ b ∈ [z, TI, TO, i1, i2], l ≠ b := fun e b hb q => by rw [q, (hf b hb).1] at e; cases e
    have nd := D.nd
    simp only [List.nodup_cons, List.mem_cons, List.not_mem_nil, or_false, not_or, List.nodup_nil, and_true, not_false_eq_true] at nd
    obtain ⟨⟨n1, n2, n3, n4⟩, ⟨n5, n6, n7⟩, ⟨n8, n9⟩, n10⟩ := nd
    have A' : ZipApart z TI TO i1 i2 l1 l2 := ⟨Ne.symm n1, Ne.symm n2, Ne.symm n3, Ne.symm n4, n5, n6, n7, n8, n9, n10, tr e1 z (by simp), tr e1 TO (by simp), tr e1 i1 (by simp), tr e1 i2 (by simp), tr e2 z (by simp), tr e2 TO (by simp), tr e2 i1 (by simp), tr e2 i2 (by simp)⟩
    obtain ⟨its1, rv1, p1, _⟩ := I.list (SqL.of e1)
    obtain ⟨its2, rv2, p2, _⟩ := I.list (SqL.of e2)
    obtain ⟨u1, hu1, r1⟩ := rv1.get ex
    obtain ⟨u2, hu2, r2⟩ := rv2.get ey
    refine wpAny_pyNext_zip_item A' a1 a2 a3 a4 a5 p1.isList p2.isList (x := u1) (y := u2) (by simpa using hu1) (by simpa using hu2) fun h' b1 b2 b3 b4 b5 b6 bk => ⟨_, rfl, ?_⟩
    refine wpAny_letOwnedTupleGo_zip b1 fun h'' c1 cs => ?_
    have zs : z < s.heap.objs.size := Heap.lt_size a1
    have k2 : ∀ b o, b ∉ [z, TI, TO, i1, i2] → s.heap.get? b = some o → h''.get? b = some o := fun b o hb e => by
      simp only [List.mem_cons, List.not_mem_nil, or_false, not_or] at hb
      exact cs.extBut b o hb.1 (bk b o hb.1 hb.2.2.1 hb.2.2.2.1 hb.2.2.2.2 e)
    have I1 : Inv X pins σ H { s with heap := h'' } := I.turnedN (t' := s.toks) hf k2
    have hp : h''.get? s.heap.objs.size = some { cls := .type "tuple", data := .seq #[u1, u2] } := cs.extBut _ _ (Nat.ne_of_gt zs) b5
    have hn : H s.heap.objs.size = none := I.hok.fresh (Nat.le_refl _)
    have fpk := I.fpOk (H' := H) (Nat.le_refl _) hn
    have I2 : Inv X pins σ (upd H s.heap.objs.size (.tup [x, y])) { s with heap := h'' } := I1.track fpk I.sz ⟨by show 2 ≤ sizeLine; decide, [u1, u2], .cons r1 (.cons r2 .nil), _, hp, rfl, _, rfl⟩
    refine ⟨.ref s.heap.objs.size, _, I2, rfl, ⟨_, xs, ys, x, y, hn, rfl, rfl, e1, e2, ex, ey⟩, ⟨c1, ?_, ⟨u1, u2, cs.extBut _ _ (Ne.symm n2) b2⟩, b3.extBut cs.extBut (Ne.symm n3), b4.extBut cs.extBut (Ne.symm n4)⟩, fun b hb => ?_⟩
    · exact cs.extBut _ _ (Ne.symm n1) (bk _ _ (Ne.symm n1) n5 n6 n7 a2)
    · have hbl : b < s.heap.objs.size := by
        simp only [List.mem_cons, List.not_mem_nil, or_false] at hb
        obtain ⟨o4, a4', _⟩ := a4
        obtain ⟨o5, a5', _⟩ := a5
        rcases hb with rfl | rfl | rfl | rfl | rfl
        · exact zs
        · exact Heap.lt_size a2
        · exact Heap.lt_size a3
        · exact Heap.lt_size a4'
        · exact Heap.lt_size a5'
      rw [upd_ne (Nat.ne_of_lt hbl)]
      exact (hf b hb).1
  done := by
    intro X hP hw hK hc i pins s σ H E I hf st hg
    subst hP hw hK
    obtain ⟨a1, a2, ⟨x0, y0, a3⟩, a4, a5⟩ := st
    obtain ⟨xs, ys, e1, e2, ex⟩ := hg
    have tr : ∀ {l : Addr} {zs : List V}, H l = some (.lst zs) → ∀ b ∈ [z, TI, TO, i1, i2], l ≠ b := fun e b hb q => by rw [q, (hf b hb).1] at e; cases e
    have nd := D.nd
    simp only [List.nodup_cons, List.mem_cons, List.not_mem_nil, or_false, not_or, List.nodup_nil, and_true, not_false_eq_true] at nd
    obtain ⟨⟨n1, n2, n3, n4⟩, ⟨n5, n6, n7⟩, ⟨n8, n9⟩, n10⟩ := nd
    have A' : ZipApart z TI TO i1 i2 l1 l2 := ⟨Ne.symm n1, Ne.symm n2, Ne.symm n3, Ne.symm n4, n5, n6, n7, n8, n9, n10, tr e1 z (by simp), tr e1 TO (by simp), tr e1 i1 (by simp), tr e1 i2 (by simp), tr e2 z (by simp), tr e2 TO (by simp), tr e2 i1 (by simp), tr e2 i2 (by simp)⟩
    obtain ⟨its1, rv1, p1, _⟩ := I.list (SqL.of e1)
    obtain ⟨its2, rv2, p2, _⟩ := I.list (SqL.of e2)
    have l1' := rv1.length
    have l2' := rv2.length
    refine wpAny_pyNext_zip_end (I.ok.hd hc) A' a1 a2 a3 a4 a5 p1.isList p2.isList (by rcases ex with q | q; exact .inl (by simp; omega); exact .inr (by simp; omega)) fun h' bk => ⟨rfl, ?_⟩
    exact I.turnedN (t' := s.toks) hf fun b o hb e => by
      simp only [List.mem_cons, List.not_mem_nil, or_false, not_or] at hb
      exact bk b o hb.1 hb.2.2.1 hb.2.2.2.1 hb.2.2.2.2 e
  self := fun _ _ _ _ _ st h => wpAny_pyIter_zip st.1 h
def iZip (ta : TA) : TI := fun σ H R => ta σ H fun vs H1 => ∃ l1 l2 xs ys, vs = [.ref l1, .ref l2] ∧ H1 l1 = some (.lst xs) ∧ H1 l2 = some (.lst ys) ∧ R (Itz l1 l2) H1
theorem pi_zip {X : Cx} {a b : Expr} {ta : TA} {p pos tp : Pos} {es : List Expr} {kk : Nat} (hg : Gl X "zip") (hm : X.mg "zip" = none) (ha : PA X [a, b] ta)
    (hs : starEach [a, b] X.env = [(false, eval a X.env), (false, eval b X.env)] := by rfl) (hs2 : starEach [b] X.env = [(false, eval b X.env)] := by rfl) :
    PI X (.Tuple es kk tp) (.Call (.Name "zip" p) [a, b] [] pos) (iZip ta) := by
  intro pins s σ H R I h
  refine Call_ (ld_blt I hg hm PyProof.Rows.boot_zip (PyProof.Rows.callWith_type1 (thn (ha pos pins s σ H _ I h) fun us s1 ⟨vs, H1, I1, r1, q1⟩ => ?_) (by rw [hs, hs2]) (by rw [hs2]; rfl)))
  obtain ⟨l1, l2, xs, ys, rfl, e1, e2, q⟩ := q1
  cases r1 with
  | cons r rr =>
    cases rr with
    | cons r' rr =>
      cases rr
      cases r
      cases r'
      obtain ⟨its1, rv1, p1, _⟩ := I1.list (SqL.of e1)
      obtain ⟨its2, rv2, p2, _⟩ := I1.list (SqL.of e2)
      refine call_zip_2 p1.isList p2.isList fun h' z1 z2 z3 z4 z5 sz keep => ?_
      have I2 : Inv X pins σ H1 { s1 with heap := h' } := I1.kept (t' := s1.toks) keep
      refine wpAny_pyIter_zip z1 ⟨s1.heap.objs.size + 4, [s1.heap.objs.size + 4, s1.heap.objs.size + 2, s1.heap.objs.size + 3, s1.heap.objs.size, s1.heap.objs.size + 1], _, _, H1, rfl, I2, turn_zip l1 l2 _ _ _ _ _ ⟨by simp⟩, ⟨z1, z2, ⟨_, _, z3⟩, z4, z5⟩, fun b hb => ?_, q⟩
      have hb' : s1.heap.objs.size ≤ b := by
        simp only [List.mem_cons, List.not_mem_nil, or_false] at hb
        rcases hb with rfl | rfl | rfl | rfl | rfl <;> omega
      exact I1.fpOk hb' (I1.hok.fresh hb')
end L2

set_option Elab.async false
set_option linter.all false
set_option maxRecDepth 100000
namespace L2
open PySem PySem.Spec PyProof.Rows

/-! ### a def by its promise, whole -/
def Dn (P : Program) (w : World) (K : PySem.W.Frag) (mg : Str → Option Value) (base : Heap) (x : Str) (ps : List Str) (k : Nat) (sp : Sp) : Prop :=
  ∃ (f : Addr) (fd : FuncData), FnOk P w K mg base CX0 k f fd ps sp ∧ Binds K fd ps [] ∧ PySem.W.keepIn K (.ref f) = true ∧ mg x = some (.ref f)
theorem pe_cD {X : Cx} {k : Nat} {ps : List Str} {sp : Sp} {x : Str} {p pos : Pos} {e : Expr} {es : List Expr} {t : TA} (D : Dn X.prog X.w X.K X.mg X.base x ps k sp) (hr : Room k X.A) (hg : Gl X x) (ha : PA X (e :: es) t)
    (hdb : (x == ("__debug__" : Str)) = false := by decide) (he : starEach (e :: es) X.env = (false, eval e X.env) :: starEach es X.env := by rfl) (hpl : (backTo pos (starEach es X.env)).any (·.1) = false := by rfl) :
    PE X (.Call (.Name x p) (e :: es) [] pos) (tCall sp [] E0 t) := by
  obtain ⟨f, fd, F, hb, hk, hm⟩ := D
  exact pe_call F hr hg hm hk hb .nil pass0 ha hdb he hpl

/-! ### a comprehension's scope, decided -/
def compChk (sc : Scope) (N : List Str) (scope : Scope) (own cs : List Str) (cap : List Nat) : Bool :=
  decide (scope.kind = .function) && scope.names.all (fun y => decide (y.2 ≠ .cell)) && scope.names.all (fun y => decide (y.2 = .local → scope.names.lookup y.1 = some .local)) &&
  scope.names.all (fun y => decide (y.2 = .free → sc.names.lookup y.1 = some .cell ∨ sc.names.lookup y.1 = some .free)) && own.all (fun y => decide (scope.names.lookup y = some .local)) &&
  decide (cs.length = cap.length) && (cs.zip cap).all (fun y => decide (N[y.2]? = some y.1) && decide ((y.1, NameKind.free) ∈ scope.names)) && scope.names.all (fun y => decide (y.2 = .free → scope.names.lookup y.1 ≠ some .local))
theorem compOk_of {X : Cx} {sc : Scope} {N : List Str} {scope : Scope} {own cs : List Str} {cap : List Nat} (h1 : X.env.scope = sc) (h2 : X.N = N) (h : compChk sc N scope own cs cap = true) : CompOk X scope own cs cap := by
  subst h1 h2
  unfold compChk at h
  simp only [Bool.and_eq_true, List.all_eq_true, decide_eq_true_eq] at h
  obtain ⟨⟨⟨⟨⟨⟨⟨a1, a2⟩, a3⟩, a4⟩, a5⟩, a6⟩, a7⟩, a8⟩ := h
  refine ⟨a1, a2, a3, a4, fun i y e => ?_, a5, a6, fun y hy e => a8 _ hy rfl e⟩
  have hi : i < cs.length := (List.getElem?_eq_some_iff.mp e).1
  have hj : i < cap.length := by rw [← a6]; exact hi
  refine ⟨cap[i], List.getElem?_eq_getElem hj, ?_⟩
  have hm : (y, cap[i]) ∈ cs.zip cap := by
    have : (cs.zip cap)[i]? = some (y, cap[i]) := by
      rw [List.getElem?_zip_eq_some]
      exact ⟨e, List.getElem?_eq_getElem hj⟩
    exact List.mem_of_getElem? this
  exact a7 _ hm

theorem tYes_ite {σ : St} {H : Hp} {A B : Hp → Prop} (h : A H) : tYes σ H (fun ok H3 => if ok = true then A H3 else B H3) := by
  show (if (true : Bool) = true then A H else B H)
  rw [if_pos rfl]
  exact h
/-! ### a list or a tuple walked -/
section
variable {X : Cx} {tg : Expr}
def iSeq (K : PySem.W.Frag) (tl : TE) : TI := fun σ H R => iList K tl σ H R ∨ iTup K tl σ H R
theorem pi_seq {l : Expr} {tl : TE} (hl : PE X l tl) : PI X tg l (iSeq X.K tl) := by
  intro pins s σ H R I h
  rcases h with h | h
  · exact pi_list hl pins s σ H R I h
  · exact pi_tup hl pins s σ H R I h
end

/-! ### the built-in types -/
def tyNames : List String := ["NoneType", "bool", "int", "str", "list", "tuple", "dict"]
theorem kit_int {K : PySem.W.Frag} : ∀ T ∈ tyNames, PySem.W.kitOne K (.type T) (.type "int") = some (T == "int" || T == "bool") := by
  intro T h
  simp only [tyNames, List.mem_cons, List.not_mem_nil, or_false] at h
  rcases h with rfl | rfl | rfl | rfl | rfl | rfl | rfl <;> kernel_rfl
theorem kit_bool {K : PySem.W.Frag} : ∀ T ∈ tyNames, PySem.W.kitOne K (.type T) (.type "bool") = some (T == "bool") := by
  intro T h
  simp only [tyNames, List.mem_cons, List.not_mem_nil, or_false] at h
  rcases h with rfl | rfl | rfl | rfl | rfl | rfl | rfl <;> kernel_rfl
theorem kit_list {K : PySem.W.Frag} : ∀ T ∈ tyNames, PySem.W.kitOne K (.type T) (.type "list") = some (T == "list") := by
  intro T h
  simp only [tyNames, List.mem_cons, List.not_mem_nil, or_false] at h
  rcases h with rfl | rfl | rfl | rfl | rfl | rfl | rfl <;> kernel_rfl
theorem kit_tuple {K : PySem.W.Frag} : ∀ T ∈ tyNames, PySem.W.kitOne K (.type T) (.type "tuple") = some (T == "tuple") := by
  intro T h
  simp only [tyNames, List.mem_cons, List.not_mem_nil, or_false] at h
  rcases h with rfl | rfl | rfl | rfl | rfl | rfl | rfl <;> kernel_rfl
theorem kit_str {K : PySem.W.Frag} : ∀ T ∈ tyNames, PySem.W.kitOne K (.type T) (.type "str") = some (T == "str") := by
  intro T h
  simp only [tyNames, List.mem_cons, List.not_mem_nil, or_false] at h
  rcases h with rfl | rfl | rfl | rfl | rfl | rfl | rfl <;> kernel_rfl
theorem kit_row {K : PySem.W.Frag} : ∀ T ∈ tyNames, PySem.W.kitAny K (.type T) [.type "list", .type "tuple"] = some (T == "list" || T == "tuple") := by
  intro T h
  have h1 := kit_list (K := K) T h
  have h2 := kit_tuple (K := K) T h
  unfold PySem.W.kitAny
  rw [h1]
  cases e : (T == "list") with
  | true => rfl
  | false =>
    show PySem.W.kitAny K (.type T) [.type "tuple"] = _
    unfold PySem.W.kitAny
    rw [h2]
    cases e2 : (T == "tuple") <;> rfl
/-- a thing of a built-in type that is known -/
def Ty (K : PySem.W.Frag) (H : Hp) (x : V) (T : String) : Prop := T ∈ tyNames ∧ TyOf K H x (.type T)
theorem Ty.int {K : PySem.W.Frag} {H : Hp} {i : Int} : Ty K H (.int i) "int" := ⟨by simp [tyNames], .int i⟩
theorem Ty.bl {K : PySem.W.Frag} {H : Hp} {b : Bool} : Ty K H (.bl b) "bool" := ⟨by simp [tyNames], .bl b⟩
theorem Ty.non {K : PySem.W.Frag} {H : Hp} : Ty K H .non "NoneType" := ⟨by simp [tyNames], .non⟩
theorem Ty.str {K : PySem.W.Frag} {H : Hp} {x : Str} : Ty K H (.str x) "str" := ⟨by simp [tyNames], .str x⟩
theorem Ty.lst {K : PySem.W.Frag} {H : Hp} {a : Addr} {xs : List V} (e : H a = some (.lst xs)) : Ty K H (.ref a) "list" := ⟨by simp [tyNames], .lst e⟩
theorem Ty.tup {K : PySem.W.Frag} {H : Hp} {a : Addr} {xs : List V} (e : H a = some (.tup xs)) : Ty K H (.ref a) "tuple" := ⟨by simp [tyNames], .tup e⟩
theorem Ty.dK {K : PySem.W.Frag} {H : Hp} {a : Addr} {xs : List (Key × V)} (e : H a = some (.dK xs)) : Ty K H (.ref a) "dict" := ⟨by simp [tyNames], .dK e⟩
def whole : V → Int → Bool
  | .int i, l => decide (l ≤ i)
  | _, _ => false
def isBl : V → Bool
  | .bl _ => true
  | _ => false
theorem ty_int {K : PySem.W.Frag} {H : Hp} {x : V} {T : String} (t : TyOf K H x (.type T)) (h : T ∈ tyNames) : (T == "int") = true → ∃ i, x = .int i := by
  intro e
  have e' : T = "int" := by simpa using e
  subst e'
  generalize hv : Value.type "int" = tv at t
  cases t with
  | int i => exact ⟨i, rfl⟩
  | _ => exact absurd hv (by simp)
theorem ty_bool {K : PySem.W.Frag} {H : Hp} {x : V} {T : String} (t : TyOf K H x (.type T)) : (T == "bool") = isBl x := by
  generalize hv : Value.type T = tv at t
  cases t with
  | bl b => cases hv; rfl
  | non => cases hv; rfl
  | int i => cases hv; rfl
  | str i => cases hv; rfl
  | flt i => cases hv; rfl
  | lst i => cases hv; rfl
  | frz i => cases hv; rfl
  | tup i => cases hv; rfl
  | dK i => cases hv; rfl
  | dT i => cases hv; rfl
  | ins => cases hv
end L2

namespace Pc
open PySem L2
structure Pot (a b : Int) : Prop where
  a0 : 0 ≤ a
  b0 : 0 ≤ b
  b1 : b < 2147483629
/-- a pot stands at p -/
def PotAt (H : Hp) (p : Addr) : Prop := ∃ a b, Pot a b ∧ H p = some (.lst [.int a, .int b])
/-- all but p is as it was -/
def But (p : Addr) (H H' : Hp) : Prop := ∀ b o, b ≠ p → H b = some o → H' b = some o
theorem But.refl {p : Addr} {H : Hp} : But p H H := fun _ _ _ e => e
theorem But.trans {p : Addr} {H H1 H2 : Hp} (a : But p H H1) (b : But p H1 H2) : But p H H2 := fun c o n e => b c o n (a c o n e)
theorem But.upd {p : Addr} {H : Hp} {o : HO} : But p H (upd H p o) := fun b u n e => by rw [upd_ne n]; exact e
theorem But.new {p q : Addr} {H : Hp} {o : HO} (h : H q = none) : But p H (L2.upd H q o) := fun b u n e => by rw [upd_ne (ne_of_none e h)]; exact e
theorem PotAt.new {p q : Addr} {H : Hp} {o : HO} (x : PotAt H p) (h : H q = none) : PotAt (L2.upd H q o) p := by
  obtain ⟨a, b, h1, h2⟩ := x
  exact ⟨a, b, h1, by rw [upd_ne (ne_of_none h2 h)]; exact h2⟩
theorem PotAt.some {p : Addr} {H : Hp} (x : PotAt H p) : H p ≠ none := by
  obtain ⟨a, b, _, h⟩ := x
  rw [h]; exact fun z => nomatch z
theorem But.free {p q : Addr} {H H' : Hp} (b : But p H H') (x : PotAt H' p) (h : H' q = none) : H q = none := by
  cases e : H q with
  | none => rfl
  | some o =>
    by_cases hq : q = p
    · subst hq; exact absurd h x.some
    · rw [b q o hq e] at h; cases h
/-- what stood ahead stands, where p was new -/
theorem But.same {p : Addr} {H H' : Hp} (b : But p H H') (h : H p = none) : Same H H' := fun c o e => b c o (ne_of_none e h) e

structure Kd where
  w : Int
  h : Int
  wo : Int
  wa : Int
  tu : Bool
def kdV (k : Kd) : List V := [.int k.w, .int k.h, .int k.wo, .int k.wa, .bl k.tu]
def kdD (k : Kd) : PyData := .tuple [.int k.w, .int k.h, .int k.wo, .int k.wa, .bool k.tu]
structure Good (k : Kd) : Prop where
  w : 1 ≤ k.w
  h : 1 ≤ k.h
  wo : 0 ≤ k.wo
  wa : 0 ≤ k.wa
  w' : k.w < 10 ^ 60
  h' : k.h < 10 ^ 60
  wo' : k.wo < 10 ^ 60
  wa' : k.wa < 10 ^ 60
/-- rows: references to tuples (a heap predicate a row) -/
def TupAt (H : Hp) (v : V) (k : Kd) : Prop := ∃ a, v = .ref a ∧ H a = some (.tup (kdV k))
def LstAt (H : Hp) (v : V) (k : Kd) : Prop := ∃ a, v = .ref a ∧ H a = some (.lst (kdV k))
def RowAt (H : Hp) (v : V) (k : Kd) : Prop := TupAt H v k ∨ LstAt H v k
abbrev Tups (H : Hp) : List V → List Kd → Prop := Paired (TupAt H)
theorem Tups.keep {H H' : Hp} (k : ∀ b xs, H b = some (.tup xs) → H' b = some (.tup xs)) : ∀ {xs : List V} {ks : List Kd}, Tups H xs ks → Tups H' xs ks := fun r =>
  Paired.mapP r fun v kd ⟨a, e, h⟩ => ⟨a, e, k a _ h⟩

def spPot (K : PySem.W.Frag) : Sp := fun vs H Q _ => ∃ (a : Addr) (ns : List Int) (n : Int), vs = [.ref a, .int n] ∧ SqL K H a (ns.map V.int) ∧ 0 ≤ n ∧ n ≤ 1000 ∧ ns.length ≤ 63 ∧
  ∀ (p : Addr) (H' : Hp), H p = none → PotAt H' p → Same H H' → Q (.ref p) H'
def spDraw : Sp := fun vs H Q _ => ∃ (p : Addr) (m : Int), vs = [.ref p, .int m] ∧ PotAt H p ∧ 0 < m ∧ m ≤ 10 ^ 60 ∧ ∀ (r : Int) (H' : Hp), 0 ≤ r → r < m → PotAt H' p → But p H H' → Q (.int r) H'
def spNumber : Sp := fun vs H Q _ => ∃ (p : Addr) (l : Int), vs = [.ref p, .int l] ∧ PotAt H p ∧ 0 ≤ l ∧ l ≤ 1 ∧ ∀ (n : Int) (H' : Hp), l ≤ n → n < 10 ^ 60 → PotAt H' p → But p H H' → Q (.int n) H'
def spKind : Sp := fun vs H Q _ => ∃ (p : Addr), vs = [.ref p] ∧ PotAt H p ∧ ∀ (t : Addr) (k : Kd) (H' : Hp), H t = none → Good k → H' t = some (.tup (kdV k)) → PotAt H' p → But p H H' → Q (.ref t) H'
/-- what is told: a tuple of a blade and a list of kinds -/
structure ToldAt (H : Hp) (t l : Addr) (bl : Int) (xs : List V) (ks : List Kd) : Prop where
  t : H t = some (.tup [.int bl, .ref l])
  l : H l = some (.lst xs)
  r : Tups H xs ks
  b0 : 0 ≤ bl
  b1 : bl < 10 ^ 60
  g : ∀ k ∈ ks, Good k
  n0 : 1 ≤ xs.length
  n1 : xs.length ≤ 8
def spTold : Sp := fun vs H Q _ => ∃ (p : Addr), vs = [.ref p] ∧ PotAt H p ∧ ∀ (t l : Addr) (bl : Int) (xs : List V) (ks : List Kd) (H' : Hp), H t = none → H l = none → ToldAt H' t l bl xs ks → PotAt H' p → But p H H' → Q (.ref t) H'

/-! the program's small tests -/
def spWhole (K : PySem.W.Frag) : Sp := fun vs H Q _ => ∃ (x : V) (T : String) (l : Int), vs = [x, .int l] ∧ Ty K H x T ∧ Q (.bl (whole x l)) H
def spTruth (K : PySem.W.Frag) : Sp := fun vs H Q _ => ∃ (x : V) (T : String), vs = [x] ∧ Ty K H x T ∧ Q (.bl (isBl x)) H
def spRow (K : PySem.W.Frag) : Sp := fun vs H Q _ => ∃ (x : V) (T : String), vs = [x] ∧ Ty K H x T ∧ ∀ H', Same H H' → Q (.bl (T == "list" || T == "tuple")) H'
def kind5 : List V → Bool
  | [w, h, wo, wa, tu] => whole w 1 && whole h 1 && whole wo 0 && whole wa 0 && isBl tu
  | _ => false
def spIsKind (K : PySem.W.Frag) : Sp := fun vs H Q _ => ∃ (x : V) (T : String), vs = [x] ∧ Ty K H x T ∧ 
  ((T ≠ "list" ∧ T ≠ "tuple" ∧ ∀ H', Same H H' → Q (.bl false) H') ∨ ∃ (a : Addr) (xs : List V), x = .ref a ∧ (H a = some (.lst xs) ∨ H a = some (.tup xs)) ∧ (∀ y ∈ xs, ∃ U, Ty K H y U) ∧ ∀ H', Same H H' → Q (.bl (kind5 xs)) H')
theorem kind5_good {k : Kd} (g : Good k) : kind5 (kdV k) = true := by
  show (decide (1 ≤ k.w) && decide (1 ≤ k.h) && decide (0 ≤ k.wo) && decide (0 ≤ k.wa) && true) = true
  rw [decide_eq_true g.w, decide_eq_true g.h, decide_eq_true g.wo, decide_eq_true g.wa]
  rfl
theorem Ty.same {K : PySem.W.Frag} {H H' : Hp} {x : V} {T : String} (s : Same H H') (t : Ty K H x T) : Ty K H' x T := by
  refine ⟨t.1, ?_⟩
  have t2 := t.2
  generalize hv : Value.type T = tv at t2 ⊢
  cases t2 with
  | non => exact .non
  | bl b => exact .bl b
  | int b => exact .int b
  | str b => exact .str b
  | flt b => exact .flt b
  | lst e => exact .lst (s _ _ e)
  | frz e => exact .frz (s _ _ e)
  | tup e => exact .tup (s _ _ e)
  | dK e => exact .dK (s _ _ e)
  | dT e => exact .dT (s _ _ e)
  | ins => cases hv
end Pc

set_option Elab.async false
set_option linter.all false
set_option maxRecDepth 100000
namespace L2
open PySem PySem.Spec PyProof.Rows
/-- tuple(x), list(x) of a list or a tuple -/
def rTupleOf (K : PySem.W.Frag) : List V → Hp → VK → Prop := fun xs H Q => ∃ p ys, xs = [V.ref p] ∧ ((SqL K H p ys ∧ ∀ l, H l = none → Q (.ref l) (upd H l (.tup ys))) ∨ (SqT K H p ys ∧ Q (.ref p) H))
def rListOf (K : PySem.W.Frag) : List V → Hp → VK → Prop := fun xs H Q => ∃ p ys, xs = [.ref p] ∧ (SqL K H p ys ∨ SqT K H p ys) ∧ ∀ l, H l = none → Q (.ref l) (upd H l (.lst ys))
/-- isinstance(x, c) -/
def rIsi (K : PySem.W.Frag) : List V → Hp → VK → Prop := fun xs H Q => ∃ x cv t c b, xs = [x, cv] ∧ TyOf K H x t ∧ clV cv = some c ∧ PySem.W.kitOne K t c = some b ∧ Q (.bl b) H
/-- for x in (a name that holds a list or a tuple) -/
theorem for_seqV {K : PySem.W.Frag} {j : Nat} {a : Addr} {xs : List V} {g : TG} {tb : TS} {D : Ends} {σ : St} {H : Hp} (hσ : σ[j]? = some (some (.ref a))) (hs : H a = some (.lst xs) ∨ H a = some (.tup xs)) (Pv : Nat → St → Hp → Prop) (h0 : Pv 0 σ H)
    (hk : ∀ i σ H', i ≤ xs.length → Pv i σ H' → ∀ o, H a = some o → H' a = some o)
    (ht : ∀ i x σ H, xs[i]? = some x → Pv i σ H → g x σ H fun σ2 H2 => tb { D with nx := Pv (i + 1), ct := Pv (i + 1), bk := D.nx } σ2 H2) (hd : ∀ σ H, Pv xs.length σ H → D.nx σ H) : tFor (iSeq K (tVar j)) g tb D σ H := by
  rcases hs with z | z
  · exact .inl ⟨_, hσ, a, rfl, ⟨xs, SqL.of z⟩, for_list (xs := xs) Pv h0 (fun i σ H' hi p => SqL.of (hk i σ H' hi p _ z)) ht hd⟩
  · exact .inr ⟨_, hσ, a, rfl, ⟨xs, SqT.of z⟩, for_tup (xs := xs) Pv h0 (fun i σ H' hi p => SqT.of (hk i σ H' hi p _ z)) ht hd⟩
/-- a comprehension's turn is done -/
def Nx (n : Nat) (Pv : Nat → List V → Hp → Prop) (i : Nat) (ys : List V) (H : Hp) : Prop := ∃ m', m' < n - i ∧ m' = n - (i + 1) ∧ i + 1 ≤ n ∧ Pv (i + 1) ys H
theorem Nx.of {n : Nat} {Pv : Nat → List V → Hp → Prop} {i : Nat} {ys : List V} {H : Hp} (h : i < n) (p : Pv (i + 1) ys H) : Nx n Pv i ys H := ⟨n - (i + 1), by omega, rfl, h, p⟩
/-- the turns over a list or a tuple -/
theorem comp_seq {K : PySem.W.Frag} {a : Addr} {xs : List V} {σ : St} {cap : List Nat} {k : Nat} {g : TG} {tt : TT} {te : TE} {Q : List V → Hp → Prop} {H : Hp} (hs : H a = some (.lst xs) ∨ H a = some (.tup xs)) (Pv : Nat → List V → Hp → Prop)
    (hk : ∀ i ys H', i ≤ xs.length → Pv i ys H' → ∀ o, H a = some o → H' a = some o) (h0 : Pv 0 [] H)
    (ht : ∀ i x ys H', xs[i]? = some x → Pv i ys H' → ys.length < sizeLine ∧ g x (blkSt σ cap k) H' fun σ2 H2 => leS (blkSt σ cap k) σ2 ∧ tt σ2 H2 fun ok H3 => if ok = true then te σ2 H3 (fun v H4 => Nx xs.length Pv i (ys ++ [v]) H4) else Nx xs.length Pv i ys H3)
    (hd : ∀ ys H', Pv xs.length ys H' → ys.length ≤ sizeLine ∧ Q ys H') :
    (H a = some (.lst xs) → ∃ W, (∃ m, W 0 m [] H) ∧ CompW σ cap k (Itl K a) g tt te Q W) ∧ (H a = some (.tup xs) → ∃ W, (∃ m, W 0 m [] H) ∧ CompW σ cap k (Itt K a) g tt te Q W) := by
  refine ⟨fun z => ⟨fun i m ys H' => m = xs.length - i ∧ i ≤ xs.length ∧ Pv i ys H', ⟨_, rfl, Nat.zero_le _, h0⟩, ?_⟩, fun z => ⟨fun i m ys H' => m = xs.length - i ∧ i ≤ xs.length ∧ Pv i ys H', ⟨_, rfl, Nat.zero_le _, h0⟩, ?_⟩⟩
  · rintro i m ys H' ⟨rfl, hi, p⟩
    have z' := hk i ys H' hi p _ z
    by_cases hin : i < xs.length
    · obtain ⟨e, hg⟩ := ht i xs[i] ys H' (by simp [hin]) p
      refine .inr ⟨⟨xs, xs[i], SqL.of z', by simp [hin]⟩, e, fun x H2 yl => ?_⟩
      obtain ⟨e1, e2⟩ := yl
      have e3 := e2 xs (SqL.of z')
      have e4 : x = xs[i] := by simpa [hin] using e3.symm
      subst e1 e4
      exact hg
    · have e : i = xs.length := by omega
      subst e
      obtain ⟨a1, a2⟩ := hd ys H' p
      exact .inl ⟨⟨xs, SqL.of z', Nat.le_refl _⟩, a1, a2⟩
  · rintro i m ys H' ⟨rfl, hi, p⟩
    have z' := hk i ys H' hi p _ z
    by_cases hin : i < xs.length
    · obtain ⟨e, hg⟩ := ht i xs[i] ys H' (by simp [hin]) p
      refine .inr ⟨⟨xs, xs[i], SqT.of z', by simp [hin]⟩, e, fun x H2 yl => ?_⟩
      obtain ⟨e1, e2⟩ := yl
      have e3 := e2 xs (SqT.of z')
      have e4 : x = xs[i] := by simpa [hin] using e3.symm
      subst e1 e4
      exact hg
    · have e : i = xs.length := by omega
      subst e
      obtain ⟨a1, a2⟩ := hd ys H' p
      exact .inl ⟨⟨xs, SqT.of z', Nat.le_refl _⟩, a1, a2⟩
/-- [.. for x in (a name that holds a list or a tuple)] -/
theorem comp_seqV {K : PySem.W.Frag} {j : Nat} {a : Addr} {xs : List V} {σ : St} {cap : List Nat} {k : Nat} {g : TG} {tt : TT} {te : TE} {Q : VK} {H : Hp} (hσ : σ[j]? = some (some (.ref a))) (hs : H a = some (.lst xs) ∨ H a = some (.tup xs)) (Pv : Nat → List V → Hp → Prop)
    (hk : ∀ i ys H', i ≤ xs.length → Pv i ys H' → ∀ o, H a = some o → H' a = some o) (h0 : Pv 0 [] H)
    (ht : ∀ i x ys H', xs[i]? = some x → Pv i ys H' → ys.length < sizeLine ∧ g x (blkSt σ cap k) H' fun σ2 H2 => leS (blkSt σ cap k) σ2 ∧ tt σ2 H2 fun ok H3 => if ok = true then te σ2 H3 (fun v H4 => Nx xs.length Pv i (ys ++ [v]) H4) else Nx xs.length Pv i ys H3)
    (hd : ∀ ys H', Pv xs.length ys H' → ys.length ≤ sizeLine ∧ ∀ p, H' p = none → Q (.ref p) (upd H' p (.lst ys))) : tComp (iSeq K (tVar j)) cap k g tt te σ H Q := by
  obtain ⟨c1, c2⟩ := comp_seq (K := K) (σ := σ) (cap := cap) (k := k) (g := g) (tt := tt) (te := te) hs Pv hk h0 ht hd
  rcases hs with z | z
  · exact .inl ⟨_, hσ, a, rfl, ⟨xs, SqL.of z⟩, c1 z⟩
  · exact .inr ⟨_, hσ, a, rfl, ⟨xs, SqT.of z⟩, c2 z⟩
end L2
namespace Pc
open PySem L2
def flds (b : Int) (r : Addr) : List (Str × V) := putF "kind_rows" (.ref r) (putF "blade_width" (.int b) [])
theorem kbw : ¬ (("blade_width" : Str) = "kind_rows") := by decide +kernel
theorem flds_len (b : Int) (r : Addr) : (flds b r).length ≤ 2 := Nat.le_trans (length_putF _ _ _) (Nat.succ_le_succ (length_putF _ _ _))
theorem flds_blade (b : Int) (r : Addr) : (flds b r).lookup ("blade_width" : Str) = some (.int b) := by
  unfold flds
  rw [lookup_putF, if_neg kbw, lookup_putF, if_pos rfl]
theorem flds_rows (b : Int) (r : Addr) : (flds b r).lookup ("kind_rows" : Str) = some (.ref r) := by
  unfold flds
  rw [lookup_putF, if_pos rfl]
theorem flds_no (b : Int) (r : Addr) {m : Str} (h1 : ¬ m = "kind_rows") (h2 : ¬ m = "blade_width") : (flds b r).lookup m = none := by
  unfold flds
  rw [lookup_putF, if_neg h1, lookup_putF, if_neg h2]
  all_goals rfl
/-- a shop stands at x -/
def ShopAt (C : Addr) (H : Hp) (x : Addr) (b : Int) (ks : List Kd) : Prop := ∃ dx r rs, H x = some (.ins C dx (flds b r)) ∧ H r = some (.tup rs) ∧ Tups H rs ks
theorem ShopAt.keep {C : Addr} {H H' : Hp} {x : Addr} {b : Int} {ks : List Kd} (s : ShopAt C H x b ks) (k1 : ∀ b xs, H b = some (.tup xs) → H' b = some (.tup xs)) (k2 : ∀ b C dx fs, H b = some (.ins C dx fs) → H' b = some (.ins C dx fs)) : ShopAt C H' x b ks := by
  obtain ⟨dx, r, rs, h1, h2, h3⟩ := s
  exact ⟨dx, r, rs, k2 _ _ _ _ h1, k1 _ _ h2, Tups.keep k1 h3⟩
def spInit (C : Addr) : Sp := fun vs H Q _ => ∃ (x dx ks : Addr) (b : Int) (rs : List V) (kds : List Kd), vs = [.ref x, .int b, .ref ks] ∧ H x = some (.ins C dx []) ∧ 0 ≤ b ∧ (H ks = some (.lst rs) ∨ H ks = some (.tup rs)) ∧ Paired (RowAt H) rs kds ∧ (∀ k ∈ kds, Good k) ∧ 1 ≤ rs.length ∧ rs.length ≤ 8 ∧
  ∀ H' : Hp, ShopAt C H' x b kds → (∀ c o, c ≠ x → H c = some o → H' c = some o) → Q .non H'
def spBlade (C : Addr) : Sp := fun vs H Q _ => ∃ (x : Addr) (b : Int) (ks : List Kd), vs = [.ref x] ∧ ShopAt C H x b ks ∧ Q (.int b) H
def spKinds (C : Addr) : Sp := fun vs H Q _ => ∃ (x : Addr) (b : Int) (ks : List Kd), vs = [.ref x] ∧ ShopAt C H x b ks ∧ ∀ (l : Addr) (rs : List V), H l = none → Tups H rs ks → Q (.ref l) (upd H l (.lst rs))
theorem rows_ty {K : PySem.W.Frag} {H : Hp} {k : Kd} : ∀ y ∈ kdV k, ∃ U, Ty K H y U := by
  intro y hy
  simp only [kdV, List.mem_cons, List.not_mem_nil, or_false] at hy
  rcases hy with rfl | rfl | rfl | rfl | rfl
  · exact ⟨_, .int⟩
  · exact ⟨_, .int⟩
  · exact ⟨_, .int⟩
  · exact ⟨_, .int⟩
  · exact ⟨_, .bl⟩
theorem Paired.getR {α β : Type} {F : α → β → Prop} : ∀ {l₁ : List α} {l₂ : List β} {i : Nat} {x : α}, Paired F l₁ l₂ → l₁[i]? = some x → ∃ y, l₂[i]? = some y ∧ F x y
  | _, _, _, _, .nil, e => by simp at e
  | _, _, 0, _, .cons h _, e => by simp at e; subst e; exact ⟨_, rfl, h⟩
  | _, _, i + 1, x, .cons _ t, e => by
    obtain ⟨y, h1, h2⟩ := Paired.getR (i := i) (x := x) t (by simpa using e)
    exact ⟨y, by simpa using h1, h2⟩
theorem RowAt.same {H H' : Hp} {v : V} {k : Kd} (s : Same H H') (r : RowAt H v k) : RowAt H' v k := by
  rcases r with ⟨a, e, h⟩ | ⟨a, e, h⟩
  · exact .inl ⟨a, e, s _ _ h⟩
  · exact .inr ⟨a, e, s _ _ h⟩
theorem isKind_of {K : PySem.W.Frag} {H : Hp} {v : V} {k : Kd} {Q : VK} {E : XK} (r : RowAt H v k) (g : Good k) (q : ∀ H', Same H H' → Q (.bl true) H') : spIsKind K [v] H Q E := by
  rcases r with ⟨a, rfl, h⟩ | ⟨a, rfl, h⟩
  · exact ⟨_, _, rfl, .tup h, .inr ⟨a, _, rfl, .inr h, rows_ty, fun H' s => by rw [kind5_good g]; exact q H' s⟩⟩
  · exact ⟨_, _, rfl, .lst h, .inr ⟨a, _, rfl, .inl h, rows_ty, fun H' s => by rw [kind5_good g]; exact q H' s⟩⟩
/-- what of the text the class has -/
structure ShopTxt (K : PySem.W.Frag) (C : Addr) : Prop where
  cl : Cls K C
  nB : NoAttr K C "blade_width"
  nK : NoAttr K C "kind_rows"
end Pc

set_option Elab.async false
set_option linter.all false
set_option maxRecDepth 100000
namespace L2
open PySem PySem.Spec PyProof.Rows
/-! ### methods and classes by their promises -/
def Mn (P : Program) (w : World) (K : PySem.W.Frag) (mg : Str → Option Value) (base : Heap) (C : Addr) (m : Str) (ps : List Str) (k : Nat) (sp : Sp) : Prop :=
  ∃ (f : Addr) (fd : FuncData), FnOk P w K mg base CX0 k f fd ps sp ∧ Binds K fd ps [] ∧ Meth K C m f
theorem pe_mD0 {X : Cx} {k : Nat} {C : Addr} {ps : List Str} {sp : Sp} {m : Str} {o : Expr} {ta : TE} {apos pos : Pos} {pl : Sem Bool} (he : PE X o ta) (c : Cls X.K C) (D : Mn X.prog X.w X.K X.mg X.base C m ps k sp) (hr : Room k X.A)
    (ht : eval (.Call (.Attribute o m apos) [] [] pos) X.env = (do
      let ov ← eval o X.env
      standAt apos.atName
      let (f, first) ← holding [ov] (getMethod ov m pl)
      callWith pos f first (backTo pos (starEach [] X.env)) (backToKw pos (keywordEach [] X.env))) := by rfl) : PE X (.Call (.Attribute o m apos) [] [] pos) (tMeth C m sp [] E0 ta tNil) := by
  obtain ⟨f, fd, F, hb, hm⟩ := D
  exact pe_meth0 he c hm F hr hb .nil pass0 ht
def Kn (P : Program) (w : World) (K : PySem.W.Frag) (mg : Str → Option Value) (base : Heap) (x : Str) (C : Addr) (ps : List Str) (k : Nat) (sp : Sp) : Prop :=
  ∃ (f : Addr) (fd : FuncData), Mk K C f ∧ FnOk P w K mg base CX0 k f fd ps sp ∧ Binds K fd ps [] ∧ mg x = some (.ref C)
theorem pe_kD {X : Cx} {k : Nat} {C : Addr} {ps : List Str} {sp : Sp} {x : Str} {p pos : Pos} {e : Expr} {es : List Expr} {t : TA} (D : Kn X.prog X.w X.K X.mg X.base x C ps k sp) (hr : Room (k + 1) X.A) (hg : Gl X x) (ha : PA X (e :: es) t)
    (hdb : (x == ("__debug__" : Str)) = false := by decide) (he : starEach (e :: es) X.env = (false, eval e X.env) :: starEach es X.env := by rfl) (hpl : (backTo pos (starEach es X.env)).any (·.1) = false := by rfl) :
    PE X (.Call (.Name x p) (e :: es) [] pos) (tMake C sp [] E0 t) := by
  obtain ⟨f, fd, M, F, hb, hm⟩ := D
  exact pe_make M F hr hg hm hb .nil pass0 ha hdb he hpl

/-! ### for a, b in zip(l1, l2) -/
theorem for_zip {l1 l2 : Addr} {xs ys : List V} {g : TG} {tb : TS} {D : Ends} {σ : St} {H : Hp} (Pv : Nat → St → Hp → Prop) (hn : xs.length = ys.length) (h0 : Pv 0 σ H) (hk : ∀ i σ H', Pv i σ H' → H' l1 = some (.lst xs) ∧ H' l2 = some (.lst ys))
    (ht : ∀ i x y p σ H, xs[i]? = some x → ys[i]? = some y → H p = none → Pv i σ H → g (.ref p) σ (upd H p (.tup [x, y])) fun σ2 H2 => tb { D with nx := Pv (i + 1), ct := Pv (i + 1), bk := D.nx } σ2 H2) (hd : ∀ σ H, Pv xs.length σ H → D.nx σ H) :
    ∃ W : Nat → Nat → St → Hp → Prop, (∃ m, W 0 m σ H) ∧ ∀ i m σ H, W i m σ H →
      ((Itz l1 l2).stop i H ∧ D.nx σ H) ∨ ((Itz l1 l2).go i H ∧ ∃ N : St → Hp → Prop, (∀ σ' H', N σ' H' → ∃ m', m' < m ∧ W (i + 1) m' σ' H') ∧ ∀ x H', (Itz l1 l2).yld i H x H' → g x σ H' fun σ2 H2 => tb { D with nx := N, ct := N, bk := D.nx } σ2 H2) := by
  refine ⟨fun i m σ H => m = xs.length - i ∧ i ≤ xs.length ∧ Pv i σ H, ⟨xs.length, by simp, Nat.zero_le _, h0⟩, ?_⟩
  rintro i m σ H ⟨rfl, hi, p⟩
  obtain ⟨e1, e2⟩ := hk i σ H p
  by_cases hlt : i < xs.length
  · refine .inr ⟨⟨xs, ys, xs[i], ys[i]'(by omega), e1, e2, by simp [hlt], by simp [show i < ys.length by omega]⟩, Pv (i + 1), fun σ' H' p' => ⟨xs.length - (i + 1), by omega, rfl, hlt, p'⟩, fun v H' y => ?_⟩
    obtain ⟨q, xs', ys', x, y, hq, rfl, rfl, e1', e2', ex, ey⟩ := y
    rw [e1] at e1'; cases e1'
    rw [e2] at e2'; cases e2'
    exact ht i x y q σ H ex ey hq p
  · have e : i = xs.length := by omega
    subst e
    exact .inl ⟨⟨xs, ys, e1, e2, .inl (Nat.le_refl _)⟩, hd σ H p⟩
/-! ### slices from the start -/
theorem cutV_take (xs : List V) (k : Nat) : cutV xs none (some (k : Int)) = xs.take k := by
  unfold cutV
  rw [HT.sIx_none, HT.sIx_nat]
  simp only [List.drop_zero, Nat.sub_zero]
  rcases Nat.le_total k xs.length with h | h
  · rw [Nat.min_eq_left h]
  · rw [Nat.min_eq_right h, List.take_of_length_le (Nat.le_refl _), List.take_of_length_le h]
end L2
namespace Pc
open PySem L2
theorem Tups.dat {K : PySem.W.Frag} {H : Hp} : ∀ {xs : List V} {ks : List Kd}, Tups H xs ks → DatVs K H xs (ks.map kdD)
  | _, _, .nil => .nil
  | _, _, .cons ⟨a, e, h⟩ t => by
    subst e
    exact .cons (.tup (SqT.of h) (.cons (.int _) (.cons (.int _) (.cons (.int _) (.cons (.int _) (.cons (.bl _) .nil)))))) (Tups.dat t)
theorem kds_eqv : ∀ ks : List Kd, PyData.eqvAll (ks.map kdD) (ks.map kdD) = true
  | [] => rfl
  | k :: r => by
    have ih := kds_eqv r
    simp [PyData.eqvAll, PyData.eqv, kdD, ih]
theorem kds_lay : ∀ ks : List Kd, PyData.canLayAll0 (ks.map kdD) = true
  | [] => rfl
  | k :: r => by simp [PyData.canLayAll0, PyData.canLay0, kdD, kds_lay r]
theorem kds_depth : ∀ ks : List Kd, PyData.depthAll (ks.map kdD) ≤ 1
  | [] => by simp [PyData.depthAll]
  | k :: r => by
    have ih := kds_depth r
    simp [PyData.depthAll, PyData.depth, kdD]
    omega
theorem kds_shaped (ks : List Kd) : SeqAt.shaped (.list (ks.map kdD)) = true := by
  have h1 := kds_lay ks
  have h2 := kds_depth ks
  simp [SeqAt.shaped, PyData.canLay0, PyData.depth, h1]
  omega
theorem Paired.app {α β : Type} {F : α → β → Prop} : ∀ {l₁ m₁ : List α} {l₂ m₂ : List β}, Paired F l₁ l₂ → Paired F m₁ m₂ → Paired F (l₁ ++ m₁) (l₂ ++ m₂)
  | _, _, _, _, .nil, s => s
  | _, _, _, _, .cons r t, s => .cons r (Paired.app t s)
theorem Paired.takeP {α β : Type} {F : α → β → Prop} : ∀ {l₁ : List α} {l₂ : List β} (n : Nat), Paired F l₁ l₂ → Paired F (l₁.take n) (l₂.take n)
  | _, _, 0, _ => .nil
  | _, _, _ + 1, .nil => .nil
  | _, _, n + 1, .cons r t => .cons r (Paired.takeP n t)
theorem ToldAt.same {H H' : Hp} {t l : Addr} {bl : Int} {xs : List V} {ks : List Kd} (s : Same H H') (h : ToldAt H t l bl xs ks) : ToldAt H' t l bl xs ks :=
  ⟨s _ _ h.t, s _ _ h.l, Tups.keep (fun b xs e => s b _ e) h.r, h.b0, h.b1, h.g, h.n0, h.n1⟩
theorem Same.but {p : Addr} {H H' : Hp} (s : Same H H') : But p H H' := fun b o _ e => s b o e
theorem Same.new {q : Addr} {H : Hp} {o : HO} (h : H q = none) : Same H (upd H q o) := fun b u e => by rw [upd_ne (ne_of_none e h)]; exact e
end Pc

set_option Elab.async false
set_option linter.all false
set_option maxRecDepth 100000
namespace L2
open PySem PySem.Spec PyProof.Rows
theorem runs_det {M : Model} {Γ : PySem.Ctx} {p : Pos} {t : Sem Fin} {fs : List Frame} {s s' : Shared} {e : End} (h : Runs M Γ p t fs s e s') : ∀ {e2 : End} {s2 : Shared}, Runs M Γ p t fs s e2 s2 → e = e2 ∧ s' = s2 := by
  induction h with
  | done => intro e2 s2 h2; cases h2; exact ⟨rfl, rfl⟩
  | raise => intro e2 s2 h2; cases h2; exact ⟨rfl, rfl⟩
  | again _ _ ih => intro e2 s2 h2; cases h2; rename_i a b; exact ih b
  | rule _ ih => intro e2 s2 h2; cases h2; rename_i b; exact ih b
  | «at» _ ih => intro e2 s2 h2; cases h2; rename_i b; exact ih b
  | load he _ ih => intro e2 s2 h2; cases h2; rename_i b1 b2 b3; rw [he] at b2; cases b2; exact ih b3
  | update _ _ ih => intro e2 s2 h2; cases h2; rename_i b1 b; exact ih b
  | loadIfAlive _ ih => intro e2 s2 h2; cases h2; rename_i b; exact ih b
  | point _ ih => intro e2 s2 h2; cases h2; rename_i b; exact ih b
  | alloc _ ih => intro e2 s2 h2; cases h2; rename_i b; exact ih b
  | fresh _ ih => intro e2 s2 h2; cases h2; rename_i b; exact ih b
  | ask _ ih => intro e2 s2 h2; cases h2; rename_i b; exact ih b
  | choose _ _ ih => intro e2 s2 h2; cases h2; rename_i b1 b; exact ih b
  | os _ ih => intro e2 s2 h2; cases h2; rename_i b; exact ih b
  | handled _ ih => intro e2 s2 h2; cases h2; rename_i b; exact ih b
  | genState he _ ih => intro e2 s2 h2; cases h2; rename_i b1 b2 b3; rw [he] at b2; cases b2; exact ih b3
  | stack _ ih => intro e2 s2 h2; cases h2; rename_i b; exact ih b
  | thread _ ih => intro e2 s2 h2; cases h2; rename_i b; exact ih b
  | newGen _ ih => intro e2 s2 h2; cases h2; rename_i b; exact ih b
  | call _ _ ih1 ih2 =>
    intro e2 s2 h2
    cases h2 with
    | call a b => obtain ⟨q1, q2⟩ := ih1 a; cases q1; subst q2; exact ih2 b
    | callSusp a => obtain ⟨q1, _⟩ := ih1 a; cases q1
  | callSusp _ ih1 =>
    intro e2 s2 h2
    cases h2 with
    | call a b => obtain ⟨q1, _⟩ := ih1 a; cases q1
    | callSusp a => obtain ⟨q1, q2⟩ := ih1 a; cases q1; exact ⟨rfl, q2⟩
  | yield => intro e2 s2 h2; cases h2; exact ⟨rfl, rfl⟩
  | resumeFresh hg _ _ _ ih1 ih2 =>
    intro e2 s2 h2
    cases h2 with
    | resumeFresh hg' a _ b => rw [hg] at hg'; cases hg'; obtain ⟨q1, q2⟩ := ih1 a; subst q1 q2; exact ih2 b
    | resumeSuspended hg' => rw [hg] at hg'; cases hg'
    | resumeJustStarted hg' n => exact absurd rfl n
    | resumeRunning hg' => rw [hg] at hg'; cases hg'
    | resumeFinished hg' => rw [hg] at hg'; cases hg'
  | resumeSuspended hg _ _ _ ih1 ih2 =>
    intro e2 s2 h2
    cases h2 with
    | resumeFresh hg' => rw [hg] at hg'; cases hg'
    | resumeSuspended hg' a _ b => rw [hg] at hg'; cases hg'; obtain ⟨q1, q2⟩ := ih1 a; subst q1 q2; exact ih2 b
    | resumeJustStarted hg' => rw [hg] at hg'; cases hg'
    | resumeThrowFresh hg' => rw [hg] at hg'; cases hg'
    | resumeRunning hg' => rw [hg] at hg'; cases hg'
    | resumeFinished hg' => rw [hg] at hg'; cases hg'
  | resumeJustStarted hg n _ ih =>
    intro e2 s2 h2
    cases h2 with
    | resumeFresh hg' => exact absurd rfl n
    | resumeSuspended hg' => rw [hg] at hg'; cases hg'
    | resumeJustStarted hg' n b => exact ih b
    | resumeRunning hg' => rw [hg] at hg'; cases hg'
    | resumeFinished hg' => rw [hg] at hg'; cases hg'
  | resumeThrowFresh hg _ ih =>
    intro e2 s2 h2
    cases h2 with
    | resumeSuspended hg' => rw [hg] at hg'; cases hg'
    | resumeThrowFresh hg' b => exact ih b
    | resumeRunning hg' => rw [hg] at hg'; cases hg'
    | resumeFinished hg' => rw [hg] at hg'; cases hg'
  | resumeRunning hg _ ih =>
    intro e2 s2 h2
    cases h2 with
    | resumeFresh hg' => rw [hg] at hg'; cases hg'
    | resumeSuspended hg' => rw [hg] at hg'; cases hg'
    | resumeJustStarted hg' => rw [hg] at hg'; cases hg'
    | resumeThrowFresh hg' => rw [hg] at hg'; cases hg'
    | resumeRunning hg' b => exact ih b
    | resumeFinished hg' => rw [hg] at hg'; cases hg'
  | resumeFinished hg _ ih =>
    intro e2 s2 h2
    cases h2 with
    | resumeFresh hg' => rw [hg] at hg'; cases hg'
    | resumeSuspended hg' => rw [hg] at hg'; cases hg'
    | resumeJustStarted hg' => rw [hg] at hg'; cases hg'
    | resumeThrowFresh hg' => rw [hg] at hg'; cases hg'
    | resumeRunning hg' => rw [hg] at hg'; cases hg'
    | resumeFinished hg' b => exact ih b
  | segRet _ _ ih1 ih2 =>
    intro e2 s2 h2
    cases h2 with
    | segRet a b => obtain ⟨q1, q2⟩ := ih1 a; cases q1; subst q2; exact ih2 b
    | segSuspOut _ a => obtain ⟨q1, _⟩ := ih1 a; cases q1
    | segSuspGen _ a => obtain ⟨q1, _⟩ := ih1 a; cases q1
  | segGen _ _ ih1 ih2 =>
    intro e2 s2 h2
    cases h2 with
    | segGen a b => obtain ⟨q1, q2⟩ := ih1 a; cases q1; subst q2; exact ih2 b
    | segSuspOut _ a => obtain ⟨q1, _⟩ := ih1 a; cases q1
    | segSuspGen _ a => obtain ⟨q1, _⟩ := ih1 a; cases q1
  | segSuspOut hn _ ih1 =>
    intro e2 s2 h2
    cases h2 with
    | segRet a b => obtain ⟨q1, _⟩ := ih1 a; cases q1
    | segGen a b => obtain ⟨q1, _⟩ := ih1 a; cases q1
    | segSuspOut _ a => obtain ⟨q1, q2⟩ := ih1 a; cases q1; exact ⟨rfl, q2⟩
    | segSuspGen hs a => rw [hn] at hs; cases hs
  | segSuspGen hs _ _ _ ih1 ih2 =>
    intro e2 s2 h2
    cases h2 with
    | segRet a b => obtain ⟨q1, _⟩ := ih1 a; cases q1
    | segGen a b => obtain ⟨q1, _⟩ := ih1 a; cases q1
    | segSuspOut hn a => rw [hn] at hs; cases hs
    | segSuspGen hs' a _ b => rw [hs] at hs'; cases hs'; obtain ⟨q1, q2⟩ := ih1 a; cases q1; subst q2; exact ih2 b
/-- both of two promises of one run -/
theorem wp_conj {α : Type} (M : Model) (Γ : PySem.Ctx) (t : Sem α) : ∀ (Q Q' : α → Pos → Shared → Prop) (E E' : Value → Pos → Shared → Prop) (p : Pos) (s : Shared), Sem.wp M Γ t Q E p s → Sem.wp M Γ t Q' E' p s →
    Sem.wp M Γ t (fun a p' s' => Q a p' s' ∧ Q' a p' s') (fun e p' s' => E e p' s' ∧ E' e p' s') p s := by
  have det : ∀ {Δ : PySem.Ctx} {p : Pos} {s : Shared} {r r' : Result} {s1 s2 : Shared}, Returns M Δ p s r s1 → Returns M Δ p s r' s2 → r = r' ∧ s1 = s2 := by
    intro Δ p s r r' s1 s2 h1 h2
    obtain ⟨q1, q2⟩ := runs_det h1 h2
    cases q1
    exact ⟨rfl, q2⟩
  have detW : ∀ {Δ : PySem.Ctx} {p : Pos} {g : Nat} {r : Resume} {s : Shared} {x x' : GenResult} {s1 s2 : Shared}, Wakes M Δ p g r s x s1 → Wakes M Δ p g r s x' s2 → x = x' ∧ s1 = s2 := by
    intro Δ p g r s x x' s1 s2 h1 h2
    unfold Wakes at h1 h2
    split at h1
    · exact h1.elim
    · split at h1
      · obtain ⟨e1, t1, a1, _, rfl, rfl⟩ := h1
        rename_i hg _ _
        simp only [hg] at h2
        obtain ⟨e2, t2, a2, _, rfl, rfl⟩ := h2
        obtain ⟨q1, q2⟩ := runs_det a1 a2
        subst q1 q2
        exact ⟨rfl, rfl⟩
      · rename_i hg _ _ hn
        simp only [hg] at h2
        obtain ⟨rfl, rfl⟩ := h1
        obtain ⟨rfl, rfl⟩ := h2
        exact ⟨rfl, rfl⟩
      · rename_i hg _ _
        simp only [hg] at h2
        obtain ⟨rfl, rfl⟩ := h1
        obtain ⟨rfl, rfl⟩ := h2
        exact ⟨rfl, rfl⟩
    · rename_i hg
      simp only [hg] at h2
      obtain ⟨e1, t1, a1, _, rfl, rfl⟩ := h1
      obtain ⟨e2, t2, a2, _, rfl, rfl⟩ := h2
      obtain ⟨q1, q2⟩ := runs_det a1 a2
      subst q1 q2
      exact ⟨rfl, rfl⟩
    · rename_i hg
      simp only [hg] at h2
      obtain ⟨rfl, rfl⟩ := h1
      obtain ⟨rfl, rfl⟩ := h2
      exact ⟨rfl, rfl⟩
    · rename_i hg
      simp only [hg] at h2
      obtain ⟨rfl, rfl⟩ := h1
      obtain ⟨rfl, rfl⟩ := h2
      exact ⟨rfl, rfl⟩
  induction t with
  | pure a => intro Q Q' E E' p s h h'; exact ⟨h, h'⟩
  | raise e => intro Q Q' E E' p s h h'; exact ⟨h, h'⟩
  | unsupported _ => intro Q Q' E E' p s h _; exact h
  | finish _ => intro Q Q' E E' p s h _; exact h
  | rule _ k ih => intro Q Q' E E' p s h h'; exact ih () _ _ _ _ p s h h'
  | «at» p' k ih => intro Q Q' E E' p s h h'; exact ih () _ _ _ _ p' s h h'
  | load a _ k ih =>
    intro Q Q' E E' p s h h'; obtain ⟨o, ho, h⟩ := h; obtain ⟨o', ho', h'⟩ := h'
    rw [ho] at ho'; cases ho'; exact ⟨o, ho, ih o _ _ _ _ p s h h'⟩
  | update a _ f k ih => intro Q Q' E E' p s h h'; exact ⟨h.1, ih () _ _ _ _ p _ h.2 h'.2⟩
  | loadIfAlive a k ih => intro Q Q' E E' p s h h'; exact ih _ _ _ _ _ p s h h'
  | point _ k ih => intro Q Q' E E' p s h h'; exact ih () _ _ _ _ p s h h'
  | register _ _ => intro Q Q' E E' p s h _; exact h
  | alloc o k ih => intro Q Q' E E' p s h h'; exact ih _ _ _ _ _ p _ h h'
  | fresh k ih => intro Q Q' E E' p s h h'; exact ih _ _ _ _ _ p _ h h'
  | ask k ih => intro Q Q' E E' p s h h'; exact ih _ _ _ _ _ p s h h'
  | choose src m k ih => intro Q Q' E E' p s h h'; exact ⟨h.1, ih _ _ _ _ _ p _ h.2 h'.2⟩
  | os q _ k ih => intro Q Q' E E' p s h h'; exact ih _ _ _ _ _ p _ h h'
  | call c hd _ _ k ih =>
    intro Q Q' E E' p s h h'; obtain ⟨r, s', hr, h⟩ := h; obtain ⟨r', s'', hr', h'⟩ := h'
    obtain ⟨rfl, rfl⟩ := det hr hr'
    exact ⟨r, s', hr, ih r _ _ _ _ p s' h h'⟩
  | handled own k ih => intro Q Q' E E' p s h h'; exact ih _ _ _ _ _ p s h h'
  | genState g k ih =>
    intro Q Q' E E' p s h h'; obtain ⟨st, hs, h⟩ := h; obtain ⟨st', hs', h'⟩ := h'
    rw [hs] at hs'; cases hs'; exact ⟨st, hs, ih _ _ _ _ _ p s h h'⟩
  | newGen c k ih => intro Q Q' E E' p s h h'; exact ih _ _ _ _ _ p _ h h'
  | resume g r _ k ih =>
    intro Q Q' E E' p s h h'; obtain ⟨x, s', hw, h⟩ := h; obtain ⟨x', s'', hw', h'⟩ := h'
    obtain ⟨rfl, rfl⟩ := detW hw hw'
    exact ⟨x, s', hw, ih x _ _ _ _ p s' h h'⟩
  | yield _ _ _ _ => intro Q Q' E E' p s h _; exact h
  | stack k ih => intro Q Q' E E' p s h h'; exact ih _ _ _ _ _ p s h h'
  | fork _ _ => intro Q Q' E E' p s h _; exact h
  | thread k ih => intro Q Q' E E' p s h h'; exact ih _ _ _ _ _ p s h h'
  | await _ _ _ _ _ => intro Q Q' E E' p s h _; exact h
theorem wpAny_conj {α : Type} {M : Model} {A : Around} {t : Sem α} {Q Q' : α → Shared → Prop} {E E' : Value → Shared → Prop} {s : Shared} (h : wpAny M A t Q E s) (h' : wpAny M A t Q' E' s) :
    wpAny M A t (fun a s' => Q a s' ∧ Q' a s') (fun e s' => E e s' ∧ E' e s') s := fun Γ p hΓ => wp_conj M Γ t _ _ _ _ p s (h Γ p hΓ) (h' Γ p hΓ)
/-! ### an exception that flies bears no context -/
def Q2 (e : Addr) (h : Heap) : Prop := ∃ oe vs, h.get? e = some oe ∧ oe.data = .fields vs ∧ vs[2]? = some .none
section
variable {M : Model} {A : Around} {E : Value → Shared → Prop} {s : Shared} {base : Heap} {env : Env} {outer l : List Env} {L e : Addr} {cls a0 fl : Value} {Q : Unit → Shared → Prop}
theorem Q2.set {e c : Addr} {h : Heap} {i : Nat} {v : Value} (hi : i ≠ 2) (q : Q2 e h) : Q2 e (h.update c (Obj.mapFields (·.setIfInBounds i v))) := by
  obtain ⟨oe, vs, he, hd, h2⟩ := q
  by_cases z : c = e
  · subst z
    have hd' := Obj.data_mapFields hd (·.setIfInBounds i v)
    exact ⟨_, _, Heap.get?_update_self _ he (Obj.isFreed_of_fields hd'), hd', by rw [Array.getElem?_setIfInBounds_ne hi]; exact h2⟩
  · exact ⟨oe, vs, (Heap.get?_update_other _ _ z).trans he, hd, h2⟩
theorem Q2.push {e : Addr} {h : Heap} {o : Obj} (q : Q2 e h) : Q2 e (h.push o) := let ⟨oe, vs, he, r⟩ := q; ⟨oe, vs, Heap.get?_push_of_some _ he, r⟩
/-- the entry of a frame, and what the heap is behind it -/
theorem entry2 {head : Value} {nx : Bool} (hfr : A.frames = some (env :: outer)) (hl : s.heap.FunFrames base (env :: outer)) (hf : env.frame = some L) (q : Q2 e s.heap)
    (h : ∀ h₁ o ts, Q2 e h₁ → o.data = .fields ts → 3 < ts.size → Q () { s with heap := (h₁.push o).update e (Obj.mapFields (·.setIfInBounds 1 (Value.ref h₁.objs.size))) }) :
    wpAny M A (do let a ← frameOf env; let pl ← entryPlaceOf L nx; let b ← EntryCells.newEntry head a .none (rawInt L) .none pl; setField (.ref e) 1 b) Q E s := by
  obtain ⟨oe, vs, he, hd, h2⟩ := q
  have hene : e ∉ (env :: outer).filterMap (·.frame) := fun hm => by
    obtain ⟨_, o, ho, hnf⟩ := hl.mem hm
    rw [he] at ho; injection ho with ho; subst ho; exact hnf vs hd
  refine wpAny_bind (wpAny_frameOf_fun hfr hl hf fun h₁ hs₁ => ?_)
  refine wpAny_bind (wpAny_entryPlaceOf fun pl hpl => ?_)
  unfold EntryCells.newEntry newFields
  refine wpAny_bind (wpAny_newObj_type ?_ (hpl.sizeOk5 _ _ _ _ _))
  have he₁ : h₁.get? e = some oe := (hs₁.2.1 e hene).trans he
  have h2s : 2 < vs.size := (Array.getElem?_eq_some_iff.mp h2).1
  exact wpAny_setField (Heap.get?_push_of_some _ he₁) hd (by omega) (h h₁ _ _ ⟨oe, vs, he₁, hd, h2⟩ rfl (by simp only [List.size_toArray, List.length_append, List.length_cons, List.length_nil]; omega))

theorem flight2 (tr : s.heap.TracedAtW base e cls a0 fl) (q : Q2 e s.heap) : wpAny M A (setFlight (.ref e) none) (fun _ s' => Q2 e s'.heap) E s := by
  obtain ⟨oe, vs, T, oT, ts, he, hcls, hd, h1, hnT, hTe, hT, hdT, h3⟩ := tr
  unfold setFlight
  refine wpAny_bind (wpAny_field he hd h1 ?_)
  rw [if_pos (show (Value.ref T != Value.none) = true from by simp)]
  exact wpAny_setField hT hdT (Array.getElem?_eq_some_iff.mp h3).1 (q.set (by decide))
theorem note2 (hfr : A.frames = some (env :: outer)) (hf : env.frame = some L) (f : Heap.FlyingW base (env :: outer) e cls a0 s.heap) (q : Q2 e s.heap) : wpAny M A (noteFrame (.ref e) env) (fun _ s' => Q2 e s'.heap) E s := by
  obtain ⟨hkb, hen, hl, oe, vs, T, oT, ts, he, hcls, hd, h1, hnT, hTe, hT, hdT, h3⟩ := f
  unfold noteFrame
  simp only [hf]
  refine wpAny_bind (wpAny_field he hd h1 ?_)
  rw [if_pos (show (Value.ref T != Value.none) = true from by simp)]
  refine wpAny_bind (wpAny_field hT hdT h3 ?_)
  rw [if_neg (show ¬ ((Value.none == rawInt L) = true) from by simp [rawInt])]
  refine wpAny_bind (wpAny_setField hT hdT (Array.getElem?_eq_some_iff.mp h3).1 ?_)
  refine entry2 (s := { s with heap := s.heap.update T (Obj.mapFields (·.setIfInBounds 3 Value.none)) }) hfr (hl.of_keeps fun b o hb hnf => ⟨o, (Heap.get?_update_other _ _ (fun z => ?_)).trans hb, rfl⟩) hf (q.set (by decide)) fun h₁ o _ q1 _ _ => q1.push.set (by decide)
  rw [← z, hT] at hb; injection hb with hb; subst hb; exact hnf ts hdT
theorem leave2 {h : Heap} {args : List Value} (hfr : A.frames = some (env :: outer)) (hf : env.frame = some L) (hl : h.FunFrames base (env :: outer)) (hx : Heap.MadeExcOf h s.heap e cls args) : wpAny M A (leaving env (.ref e)) (fun _ s' => Q2 e s'.heap) E s := by
  obtain ⟨t, he, htn, ht⟩ := hx.there
  have q : Q2 e s.heap := ⟨_, _, he, rfl, rfl⟩
  unfold leaving noteFrame
  simp only [hf]
  refine wpAny_bind (wpAny_bind (wpAny_field he rfl (x := .none) rfl ?_))
  rw [if_neg (by decide)]
  refine entry2 (base := base) hfr (hl.of_keeps fun b o hb _ => ⟨o, hx.keeps b o hb, rfl⟩) hf q fun h₁ o ts q1 ho h3 => ?_
  obtain ⟨oe1, vs1, he1, hd1, h21⟩ := q1
  have hTe : h₁.objs.size ≠ e := Nat.ne_of_gt (Heap.lt_size he1)
  have hd3 := Obj.data_mapFields hd1 (·.setIfInBounds 1 (Value.ref h₁.objs.size))
  have he3 := Heap.get?_update_self (Obj.mapFields (·.setIfInBounds 1 (Value.ref h₁.objs.size))) (Heap.get?_push_of_some o he1) (Obj.isFreed_of_fields hd3)
  have h2s : 2 < vs1.size := (Array.getElem?_eq_some_iff.mp h21).1
  have hT := (Heap.get?_update_other (h₁.push o) (Obj.mapFields (·.setIfInBounds 1 (Value.ref h₁.objs.size))) (Ne.symm hTe)).trans (Heap.get?_push_size h₁ (Obj.isFreed_of_fields ho))
  unfold setFlight
  refine wpAny_bind (wpAny_field he3 hd3 (x := .ref h₁.objs.size) (by rw [Array.getElem?_setIfInBounds_self_of_lt (by omega)]) ?_)
  rw [if_pos (show (Value.ref h₁.objs.size != Value.none) = true from by simp)]
  exact wpAny_setField hT ho h3 ((Q2.push (o := o) ⟨oe1, vs1, he1, hd1, h21⟩).set (i := 1) (by decide) |>.set (by decide))
end
section
variable {M : Model} {A : Around} {E : Value → Shared → Prop} {s : Shared} {base : Heap} {env : Env} {outer l : List Env} {L e : Addr} {cls a0 fl : Value} {Q : Unit → Shared → Prop}
theorem leaves_madeQ {h : Heap} {args : List Value} (hfr : A.frames = some (env :: outer)) (hf : env.frame = some L) (hkb : base.StaysIn h) (hl : h.FunFrames base (env :: outer)) (hx : Heap.MadeExcOf h s.heap e cls args)
    (hQ : ∀ h' t, Heap.FlyingW base outer e cls (.ref t) h' → h'.TupAt t args → base.get? t = none → s.heap.UpToSlots h' → Q2 e h' → Q () { s with heap := h' }) : wpAny M A (leaving env (.ref e)) Q E s :=
  wpAny_mono (wpAny_conj (leave2 (E := E) hfr hf hl hx) (wpAny_leaves_madeW (Q := fun _ s' => Q2 e s'.heap → Q () s') (E := E) hfr hf hkb hl hx fun h' t a b c d q => hQ h' t a b c d q)) (fun _ _ z => z.2 z.1) fun _ _ z => z.1
theorem looks_onQ (hfr : A.frames = some (env :: outer)) (hf : env.frame = some L) (f : Heap.FlyingW base (env :: outer) e cls a0 s.heap) (q : Q2 e s.heap)
    (hQ : ∀ h', Heap.HeldW base (env :: outer) e cls a0 L h' → s.heap.UpToSlots h' → Q2 e h' → Q () { s with heap := h' }) : wpAny M A (noteFrame (.ref e) env) Q E s :=
  wpAny_mono (wpAny_conj (note2 (E := E) hfr hf f q) (wpAny_looks_onW (Q := fun _ s' => Q2 e s'.heap → Q () s') (E := E) hfr hf f fun h' a b q => hQ h' a b q)) (fun _ _ z => z.2 z.1) fun _ _ z => z.1
theorem landsQ (hh : Heap.HeldW base l e cls a0 L s.heap) (q : Q2 e s.heap) (hQ : ∀ h', Heap.FlyingW base l e cls a0 h' → s.heap.UpToSlots h' → Q2 e h' → Q () { s with heap := h' }) : wpAny M A (setFlight (.ref e) none) Q E s :=
  wpAny_mono (wpAny_conj (flight2 (E := E) hh.2.2.2 q) (wpAny_landsW (Q := fun _ s' => Q2 e s'.heap → Q () s') (E := E) hh fun h' a b q => hQ h' a b q)) (fun _ _ z => z.2 z.1) fun _ _ z => z.1
theorem lands_againQ (hh : Heap.FlyingW base l e cls a0 s.heap) (q : Q2 e s.heap) (hQ : ∀ h', Heap.FlyingW base l e cls a0 h' → s.heap.UpToSlots h' → Q2 e h' → Q () { s with heap := h' }) : wpAny M A (setFlight (.ref e) none) Q E s :=
  wpAny_mono (wpAny_conj (flight2 (E := E) hh.2.2.2.at q) (lands_againW (Q := fun _ s' => Q2 e s'.heap → Q () s') (E := E) hh fun h' a b q => hQ h' a b q)) (fun _ _ z => z.2 z.1) fun _ _ z => z.1
end
end L2

set_option Elab.async false
set_option linter.all false
set_option maxRecDepth 100000
namespace L2
open PySem PySem.Spec PyProof.Rows

/-! ### an exception that has left a def -/
theorem ObjOk.ex {P : Program} {w : World} {H : Hp} {h : Heap} {a : Addr} {o : HO} (x : ObjOk P w H h a o) : ∃ ob, h.get? a = some ob := by
  cases o with
  | lst xs => obtain ⟨_, _, _, _, e⟩ := x; exact ⟨_, e⟩
  | tup xs => obtain ⟨_, _, _, o, e, _⟩ := x; exact ⟨_, e⟩
  | dK kvs => obtain ⟨_, _, _, _, o, _, _, e, _⟩ := x; exact ⟨_, e⟩
  | dT kvs => obtain ⟨_, _, _, _, o, _, _, e, _⟩ := x; exact ⟨_, e⟩
  | set S n => obtain ⟨o, _, _, _, e, _⟩ := x; exact ⟨_, e⟩
  | ins C dx fs => obtain ⟨_, _, _, e, _⟩ := x; exact ⟨_, e⟩
  | own y => exact x
  | xd fs => obtain ⟨_, ⟨_, _, _, e, _⟩, _⟩ := x; exact ⟨_, e⟩
  | rng lo hi => obtain ⟨_, _, _, e⟩ := x; exact ⟨_, e⟩
  | frz ob u => exact ⟨_, x.1⟩
  | tbl ps => exact ⟨_, (show h.get? a = some _ from x)⟩
  | met f y => exact ⟨_, (show h.get? a = some _ from x)⟩
  | ext φ => exact x.2.1
/-- the state behind: what was there when it was raised is in B, but the frames -/
structure Flew (P : Program) (w : World) (outer : List Env) (H : Hp) (s : Shared) (ea : Addr) (C : Value) (H' : Hp) (B : Heap) (s' : Shared) : Prop where
  os : s'.os = s.os
  bare : AllBare s'.gens
  un : Un (frs outer) [] H H' s.heap s'.heap
  hok : HOk P w H' s'.heap
  fly : ∃ a0, Heap.FlyingW B outer ea C a0 s'.heap
  ctx : Q2 ea s'.heap
  cov : ∀ b o, b ∉ frs outer → (H' b ≠ none ∨ ∃ o', s.heap.get? b = some o') → s'.heap.get? b = some o → B.get? b = some o
  new : s.heap.get? ea = none ∧ H' ea = none
def CXx (P : Program) (w : World) : CXT := fun outer H s E e s' => ∃ ea C H' B, e = Value.ref ea ∧ Flew P w outer H s ea C H' B s' ∧ E C none H'

section
variable {X : Cx} {pins : List (Addr × Obj)} {σ : St} {H : Hp} {s : Shared}
theorem Inv.raised {h2 : Heap} {ea : Addr} {C : Value} {vs : List Value} {M : Model} {E : Value → Shared → Prop} {Q : Unit → Shared → Prop} (I : Inv X pins σ H s) (hst : X.stack = X.env :: X.outer) (hfr : X.env.frame = some X.env.locals) (hex : X.ex = [])
    (hx : Heap.MadeExcOf s.heap h2 ea C vs) (hQ : ∀ B h', Flew X.prog X.w X.outer X.H₀ X.s₀ ea C H B { s with heap := h' } → Q () { s with heap := h' }) :
    wpAny M X.A (leaving X.env (.ref ea)) Q E { s with heap := h2 } := by
  have fS : frs X.stack = X.env.locals :: X.fs := by rw [hst]; unfold frs; rw [List.filterMap_cons, hfr]; rfl
  have st : s.heap.FunFrames X.base (X.env :: X.outer) := by rw [← hst]; exact I.stack
  have hin : ∀ env ∈ (X.env :: X.outer), ∀ b, env.frame = some b → b ∈ frs X.stack := fun env he b hb => by rw [hst]; exact List.mem_filterMap.mpr ⟨env, he, hb⟩
  have s0L : ∀ b o, X.s₀.heap.get? b = some o → b ≠ X.env.locals := fun b o e => Nat.ne_of_lt (Nat.lt_of_lt_of_le (Heap.lt_size e) I.ok.above)
  have Ubase : Un X.fs [] X.H₀ H X.s₀.heap s.heap := by have := I.base; rw [hex] at this; exact this
  have trk : ∀ b u, H b = some u → b ∉ frs X.stack := fun b u e hb => by rw [I.stkFree b hb] at e; cases e
  have ofd : ∀ b, b ∈ X.fs → ∃ o, s.heap.get? b = some o ∧ ∀ vs, o.data ≠ .fields vs := fun b hb => by
    obtain ⟨_, o, ho, hd⟩ := I.funs.mem hb
    exact ⟨o, ho, hd⟩
  refine leaves_madeQ (base := PySem.W.hideAll s.heap (frs X.stack)) (h := s.heap) (by rw [← hst]; exact I.ok.frames) hfr (fun b o q => PySem.W.of_hideAll _ q) (PySem.W.funFrames_hide st hin) hx fun h' t fl tup hbt sm q2 => hQ (PySem.W.hideAll s.heap (frs X.stack)) h' ?_
  have toB : ∀ b o, b ∉ frs X.stack → s.heap.get? b = some o → h'.get? b = some o := fun b o nb e => fl.1 _ _ (PySem.W.hideAll_get _ e nb)
  have nfs : ∀ b o, X.s₀.heap.get? b = some o → b ∉ X.fs → b ∉ frs X.stack := fun b o e nb z => by
    rw [fS] at z
    rcases List.mem_cons.mp z with q | q
    · exact s0L b o e q
    · exact nb q
  have slot1 : ∀ b o, b ∈ X.fs → s.heap.get? b = some o → ∃ sl, h'.get? b = some { o with slots := sl } := fun b o hb e => by
    obtain ⟨o', e', hd⟩ := ofd b hb
    rw [e] at e'; cases e'
    exact sm b o (hx.keeps _ _ e) hd
  refine ⟨I.os, I.bare, ⟨fun b o e n hb _ => ?_, fun b o e n hb _ => ?_, fun b o e n _ => Ubase.free b o e n (by simp), fun b o e _ => ?_, Ubase.tups, Ubase.frzs, Ubase.tbls⟩, fun b u e => ?_, ⟨_, fl⟩, q2, fun b o nb hh e => ?_, ?_, ?_⟩
  · exact toB b o (nfs b o e hb) (Ubase.keep b o e n hb (by simp))
  · obtain ⟨sl, e1⟩ := Ubase.slot b o e n hb (by simp)
    obtain ⟨sl', e2⟩ := slot1 b _ hb e1
    exact ⟨sl', e2⟩
  · obtain ⟨o', e1⟩ := Ubase.there b o e (by simp)
    by_cases hb : b ∈ X.fs
    · obtain ⟨sl, e2⟩ := slot1 b _ hb e1
      exact ⟨_, e2⟩
    · exact ⟨o', toB b o' (nfs b o e hb) e1⟩
  · refine (I.hok b u e).stay (fun c v hc q => toB c v ?_ q) (fun _ q => q) fun _ _ q => q
    rcases hc with z | z
    · rw [z]; exact trk b u e
    · exact trk c _ z
  · rcases hh with z | ⟨o', z⟩
    · cases q : H b with
      | none => exact absurd q z
      | some u =>
        obtain ⟨ob, eb⟩ := (I.hok b u q).ex
        have eB := PySem.W.hideAll_get _ eb (trk b u q)
        have := fl.1 _ _ eB
        rw [e] at this; cases this
        exact eB
    · obtain ⟨o'', e1⟩ := Ubase.there b o' z (by simp)
      have eB := PySem.W.hideAll_get _ e1 (nfs b o' z nb)
      have := fl.1 _ _ eB
      rw [e] at this; cases this
      exact eB
  · cases q : X.s₀.heap.get? ea with
    | none => rfl
    | some o =>
      obtain ⟨o', e1⟩ := Ubase.there ea o q (by simp)
      rw [hx.new] at e1; cases e1
  · cases q : H ea with
    | none => rfl
    | some u =>
      obtain ⟨ob, eb⟩ := (I.hok ea u q).ex
      rw [hx.new] at eb; cases eb
/-- behind a call that raised, once the frames have been looked at: the caller's state -/
theorem Flew.inv {ea : Addr} {C : Value} {H' : Hp} {B h6 : Heap} {s' : Shared} {t : Nat} (I : Inv X pins σ H s) (f : Flew X.prog X.w X.stack H s ea C H' B s') (hB : B.StaysIn h6) (sm : s'.heap.UpToSlots h6) : Inv X pins σ H' { s' with heap := h6, toks := t } := by
  have trk : ∀ b u, H' b = some u → b ∉ frs X.stack := fun b u e hb => by
    obtain ⟨o, ho⟩ : ∃ o, s.heap.get? b = some o := let ⟨_, o, ho, _⟩ := I.stack.mem hb; ⟨o, ho⟩
    have := f.un.free b o ho (I.stkFree b hb) (by simp)
    rw [this] at e; cases e
  have slot1 : ∀ b o, b ∈ frs X.stack → s'.heap.get? b = some o → ∃ sl, h6.get? b = some { o with slots := sl } := fun b o hb e => by
    obtain ⟨a0, fl⟩ := f.fly
    obtain ⟨_, o', e', hd⟩ := fl.2.2.1.mem hb
    rw [e] at e'; cases e'
    exact sm b o e hd
  refine I.call' (ch := []) f.os ⟨fun b o e n hb _ => ?_, fun b o e n hb _ => ?_, fun b o e n _ => f.un.free b o e n (by simp), fun b o e _ => ?_, f.un.tups, f.un.frzs, f.un.tbls⟩ (fun b u e => ?_) f.bare (fun b z => absurd z (by simp))
  · exact hB _ _ (f.cov b o hb (.inr ⟨o, e⟩) (f.un.keep b o e n hb (by simp)))
  · obtain ⟨sl, e1⟩ := f.un.slot b o e n hb (by simp)
    obtain ⟨sl', e2⟩ := slot1 b _ hb e1
    exact ⟨sl', e2⟩
  · obtain ⟨o', e1⟩ := f.un.there b o e (by simp)
    by_cases hb : b ∈ frs X.stack
    · obtain ⟨sl, e2⟩ := slot1 b _ hb e1
      exact ⟨_, e2⟩
    · exact ⟨o', hB _ _ (f.cov b o' hb (.inr ⟨o, e⟩) e1)⟩
  · refine (f.hok b u e).stay (fun c v hc q => ?_) (fun _ q => q) fun _ _ q => q
    have hc' : H' c ≠ none := by
      rcases hc with z | z
      · rw [z, e]; exact fun z => nomatch z
      · rw [z]; exact fun z => nomatch z
    have nc : c ∉ frs X.stack := by
      cases q' : H' c with
      | none => exact absurd q' hc'
      | some u' => exact trk c u' q'
    exact hB _ _ (f.cov c v nc (.inl hc') q)
end

/-! ### raise C("..") of an own class that stands under ValueError -/
def bmVE : List Value := [.type "ValueError", .type "Exception", .type "BaseException", .type "object"]
/-- what the text must have of such a class -/
def ExcC (K : PySem.W.Frag) (C : Addr) : Prop := PySem.W.excIn K C bmVE "ValueError.__new__" = true
theorem ExcC.obj {K : PySem.W.Frag} {C : Addr} {h : Heap} (X : K.In h) (q : ExcC K C) : ∃ bm N nm qn bs hdct sn sub ab col dd k0 k1 k2 k3 k5 mN,
    h.get? C = some (excClassObj nm qn C N bs bm hdct sn sub ab col dd k0 k1 k2 k3 k5 "ValueError.__new__") ∧ h.Ns N mN ∧ mN "__init__" = none ∧ OwnTail h bmVE bm := by
  unfold ExcC PySem.W.excIn at q
  split at q
  · rename_i dd cd sl ho
    split at q
    · rename_i C' bm k0 k1 k2 k3 n k5 hm hs
      simp only [Bool.and_eq_true, beq_iff_eq, Bool.not_eq_true'] at q
      obtain ⟨⟨⟨⟨⟨e1, e2⟩, e3⟩, e4⟩, e5⟩, e6⟩ := q
      obtain ⟨nm, bs, mro, ns, qn, hd, sn, sub, ab, col, del⟩ := cd
      dsimp only at hm e3 e5 e6
      subst e1 e2 hm e3
      obtain ⟨l⟩ := sl
      simp only at hs
      subst hs
      exact ⟨bm, ns, nm, qn, bs, hd, sn, sub, ab, col, dd, k0, k1, k2, k3, k5, _, X _ _ ho, .of_isNs (PySem.W.isNs_of_in X e5), PySem.W.nsMap_none_of_in X e5 e6, PySem.W.tail_of_in X e4⟩
    · cases q
  · cases q
section
variable {X : Cx} {x : Str} {C : Addr} {e0 : Expr} {np cpos pos : Pos} {t : TA}
def tRaise (R : Value → Hp → Prop) (C : Addr) (t : TA) : TS := fun _ σ H => t σ H fun vs H1 => vs.length ≤ sizeLine ∧ R (.ref C) H1
theorem ps_raise {R : Value → Hp → Prop} (hc : X.calm = true) (hg : Gl X x) (hm : X.mg x = some (.ref C)) (ec : ExcC X.K C) (ha : PA X [e0] t)
    (hR : ∀ pins σ H s h2 ea vs, Inv X pins σ H s → Heap.MadeExcOf s.heap h2 ea (.ref C) vs → R (.ref C) H → X.xe (.ref ea) { s with heap := h2 })
    (he : starEach [e0] X.env = [(false, eval e0 X.env)] := by rfl) (hd : (x == ("__debug__" : Str)) = false := by decide) :
    PS X (.Raise (some (.Call (.Name x np) [e0] [] cpos)) none pos) (tRaise R C t) := by
  intro pins s σ H D I h
  obtain ⟨bm, N, nm, qn, bs, hdct, sn, sub, ab, col, dd, k0, k1, k2, k3, k5, mN, hC, hN, hni, T⟩ := ec.obj I.ok.mod.kin
  refine wpAny_Raise_call_subT (C := C) (nm := nm) (q := qn) (N := N) (bs := bs) (bm := bm) (hdct := hdct) (sn := sn) (sub := sub) (ab := ab) (col := col) (dd := dd) (k0 := k0) (k1 := k1) (k2 := k2) (k3 := k3) (k5 := k5)
    PySem.F.excBase_ValueError (mN := mN) (T.hasType PySem.F.excBase_ValueError.hasBase) (I.ok.hd hc) (by rw [he]; rfl) hni (ld_glob I hg hm ⟨rfl, ?_⟩ hd)
  have h2 := ha cpos pins s σ H _ I h
  rw [he] at h2 ⊢
  refine Calls.evalArgs_plain (thn h2 fun us s2 ⟨vs, H1, I1, rv, hl, q⟩ => ⟨rfl, by rw [← rv.length]; exact hl, I1.bk _ _ hC, hN.keeps I1.bk, T.keeps I1.bk, fun h' ea hx => ?_⟩)
  exact hR pins σ H1 s2 h' ea us I1 hx q
end

/-! ### a def that may raise -/
section
variable {P : Program} {w : World} {K : PySem.W.Frag} {mg : Str → Option Value} {base : Heap}
theorem raise_ends {N : List Str} {qual : Str} {scope : Scope} {f : Addr} {cd : Value} {A : Around} {outer : List Env} {s₀ : Shared} {H₀ : Hp} {E : XK} {C : Addr} :
    ∀ pins σ H s h2 ea vs, Inv (cxOf (CXx P w) P w K mg base N qual scope f cd A outer s₀ H₀ E) pins σ H s → Heap.MadeExcOf s.heap h2 ea (.ref C) vs → (fun c H => E c none H) (Value.ref C) H →
      (cxOf (CXx P w) P w K mg base N qual scope f cd A outer s₀ H₀ E).xe (.ref ea) { s with heap := h2 } := fun pins σ H s h2 ea vs I hx q =>
  I.raised (E := fun e' s'' => CXx P w outer H₀ s₀ E e' s'') rfl rfl rfl hx fun B h' f => ⟨ea, _, H, B, rfl, f, q⟩
theorem Fun.okX {x qual : Str} {st : Stmt} {f : Addr} {fd : FuncData} {N ps : List Str} {k : Nat} {sp : Sp} (F : Fun K x qual st f fd) (S : FnScope N ps (defScope st)) (len : ∀ vs H Q E, sp vs H Q E → vs.length = ps.length)
    (hbody : ∀ (cdv : Value) (A : Around) (outer : List Env) (s : Shared) (H : Hp) (vs : List V) (Q : VK) (E : XK), Room k (A.deeper (envOfC qual (defScope st) s.heap.objs.size f cdv)) → sp vs H Q E →
      ∃ t, PSs (cxOf (CXx P w) P w K mg base N qual (defScope st) f cdv A outer s H E) (defBody st) t ∧ t { nx := fun _ H' => Q .non H', rt := Q } (start N vs) H) : FnOk P w K mg base (CXx P w) (k + 1) f fd ps sp := by
  obtain ⟨oc, od, kV, doc, pm, an, cdv, ct, osl, rfl, lk, hcd⟩ := F.ex
  exact fn_of lk hcd S len fun A outer s H vs Q E hr hsp => hbody cdv A outer s H vs Q E hr hsp
end

/-! ### an expression that may raise -/
def XP (X : Cx) (pins : List (Addr × Obj)) (σ : St) (E : XK) (v : Value) (s' : Shared) : Prop := ∃ ea C H H' B s0, v = Value.ref ea ∧ Inv X pins σ H s0 ∧ Flew X.prog X.w X.stack H s0 ea C H' B s' ∧ E C none H'
abbrev TX := St → Hp → VK → XK → Prop
def PEx (X : Cx) (e : Expr) (t : TX) : Prop :=
  ∀ (pins : List (Addr × Obj)) (s : Shared) (σ : St) (H : Hp) (Q : VK) (E : XK), Inv X pins σ H s → t σ H Q E → wpAny (model X.prog X.w) X.A (eval e X.env) (EP X pins σ Q) (XP X pins σ E) s
section
variable {X : Cx} {k : Nat} {f C : Addr} {fd : FuncData} {ps : List Str} {sp : Sp} {x m : Str} {p pos apos : Pos} {e o : Expr} {es : List Expr} {ta : TE} {t : TA}
theorem run_fnX {pins : List (Addr × Obj)} {σ : St} {H : Hp} {s : Shared} {Q : VK} {E : XK} {us : List Value} {vs : List V} (F : FnOk X.prog X.w X.K X.mg X.base (CXx X.prog X.w) k f fd ps sp) (hr : Room k X.A) (hb : Binds X.K fd ps [])
    (I : Inv X pins σ H s) (r : Vals vs us) (h : sp vs H Q E) : wpAny (model X.prog X.w) X.A (call (.ref f) us) (EP X pins σ Q) (XP X pins σ E) s := by
  have hl : (us ++ []).length = ps.length := by rw [List.append_nil, ← r.length]; exact F.len _ _ _ _ h
  have b := hb s us I.kIn hl
  rw [List.append_nil] at b
  refine wpAny_call (codeAny_mono (F.run X.A X.stack s H ⟨us, []⟩ us vs Q E hr I.env0 b r h) fun r s' hq => ?_)
  cases r with
  | error e =>
    obtain ⟨ea, C, H', B, e1, fl, q⟩ := hq
    exact ⟨ea, C, H, H', B, s, e1, I, fl, q⟩
  | ok fl =>
    cases fl with
    | ret u => exact I.after hq
    | next => exact False.elim hq
    | brk => exact False.elim hq
    | cont => exact False.elim hq
/-- o.m(e, ..) that may raise -/
def tMethX (C : Addr) (m : Str) (sp : Sp) (ta : TE) (t : TA) : TX := fun σ H Q E => ta σ H fun x H1 => ∃ a dx fs, x = .ref a ∧ H1 a = some (.ins C dx fs) ∧ fs.lookup m = none ∧ t σ H1 fun vs H2 => sp (x :: vs) H2 Q E
theorem pex_meth {pl : Sem Bool} (he : PE X.nox o ta) (c : Cls X.K C) (hm : Meth X.K C m f) (F : FnOk X.prog X.w X.K X.mg X.base (CXx X.prog X.w) k f fd ps sp) (hr : Room k X.A) (hb : Binds X.K fd ps []) (ha : PA X.nox (e :: es) t)
    (hst : starEach (e :: es) X.env = (false, eval e X.env) :: starEach es X.env := by rfl) (hpl : (backTo pos (starEach es X.env)).any (·.1) = false := by rfl)
    (ht : eval (.Call (.Attribute o m apos) (e :: es) [] pos) X.env = (do
      let ov ← eval o X.env
      standAt apos.atName
      let (f, first) ← holding [ov] (getMethod ov m pl)
      callWith pos f first (backTo pos (starEach (e :: es) X.env)) (backToKw pos (keywordEach [] X.env))) := by rfl) :
    PEx X (.Call (.Attribute o m apos) (e :: es) [] pos) (tMethX C m sp ta t) := by
  intro pins s σ H Q E I h
  refine PySem.W.methodCall_KW (pl := pl) (wpAny_mono (he pins s σ H _ (I.wish _) h) (fun u s1 ⟨x, H1, I1, rx, a, dx, fs, ex, ea, l, q⟩ => ?_) fun _ _ z => False.elim z) ht
  subst ex
  obtain rfl : u = Value.ref a := rx
  refine getmeth_ok I1.unwish ea c hm l ?_
  refine PySem.W.callWith_K (first := [.ref a]) (h₀ := X.base) I.ok.mod.kin hm.kp (wpAny_mono (ha pos pins s1 σ H1 _ I1 q) (fun us s2 ⟨vs, H2, I2, r, q2⟩ => ⟨I2.kIn, ?_⟩) fun _ _ z => False.elim z) hst hpl
  exact run_fnX (us := .ref a :: us) (vs := .ref a :: vs) F hr hb I2.unwish (.cons rfl r) q2
end
end L2

set_option Elab.async false
set_option linter.all false
set_option maxRecDepth 100000
namespace L2
open PySem PySem.Spec PyProof.Rows

/-- within an except suite -/
def Cx.marked (X : Cx) (ea : Addr) : Cx := { X with A := X.A.mark (some (.ref ea)), calm := false, xe := fun _ _ => False }
section
variable {X : Cx} {pins : List (Addr × Obj)} {σ : St} {H : Hp} {s : Shared}
theorem Inv.mark (I : Inv X pins σ H s) (ea : Addr) : Inv (X.marked ea) pins σ H s :=
  ⟨⟨I.ok.mod, I.ok.kind, I.ok.glob, I.ok.blt, I.ok.above, I.ok.inj, I.ok.has, I.ok.cab, fun z => absurd (show false = true from z) Bool.false_ne_true, I.ok.frames, I.ok.stk, I.ok.exf, I.ok.bs, I.ok.bsz, I.ok.noex, I.ok.exfs, I.ok.funs, I.ok.frf⟩,
    I.os, I.bare, I.base, I.loc, I.cell, I.free, I.freeC, I.pin, I.hok, I.len⟩
theorem Inv.unmark {ea : Addr} (ok : X.Ok) (I : Inv (X.marked ea) pins σ H s) : Inv X pins σ H s :=
  ⟨ok, I.os, I.bare, I.base, I.loc, I.cell, I.free, I.freeC, I.pin, I.hok, I.len⟩
/-- an untracked object that was not there at the entry is tracked -/
theorem Inv.track2 {a : Addr} {o : HO} (I : Inv X pins σ H s) (f0 : H a = none) (f1 : a ≠ X.env.locals) (hna : X.s₀.heap.get? a = none) (f4 : ∀ x c, X.env.cells.lookup x = some c → c ≠ a) (f5 : ∀ p ∈ X.pn ++ pins, p.1 ≠ a)
    (new : ObjOk X.prog X.w (upd H a o) s.heap a o) : Inv X pins σ (upd H a o) s := by
  have s0 : ∀ b o, X.s₀.heap.get? b = some o → b ≠ a := fun b o e z => by rw [z, hna] at e; cases e
  refine ⟨I.ok, I.os, I.bare, ⟨I.base.keep, I.base.slot, fun b o e n hx => ?_, I.base.there, fun b xs e => ?_, fun b o u e => ?_, fun b ps e => ?_⟩, I.loc, I.cell, ?_, fun x c e => ?_, fun p hp => ?_, I.hok.add f0 new, I.len⟩
  · rw [upd_ne (s0 b o e)]; exact I.base.free b o e n hx
  · have q := I.base.tups b xs e
    rw [upd_ne (ne_of_none q f0)]; exact q
  · have q := I.base.frzs b o u e
    rw [upd_ne (ne_of_none q f0)]; exact q
  · obtain ⟨more, q⟩ := I.base.tbls b ps e
    exact ⟨more, by rw [upd_ne (ne_of_none q f0)]; exact q⟩
  · rw [upd_ne (Ne.symm f1)]; exact I.free
  · rw [upd_ne (f4 x c e)]; exact I.freeC x c e
  · obtain ⟨e, n, r⟩ := I.pin p hp
    exact ⟨e, by rw [upd_ne (f5 p hp)]; exact n, r⟩
/-- a local name has gone -/
theorem name_gone {M : Model} {A : Around} {E : Value → Shared → Prop} {i : Nat} {x : Str} {pos : Pos} {Q : Unit → Shared → Prop} (I : Inv X pins σ H s) (hN : X.N.Nodup) (hi : X.N[i]? = some x) (hk : X.env.scope.names.lookup x = some .local)
    (h : ∀ s', Inv X pins (σ.set i none) H s' → Q () s') : wpAny M A (do bindName X.env x .none; unbindBehindTheSuite X.env x pos) Q E s := by
  obtain ⟨m, hn, hl⟩ := id I.loc
  have hcls : (X.env.scope.kind == .class || (X.env.scope.kind == .module && X.env.locals != X.env.globals)) = false := by rw [I.ok.kind]; rfl
  refine wpAny_nameGoes_keeps hk hn hcls fun h' v hn' hs => h _ ?_
  obtain ⟨oL, _, _, hoL, _⟩ := id hn
  have cne := I.cne
  have hok : HOk X.prog X.w H h' := I.hok.but I.free hs
  refine ⟨I.ok, I.os, I.bare, ⟨fun b o e n hb hx => ?_, fun b o e n hb hx => ?_, I.base.free, fun b o e hx => ?_, I.base.tups, I.base.frzs, I.base.tbls⟩, ⟨_, hn', fun j y v' e1 e2 e3 => ?_⟩, fun y c e => ?_, I.free, I.freeC, fun p hp => ?_, hok, by simpa using I.len⟩
  · exact (hs.2 b (Nat.ne_of_lt (Nat.lt_of_lt_of_le (Heap.lt_size e) I.ok.above))).trans (I.base.keep b o e n hb hx)
  · obtain ⟨sl, e1⟩ := I.base.slot b o e n hb hx
    exact ⟨sl, (hs.2 b (Nat.ne_of_lt (Nat.lt_of_lt_of_le (Heap.lt_size e) I.ok.above))).trans e1⟩
  · obtain ⟨o', e1⟩ := I.base.there b o e hx
    exact ⟨o', (hs.2 b (Nat.ne_of_lt (Nat.lt_of_lt_of_le (Heap.lt_size e) I.ok.above))).trans e1⟩
  · have hj : j ≠ i := fun z => by
      subst z
      have hiσ : j < σ.length := by rw [I.len]; exact (List.getElem?_eq_some_iff.mp hi).1
      rw [List.getElem?_set_self hiσ] at e2
      cases e2
    rw [List.getElem?_set_ne (Ne.symm hj)] at e2
    obtain ⟨u', r', q⟩ := hl j y v' e1 e2 e3
    refine ⟨u', r', ?_⟩
    rcases q with ⟨k, e⟩ | ⟨k, c, e, z⟩
    · refine .inl ⟨k, ?_⟩
      have : y ≠ x := fun e => hj (nodup_ix hN e1 (e ▸ hi))
      simp [this, e]
    · exact .inr ⟨k, c, e, z.sameBut hs (cne y c e)⟩
  · obtain ⟨v', z⟩ := I.cell y c e
    exact ⟨v', z.sameBut hs (cne y c e)⟩
  · obtain ⟨e, n, ne, nf, d⟩ := I.pin p hp
    exact ⟨(hs.2 p.1 ne).trans e, n, ne, nf, d⟩
end
/-- the thing at a is of the class C -/
def IsA (a : Addr) (C : Value) (h : Heap) : Prop := ∃ o, h.get? a = some o ∧ o.cls = C ∧ ∃ vs, o.data = .fields vs ∧ vs[2]? = some .none
theorem IsA.of {a : Addr} {C : Value} {h : Heap} (x : ∃ o, h.get? a = some o ∧ o.cls = C) (q : Q2 a h) : IsA a C h := by
  obtain ⟨o, e, c⟩ := x
  obtain ⟨o', vs, e', d, n⟩ := q
  rw [e] at e'
  cases e'
  exact ⟨o, e, c, vs, d, n⟩
theorem IsA.obj {P : Program} {w : World} {H : Hp} {h : Heap} {a : Addr} {C : Value} (x : IsA a C h) : ObjOk P w H h a (.ext (IsA a C)) := by
  obtain ⟨o, e, c⟩ := id x
  exact ⟨x, ⟨o, e⟩, fun h1 h2 ⟨o', e', c'⟩ k => ⟨o', k o' e', c'⟩⟩

/-! ### try: e(..) except C as n: .. -/
def tTry (K : PySem.W.Frag) (i : Nat) (CE : Addr) (tx : TX) (ts : TS) : TS := fun D σ H => tx σ H (fun _ H1 => D.nx σ H1) (fun c _ H1 => PySem.W.exmOne K c (.ref CE) = some true ∧ ∀ ea, H1 ea = none →
  ts { nx := fun σ2 H2 => D.nx (σ2.set i none) H2, rt := D.rt, bk := fun σ2 H2 => D.bk (σ2.set i none) H2, ct := fun σ2 H2 => D.ct (σ2.set i none) H2 } (σ.set i (some (.ref ea))) (upd H1 ea (.ext (IsA ea c))))
section
variable {X : Cx} {e : Expr} {tx : TX} {ts : TS} {i : Nat} {n y : Str} {CE : Addr} {b₀ : Stmt} {suite : List Stmt} {np hpos epos pos : Pos}
theorem ps_try (hst : X.stack = X.env :: X.outer) (hfr : X.env.frame = some X.env.locals) (hex : X.ex = []) (he : PEx X e tx) (hN : X.N.Nodup) (hi : X.N[i]? = some n) (hk : X.env.scope.names.lookup n = some .local) (hg : Gl X y) (hm : X.mg y = some (.ref CE))
    (hsu : ∀ ea, PSs (X.marked ea) (b₀ :: suite) ts) (hs : swapsWith e none epos.line X.env = pure false := by rfl) (hd : (y == ("__debug__" : Str)) = false := by decide) :
    PS X (.Try [.Expr e epos] [.ExceptHandler (some (.Name y np)) (some n) (b₀ :: suite) hpos] [] [] pos) (tTry X.K i CE tx ts) := by
  intro pins s σ H D I h
  refine wpAny_Try_except (wpAny_execs_cons (wpAny_Expr_any (wpAny_mono (he pins s σ H _ _ I h) (fun v s1 ⟨x, H1, I1, r1, q1⟩ => ?_) fun v s1 hx => ?_) I.quiet hs))
  · exact wpAny_execs_nil (wpAny_execs_nil ⟨σ, H1, I1, q1⟩)
  obtain ⟨ea, c, H0, H', B, s0, rfl, I0, f, hm1, q⟩ := hx
  obtain ⟨a0, fl⟩ := f.fly
  rw [hst] at fl
  refine looks_onQ (by rw [← hst]; exact I.ok.frames) hfr fl f.ctx fun h4 held4 sm4 q4 => ?_
  refine landsQ held4 q4 fun h5 fl5 sm5 q5 => ?_
  have I5 : Inv X pins σ H' { s1 with heap := h5 } := f.inv (t := s1.toks) I0 fl5.1 (sm4.trans sm5)
  obtain ⟨ob, hob, hobc⟩ := fl5.there
  refine wpAny_handleBy_cons (codeAny_handlers_test (ld_glob (X := X.marked ea) (I5.mark ea) hg hm ?_ hd)) (by intro q; cases q)
  have LT : PySem.W.Looks (model X.prog X.w) h5 (typeOf (.ref ea)) c := hobc ▸ (PySem.W.Looks.ld hob).andThen .now
  refine (PySem.W.exm_one (M := model X.prog X.w) I5.kIn LT hm1).here ?_
  show codeAny _ _ _ _ _
  refine codeAny_handlers_suite_as ?_
  refine lands_againQ fl5 q5 fun h6 fl6 sm6 q6 => ?_
  have I6 : Inv X pins σ H' { s1 with heap := h6 } := f.inv (t := s1.toks) I0 fl6.1 ((sm4.trans sm5).trans sm6)
  have I7 : Inv X pins σ (upd H' ea (.ext (IsA ea c))) { s1 with heap := h6 } := by
    refine I6.track2 f.new.2 (fun z => ?_) ?_ (fun x c' e z => ?_) (fun p hp z => ?_) (IsA.obj (IsA.of fl6.there q6))
    · obtain ⟨m, ⟨o, _, _, ho, _⟩, _⟩ := I0.loc
      have := f.new.1
      rw [z, ho] at this; cases this
    · cases q' : X.s₀.heap.get? ea with
      | none => rfl
      | some o =>
        obtain ⟨o', e1⟩ := I0.base.there ea o q' (by rw [hex]; simp)
        have := f.new.1
        rw [e1] at this; cases this
    · obtain ⟨v, o, ho, _⟩ := I0.cell x c' e
      have := f.new.1
      rw [← z, ho] at this; cases this
    · have := (I0.pin p hp).1
      rw [z, f.new.1] at this; cases this
  refine store_ok (X := X.marked ea) (I7.mark ea) hN hi (.inl hk) (v := .ref ea) rfl (fun s7 I8 => ?_) (.inr hk)
  refine wpAny_mono (hsu ea pins s7 _ _ _ I8 (q ea f.new.2)) (fun fl s8 hq => ?_) fun _ _ z => False.elim z
  cases fl with
  | next =>
    obtain ⟨σ', H'', J, q'⟩ := hq
    exact name_gone (J.unmark I.ok) hN hi hk fun s9 J9 => ⟨_, _, J9, q'⟩
  | brk =>
    obtain ⟨σ', H'', J, q'⟩ := hq
    exact name_gone (J.unmark I.ok) hN hi hk fun s9 J9 => ⟨_, _, J9, q'⟩
  | cont =>
    obtain ⟨σ', H'', J, q'⟩ := hq
    exact name_gone (J.unmark I.ok) hN hi hk fun s9 J9 => ⟨_, _, J9, q'⟩
  | ret u =>
    obtain ⟨v, σ', H'', J, r, q'⟩ := hq
    exact name_gone (J.unmark I.ok) hN hi hk fun s9 J9 => ⟨_, _, _, J9, r, q'⟩
end

/-! ### defs that are called within an except suite -/
structure RoomH (k : Nat) (A : Around) : Prop where
  dp : A.depth + 3 * k + 5 < recursionLimit
  un : A.units + 16 * k + 200 < cLine
theorem Room.h {k : Nat} {A : Around} (r : Room k A) (v : Option Value) : RoomH k (A.mark v) := ⟨r.dp, r.un⟩
theorem RoomH.mono {j k : Nat} {A : Around} (r : RoomH k A) (h : j ≤ k) : RoomH j A := ⟨by have := r.dp; omega, by have := r.un; omega⟩
theorem RoomH.deeper {k : Nat} {A : Around} (r : RoomH (k + 1) A) (env : Env) : RoomH k (A.deeper env) :=
  ⟨by have := r.dp; show A.depth + 1 + 3 * k + 5 < _; omega, by have := r.un; show A.units + 3 + 16 * k + 200 < _; omega⟩
structure FnH (P : Program) (w : World) (K : PySem.W.Frag) (mg : Str → Option Value) (base : Heap) (k : Nat) (f : Addr) (fd : FuncData) (ps : List Str) (sp : Sp) : Prop where
  len : ∀ vs H Q E, sp vs H Q E → vs.length = ps.length
  run : ∀ (A : Around) (outer : List Env) (s : Shared) (H : Hp) (args : Args) (us : List Value) (vs : List V) (Q : VK) (E : XK), RoomH k A → Env0 P w K mg base A outer s H → BindsTo s fd args (ps.zip us) → Vals vs us → sp vs H Q E →
    codeAny (model P w) A (.call (.ref f) args) (CR CX0 outer P w H s Q E) s
/-- the context of such a def's body -/
def cxH (P : Program) (w : World) (K : PySem.W.Frag) (mg : Str → Option Value) (base : Heap) (N : List Str) (qual : Str) (scope : Scope) (f : Addr) (cd : Value) (A : Around) (outer : List Env) (s : Shared) (H : Hp) : Cx :=
  { cxOf CX0 P w K mg base N qual scope f cd A outer s H E0 with calm := false, xe := fun _ _ => False }
theorem fnH_of {P : Program} {w : World} {K : PySem.W.Frag} {mg : Str → Option Value} {base : Heap} {k : Nat} {f : Addr} {x qual : Str} {st : Stmt} {fd : FuncData} {N ps : List Str} {sp : Sp} (F : Fun K x qual st f fd) (S : FnScope N ps (defScope st))
    (len : ∀ vs H Q E, sp vs H Q E → vs.length = ps.length)
    (hbody : ∀ (cdv : Value) (A : Around) (outer : List Env) (s : Shared) (H : Hp) (vs : List V) (Q : VK) (E : XK), RoomH k (A.deeper (envOfC qual (defScope st) s.heap.objs.size f cdv)) → sp vs H Q E →
      ∃ t, PSs (cxH P w K mg base N qual (defScope st) f cdv A outer s H) (defBody st) t ∧ t { nx := fun _ H' => Q .non H', rt := Q } (start N vs) H) : FnH P w K mg base (k + 1) f fd ps sp := by
  obtain ⟨oc, od, kV, doc, pm, an, cdv, ct, osl, rfl, lk, hcd⟩ := F.ex
  refine ⟨len, fun A outer s H args us vs Q E hr e0 hb r hsp => ?_⟩
  have hl := len _ _ _ _ hsp
  have KX : K.In s.heap := e0.mod.kin.keeps fun b o e => (e0.bs b o e).1
  have lim : s.heap.NoLimit := e0.mod.nolimit.keeps fun b o e => (e0.bs b o e).1
  have hkind : ∀ y ∈ ps.zip us, (defScope st).names.lookup y.1 = some .local ∨ ((defScope st).names.lookup y.1 = some .cell ∧ ((cellsFrom (s.heap.objs.size + 1) (defScope st).names []).lookup y.1).isSome = true) := fun ⟨n, v⟩ hy => by
    rcases S.par n (List.of_mem_zip hy).1 with q | q
    · exact .inl q
    · exact .inr ⟨q, PySem.W.cellsFrom_some _ _ _ (.inl q)⟩
  have dep : A.depth < recursionLimit := by have := hr.dp; omega
  refine codeAny_call_function dep (KX _ _ lk) rfl S.co S.gen rfl (PySem.W.codeRec_of KX hcd) (hb _ _ _ _ ?_)
  refine wpAny_newFunctionEnv_cells S.kind hkind fun env he s1 x => ?_
  subst he
  refine ⟨lim.keeps x.toInCall.keep, codeAny_func ?_⟩
  obtain ⟨t, ht, hq⟩ := hbody cdv A outer s H vs Q E (hr.deeper _) hsp
  have e0' : Env0 P w K mg base { A with handled := none } outer s H := ⟨e0.frames, e0.mod, e0.bs, e0.bsz, e0.funs, e0.frf, e0.hok, e0.bare⟩
  have J : Inv (cxOf CX0 P w K mg base N qual (defScope st) f cdv { A with handled := none } outer s H E0) [] (start N vs) H s1 := inv_start S rfl e0' hl r x
  have I : Inv (cxH P w K mg base N qual (defScope st) f cdv A outer s H) [] (start N vs) H s1 :=
    ⟨⟨J.ok.mod, J.ok.kind, J.ok.glob, J.ok.blt, J.ok.above, J.ok.inj, J.ok.has, J.ok.cab, fun z => absurd (show false = true from z) Bool.false_ne_true, Around.frames_deeper e0.frames, J.ok.stk, J.ok.exf, J.ok.bs, J.ok.bsz, J.ok.noex, J.ok.exfs, J.ok.funs, J.ok.frf⟩,
      J.os, J.bare, J.base, J.loc, J.cell, J.free, J.freeC, J.pin, J.hok, J.len⟩
  refine wpAny_mono (ht [] s1 (start N vs) H _ I hq) (fun fl s' hs => ?_) fun e s' hs => False.elim hs
  have fin : ∀ {σ' : St} {H' : Hp} {v : V} {u : Value}, Inv (cxH P w K mg base N qual (defScope st) f cdv A outer s H) [] σ' H' s' → RelV v u → Q v H' → CE outer P w H s Q u s' :=
    fun {σ' H' v u} J rv q => ⟨v, H', J.os, J.bare, J.base, J.hok, rv, q⟩
  cases fl with
  | ret u =>
    obtain ⟨v, σ', H', J, rv, q⟩ := hs
    exact fin J rv q
  | next =>
    obtain ⟨σ', H', J, q⟩ := hs
    exact fin (v := V.non) (u := Value.none) J rfl q
  | brk =>
    obtain ⟨_, _, _, q⟩ := hs
    exact False.elim q
  | cont =>
    obtain ⟨_, _, _, q⟩ := hs
    exact False.elim q
def DnH (P : Program) (w : World) (K : PySem.W.Frag) (mg : Str → Option Value) (base : Heap) (x : Str) (ps : List Str) (k : Nat) (sp : Sp) : Prop :=
  ∃ (f : Addr) (fd : FuncData), FnH P w K mg base k f fd ps sp ∧ Binds K fd ps [] ∧ PySem.W.keepIn K (.ref f) = true ∧ mg x = some (.ref f)
theorem pe_cH {X : Cx} {k : Nat} {ps : List Str} {sp : Sp} {x : Str} {p pos : Pos} {e : Expr} {es : List Expr} {t : TA} (D : DnH X.prog X.w X.K X.mg X.base x ps k sp) (hr : RoomH k X.A) (hg : Gl X x) (ha : PA X (e :: es) t)
    (hdb : (x == ("__debug__" : Str)) = false := by decide) (he : starEach (e :: es) X.env = (false, eval e X.env) :: starEach es X.env := by rfl) (hpl : (backTo pos (starEach es X.env)).any (·.1) = false := by rfl) :
    PE X (.Call (.Name x p) (e :: es) [] pos) (tCall sp [] E0 t) := by
  obtain ⟨f, fd, F, hb, hk, hm⟩ := D
  intro pins s σ H Q I h
  refine wpAny_Call_Name_kw (ld_glob I hg hm ?_ hdb)
  refine PySem.W.callWith_K (h₀ := X.base) I.ok.mod.kin hk (thn (ha pos pins s σ H _ I h) fun us s1 ⟨vs, H1, I1, r, q⟩ => ⟨I1.kIn, ?_⟩) he hpl
  have q : sp (vs ++ []) H1 Q E0 := q
  rw [List.append_nil] at q
  have hl : (us ++ []).length = ps.length := by rw [List.append_nil, ← r.length]; exact F.len _ _ _ _ q
  have b := hb s1 us I1.kIn hl
  rw [List.append_nil] at b
  refine wpAny_call (codeAny_mono (F.run X.A X.stack s1 H1 ⟨us, []⟩ us vs Q E0 hr I1.env0 b r q) fun r s' hq => ?_)
  cases r with
  | error e => exact False.elim hq
  | ok fl =>
    cases fl with
    | ret u => exact I1.after hq
    | next => exact False.elim hq
    | brk => exact False.elim hq
    | cont => exact False.elim hq
end L2

set_option maxRecDepth 100000
namespace PySem
open Sem (wp)
open PySem.W (Frag Looks looks_findIn looks_subIn)

/-- what a class of our own under BaseException finds -/
structure ExK (K : Frag) (C : Addr) : Prop where
  lkC : PySem.W.findIn K (.ref C) "__class__" = some (some (.builtin "object.__class__"))
  lkG : PySem.W.findIn K (.ref C) "__getattribute__" = some (some (.builtin "BaseException.__getattribute__"))
  lkA : PySem.W.findIn K (.ref C) "__getattr__" = some none
  subB : PySem.W.subIn K (.ref C) (.type "BaseException") = some true
  subO : PySem.W.subIn K (.ref C) (.type "object") = some true
  cls : (PySem.W.clsIn K C).isSome = true

section
variable {prog : Program} {w : World} {A : Around} {E : Value → Shared → Prop} {h : Heap} {g : Array GenState} {d : Drawn} {t : Nat} {os : OsState} {a : Addr} {o : Obj} {K : Frag} {C : Addr}

theorem xclass_get {R : Result → Shared → Prop} (X : K.In h) (F0 : ExK K C) (hx : h.get? a = some o) (hc : o.cls = .ref C) (hq : R (.ok (.ret (.ref C))) ⟨h, g, d, t, os⟩) :
    codeAny (model prog w) A (.call (.builtin "getset_descriptor.__get__") ⟨[.builtin "object.__class__", .ref a, .ref C], []⟩) R ⟨h, g, d, t, os⟩ := by
  have hT5 : (⟨h, g, d, t, os⟩ : Shared).TypeIs (.builtin "object.__class__") "getset_descriptor" := F.typeOf_object_class
  have L : Looks (model prog w) h (isSubtype (.ref C) (.type (".".intercalate ("object.__class__".cutAt '.').dropLast))) true := by
    rw [F.owner_object_class]; exact looks_subIn X F0.subO
  refine codeAny_call_builtin F.slot_gs_get.plain F.entry_gs_get (F.slot_gs_get.check _ _ _ _ _ _ _ _ hT5 (F.args_gs_get _ _ _) ?_)
  repeat (any_goals (first | assumption | (with_reducible refine wpAny_loadPart_at hx ?_; rw [hc]) | (with_reducible refine Looks.at L ?_) | wp_step))
  refine ⟨Code.quiet_builtin _ (by decide +kernel), codeAny_builtin F.entry_object_class ?_⟩
  repeat (any_goals (first | assumption | (with_reducible refine wpAny_loadPart_at hx ?_; rw [hc]) | wp_step))

theorem xclass_entry {tk : Tok} {Q : Fin → Shared → Prop} (X : K.In h) (F0 : ExK K C) (hx : h.get? a = some o) (hc : o.cls = .ref C) (hq : Q (.done (.ret (.ref C))) ⟨h, g, d, t, os⟩) :
    wpAny (model prog w) A (Builtin.«object.__getattribute__» ⟨[.ref a, .str "__class__" tk], []⟩) Q E ⟨h, g, d, t, os⟩ := by
  have hT5 : (⟨h, g, d, t, os⟩ : Shared).TypeIs (.builtin "object.__class__") "getset_descriptor" := F.typeOf_object_class
  have f5 := F.typeOf_object_class
  have f6 := F.slot_gs_get.lookup
  have f7 := F.slot_gs_set.lookup
  have L : Looks (model prog w) h (typeLookup (.ref C) "__class__") _ := looks_findIn X F0.lkC
  repeat (any_goals (first | assumption | (with_reducible refine wpAny_loadPart_at hx ?_; rw [hc]) | (with_reducible refine Looks.at L ?_) | wp_step))
  refine xclass_get X F0 hx hc ?_
  repeat (any_goals (first | assumption | wp_step))

theorem xcheck_ga {nameV : Value} {Q : Unit → Shared → Prop} (X : K.In h) (F0 : ExK K C) (hx : h.get? a = some o) (hc : o.cls = .ref C) (hq : Q () ⟨h, g, d, t, os⟩) :
    wpAny (model prog w) A (checkBuiltinCall "BaseException.__getattribute__" ⟨[.ref a, nameV], []⟩) Q E ⟨h, g, d, t, os⟩ := by
  have hk : builtinKind "BaseException.__getattribute__" = some .slot := by decide +kernel
  have hsplit : splitId "BaseException.__getattribute__" = some ("BaseException", "__getattribute__") := by decide +kernel
  have L : Looks (model prog w) h (isSubtype (.ref C) (.type "BaseException")) true := looks_subIn X F0.subB
  have ha := F.args_bexc_ga (.ref a) nameV
  simp only [checkBuiltinCall, hk, hsplit]
  refine wpAny_bind ?_
  · unfold isInstance
    repeat (first | (with_reducible refine wpAny_loadPart_at hx ?_; rw [hc]) | (with_reducible refine Looks.at L ?_) | wp_step)
    exact hq

theorem xclass_call {tk : Tok} {R : Result → Shared → Prop} (X : K.In h) (F0 : ExK K C) (hx : h.get? a = some o) (hc : o.cls = .ref C) (hq : R (.ok (.ret (.ref C))) ⟨h, g, d, t, os⟩) :
    codeAny (model prog w) A (.call (.builtin "BaseException.__getattribute__") ⟨[.ref a, .str "__class__" tk], []⟩) R ⟨h, g, d, t, os⟩ :=
  codeAny_call_builtin F.attrBase_ValueError.ga.plain F.entry_bexc_ga (xcheck_ga X F0 hx hc (xclass_entry X F0 hx hc hq))

theorem xclass_by {tk : Tok} {Q : Value → Shared → Prop} (X : K.In h) (F0 : ExK K C) (hx : h.get? a = some o) (hc : o.cls = .ref C) (hq : Q (.ref C) ⟨h, g, d, t, os⟩) :
    wpAny (model prog w) A (getAttrBy (.ref a) (.str "__class__" tk) false) Q E ⟨h, g, d, t, os⟩ := by
  have LG : Looks (model prog w) h (typeLookup (.ref C) "__getattribute__") _ := looks_findIn X F0.lkG
  have LA : Looks (model prog w) h (typeLookup (.ref C) "__getattr__") _ := looks_findIn X F0.lkA
  have f3 := F.attrBase_ValueError.ga.bind (.ref a)
  have hx2 : (Value.builtin "BaseException.__getattribute__" == Value.builtin "object.__getattribute__") = false := by decide +kernel
  have hx1 : (onTheHeap (Value.ref C) && Value.builtin "BaseException.__getattribute__" == Value.builtin "object.__getattribute__") = false := by rw [hx2]; rfl
  repeat (any_goals (first | assumption | (with_reducible refine wpAny_loadPart_at hx ?_; rw [hc]) | (with_reducible refine Looks.at LG ?_) | (with_reducible refine Looks.at LA ?_) | wp_step))
  refine xclass_call X F0 hx hc ?_
  repeat (any_goals (first | assumption | wp_step))

theorem xclass_attr {Q : Option Value → Shared → Prop} (X : K.In h) (F0 : ExK K C) (hx : h.get? a = some o) (hc : o.cls = .ref C) (hq : Q (some (.ref C)) ⟨h, g, d, t + 1, os⟩) :
    wpAny (model prog w) A (getAttr? (.ref a) "__class__") Q E ⟨h, g, d, t, os⟩ := by
  unfold getAttr? getAttrBy?
  repeat (any_goals (first | assumption | with_reducible apply xclass_by X F0 hx hc | wp_step))
end
end PySem
namespace L2
open PySem PySem.Spec PyProof.Rows
theorem kitx_ex {K : PySem.W.Frag} {x C : Addr} (F0 : ExK K C) : PySem.W.KitX K (.ref x) (.ref C) (IsA x (.ref C)) where
  ty := fun M h _ ⟨o, e, c, _⟩ => by
    have L : PySem.W.Looks M h (typeOf (.ref x)) o.cls := (PySem.W.Looks.ld e).andThen .now
    rw [c] at L
    exact L
  it := fun _ _ X _ => by
    have z := F0.cls
    unfold PySem.W.clsIn at z
    split at z
    · rename_i c' d' cd' sl' ho
      intro A' Q' E' s' k q
      unfold isType loadHead
      exact wpAny_bind (wpAny_loadPart (k _ _ (X _ _ ho)) (wpAny_pure q))
    · cases z
  ne := fun h tp dd its n sl X htp => by
    have z := F0.cls
    refine Bool.eq_false_iff.mpr fun q => ?_
    have e : C = tp := Value.ref.inj (beq_iff_eq.mp q)
    subst e
    unfold PySem.W.clsIn at z
    split at z
    · rename_i c' d' cd' sl' ho
      have z := (X _ _ ho).symm.trans htp
      cases z
    · cases z
  ca := fun {_ _ _ _ _ s} X p k => by
    obtain ⟨h, g, d, t, os⟩ := s
    obtain ⟨o, e, c, _⟩ := p
    exact xclass_attr X F0 e c k
section
variable {X : Cx}
/-- isinstance of a caught one -/
theorem call_isinstX {C : Addr} (F0 : ExK X.K C) : CallR X (.builtin "isinstance") (fun xs H Q => ∃ a cv c b, xs = [.ref a, cv] ∧ H a = some (.ext (IsA a (.ref C))) ∧ clV cv = some c ∧ PySem.W.kitOne X.K (.ref C) c = some b ∧ Q (.bl b) H) := by
  intro pins s σ H xs us Q I rv h
  obtain ⟨a, cv, c, b, rfl, ha, e1, e2, q⟩ := h
  cases rv with
  | cons r1 rr =>
    cases rr with
    | cons r2 rr =>
      cases rr
      cases r1
      rw [clV.rel e1 r2]
      exact PySem.W.kia_one (kitx_ex F0) I.kIn (I.hok a _ ha).1 e2 (fun z => nomatch z) fun tk => ⟨.bl b, H, I.tok tk, rfl, q⟩
theorem call_isinstXT {C : Addr} (F0 : ExK X.K C) : CallR X (.builtin "isinstance") (fun xs H Q => ∃ a p cvs cs b, xs = [.ref a, .ref p] ∧ H a = some (.ext (IsA a (.ref C))) ∧ H p = some (.tup cvs) ∧ clVs cvs = some cs ∧ PySem.W.kitAny X.K (.ref C) cs = some b ∧ Q (.bl b) H) := by
  intro pins s σ H xs us Q I rv h
  obtain ⟨a, p, cvs, cs, b, rfl, ha, hp, e1, e2, q⟩ := h
  cases rv with
  | cons r1 rr =>
    cases rr with
    | cons r2 rr =>
      cases rr
      cases r1
      cases r2
      obtain ⟨_, its, rits, o, ho, hc, n, hd⟩ := I.hok p _ hp
      obtain ⟨oc, od, dt, osl⟩ := o
      replace hc : oc = .type "tuple" := hc
      replace hd : dt = .seq its.toArray n := hd
      subst hc hd
      have e3 := clVs.rel e1 rits
      subst e3
      exact PySem.W.kia_tup (kitx_ex F0) I.kIn (I.hok a _ ha).1 ho e2 (fun z => nomatch z) fun tk => ⟨.bl b, H, I.tok tk, rfl, q⟩
end
end L2

set_option Elab.async false
set_option linter.all false
set_option maxRecDepth 100000
namespace PySem
open Sem (wp)
open AutoSeq1 (wpAny_loadPart')
section
variable {prog : Program} {w : World} {A : Around} {E : Value → Shared → Prop} {s : Shared}
theorem nextOf_tup_item {it t : Addr} {i : Nat} {items} {x : Value} {Q : Value → Shared → Prop} (hit : s.heap.IsTupleIter it t i)
    (ht : s.heap.IsTuple t items) (hx : items[i]? = some x)
    (hQ : ∀ h', h'.IsTupleIter it t (i + 1) → Heap.SameBut it s.heap h' → Q x { s with heap := h' }) :
    wpAny (model prog w) A (Builtin.SmallTypes.nextOf (.ref it)) Q E s := by
  obtain ⟨o, ho, hc, hd⟩ := id hit
  obtain ⟨ol, hol, _, nl, hdl⟩ := ht
  unfold Builtin.SmallTypes.nextOf
  refine wpAny_bind (wpAny_callSpecial?_slot (name := Str.ofString "__next__") hit.typeIs F.slot_tuple_iterator_next
    (wpAny_call_entry F.slot_tuple_iterator_next hit.typeIs F.entry_tuple_iterator_next ?_ (F.args_tuple_iterator_next_1 _)))
  show wpAny _ _ (field (.ref it) 0 >>= _) _ _ s
  refine wpAny_bind (wpAny_field ho hd (x := .ref t) rfl ?_)
  show wpAny _ _ (if (Value.ref t == Value.none) = true then _ else _) _ _ s
  rw [if_neg (show ¬ ((Value.ref t == Value.none) = true) from Bool.false_ne_true)]
  show wpAny _ _ (field (.ref it) 1 >>= _) _ _ s
  refine wpAny_bind (wpAny_field ho hd (x := .int i 0) rfl ?_)
  show wpAny _ _ (seqItems? (.ref t) >>= _) _ _ s
  refine wpAny_bind (wpAny_seqItems hol hdl ?_)
  simp only [Int.toNat_natCast, hx]
  refine wpAny_bind (wpAny_setField ho hd (by simp) (wpAny_pure ⟨x, rfl, wpAny_pure (hQ _ ?_ (Heap.SameBut.update ..))⟩))
  exact ⟨_, Heap.get?_update_self _ ho (Obj.isFreed_of_fields (Obj.data_mapFields hd _)), (Obj.cls_mapFields ..).trans hc, by
    rw [Obj.data_mapFields hd]; simp [rawInt]⟩
theorem nextOf_tup_end {it t : Addr} {i : Nat} {items} {Q : Value → Shared → Prop} (hh : A.handled = none)
    (hit : s.heap.IsTupleIter it t i) (ht : s.heap.IsTuple t items) (hx : items[i]? = none)
    (hE : ∀ h' e, Heap.ExtBut it s.heap h' → (∃ o, h'.get? e = some o ∧ o.cls = .type "StopIteration") → E (.ref e) { s with heap := h' }) :
    wpAny (model prog w) A (Builtin.SmallTypes.nextOf (.ref it)) Q E s := by
  obtain ⟨o, ho, hc, hd⟩ := id hit
  obtain ⟨ol, hol, _, nl, hdl⟩ := ht
  unfold Builtin.SmallTypes.nextOf
  refine wpAny_bind (wpAny_callSpecial?_slot (name := Str.ofString "__next__") hit.typeIs F.slot_tuple_iterator_next
    (wpAny_call_entry F.slot_tuple_iterator_next hit.typeIs F.entry_tuple_iterator_next ?_ (F.args_tuple_iterator_next_1 _)))
  show wpAny _ _ (field (.ref it) 0 >>= _) _ _ s
  refine wpAny_bind (wpAny_field ho hd (x := .ref t) rfl ?_)
  show wpAny _ _ (if (Value.ref t == Value.none) = true then _ else _) _ _ s
  rw [if_neg (show ¬ ((Value.ref t == Value.none) = true) from Bool.false_ne_true)]
  show wpAny _ _ (field (.ref it) 1 >>= _) _ _ s
  refine wpAny_bind (wpAny_field ho hd (x := .int i 0) rfl ?_)
  show wpAny _ _ (seqItems? (.ref t) >>= _) _ _ s
  refine wpAny_bind (wpAny_seqItems hol hdl ?_)
  simp only [Int.toNat_natCast, hx]
  refine wpAny_bind (wpAny_rule (wpAny_bind (wpAny_setField ho hd (by simp) ?_)))
  show wpAny _ _ (newExc (.type "StopIteration") [] >>= _) _ _ _
  refine wpAny_bind ?_
  simp only [newExc, newTuple]
  refine wpAny_bind (wpAny_newObj_type ?_ (by size_fits))
  refine wpAny_bind (m := firstArgMember _ _) (wpAny_of_eq (a := Value.none) (by first | rfl | (simp only [firstArgMember]; rfl)) ?_)
  refine wpAny_newObj_type ?_ (by size_fits)
  simp only [raiseNew]
  refine wpAny_bind (wpAny_handled ?_)
  first | rw [show A.in1.handled = none from hh] | rw [hh]
  refine wpAny_bind (wpAny_pure (wpAny_throw ?_))
  exact hE _ _ (((Heap.SameBut.update ..).extBut.push _).push _) ⟨_, Heap.get?_push_size _ rfl, rfl⟩
end
theorem drawsTup {prog : Program} {w : World} {A : Around} (hh : A.handled = none) (it l : Addr) (hne : l ≠ it) (items : Array Value) :
    Draws prog w A it [it, l] items.size (fun i v => items[i]? = some v) (fun i h => h.IsTupleIter it l i ∧ h.IsTuple l items) where
  live := fun _ _ st => let ⟨o, ho, _⟩ := st.1; ⟨o, ho⟩
  frame := fun _ _ _ st hk => ⟨st.1.at fun o e => hk it (by simp) o e, let ⟨o, ho, r⟩ := st.2; ⟨o, hk l (by simp) o ho, r⟩⟩
  item := fun i s Q E hi st hQ => by
    refine nextOf_tup_item st.1 st.2 (x := items[i]) (by simp [hi]) fun h' hit' hs' => ?_
    exact hQ _ h' s.toks (by simp [hi]) ⟨hit', st.2.extBut hs'.extBut hne⟩ hs'
  done := fun s Q E st hE => nextOf_tup_end hh st.1 st.2 (by simp) hE
theorem enumerate_newT (l : Addr) (items : Array Value) (n : Nat) (dct : Option Addr) (sl : Array (Option Value)) :
    Meets (Builtin.«enumerate.__new__» ⟨[.type "enumerate", .ref l], []⟩) (fun _ R s => s.heap.get? l = some { cls := .type "tuple", dict := dct, data := .seq items n, slots := sl } ∧
      R (.ok (.ret (.ref (s.heap.push { cls := .type "tuple_iterator", data := .fields #[.ref l, .int 0 0] }).objs.size)))
        { s with heap := (s.heap.push { cls := .type "tuple_iterator", data := .fields #[.ref l, .int 0 0] }).push { cls := .type "enumerate", data := .fields #[.none, .bool false, .ref s.heap.objs.size, rawInt 0, .none, .none] } }) :=
  .of_wp fun prog w A R s h => by
    obtain ⟨hp, g, d, tk, os⟩ := s; obtain ⟨hl, h⟩ := h
    have hsub := sub_enumerate
    have hL : Heap.IsTuple (Shared.heap ⟨hp, g, d, tk, os⟩) l items := ⟨_, hl, rfl, n, rfl⟩
    wp_walk using wpAny_loadPart' hl
    refine wpAny_stack_any fun st => wpAny_pure ?_
    split
    · rename_i c _ _ _ _ _
      cases (c == Value.type "enumerate")
      · wp_walk using wpAny_loadPart' hl, wpAny_pyIter_tuple hL
        exact ⟨_, rfl, h⟩
      · wp_walk using wpAny_loadPart' hl, wpAny_pyIter_tuple hL
        exact ⟨_, rfl, h⟩
    · wp_walk using wpAny_loadPart' hl, wpAny_pyIter_tuple hL
      exact ⟨_, rfl, h⟩
section
variable {prog : Program} {w : World} {A : Around} {E : Value → Shared → Prop} {s : Shared}
theorem call_enumerate_tup {l : Addr} {items : Array Value} {Q : Value → Shared → Prop} (hL : s.heap.IsTuple l items)
    (h : ∀ h', IsEnum h' (s.heap.objs.size + 1) s.heap.objs.size 0 .none → h'.IsTupleIter s.heap.objs.size l 0 → h'.objs.size = s.heap.objs.size + 2 →
      (∀ b o, s.heap.get? b = some o → h'.get? b = some o) → Q (.ref (s.heap.objs.size + 1)) { s with heap := h' }) :
    wpAny (model prog w) A (call (.type "enumerate") [.ref l]) Q E s := by
  obtain ⟨⟨c, dct, dt, sl⟩, hl, hc, n, hd⟩ := hL
  replace hc : c = .type "tuple" := hc
  replace hd : dt = .seq items n := hd
  subst hc hd
  refine callType_new F.called_enumerate (by decide) (F.typeCall_enumerate_1 _) (F.newCall_enumerate_1 _) (fun obj => F.args_object_init_2 obj _) F.entry_enumerate_new
    (enumerate_newT l items n dct sl) ⟨hl, ?_⟩
  have hz : (s.heap.push { cls := .type "tuple_iterator", data := .fields #[.ref l, .int 0 0] }).objs.size = s.heap.objs.size + 1 := Heap.size_push ..
  show _ ∧ _
  rw [hz]
  have he : IsEnum ((s.heap.push { cls := .type "tuple_iterator", data := .fields #[.ref l, .int 0 0] }).push
      { cls := .type "enumerate", data := .fields #[.none, .bool false, .ref s.heap.objs.size, rawInt 0, .none, .none] }) (s.heap.objs.size + 1) s.heap.objs.size 0 .none := by
    have := Heap.get?_push_size (s.heap.push { cls := .type "tuple_iterator", data := .fields #[.ref l, .int 0 0] })
      (o := { cls := .type "enumerate", data := .fields #[.none, .bool false, .ref s.heap.objs.size, rawInt 0, .none, .none] }) rfl
    rw [hz] at this; exact this
  refine ⟨⟨_, he, rfl⟩, h _ he ⟨_, Heap.get?_push_of_some _ (Heap.get?_push_size _ rfl), rfl, rfl⟩ (by rw [Heap.size_push, hz]) fun b o x => Heap.get?_push_of_some _ (Heap.get?_push_of_some _ x)⟩
end
end PySem

set_option Elab.async false
set_option linter.all false
set_option maxRecDepth 100000
namespace L2
open PySem PySem.Spec PyProof.Rows
/-! ### enumerate of a tracked list or tuple -/
def Ite (f : List V → HO) (l : Addr) : It :=
  ⟨fun i H => ∃ xs x, H l = some (f xs) ∧ xs[i]? = some x,
   fun i H v H' => ∃ p xs x, H p = none ∧ v = .ref p ∧ H' = upd H p (.tup [.int i, x]) ∧ H l = some (f xs) ∧ xs[i]? = some x,
   fun i H => ∃ xs, H l = some (f xs) ∧ xs.length ≤ i⟩
section
variable {X : Cx} {pins : List (Addr × Obj)} {σ : St} {H : Hp} {s : Shared}
/-- a step of the loop: what both have in common -/
theorem enum_step {f : List V → HO} {tn : Nat → Heap → Prop} {es : List Expr} {kk : Nat} {tp : Pos} {e it l : Addr} {i : Nat} {xs : List V} {x : V} {u : Value} {tk : Nat} {h' : Heap} {E : Value → Shared → Prop} (hne : e ≠ it) (I : Inv X pins σ H s) (hf : ∀ b ∈ [e, it], FpOk X pins H b) (hl : H l = some (f xs)) (hx : xs[i]? = some x)
    (ho : ∀ b ∈ [e, it], b < s.heap.objs.size) (r : RelV x u) (b1 : IsEnumOut h' e it ((i : Int) + 1) u s.heap.objs.size) (b3 : h'.get? s.heap.objs.size = some { cls := .type "tuple", data := .seq #[.int i tk, u] })
    (bk : ∀ b o, b ≠ e → b ≠ it → s.heap.get? b = some o → h'.get? b = some o) (hn : ∀ h'', IsEnum h'' e it ((i + 1 : Nat) : Int) u → Heap.SameBut e h' h'' → tn (i + 1) h'') :
    wpAny (model X.prog X.w) X.A (letOwnedTupleGo (.Tuple es kk tp) (.ref e) (.ref s.heap.objs.size)) (fun _ s2 => ∃ x H', Inv X pins σ H' s2 ∧ RelV x (.ref s.heap.objs.size) ∧ (Ite f l).yld i H x H' ∧ tn (i + 1) s2.heap ∧ ∀ b ∈ [e, it], H' b = none) E { s with heap := h', toks := tk + 1 } := by
  refine wpAny_letOwnedTupleGo_enum b1 fun h'' c1 cs => ?_
  have es' : e < s.heap.objs.size := ho e (by simp)
  have k2 : ∀ b o, b ∉ [e, it] → s.heap.get? b = some o → h''.get? b = some o := fun b o hb q => by
    simp only [List.mem_cons, List.not_mem_nil, or_false, not_or] at hb
    exact cs.extBut b o hb.1 (bk b o hb.1 hb.2 q)
  have I1 : Inv X pins σ H { s with heap := h'', toks := tk + 1 } := I.turnedN (t' := tk + 1) hf k2
  have hp : h''.get? s.heap.objs.size = some { cls := .type "tuple", data := .seq #[.int i tk, u] } := cs.extBut _ _ (Nat.ne_of_gt es') b3
  have hn0 : H s.heap.objs.size = none := I.hok.fresh (Nat.le_refl _)
  have fpk := I.fpOk (H' := H) (Nat.le_refl _) hn0
  have I2 : Inv X pins σ (upd H s.heap.objs.size (.tup [.int i, x])) { s with heap := h'', toks := tk + 1 } := I1.track fpk I.sz ⟨by show 2 ≤ sizeLine; decide, [.int i tk, u], .cons ⟨tk, rfl⟩ (.cons r .nil), _, hp, rfl, _, rfl⟩
  refine ⟨.ref s.heap.objs.size, _, I2, rfl, ⟨_, xs, x, hn0, rfl, rfl, hl, hx⟩, hn h'' c1 cs, fun b hb => ?_⟩
  rw [upd_ne (Nat.ne_of_lt (ho b hb))]
  exact (hf b hb).1
end
theorem turn_enumL {P : Program} {w : World} {K : PySem.W.Frag} {es : List Expr} {kk : Nat} {tp : Pos} (l e it : Addr) (hne : e ≠ it) :
    Turn P w K (.Tuple es kk tp) (Ite .lst l) [e, it] e (fun i h => (∃ old, IsEnum h e it i old) ∧ h.IsListIter it l i) where
  mem := by simp
  obj := fun i h st b hb => by
    obtain ⟨⟨old, a1⟩, ⟨o2, a2, _, d2⟩⟩ := st
    simp only [List.mem_cons, List.not_mem_nil, or_false] at hb
    rcases hb with rfl | rfl
    · exact ⟨_, a1, fun v q => by cases q⟩
    · exact ⟨_, a2, fun v q => by rw [d2] at q; cases q⟩
  keep := fun i h h' st k => by
    obtain ⟨⟨old, a1⟩, a2⟩ := st
    exact ⟨⟨old, k e (by simp) _ a1⟩, a2.at fun o q => k it (by simp) o q⟩
  item := by
    intro X hP hw hK hc i pins s σ H E I hf st hg
    subst hP hw hK
    obtain ⟨⟨old, a1⟩, a2⟩ := st
    obtain ⟨xs, x, e1, ex⟩ := hg
    obtain ⟨its, rv, p1, _⟩ := I.list (SqL.of e1)
    obtain ⟨u, hu, r⟩ := rv.get ex
    have ho : ∀ b ∈ [e, it], b < s.heap.objs.size := fun b hb => by
      obtain ⟨o2, a2', _⟩ := a2
      simp only [List.mem_cons, List.not_mem_nil, or_false] at hb
      rcases hb with rfl | rfl
      · exact Heap.lt_size a1
      · exact Heap.lt_size a2'
    refine wpAny_pyNext_enum_item a1 a2 p1.isList (x := u) (by simpa using hu) hne fun h' b1 b2 b3 b4 bk => ⟨_, rfl, ?_⟩
    exact enum_step (tn := fun i h => (∃ old, IsEnum h e it i old) ∧ h.IsListIter it l i) hne I hf e1 ex ho r b1 b3 bk fun h'' c1 cs => ⟨⟨u, c1⟩, b2.extBut cs.extBut (Ne.symm hne)⟩
  done := by
    intro X hP hw hK hc i pins s σ H E I hf st hg
    subst hP hw hK
    obtain ⟨⟨old, a1⟩, a2⟩ := st
    obtain ⟨xs, e1, ex⟩ := hg
    obtain ⟨its, rv, p1, _⟩ := I.list (SqL.of e1)
    have lv := rv.length
    refine wpAny_pyNext_enum_end (I.ok.hd hc) a1 a2 p1.isList (by simp; omega) fun h' bk => ⟨rfl, ?_⟩
    exact I.turnedN (t' := s.toks) hf fun b o hb q => by
      simp only [List.mem_cons, List.not_mem_nil, or_false, not_or] at hb
      exact bk b o hb.2 q
  self := fun _ _ _ _ _ st h => by obtain ⟨⟨old, a1⟩, _⟩ := st; exact wpAny_pyIter_enum a1 h
theorem turn_enumT {P : Program} {w : World} {K : PySem.W.Frag} {es : List Expr} {kk : Nat} {tp : Pos} (l e it : Addr) (hne : e ≠ it) :
    Turn P w K (.Tuple es kk tp) (Ite .tup l) [e, it] e (fun i h => (∃ old, IsEnum h e it i old) ∧ h.IsTupleIter it l i) where
  mem := by simp
  obj := fun i h st b hb => by
    obtain ⟨⟨old, a1⟩, ⟨o2, a2, _, d2⟩⟩ := st
    simp only [List.mem_cons, List.not_mem_nil, or_false] at hb
    rcases hb with rfl | rfl
    · exact ⟨_, a1, fun v q => by cases q⟩
    · exact ⟨_, a2, fun v q => by rw [d2] at q; cases q⟩
  keep := fun i h h' st k => by
    obtain ⟨⟨old, a1⟩, a2⟩ := st
    exact ⟨⟨old, k e (by simp) _ a1⟩, a2.at fun o q => k it (by simp) o q⟩
  item := by
    intro X hP hw hK hc i pins s σ H E I hf st hg
    subst hP hw hK
    obtain ⟨⟨old, a1⟩, a2⟩ := st
    obtain ⟨xs, x, e1, ex⟩ := hg
    obtain ⟨its, rv, p1, _⟩ := I.tuple (SqT.of e1)
    obtain ⟨u, hu, r⟩ := rv.get ex
    have lt : i < its.toArray.size := by simp; exact (List.getElem?_eq_some_iff.mp hu).1
    have ho : ∀ b ∈ [e, it], b < s.heap.objs.size := fun b hb => by
      obtain ⟨o2, a2', _⟩ := a2
      simp only [List.mem_cons, List.not_mem_nil, or_false] at hb
      rcases hb with rfl | rfl
      · exact Heap.lt_size a1
      · exact Heap.lt_size a2'
    have nl : ∀ b ∈ [e, it], l ≠ b := fun b hb q => by rw [q, (hf b hb).1] at e1; cases e1
    have p1' : s.heap.IsTuple l its.toArray := p1
    have DD : Draws X.prog X.w X.A.in1 it [it, l] its.toArray.size (fun i v => its.toArray[i]? = some v) (fun i h => h.IsTupleIter it l i ∧ h.IsTuple l its.toArray) := drawsTup (show X.A.in1.handled = none from I.ok.hd hc) it l (nl it (by simp)) its.toArray
    refine wpAny_pyNext_enum_itemD DD a1 ⟨a2, p1'⟩ lt hne (by simp only [List.mem_cons, List.not_mem_nil, or_false, not_or]; exact ⟨hne, Ne.symm (nl e (by simp))⟩) fun x' h' tk px b1 b2 b3 b4 bk => ⟨_, rfl, ?_⟩
    have hu' : its.toArray[i]? = some u := by simpa using hu
    have eu : u = x' := Option.some.inj (hu'.symm.trans px)
    subst eu
    exact enum_step (tn := fun i h => (∃ old, IsEnum h e it i old) ∧ h.IsTupleIter it l i) hne I hf e1 ex ho r b1 b3 bk fun h'' c1 cs => ⟨⟨u, c1⟩, b2.1.extBut cs.extBut (Ne.symm hne)⟩
  done := by
    intro X hP hw hK hc i pins s σ H E I hf st hg
    subst hP hw hK
    obtain ⟨⟨old, a1⟩, a2⟩ := st
    obtain ⟨xs, e1, ex⟩ := hg
    obtain ⟨its, rv, p1, _⟩ := I.tuple (SqT.of e1)
    have lv := rv.length
    have p1' : s.heap.IsTuple l its.toArray := p1
    have hT : s.TypeIs (.ref e) "enumerate" := ⟨_, a1, rfl⟩
    unfold pyNext
    refine wpAny_bind (wpAny_attempt (wpAny_callSpecial?_slot (name := Str.ofString "__next__") hT F.slot_enumerate_next
      (wpAny_call_entry F.slot_enumerate_next hT F.entry_enumerate_next ?_ (F.args_enumerate_next_1 _))))
    show wpAny _ _ (field (.ref e) 2 >>= _) _ _ _
    refine wpAny_bind (wpAny_field a1 rfl (x := .ref it) rfl ?_)
    refine wpAny_bind (nextOf_tup_end (I.ok.hd hc) a2 p1' (by simp; omega) fun h' x he' hx' => ?_)
    obtain ⟨o, ho, hc⟩ := hx'
    refine wpAny_bind (wpAny_isInstance (T := "StopIteration") (b := true) ⟨o, ho, hc⟩ isSubtype_stop ?_)
    refine wpAny_pure ⟨rfl, ?_⟩
    exact I.turnedN (t' := s.toks) hf fun b o hb q => by
      simp only [List.mem_cons, List.not_mem_nil, or_false, not_or] at hb
      exact he' b o hb.2 q
  self := fun _ _ _ _ _ st h => by obtain ⟨⟨old, a1⟩, _⟩ := st; exact wpAny_pyIter_enum a1 h
/-- enumerate(e): e comes to a tracked list, or to a tracked tuple -/
def iEnum (ta : TA) : TI := fun σ H R => ta σ H fun vs H1 => ∃ l xs, vs = [.ref l] ∧ ((H1 l = some (.lst xs) ∧ R (Ite .lst l) H1) ∨ (H1 l = some (.tup xs) ∧ R (Ite .tup l) H1))
theorem pi_enum {X : Cx} {a : Expr} {ta : TA} {p pos tp : Pos} {es : List Expr} {kk : Nat} (hg : Gl X "enumerate") (hm : X.mg "enumerate" = none) (ha : PA X [a] ta)
    (hs : starEach [a] X.env = [(false, eval a X.env)] := by rfl) :
    PI X (.Tuple es kk tp) (.Call (.Name "enumerate" p) [a] [] pos) (iEnum ta) := by
  intro pins s σ H R I h
  refine Call_ (ld_blt I hg hm PyProof.Rows.boot_enumerate (PyProof.Rows.callWith_type1 (thn (ha pos pins s σ H _ I h) fun us s1 ⟨vs, H1, I1, r1, q1⟩ => ?_) (by rw [hs]; rfl) (by rfl)))
  obtain ⟨l, xs, rfl, q⟩ := q1
  cases r1 with
  | cons r rr =>
    cases rr
    cases r
    rcases q with ⟨e1, q⟩ | ⟨e1, q⟩
    · obtain ⟨its1, rv1, p1, _⟩ := I1.list (SqL.of e1)
      refine call_enumerate_list p1.isList fun h' z1 z2 sz keep => ?_
      have I2 : Inv X pins σ H1 { s1 with heap := h' } := I1.kept (t' := s1.toks) keep
      refine wpAny_pyIter_enum z1 ⟨s1.heap.objs.size + 1, [s1.heap.objs.size + 1, s1.heap.objs.size], _, _, H1, rfl, I2, turn_enumL l _ _ (Nat.succ_ne_self _), ⟨⟨_, z1⟩, z2⟩, fun b hb => ?_, q⟩
      have hb' : s1.heap.objs.size ≤ b := by
        simp only [List.mem_cons, List.not_mem_nil, or_false] at hb
        rcases hb with rfl | rfl <;> omega
      exact I1.fpOk hb' (I1.hok.fresh hb')
    · obtain ⟨its1, rv1, p1, _⟩ := I1.tuple (SqT.of e1)
      have p1' : s1.heap.IsTuple l its1.toArray := p1
      refine call_enumerate_tup p1' fun h' z1 z2 sz keep => ?_
      have I2 : Inv X pins σ H1 { s1 with heap := h' } := I1.kept (t' := s1.toks) keep
      refine wpAny_pyIter_enum z1 ⟨s1.heap.objs.size + 1, [s1.heap.objs.size + 1, s1.heap.objs.size], _, _, H1, rfl, I2, turn_enumT l _ _ (Nat.succ_ne_self _), ⟨⟨_, z1⟩, z2⟩, fun b hb => ?_, q⟩
      have hb' : s1.heap.objs.size ≤ b := by
        simp only [List.mem_cons, List.not_mem_nil, or_false] at hb
        rcases hb with rfl | rfl <;> omega
      exact I1.fpOk hb' (I1.hok.fresh hb')
theorem for_enum {f : List V → HO} (hf : ∀ xs ys, f xs = f ys → xs = ys) {l : Addr} {xs : List V} {g : TG} {tb : TS} {D : Ends} {σ : St} {H : Hp} (Pv : Nat → St → Hp → Prop) (h0 : Pv 0 σ H) (hk : ∀ i σ H', Pv i σ H' → H' l = some (f xs))
    (ht : ∀ i x p σ H, xs[i]? = some x → H p = none → Pv i σ H → g (.ref p) σ (upd H p (.tup [.int i, x])) fun σ2 H2 => tb { D with nx := Pv (i + 1), ct := Pv (i + 1), bk := D.nx } σ2 H2) (hd : ∀ σ H, Pv xs.length σ H → D.nx σ H) :
    ∃ W : Nat → Nat → St → Hp → Prop, (∃ m, W 0 m σ H) ∧ ∀ i m σ H, W i m σ H →
      ((Ite f l).stop i H ∧ D.nx σ H) ∨ ((Ite f l).go i H ∧ ∃ N : St → Hp → Prop, (∀ σ' H', N σ' H' → ∃ m', m' < m ∧ W (i + 1) m' σ' H') ∧ ∀ x H', (Ite f l).yld i H x H' → g x σ H' fun σ2 H2 => tb { D with nx := N, ct := N, bk := D.nx } σ2 H2) := by
  refine ⟨fun i m σ H => m = xs.length - i ∧ i ≤ xs.length ∧ Pv i σ H, ⟨xs.length, by simp, Nat.zero_le _, h0⟩, ?_⟩
  rintro i m σ H ⟨rfl, hi, p⟩
  have e1 := hk i σ H p
  by_cases hlt : i < xs.length
  · refine .inr ⟨⟨xs, xs[i], e1, by simp [hlt]⟩, Pv (i + 1), fun σ' H' p' => ⟨xs.length - (i + 1), by omega, rfl, hlt, p'⟩, fun v H' y => ?_⟩
    obtain ⟨q, xs', x, hq, rfl, rfl, e1', ex⟩ := y
    rw [e1] at e1'
    cases hf _ _ (Option.some.inj e1')
    exact ht i x q σ H ex hq p
  · have e : i = xs.length := by omega
    subst e
    exact .inl ⟨⟨xs, e1, Nat.le_refl _⟩, hd σ H p⟩
end L2

set_option Elab.async false
set_option linter.all false
set_option maxRecDepth 100000
namespace Pc
open PySem L2
/-! ### lyings -/
def turnable (k : Kd) : Bool := k.tu && !decide (k.w = k.h)
def lyT (i : Nat) (k : Kd) : List (Nat × Bool) := (i, false) :: if turnable k = true then [(i, true)] else []
def lyK : List Kd → Nat → List (Nat × Bool)
  | [], _ => []
  | k :: r, i => lyT i k ++ lyK r (i + 1)
theorem lyK_snoc (k : Kd) : ∀ (ks : List Kd) (i : Nat), lyK (ks ++ [k]) i = lyK ks i ++ lyT (i + ks.length) k
  | [], i => by simp [lyK]
  | c :: r, i => by
    show lyT i c ++ lyK (r ++ [k]) (i + 1) = (lyT i c ++ lyK r (i + 1)) ++ _
    rw [lyK_snoc k r (i + 1), List.append_assoc]
    congr 2
    simp only [List.length_cons]
    congr 1
    omega
theorem lyT_len (i : Nat) (k : Kd) : (lyT i k).length ≤ 2 := by unfold lyT; split <;> simp
theorem lyK_len : ∀ (ks : List Kd) (i : Nat), (lyK ks i).length ≤ 2 * ks.length
  | [], i => by simp [lyK]
  | c :: r, i => by
    have := lyK_len r (i + 1)
    have := lyT_len i c
    simp only [lyK, List.length_append, List.length_cons]
    omega
def LyAt (H : Hp) (v : V) (p : Nat × Bool) : Prop := ∃ a, v = .ref a ∧ H a = some (.tup [.int p.1, .bl p.2])
abbrev Lys (H : Hp) : List V → List (Nat × Bool) → Prop := Paired (LyAt H)
theorem Lys.keep {H H' : Hp} (k : ∀ b xs, H b = some (.tup xs) → H' b = some (.tup xs)) {xs : List V} {ps : List (Nat × Bool)} (r : Lys H xs ps) : Lys H' xs ps :=
  Paired.mapP r fun v kd ⟨a, e, h⟩ => ⟨a, e, k a _ h⟩
/-- a lying more in the list -/
theorem ly_put {H H3 : Hp} {l t : Addr} {ys : List V} {ps : List (Nat × Bool)} {i : Nat} {b : Bool} (hl : H l = none) (s3 : Same H H3) (l3 : H3 l = some (.lst ys)) (y3 : Lys H3 ys ps) (ht : H3 t = none) :
    Same H (upd (upd H3 t (.tup [.int (i : Int), .bl b])) l (.lst (ys ++ [.ref t]))) ∧ (upd (upd H3 t (.tup [.int (i : Int), .bl b])) l (.lst (ys ++ [.ref t]))) l = some (.lst (ys ++ [.ref t])) ∧
      Lys (upd (upd H3 t (.tup [.int (i : Int), .bl b])) l (.lst (ys ++ [.ref t]))) (ys ++ [.ref t]) (ps ++ [(i, b)]) := by
  have lt : l ≠ t := ne_of_none l3 ht
  refine ⟨fun c o e => ?_, upd_same, Paired.snoc (Lys.keep (fun c xs e => ?_) y3) ⟨t, rfl, by rw [upd_ne (Ne.symm lt), upd_same]⟩⟩
  · have e3 := s3 c o e
    rw [upd_ne (ne_of_none e hl), upd_ne (ne_of_none e3 ht)]; exact e3
  · have cl : c ≠ l := fun z => by rw [z, l3] at e; cases e
    rw [upd_ne cl, upd_ne (ne_of_none e ht)]; exact e
def spTurned (K : PySem.W.Frag) : Sp := fun vs H Q _ => ∃ (a : Addr) (k : Kd), vs = [.ref a] ∧ H a = some (.tup (kdV k)) ∧ Q (.bl (turnable k)) H
def spLyings (C : Addr) : Sp := fun vs H Q _ => ∃ (x : Addr) (b : Int) (ks : List Kd), vs = [.ref x] ∧ ShopAt C H x b ks ∧ ks.length ≤ 8 ∧
  ∀ (l : Addr) (ys : List V) (H' : Hp), H l = none → H' l = some (.lst ys) → Lys H' ys (lyK ks 0) → Same H H' → Q (.ref l) H'
/-- is (kind, turned) a lying of these kinds -/
def isLy (ks : List Kd) (x t : V) : Bool := match x, t with
  | .int i, .bl b => decide (0 ≤ i) && match ks[i.toNat]? with
    | some k => !b || turnable k
    | none => false
  | _, _ => false
def spIsLying (K : PySem.W.Frag) (C : Addr) : Sp := fun vs H Q _ => ∃ (s : Addr) (b : Int) (ks : List Kd) (x t : V) (T U : String), vs = [.ref s, x, t] ∧ ShopAt C H s b ks ∧ Ty K H x T ∧ Ty K H t U ∧ Q (.bl (isLy ks x t)) H
end Pc

set_option Elab.async false
set_option linter.all false
set_option maxRecDepth 100000
namespace L2
open PySem PySem.Spec PyProof.Rows
section
variable {X : Cx}
/-- x is True, of a truth or None -/
theorem op_isT : OpR X (compareOp .Is) (fun x y H Q => y = .bl true ∧ ((∃ b, x = .bl b ∧ Q (.bl b) H) ∨ (x = .non ∧ Q (.bl false) H))) := by
  intro pins s σ H x y v u Q I rx ry h
  obtain ⟨rfl, h⟩ := h
  cases ry
  rcases h with ⟨b, rfl, q⟩ | ⟨rfl, q⟩
  · cases rx
    unfold compareOp isSame
    cases b
    · exact wpAny_bind (wpAny_pure (wpAny_pure (fin_bl I q rfl)))
    · exact wpAny_bind (wpAny_pure (wpAny_pure (fin_bl I q rfl)))
  · cases rx
    unfold compareOp isSame
    exact wpAny_bind (wpAny_pure (wpAny_pure (fin_bl I q rfl)))
/-- x in a list of data -/
theorem op_inD (hu : X.A.units + 65 < cLine) : OpR X (compareOp .In) (fun x y H Q => ∃ d xs, DatV X.K H x d ∧ DatV X.K H y (.list xs) ∧ SeqAt.shaped (.list xs) = true ∧ SeqAt.shaped d = true ∧ (∀ y ∈ xs, SeqAt.noMix y d = true) ∧ Q (.bl (decide (countIn d xs ≠ 0))) H) := by
  intro pins s σ H x y v u Q I rx ry h
  obtain ⟨d, xs, hx, hy, s1, s2, nm, q⟩ := h
  obtain ⟨as, ra⟩ := I.reads hx rx
  obtain ⟨bs, rb⟩ := I.reads hy ry
  exact in_list_dataH rb ra s1 s2 hu nm ⟨.bl _, H, I, rfl, q⟩
/-- o.m(e, ..) by its promise -/
theorem pe_mD {k : Nat} {C : Addr} {ps : List Str} {sp : Sp} {m : Str} {o : Expr} {e : Expr} {es : List Expr} {ta : TE} {t : TA} {apos pos : Pos} {pl : Sem Bool} (he : PE X o ta) (c : Cls X.K C) (D : Mn X.prog X.w X.K X.mg X.base C m ps k sp) (hr : Room k X.A) (ha : PA X (e :: es) t)
    (hst : starEach (e :: es) X.env = (false, eval e X.env) :: starEach es X.env := by rfl) (hpl : (backTo pos (starEach es X.env)).any (·.1) = false := by rfl)
    (ht : eval (.Call (.Attribute o m apos) (e :: es) [] pos) X.env = (do
      let ov ← eval o X.env
      standAt apos.atName
      let (f, first) ← holding [ov] (getMethod ov m pl)
      callWith pos f first (backTo pos (starEach (e :: es) X.env)) (backToKw pos (keywordEach [] X.env))) := by rfl) : PE X (.Call (.Attribute o m apos) (e :: es) [] pos) (tMeth C m sp [] E0 ta t) := by
  obtain ⟨f, fd, F, hb, hm⟩ := D
  exact pe_meth he c hm F hr hb .nil pass0 ha hst hpl ht
/-- a method that may raise, by its promise -/
def MnX (P : Program) (w : World) (K : PySem.W.Frag) (mg : Str → Option Value) (base : Heap) (C : Addr) (m : Str) (ps : List Str) (k : Nat) (sp : Sp) : Prop :=
  ∃ (f : Addr) (fd : FuncData), FnOk P w K mg base (CXx P w) k f fd ps sp ∧ Binds K fd ps [] ∧ Meth K C m f
theorem pex_mD {k : Nat} {C : Addr} {ps : List Str} {sp : Sp} {m : Str} {o : Expr} {e : Expr} {es : List Expr} {ta : TE} {t : TA} {apos pos : Pos} {pl : Sem Bool} (he : PE X.nox o ta) (c : Cls X.K C) (D : MnX X.prog X.w X.K X.mg X.base C m ps k sp) (hr : Room k X.A) (ha : PA X.nox (e :: es) t)
    (hst : starEach (e :: es) X.env = (false, eval e X.env) :: starEach es X.env := by rfl) (hpl : (backTo pos (starEach es X.env)).any (·.1) = false := by rfl)
    (ht : eval (.Call (.Attribute o m apos) (e :: es) [] pos) X.env = (do
      let ov ← eval o X.env
      standAt apos.atName
      let (f, first) ← holding [ov] (getMethod ov m pl)
      callWith pos f first (backTo pos (starEach (e :: es) X.env)) (backToKw pos (keywordEach [] X.env))) := by rfl) : PEx X (.Call (.Attribute o m apos) (e :: es) [] pos) (tMethX C m sp ta t) := by
  obtain ⟨f, fd, F, hb, hm⟩ := D
  exact pex_meth he c hm F hr hb ha hst hpl ht
end
end L2

set_option Elab.async false
set_option linter.all false
set_option maxRecDepth 100000
namespace L2
open PySem PySem.Spec PyProof.Rows
theorem passX {P : Program} {w : World} {X : Cx} : Passes (CXx P w) X E0 := fun _ _ _ _ _ _ _ ⟨_, _, _, _, _, _, h⟩ => h.elim
section
variable {X : Cx}
/-- {} -/
theorem pe_no_dict {pos : Pos} : PE X (.Dict [] [] pos) (fun _ H Q => ∀ p, H p = none → Q (.ref p) (upd H p (.dK []))) := by
  intro pins s σ H Q I h
  have hb : sysModules < s.heap.objs.size := Nat.lt_trans (show sysModules < mainGlobals by decide) (I.mod.glob.keeps I.bk).lt
  refine wpAny_Dict_empty ⟨.ref s.heap.objs.size, _, ?_, rfl, h _ (I.hok.fresh (Nat.le_refl _))⟩
  refine I.laid (a := s.heap.objs.size) (o := .dK []) (t' := s.toks) (fun _ _ q => Heap.get?_push_of_some _ q) (Nat.le_refl _) ?_
  exact ⟨Nat.zero_le _, beq_eq_false_iff_ne.mpr (Nat.ne_of_gt hb), [], .nil, Heap.DictOf.new _⟩
/-- o.m(e, ..) of a method that may raise, where it doesn't -/
theorem pe_mDX {k : Nat} {C : Addr} {ps : List Str} {sp : Sp} {m : Str} {o : Expr} {e : Expr} {es : List Expr} {ta : TE} {t : TA} {apos pos : Pos} {pl : Sem Bool} (he : PE X o ta) (c : Cls X.K C) (D : MnX X.prog X.w X.K X.mg X.base C m ps k sp) (hr : Room k X.A) (ha : PA X (e :: es) t)
    (hst : starEach (e :: es) X.env = (false, eval e X.env) :: starEach es X.env := by rfl) (hpl : (backTo pos (starEach es X.env)).any (·.1) = false := by rfl)
    (ht : eval (.Call (.Attribute o m apos) (e :: es) [] pos) X.env = (do
      let ov ← eval o X.env
      standAt apos.atName
      let (f, first) ← holding [ov] (getMethod ov m pl)
      callWith pos f first (backTo pos (starEach (e :: es) X.env)) (backToKw pos (keywordEach [] X.env))) := by rfl) : PE X (.Call (.Attribute o m apos) (e :: es) [] pos) (tMeth C m sp [] E0 ta t) := by
  obtain ⟨f, fd, F, hb, hm⟩ := D
  exact pe_meth he c hm F hr hb .nil passX ha hst hpl ht
end
end L2
namespace Pc
open PySem L2
def lyD (p : Nat × Bool) : PyData := .tuple [.int p.1, .bool p.2]
theorem Lys.dat {K : PySem.W.Frag} {H : Hp} : ∀ {xs : List V} {ps : List (Nat × Bool)}, Lys H xs ps → DatVs K H xs (ps.map lyD)
  | _, _, .nil => .nil
  | _, _, .cons ⟨a, e, h⟩ t => by
    subst e
    exact .cons (.tup (SqT.of h) (.cons (.int _) (.cons (.bl _) .nil))) (Lys.dat t)
theorem lys_eqv : ∀ ps : List (Nat × Bool), PyData.eqvAll (ps.map lyD) (ps.map lyD) = true
  | [] => rfl
  | k :: r => by
    have ih := lys_eqv r
    simp [PyData.eqvAll, PyData.eqv, lyD, ih]
theorem lys_lay : ∀ ps : List (Nat × Bool), PyData.canLayAll0 (ps.map lyD) = true
  | [] => rfl
  | k :: r => by simp [PyData.canLayAll0, PyData.canLay0, lyD, lys_lay r]
theorem lys_depth : ∀ ps : List (Nat × Bool), PyData.depthAll (ps.map lyD) ≤ 1
  | [] => by simp [PyData.depthAll]
  | k :: r => by
    have ih := lys_depth r
    simp [PyData.depthAll, PyData.depth, lyD]
    omega
theorem lys_shaped (ps : List (Nat × Bool)) : SeqAt.shaped (.list (ps.map lyD)) = true := by
  have h1 := lys_lay ps
  have h2 := lys_depth ps
  simp [SeqAt.shaped, PyData.canLay0, PyData.depth, h1]
  omega
end Pc
namespace Pc
open PySem PySem.Spec L2
theorem lyD_same (p q : Nat × Bool) : same (lyD p) (lyD q) = decide (p = q) := by
  obtain ⟨a, b⟩ := p
  obtain ⟨c, d⟩ := q
  have e : ((a : Int) == (c : Int)) = decide (a = c) := by
    by_cases h : a = c
    · subst h; simp
    · rw [decide_eq_false h]
      exact beq_eq_false_iff_ne.mpr fun z => h (Int.ofNat.inj z)
  simp only [same, sameAll, lyD, Bool.and_true, Prod.mk.injEq, e]
  by_cases h1 : a = c <;> by_cases h2 : b = d <;> simp [h1, h2]
theorem count_lys (q : Nat × Bool) : ∀ ps : List (Nat × Bool), 0 ≤ countIn (lyD q) (ps.map lyD) ∧ (countIn (lyD q) (ps.map lyD) ≠ 0 ↔ q ∈ ps)
  | [] => by simp [countIn]
  | p :: r => by
    obtain ⟨h1, h2⟩ := count_lys q r
    simp only [List.map_cons, countIn, lyD_same, List.mem_cons]
    by_cases h : p = q
    · subst h
      simp only [decide_true, if_true, true_or, iff_true]
      exact ⟨by omega, by omega⟩
    · have h' : ¬ q = p := fun z => h z.symm
      simp only [h, h', decide_false, false_or]
      refine ⟨?_, ?_⟩
      · simpa using h1
      · simpa using h2
theorem mem_lyT {i j : Nat} {k : Kd} : (i, true) ∈ lyT j k ↔ i = j ∧ turnable k = true := by
  unfold lyT
  by_cases h : turnable k = true
  · simp [h]
  · simp [h]
theorem mem_lyK {i : Nat} : ∀ (ks : List Kd) (j : Nat), (i, true) ∈ lyK ks j ↔ ∃ k, j ≤ i ∧ ks[i - j]? = some k ∧ turnable k = true
  | [], j => by simp [lyK]
  | c :: r, j => by
    simp only [lyK, List.mem_append, mem_lyT, mem_lyK r (j + 1)]
    constructor
    · rintro (⟨h1, h2⟩ | ⟨k, h1, h2, h3⟩)
      · subst h1; exact ⟨c, Nat.le_refl _, by simp, h2⟩
      · refine ⟨k, by omega, ?_, h3⟩
        rw [show i - j = (i - (j + 1)) + 1 by omega, List.getElem?_cons_succ]
        exact h2
    · rintro ⟨k, h1, h2, h3⟩
      by_cases e : i = j
      · subst e
        simp at h2
        subst h2
        exact .inl ⟨rfl, h3⟩
      · refine .inr ⟨k, by omega, ?_, h3⟩
        rw [show i - j = (i - (j + 1)) + 1 by omega, List.getElem?_cons_succ] at h2
        exact h2
theorem in_lys {ks : List Kd} {i : Nat} {k : Kd} (h : ks[i]? = some k) : decide (countIn (lyD (i, true)) ((lyK ks 0).map lyD) ≠ 0) = turnable k := by
  have h1 := (count_lys (i, true) (lyK ks 0)).2
  rw [mem_lyK] at h1
  simp only [Nat.zero_le, Nat.sub_zero, h, true_and, Option.some.injEq, exists_eq_left'] at h1
  cases e : turnable k with
  | true => exact decide_eq_true (h1.mpr e)
  | false => exact decide_eq_false fun z => by rw [h1.mp z] at e; cases e
theorem lys_noMix (q : Nat × Bool) (ps : List (Nat × Bool)) : ∀ y ∈ ps.map lyD, SeqAt.noMix y (lyD q) = true := by
  intro y hy
  obtain ⟨p, _, rfl⟩ := List.mem_map.mp hy
  simp [SeqAt.noMix, SeqAt.noMixAll, lyD]
end Pc

set_option Elab.async false
set_option linter.all false
set_option maxRecDepth 100000
namespace L2
open PySem PySem.Spec PyProof.Rows
/-! ### what isinstance and except tell of own classes -/
section
variable {K : PySem.W.Frag} {C X : Addr}
theorem exc_cls (h : ExcC K C) : (PySem.W.clsIn K C).isSome = true ∧ PySem.W.typeIn K (.ref C) = some (.type "type") := by
  unfold ExcC PySem.W.excIn at h
  split at h
  · rename_i e
    refine ⟨?_, ?_⟩
    · unfold PySem.W.clsIn
      rw [e]
      rfl
    · show Option.map (fun x => x.cls) (List.lookup C K) = _
      rw [e]
      rfl
  · cases h
theorem kitCls_of {t : Value} {b : Bool} (hx : ExcC K X) (s : PySem.W.subIn K t (.ref X) = some b) : PySem.W.kitCls K t (.ref X) = some b := by
  obtain ⟨h1, h2⟩ := exc_cls hx
  unfold PySem.W.kitCls
  simp only [h1, h2, s]
  rfl
theorem kit_self : PySem.W.kitOne K (.ref C) (.ref C) = some true := by
  unfold PySem.W.kitOne
  rw [if_pos (by simp)]
theorem kit_of {b : Bool} (hx : ExcC K X) (ne : ¬ X = C) (s : PySem.W.subIn K (.ref C) (.ref X) = some b) : PySem.W.kitOne K (.ref C) (.ref X) = some b := by
  unfold PySem.W.kitOne
  rw [if_neg (fun z => ne (Value.ref.inj (beq_iff_eq.mp z)).symm)]
  exact kitCls_of hx s
theorem kit_no (s0 : PySem.W.subIn K (.ref C) (.ref C) = some true) (hx : ExcC K X) (s : PySem.W.subIn K (.ref C) (.ref X) = some false) : PySem.W.kitOne K (.ref C) (.ref X) = some false :=
  kit_of hx (fun z => by rw [z, s0] at s; cases s) s
theorem kit_VE (s : PySem.W.subIn K (.ref C) (.type "ValueError") = some true) : PySem.W.kitOne K (.ref C) (.type "ValueError") = some true := by
  unfold PySem.W.kitOne
  rw [if_neg (fun z => by cases (beq_iff_eq.mp z))]
  show (if PySem.W.kitMeta "ValueError" = true then PySem.W.subIn K (.ref C) (.type "ValueError") else none) = _
  rw [if_pos (show PySem.W.kitMeta "ValueError" = true by decide +kernel)]
  exact s
theorem kitAny_nil {t : Value} : PySem.W.kitAny K t [] = some false := rfl
theorem kitAny_cons {t c : Value} {cs : List Value} (h : PySem.W.kitOne K t c = some false) (r : PySem.W.kitAny K t cs = some false) : PySem.W.kitAny K t (c :: cs) = some false := by
  show (match PySem.W.kitOne K t c with | some true => some true | some false => PySem.W.kitAny K t cs | none => none) = _
  rw [h]
  exact r
theorem kitAny_yes {t c : Value} {cs : List Value} (h : PySem.W.kitOne K t c = some true) : PySem.W.kitAny K t (c :: cs) = some true := by
  show (match PySem.W.kitOne K t c with | some true => some true | some false => PySem.W.kitAny K t cs | none => none) = _
  rw [h]
theorem exm_of (hx : ExcC K X) (b : PySem.W.subIn K (.ref X) (.type "BaseException") = some true) (s : PySem.W.subIn K (.ref C) (.ref X) = some true) : PySem.W.exmOne K (.ref C) (.ref X) = some true := by
  unfold PySem.W.exmOne
  rw [b, if_pos (show ((some true == some true) = true) from rfl)]
  exact kitCls_of hx s
end
end L2

set_option Elab.async false
set_option linter.all false
set_option maxRecDepth 100000
namespace L2
open PySem PySem.Spec PyProof.Rows
section
variable {X : Cx} {k : Nat} {f C : Addr} {fd : FuncData} {ps : List Str} {sp : Sp} {x : Str} {p pos : Pos} {e : Expr} {es : List Expr} {t : TA}
/-- C(..) whose __init__ may raise -/
theorem run_makeX {pins : List (Addr × Obj)} {σ : St} {H : Hp} {s : Shared} {Q : VK} {E : XK} {us : List Value} {vs : List V} (M : Mk X.K C f) (F : FnOk X.prog X.w X.K X.mg X.base (CXx X.prog X.w) k f fd ps sp) (hr : Room (k + 1) X.A) (hb : Binds X.K fd ps [])
    (I : Inv X pins σ H s) (r : Vals vs us)
    (h : ∀ x dx, H x = none → H dx = none → dx ≠ x → sp (.ref x :: vs) (upd (upd H dx (.own x)) x (.ins C dx [])) (fun v H2 => v = .non ∧ Q (.ref x) H2) E) :
    wpAny (model X.prog X.w) X.A (call (.ref C) us) (EP X pins σ Q) (XP X pins σ E) s := by
  have hq := h (s.heap.objs.size + 1) s.heap.objs.size (I.hok.fresh (Nat.le_succ _)) (I.hok.fresh (Nat.le_refl _)) (Nat.ne_of_lt (Nat.lt_succ_self _))
  have I2 := Inv.made (C := C) I
  have r2 : Vals (V.ref (s.heap.objs.size + 1) :: vs) (Value.ref (s.heap.objs.size + 1) :: us) := .cons rfl r
  have hl : (Value.ref (s.heap.objs.size + 1) :: us ++ []).length = ps.length := by
    have e := r2.length
    rw [F.len _ _ _ _ hq] at e
    rw [List.append_nil]
    exact e.symm
  have hb2 := hb _ (Value.ref (s.heap.objs.size + 1) :: us) I2.kIn hl
  rw [List.append_nil] at hb2
  refine wpAny_call (make_map (f := f) I.kIn M.makes M.init (beq_iff_eq.mp M.fn) (codeAny_mono (F.run _ X.stack _ _ ⟨Value.ref (s.heap.objs.size + 1) :: us, []⟩ (Value.ref (s.heap.objs.size + 1) :: us) _ _ E (hr.make C us [])
    (I2.env0.make C us []) hb2 r2 hq) fun r s' hq' => ?_))
  cases r with
  | error e =>
    obtain ⟨ea, C', H', B, e1, fl, q⟩ := hq'
    exact ⟨ea, C', _, H', B, _, e1, I2, fl, q⟩
  | ok fl =>
    cases fl with
    | ret u =>
      obtain ⟨v, H', I3, rv, ev, q3⟩ := I2.after hq'
      subst ev
      exact ⟨rv, ⟨V.ref (s.heap.objs.size + 1), H', I3, rfl, q3⟩⟩
    | next => exact False.elim hq'
    | brk => exact False.elim hq'
    | cont => exact False.elim hq'
def tMakeX (C : Addr) (sp : Sp) (t : TA) : TX := fun σ H Q E => t σ H fun vs H1 => ∀ x dx, H1 x = none → H1 dx = none → dx ≠ x → sp (.ref x :: vs) (upd (upd H1 dx (.own x)) x (.ins C dx [])) (fun v H2 => v = .non ∧ Q (.ref x) H2) E
theorem pex_make (M : Mk X.K C f) (F : FnOk X.prog X.w X.K X.mg X.base (CXx X.prog X.w) k f fd ps sp) (hr : Room (k + 1) X.A) (hg : Gl X x) (hm : X.mg x = some (.ref C)) (hb : Binds X.K fd ps [])
    (ha : PA X.nox (e :: es) t) (hdb : (x == ("__debug__" : Str)) = false := by decide) (he : starEach (e :: es) X.env = (false, eval e X.env) :: starEach es X.env := by rfl) (hpl : (backTo pos (starEach es X.env)).any (·.1) = false := by rfl) :
    PEx X (.Call (.Name x p) (e :: es) [] pos) (tMakeX C sp t) := by
  intro pins s σ H Q E I h
  refine wpAny_Call_Name_kw (ld_glob I hg hm ?_ hdb)
  refine PySem.W.callWith_K (h₀ := X.base) I.ok.mod.kin M.kp (wpAny_mono (ha pos pins s σ H _ (I.wish _) h) (fun us s1 ⟨vs, H1, I1, r, q⟩ => ⟨I1.kIn, ?_⟩) fun _ _ z => False.elim z) he hpl
  exact run_makeX M F hr hb I1.unwish r q
def KnX (P : Program) (w : World) (K : PySem.W.Frag) (mg : Str → Option Value) (base : Heap) (x : Str) (C : Addr) (ps : List Str) (k : Nat) (sp : Sp) : Prop :=
  ∃ (f : Addr) (fd : FuncData), Mk K C f ∧ FnOk P w K mg base (CXx P w) k f fd ps sp ∧ Binds K fd ps [] ∧ mg x = some (.ref C)
theorem pex_kD (D : KnX X.prog X.w X.K X.mg X.base x C ps k sp) (hr : Room (k + 1) X.A) (hg : Gl X x) (ha : PA X.nox (e :: es) t)
    (hdb : (x == ("__debug__" : Str)) = false := by decide) (he : starEach (e :: es) X.env = (false, eval e X.env) :: starEach es X.env := by rfl) (hpl : (backTo pos (starEach es X.env)).any (·.1) = false := by rfl) :
    PEx X (.Call (.Name x p) (e :: es) [] pos) (tMakeX C sp t) := by
  obtain ⟨f, fd, M, F, hb, hm⟩ := D
  exact pex_make M F hr hg hm hb ha hdb he hpl
end
section
variable {X : Cx}
/-- {i: v} -/
def tDict1 (tk tv : TE) : TE := fun σ H Q => ∀ p, H p = none → tk σ (upd H p (.dK [])) fun x H1 => tv σ H1 fun y H2 => H2 p = some (.dK []) ∧ ∃ i, x = .int i ∧ Q (.ref p) (upd H2 p (.dK [(Sum.inl i, y)]))
theorem pe_dict1 {kx vx : Expr} {tk tv : TE} {pos : Pos} (hk : PE X kx tk) (hv : PE X vx tv) : PE X (.Dict [some kx] [vx] pos) (tDict1 tk tv) := by
  intro pins s σ H Q I h
  have hb : sysModules < s.heap.objs.size := Nat.lt_trans (show sysModules < mainGlobals by decide) (I.mod.glob.keeps I.bk).lt
  have hn := I.hok.fresh (Nat.le_refl s.heap.objs.size)
  have hd : (s.heap.objs.size == sysModules) = false := beq_eq_false_iff_ne.mpr (Nat.ne_of_gt hb)
  have I1 : Inv X pins σ (upd H s.heap.objs.size (.dK [])) { s with heap := s.heap.push { cls := .type "dict", data := .dict #[] } } :=
    I.laid (a := s.heap.objs.size) (o := .dK []) (t' := s.toks) (fun _ _ q => Heap.get?_push_of_some _ q) (Nat.le_refl _) ⟨Nat.zero_le _, hd, [], .nil, Heap.DictOf.new _⟩
  refine wpAny_Dict_walk (knd := mixKind X.prog X.w) rfl rfl (by simp) (by show 1 ≤ 15; decide) (pairTrees_cons_walk (thn (hk pins _ σ _ _ I1 (h _ hn)) fun u s1 ⟨x, H1, J1, rx, q1⟩ => thn (hv pins s1 σ H1 _ J1 q1) fun w2 s2 ⟨y, H2, J2, ry, e, i, ex, q2⟩ => pairTrees_nil_walk ?_))
  subst ex
  obtain ⟨tk', rfl⟩ := rx
  obtain ⟨_, _, vs0, r0, dd⟩ := J2.hok _ _ e
  cases r0
  refine ⟨[(Sum.inl i, w2)], ⟨mixKind_int X.prog X.w i tk', rfl, True.intro⟩, dd, fun h' dd' hs => ⟨.ref s.heap.objs.size, _, ?_, rfl, q2⟩⟩
  have he : ∃ q, h'.get? s.heap.objs.size = some q := let ⟨q, _, _, hq, _⟩ := dd'; ⟨q, hq⟩
  refine J2.write (x := s.heap.objs.size) (e := s.heap.objs.size) (by rw [e]; exact True.intro) (.inl rfl) (fun b q hb z => (hs.2 b hb).trans z) he ?_
  exact ⟨by show 1 ≤ sizeLine; decide, hd, [(Sum.inl i, w2)], .cons ⟨rfl, ry⟩ .nil, dd'⟩
/-- () + t is t -/
theorem op_catT0 : OpR X (binaryOp .Add) (fun x y H Q => ∃ a b ys, x = .ref a ∧ y = .ref b ∧ SqT X.K H a [] ∧ SqT X.K H b ys ∧ Q (.ref b) H) := by
  intro pins s σ H x y v u Q I rx ry h
  obtain ⟨a, b, ys, rfl, rfl, ha, hb, q⟩ := h
  cases rx
  cases ry
  obtain ⟨its, r1, p1, _⟩ := I.tuple ha
  obtain ⟨its2, r2, p2, _⟩ := I.tuple hb
  cases r1
  obtain ⟨⟨cls, dd, data, sl⟩, ho, hc, n, hd⟩ := p1
  obtain ⟨⟨cls2, dd2, data2, sl2⟩, ho2, hc2, n2, hd2⟩ := p2
  simp only at hc hd hc2 hd2
  subst hc hd hc2 hd2
  exact concat_meets ⟨_, ho, rfl⟩ ⟨_, ho2, rfl⟩ noFill_tuple_add seq_tuple_add PySem.F.slot_tuple_add PySem.F.entry_tuple_add (PySem.F.args_tuple_add_2 _ _)
      (tuple_addW0 a b _ _ n n2 dd dd2 sl sl2 rfl) ⟨ho, ho2, ⟨.ref b, H, I, rfl, q⟩⟩
end
end L2
namespace Pc
open PySem L2
end Pc
namespace Pc
open PySem L2
theorem ty_of_tup {K : PySem.W.Frag} {H : Hp} {a : Addr} {xs : List V} {T : String} (e : H a = some (.tup xs)) (t : Ty K H (.ref a) T) : T = "tuple" := by
  have t2 := t.2
  generalize hv : Value.type T = tv at t2
  cases t2 with
  | lst e' => rw [e] at e'; cases e'
  | frz e' => rw [e] at e'; cases e'
  | tup e' => cases hv; rfl
  | dK e' => rw [e] at e'; cases e'
  | dT e' => rw [e] at e'; cases e'
  | ins => cases hv
theorem ty_of_lst {K : PySem.W.Frag} {H : Hp} {a : Addr} {xs : List V} {T : String} (e : H a = some (.lst xs)) (t : Ty K H (.ref a) T) : T = "list" := by
  have t2 := t.2
  generalize hv : Value.type T = tv at t2
  cases t2 with
  | lst e' => cases hv; rfl
  | frz e' => rw [e] at e'; cases e'
  | tup e' => rw [e] at e'; cases e'
  | dK e' => rw [e] at e'; cases e'
  | dT e' => rw [e] at e'; cases e'
  | ins => cases hv
end Pc

set_option Elab.async false
set_option linter.all false
set_option maxRecDepth 100000
namespace Pc
open PySem L2
/-! ### things whose parts are none of S -/
def NewV (S : Addr → Prop) (x : V) : Prop := ∀ r, S r → x ≠ .ref r
def Fw (S : Addr → Prop) (H H' : Hp) : Prop := ∀ c o, ¬ S c → H c = some o → H' c = some o
theorem Fw.trans {S : Addr → Prop} {H H1 H2 : Hp} (a : Fw S H H1) (b : Fw S H1 H2) : Fw S H H2 := fun c o n e => b c o n (a c o n e)
def TyS (K : PySem.W.Frag) (S : Addr → Prop) (H : Hp) (x : V) : Prop := NewV S x ∧ ∃ T, Ty K H x T
theorem NewV.ref {S : Addr → Prop} {a : Addr} (n : ¬ S a) : NewV S (.ref a) := fun r h z => n (by rw [V.ref.inj z]; exact h)
theorem NewV.not {S : Addr → Prop} {a : Addr} (n : NewV S (.ref a)) : ¬ S a := fun h => n a h rfl
theorem Ty.fw {K : PySem.W.Frag} {S : Addr → Prop} {H H' : Hp} {x : V} {T : String} (b : Fw S H H') (n : NewV S x) (t : Ty K H x T) : Ty K H' x T := by
  refine ⟨t.1, ?_⟩
  have t2 := t.2
  generalize hv : Value.type T = tv at t2 ⊢
  cases t2 with
  | non => exact .non
  | bl b => exact .bl b
  | int b => exact .int b
  | str b => exact .str b
  | flt b => exact .flt b
  | lst e => exact .lst (b _ _ n.not e)
  | frz e => exact .frz (b _ _ n.not e)
  | tup e => exact .tup (b _ _ n.not e)
  | dK e => exact .dK (b _ _ n.not e)
  | dT e => exact .dT (b _ _ n.not e)
  | ins => cases hv
theorem Ty.there {K : PySem.W.Frag} {H : Hp} {a : Addr} {T : String} (t : Ty K H (.ref a) T) : H a ≠ none := by
  have t2 := t.2
  generalize hv : Value.type T = tv at t2
  cases t2 with
  | lst e => rw [e]; exact fun z => nomatch z
  | frz e => rw [e]; exact fun z => nomatch z
  | tup e => rw [e]; exact fun z => nomatch z
  | dK e => rw [e]; exact fun z => nomatch z
  | dT e => rw [e]; exact fun z => nomatch z
  | ins => cases hv
theorem TyS.fw {K : PySem.W.Frag} {S : Addr → Prop} {H H' : Hp} {x : V} (b : Fw S H H') (t : TyS K S H x) : TyS K S H' x := ⟨t.1, t.2.imp fun _ h => Pc.Ty.fw b t.1 h⟩
theorem TyS.grow {K : PySem.W.Frag} {S : Addr → Prop} {H : Hp} {x : V} {q : Addr} (hq : H q = none) (t : TyS K S H x) : TyS K (fun r => S r ∨ r = q) H x := by
  refine ⟨fun r hr z => ?_, t.2⟩
  rcases hr with h | h
  · exact t.1 r h z
  · subst z h
    obtain ⟨T, h2⟩ := t.2
    exact Pc.Ty.there h2 hq
theorem TyS.flat {K : PySem.W.Frag} {S : Addr → Prop} {H : Hp} {x : V} (h : flatV x = true) : TyS K S H x := by
  cases x with
  | non => exact ⟨(fun _ _ z => nomatch z), _, .non⟩
  | bl b => exact ⟨(fun _ _ z => nomatch z), _, .bl⟩
  | int b => exact ⟨(fun _ _ z => nomatch z), _, .int⟩
  | str b => exact ⟨(fun _ _ z => nomatch z), _, .str⟩
  | _ => cases h
theorem tys_flat {K : PySem.W.Frag} {S : Addr → Prop} {H : Hp} {xs : List V} (h : xs.all flatV = true) : ∀ y ∈ xs, TyS K S H y := fun y hy => TyS.flat (List.all_eq_true.mp h y hy)
/-- a thing that is no kind -/
def BadS (K : PySem.W.Frag) (S : Addr → Prop) (H : Hp) (v : V) : Prop := NewV S v ∧ ((∃ T, Ty K H v T ∧ T ≠ "list" ∧ T ≠ "tuple") ∨ ∃ a xs, v = .ref a ∧ (H a = some (.lst xs) ∨ H a = some (.tup xs)) ∧ (∀ y ∈ xs, TyS K S H y) ∧ kind5 xs = false)
theorem BadS.fw {K : PySem.W.Frag} {S : Addr → Prop} {H H' : Hp} {x : V} (b : Fw S H H') (t : BadS K S H x) : BadS K S H' x := by
  obtain ⟨n, h⟩ := t
  refine ⟨n, ?_⟩
  rcases h with ⟨T, h1, h2⟩ | ⟨a, xs, rfl, h2, h3, h4⟩
  · exact .inl ⟨T, Pc.Ty.fw b n h1, h2⟩
  · exact .inr ⟨a, xs, rfl, h2.imp (b _ _ n.not) (b _ _ n.not), fun y hy => (h3 y hy).fw b, h4⟩
theorem BadS.grow {K : PySem.W.Frag} {S : Addr → Prop} {H : Hp} {x : V} {q : Addr} (hq : H q = none) (t : BadS K S H x) : BadS K (fun r => S r ∨ r = q) H x := by
  obtain ⟨n, h⟩ := t
  refine ⟨fun r hr z => ?_, ?_⟩
  · rcases hr with h' | h'
    · exact n r h' z
    · subst z h'
      rcases h with ⟨T, h1, _⟩ | ⟨a, xs, e, h2, _⟩
      · exact Pc.Ty.there h1 hq
      · obtain rfl := V.ref.inj e
        rcases h2 with h2 | h2 <;> (rw [hq] at h2; cases h2)
  · rcases h with h | ⟨a, xs, e, h2, h3, h4⟩
    · exact .inl h
    · exact .inr ⟨a, xs, e, h2, fun y hy => (h3 y hy).grow hq, h4⟩
theorem BadS.anti {K : PySem.W.Frag} {S S' : Addr → Prop} {H : Hp} {x : V} (i : ∀ r, S' r → S r) (t : BadS K S H x) : BadS K S' H x := by
  obtain ⟨n, h⟩ := t
  refine ⟨fun r hr => n r (i r hr), ?_⟩
  rcases h with h | ⟨a, xs, e, h2, h3, h4⟩
  · exact .inl h
  · exact .inr ⟨a, xs, e, h2, fun y hy => ⟨fun r hr => (h3 y hy).1 r (i r hr), (h3 y hy).2⟩, h4⟩
section
variable {K : PySem.W.Frag} {S : Addr → Prop} {H : Hp} {a : Addr} {xs : List V}
theorem BadS.none : BadS K S H .non := ⟨(fun _ _ z => nomatch z), .inl ⟨_, .non, by decide, by decide⟩⟩
theorem BadS.int {i : Int} : BadS K S H (.int i) := ⟨(fun _ _ z => nomatch z), .inl ⟨_, .int, by decide, by decide⟩⟩
theorem BadS.str {i : Str} : BadS K S H (.str i) := ⟨(fun _ _ z => nomatch z), .inl ⟨_, .str, by decide, by decide⟩⟩
theorem BadS.dct {kvs : List (Key × V)} (n : ¬ S a) (h : H a = some (.dK kvs)) : BadS K S H (.ref a) := ⟨.ref n, .inl ⟨_, .dK h, by decide, by decide⟩⟩
theorem BadS.tup (n : ¬ S a) (h : H a = some (.tup xs)) (f : ∀ y ∈ xs, TyS K S H y) (k : kind5 xs = false) : BadS K S H (.ref a) := ⟨.ref n, .inr ⟨a, xs, rfl, .inr h, f, k⟩⟩
theorem BadS.lst (n : ¬ S a) (h : H a = some (.lst xs)) (f : ∀ y ∈ xs, TyS K S H y) (k : kind5 xs = false) : BadS K S H (.ref a) := ⟨.ref n, .inr ⟨a, xs, rfl, .inl h, f, k⟩⟩
end
def AllBad (K : PySem.W.Frag) (S : Addr → Prop) (H : Hp) (L : List V) : Prop := ∀ v ∈ L, BadS K S H v
theorem AllBad.fw {K : PySem.W.Frag} {S : Addr → Prop} {H H' : Hp} {L : List V} (b : Fw S H H') (t : AllBad K S H L) : AllBad K S H' L := fun v hv => (t v hv).fw b
theorem AllBad.grow {K : PySem.W.Frag} {S : Addr → Prop} {H : Hp} {L : List V} {q : Addr} (hq : H q = none) (t : AllBad K S H L) : AllBad K (fun r => S r ∨ r = q) H L := fun v hv => (t v hv).grow hq
theorem AllBad.nil {K : PySem.W.Frag} {S : Addr → Prop} {H : Hp} : AllBad K S H [] := fun v hv => by cases hv
theorem AllBad.snoc {K : PySem.W.Frag} {S : Addr → Prop} {H : Hp} {L : List V} {v : V} (t : AllBad K S H L) (b : BadS K S H v) : AllBad K S H (L ++ [v]) := fun u hu => by
  rcases List.mem_append.mp hu with h | h
  · exact t u h
  · rw [List.mem_singleton] at h; subst h; exact b
/-- where one is: the pot at p stands, what stood at the start stands, S is all there -/
structure Cur (S : Addr → Prop) (p : Addr) (H0 H : Hp) : Prop where
  pt : PotAt H p
  b : But p H0 H
  th : ∀ r, S r → H r ≠ none
  sp : S p
  s0 : ∀ r, H0 r ≠ none → S r
theorem Cur.start {p : Addr} {H0 : Hp} (pt : PotAt H0 p) : Cur (fun r => H0 r ≠ none) p H0 H0 := ⟨pt, But.refl, fun _ h => h, pt.some, fun _ h => h⟩
theorem Cur.new {S : Addr → Prop} {p c : Addr} {H0 H : Hp} {o : HO} (u : Cur S p H0 H) (hc : H c = none) : Cur S p H0 (upd H c o) ∧ Fw S H (upd H c o) ∧ (upd H c o) c = some o ∧ ¬ S c := by
  refine ⟨⟨u.pt.new hc, u.b.trans (But.new hc), fun r hr => ?_, u.sp, u.s0⟩, fun d o' _ e => ?_, upd_same, fun h => u.th c h hc⟩
  · by_cases e : r = c
    · subst e; exact absurd hc (u.th r hr)
    · rw [upd_ne e]; exact u.th r hr
  · rw [upd_ne (ne_of_none e hc)]; exact e
theorem Cur.draw {S : Addr → Prop} {p : Addr} {H0 H H' : Hp} (u : Cur S p H0 H) (pt : PotAt H' p) (b : But p H H') : Cur S p H0 H' ∧ Fw S H H' := by
  refine ⟨⟨pt, u.b.trans b, fun r hr => ?_, u.sp, u.s0⟩, fun d o' n e => b d o' (fun z => n (by rw [z]; exact u.sp)) e⟩
  by_cases e : r = p
  · subst e; exact pt.some
  · cases q : H r with
    | none => exact absurd q (u.th r hr)
    | some o => rw [b r o e q]; exact fun z => nomatch z
theorem Cur.grow {S : Addr → Prop} {p c : Addr} {H0 H : Hp} {o : HO} (u : Cur S p H0 H) (hc : H c = none) : Cur (fun r => S r ∨ r = c) p H0 (upd H c o) ∧ Fw (fun r => S r ∨ r = c) H (upd H c o) ∧ (upd H c o) c = some o ∧ H0 c = none ∧ c ≠ p := by
  refine ⟨⟨u.pt.new hc, u.b.trans (But.new hc), fun r hr => ?_, .inl u.sp, fun r h => .inl (u.s0 r h)⟩, fun d o' n e => ?_, upd_same, ?_, fun z => by rw [z] at hc; exact u.pt.some hc⟩
  · by_cases e : r = c
    · subst e; rw [upd_same]; exact fun z => nomatch z
    · rw [upd_ne e]; exact u.th r (hr.resolve_right e)
  · rw [upd_ne (ne_of_none e hc)]; exact e
  · cases q : H0 c with
    | none => rfl
    | some o' => exact absurd hc (u.th c (u.s0 c (by rw [q]; exact fun z => nomatch z)))
theorem Cur.put {S : Addr → Prop} {p c : Addr} {H0 H : Hp} {o : HO} (u : Cur S p H0 H) (sc : S c) (h0 : H0 c = none) (n : c ≠ p) : Cur S p H0 (upd H c o) ∧ Fw S H (upd H c o) ∧ (upd H c o) c = some o := by
  refine ⟨⟨?_, fun d o' nd e => ?_, fun r hr => ?_, u.sp, u.s0⟩, fun d o' nd e => ?_, upd_same⟩
  · obtain ⟨x, y, h1, h2⟩ := u.pt
    exact ⟨x, y, h1, by rw [upd_ne (Ne.symm n)]; exact h2⟩
  · rw [upd_ne (ne_of_none e h0)]; exact u.b d o' nd e
  · by_cases e : r = c
    · subst e; rw [upd_same]; exact fun z => nomatch z
    · rw [upd_ne e]; exact u.th r hr
  · rw [upd_ne (fun z => nd (by rw [z]; exact sc))]; exact e
end Pc

set_option Elab.async false
set_option linter.all false
set_option maxRecDepth 100000
namespace L2
open PySem PySem.Spec PyProof.Rows
section
variable {X : Cx}
/-- t + u, whichever is empty -/
def rCatA : R2 := fun x y H Q => ∃ a b xs ys, x = .ref a ∧ y = .ref b ∧ H a = some (.tup xs) ∧ H b = some (.tup ys) ∧ xs.length + ys.length ≤ sizeLine ∧
  ∀ m H', (H' = H ∧ (m = a ∨ m = b)) ∨ (H m = none ∧ H' = upd H m (.tup (xs ++ ys))) → H' m = some (.tup (xs ++ ys)) → Q (.ref m) H'
theorem op_catA : OpR X (binaryOp .Add) rCatA := by
  intro pins s σ H x y v u Q I rx ry h
  obtain ⟨a, b, xs, ys, rfl, rfl, ha, hb, hz, q⟩ := h
  by_cases hx : xs = []
  · subst hx
    exact op_catT0 pins s σ H _ _ v u Q I rx ry ⟨a, b, ys, rfl, rfl, SqT.of ha, SqT.of hb, q b H (.inl ⟨rfl, .inr rfl⟩) hb⟩
  · refine op_catT pins s σ H _ _ v u Q I rx ry ⟨a, b, xs, ys, rfl, rfl, SqT.of ha, SqT.of hb, hx, hz, fun e => ?_, fun e p hp => q p _ (.inr ⟨hp, rfl⟩) upd_same⟩
    subst e
    exact q a H (.inl ⟨rfl, .inl rfl⟩) (by rw [List.append_nil]; exact ha)
end
theorem cutV_drop (xs : List V) (k : Nat) : cutV xs (some (k : Int)) none = xs.drop k := by
  unfold cutV
  rw [HT.sIx_none, HT.sIx_nat]
  rcases Nat.le_total k xs.length with h | h
  · rw [Nat.min_eq_left h, List.take_of_length_le (by rw [List.length_drop]; exact Nat.le_refl _)]
  · rw [Nat.min_eq_right h, List.drop_of_length_le (Nat.le_refl _), List.drop_of_length_le h, List.take_nil]
end L2
namespace Pc
open PySem L2
theorem Cur.cat {S : Addr → Prop} {p a b m : Addr} {H0 H H' : Hp} {zs : List V} (u : Cur S p H0 H) (na : ¬ S a) (nb : ¬ S b) (h : (H' = H ∧ (m = a ∨ m = b)) ∨ (H m = none ∧ H' = upd H m (.tup zs))) : Cur S p H0 H' ∧ Fw S H H' ∧ ¬ S m := by
  rcases h with ⟨rfl, rfl | rfl⟩ | ⟨h1, rfl⟩
  · exact ⟨u, fun _ _ _ e => e, na⟩
  · exact ⟨u, fun _ _ _ e => e, nb⟩
  · obtain ⟨u', f', _, n'⟩ := u.new (o := .tup zs) h1
    exact ⟨u', f', n'⟩
def okAt : Nat → V → Bool
  | 0, x => whole x 1
  | 1, x => whole x 1
  | 2, x => whole x 0
  | 3, x => whole x 0
  | _, x => isBl x
theorem odd5 (k : Kd) {n : Nat} {x : V} (h : n < 5) (bad : okAt n x = false) : kind5 ((kdV k).take n ++ [x] ++ (kdV k).drop (n + 1)) = false := by
  match n, h, bad with
  | 0, _, b =>
    show (whole x 1 && _ && _ && _ && _) = false
    rw [show whole x 1 = false from b]; rfl
  | 1, _, b =>
    show (_ && whole x 1 && _ && _ && _) = false
    rw [show whole x 1 = false from b, Bool.and_false]; rfl
  | 2, _, b =>
    show (_ && _ && whole x 0 && _ && _) = false
    rw [show whole x 0 = false from b, Bool.and_false]; rfl
  | 3, _, b =>
    show (_ && _ && _ && whole x 0 && _) = false
    rw [show whole x 0 = false from b, Bool.and_false]; rfl
  | 4, _, b =>
    show (_ && _ && _ && _ && isBl x) = false
    rw [show isBl x = false from b, Bool.and_false]
theorem odd5_ty {K : PySem.W.Frag} {S : Addr → Prop} {H : Hp} (k : Kd) {n : Nat} {x : V} (t : TyS K S H x) : ∀ y ∈ (kdV k).take n ++ [x] ++ (kdV k).drop (n + 1), TyS K S H y := fun y hy => by
  have fl : ∀ z ∈ kdV k, TyS K S H z := tys_flat (show (kdV k).all flatV = true from rfl)
  rcases List.mem_append.mp hy with h | h
  · rcases List.mem_append.mp h with h | h
    · exact fl y (List.mem_of_mem_take h)
    · rw [List.mem_singleton] at h; subst h; exact t
  · exact fl y (List.mem_of_mem_drop h)
end Pc

set_option Elab.async false
set_option linter.all false
namespace Pc
open PySem L2
theorem digChar (d : Nat) (h : d < 10) : (Nat.digitChar d).toNat = 48 + d := by
  match d, h with
  | 0, _ => rfl
  | 1, _ => rfl
  | 2, _ => rfl
  | 3, _ => rfl
  | 4, _ => rfl
  | 5, _ => rfl
  | 6, _ => rfl
  | 7, _ => rfl
  | 8, _ => rfl
  | 9, _ => rfl
/-- the signs of a number -/
def sg (m : Nat) : List Nat := (Nat.toDigits 10 m).map Char.toNat
theorem sg_lt {m : Nat} (h : m < 10) : sg m = [48 + m] := by
  unfold sg
  rw [Nat.toDigits_of_lt_base h]
  show [(Nat.digitChar m).toNat] = _
  rw [digChar m h]
theorem sg_ge {m : Nat} (h : 10 ≤ m) : sg m = sg (m / 10) ++ [48 + m % 10] := by
  unfold sg
  rw [Nat.toDigits_of_base_le (by decide) h, List.map_append]
  show _ ++ [(Nat.digitChar (m % 10)).toNat] = _
  rw [digChar _ (Nat.mod_lt _ (by decide))]
theorem sg_all (m : Nat) : NumText.AllDigits (sg m) := by
  induction m using Nat.strongRecOn with
  | _ m ih =>
    by_cases h : m < 10
    · rw [sg_lt h]
      intro c hc
      rw [List.mem_singleton] at hc
      omega
    · rw [sg_ge (by omega)]
      intro c hc
      rcases List.mem_append.mp hc with h' | h'
      · exact ih (m / 10) (by omega) c h'
      · rw [List.mem_singleton] at h'
        omega
theorem sg_ne (m : Nat) : sg m ≠ [] := by
  by_cases h : m < 10
  · rw [sg_lt h]; simp
  · rw [sg_ge (by omega)]; simp
theorem sg_val (m : Nat) : NumText.digitsVal (sg m) = m := by
  induction m using Nat.strongRecOn with
  | _ m ih =>
    by_cases h : m < 10
    · rw [sg_lt h]
      simp [NumText.digitsVal]
    · rw [sg_ge (by omega)]
      have e := ih (m / 10) (by omega)
      unfold NumText.digitsVal at e ⊢
      rw [List.foldl_append, e]
      simp
      omega
/-- no nought ahead -/
theorem sg_head (m : Nat) : sg m = [48] ∨ ∃ c r, sg m = c :: r ∧ 49 ≤ c := by
  induction m using Nat.strongRecOn with
  | _ m ih =>
    by_cases h : m < 10
    · rw [sg_lt h]
      by_cases h0 : m = 0
      · subst h0; exact .inl rfl
      · exact .inr ⟨_, _, rfl, by omega⟩
    · rw [sg_ge (by omega)]
      rcases ih (m / 10) (by omega) with e | ⟨c, r, e, hc⟩
      · exfalso
        have v := sg_val (m / 10)
        rw [e] at v
        simp [NumText.digitsVal] at v
        omega
      · rw [e]; exact .inr ⟨c, _, rfl, hc⟩
/-! ### texts as their signs -/
abbrev Lp (x : Str) : List Nat := x.cps.toList
theorem str_ext {x y : Str} (h : Lp x = Lp y) : x = y := by
  obtain ⟨a⟩ := x
  obtain ⟨b⟩ := y
  have : a = b := Array.toList_inj.mp h
  rw [this]
theorem Lp_app (x y : Str) : Lp (x ++ y) = Lp x ++ Lp y := Array.toList_append
theorem Lp_mk (l : List Nat) : Lp ⟨l.toArray⟩ = l := rfl
theorem len_Lp (x : Str) : x.length = (Lp x).length := Array.length_toList.symm
theorem Lp_num {n : Int} (h : 0 ≤ n) : Lp (Str.ofString (toString n)) = sg n.toNat := by
  obtain ⟨m, rfl⟩ : ∃ m : Nat, n = (m : Int) := ⟨n.toNat, by omega⟩
  rw [Int.toNat_natCast]
  exact PySem.W.KIN.signs_num m
/-- parts with c between -/
def jn (c : Nat) : List (List Nat) → List Nat
  | [] => []
  | [a] => a
  | a :: b :: r => a ++ c :: jn c (b :: r)
theorem jn_cons {c : Nat} {a : List Nat} {r : List (List Nat)} (h : r ≠ []) : jn c (a :: r) = a ++ c :: jn c r := by
  cases r with
  | nil => exact absurd rfl h
  | cons b r => rfl
theorem app_inj {c : Nat} : ∀ {a b X Y : List Nat}, c ∉ a → c ∉ b → a ++ c :: X = b ++ c :: Y → a = b ∧ X = Y
  | [], [], X, Y, _, _, h => by simpa using h
  | [], y :: b, X, Y, _, hb, h => by
    simp only [List.nil_append, List.cons_append, List.cons.injEq] at h
    exact absurd (by rw [h.1]; exact List.mem_cons_self) hb
  | x :: a, [], X, Y, ha, _, h => by
    simp only [List.nil_append, List.cons_append, List.cons.injEq] at h
    exact absurd (by rw [← h.1]; exact List.mem_cons_self) ha
  | x :: a, y :: b, X, Y, ha, hb, h => by
    simp only [List.cons_append, List.cons.injEq] at h
    obtain ⟨e1, e2⟩ := app_inj (fun z => ha (List.mem_cons_of_mem _ z)) (fun z => hb (List.mem_cons_of_mem _ z)) h.2
    exact ⟨by rw [h.1, e1], e2⟩
theorem jn_inj {c : Nat} : ∀ {as bs : List (List Nat)}, as ≠ [] → bs ≠ [] → (∀ a ∈ as, c ∉ a) → (∀ b ∈ bs, c ∉ b) → jn c as = jn c bs → as = bs
  | [], _, h, _, _, _, _ => absurd rfl h
  | _ :: _, [], _, h, _, _, _ => absurd rfl h
  | [a], [b], _, _, _, _, h => by rw [show a = b from h]
  | [a], b :: b' :: bs, _, _, ha, _, h => by
    have e : a = b ++ c :: jn c (b' :: bs) := h
    exact absurd (by rw [e]; simp) (ha a List.mem_cons_self)
  | a :: a' :: as, [b], _, _, _, hb, h => by
    have e : a ++ c :: jn c (a' :: as) = b := h
    exact absurd (by rw [← e]; simp) (hb b List.mem_cons_self)
  | a :: a' :: as, b :: b' :: bs, _, _, ha, hb, h => by
    obtain ⟨e1, e2⟩ := app_inj (ha a List.mem_cons_self) (hb b List.mem_cons_self) (show a ++ c :: jn c (a' :: as) = b ++ c :: jn c (b' :: bs) from h)
    have e3 := jn_inj (as := a' :: as) (bs := b' :: bs) (by simp) (by simp) (fun z hz => ha z (List.mem_cons_of_mem _ hz)) (fun z hz => hb z (List.mem_cons_of_mem _ hz)) e2
    rw [e1, e3]
theorem Lp_join (c : Nat) : ∀ ps : List Str, Lp (Str.join ⟨#[c]⟩ ps) = jn c (ps.map Lp)
  | [] => by simp [Str.join, jn, Lp, Str.empty]
  | [a] => by simp [Str.join, jn]
  | a :: b :: r => by
    have ih := Lp_join c (b :: r)
    have e : Str.join ⟨#[c]⟩ (a :: b :: r) = a ++ (⟨#[c]⟩ : Str) ++ Str.join ⟨#[c]⟩ (b :: r) := by simp [Str.join]
    rw [e, Lp_app, Lp_app, ih]
    simp [jn, Lp]
theorem Lp_join0 : ∀ ps : List Str, Lp (Str.join ⟨#[]⟩ ps) = (ps.map Lp).flatten
  | [] => by simp [Str.join, Lp, Str.empty]
  | [a] => by simp [Str.join]
  | a :: b :: r => by
    have ih := Lp_join0 (b :: r)
    have e : Str.join ⟨#[]⟩ (a :: b :: r) = a ++ (⟨#[]⟩ : Str) ++ Str.join ⟨#[]⟩ (b :: r) := by simp [Str.join]
    rw [e, Lp_app, Lp_app, ih]
    simp [Lp]
theorem split_is {x : Str} {c : Nat} {ps : List Str} (hc : c ∈ Lp x) (h0 : ps ≠ []) (hf : ∀ p ∈ ps, c ∉ Lp p) (h : Lp x = jn c (ps.map Lp)) : Txt.split x ⟨#[c]⟩ = ps := by
  have h1 := StrLaws.join_split x ⟨#[c]⟩
  have h2 := StrLaws.split_free x c
  have e : jn c ((Txt.split x ⟨#[c]⟩).map Lp) = jn c (ps.map Lp) := by rw [← Lp_join, h1, h]
  have ne : Txt.split x ⟨#[c]⟩ ≠ [] := fun z => by
    rw [z] at h1
    have : Lp x = [] := by rw [← h1]; simp [Str.join, Lp, Str.empty]
    rw [this] at hc
    cases hc
  have e2 := jn_inj (c := c) (as := (Txt.split x ⟨#[c]⟩).map Lp) (bs := ps.map Lp) (by simpa using ne) (by simpa using h0) (fun a ha => ?_) (fun a ha => ?_) e
  · exact (List.map_inj_right (fun x y h => str_ext h)).mp e2
  · obtain ⟨p, hp, rfl⟩ := List.mem_map.mp ha
    exact h2 p hp
  · obtain ⟨p, hp, rfl⟩ := List.mem_map.mp ha
    exact hf p hp
/-- what split meets: the sign occurs -/
theorem split_has {x : Str} {c : Nat} (hc : c ∈ Lp x) : (decide (x.length < (⟨#[c]⟩ : Str).length) || decide (Builtin.Str.strKind x < Builtin.Str.strKind ⟨#[c]⟩)) = false ∧ (Builtin.Str.occurrences x ⟨#[c]⟩ 0 x.length (x.length + 1)).isEmpty = false ∧
    Txt.split x ⟨#[c]⟩ = Builtin.Str.partsBetween x (Builtin.Str.occurrences x ⟨#[c]⟩ 0 x.length (x.length + 1)) (⟨#[c]⟩ : Str).length := by
  have h2 := StrLaws.split_free x c
  have key : Txt.split x ⟨#[c]⟩ ≠ [x] := fun z => h2 x (by rw [z]; exact List.mem_cons_self) hc
  have e1 : (decide (x.length < (⟨#[c]⟩ : Str).length) || decide (Builtin.Str.strKind x < Builtin.Str.strKind ⟨#[c]⟩)) = false := Bool.eq_false_iff.mpr fun z => key (by unfold Txt.split; rw [if_pos z])
  have e2 : (Builtin.Str.occurrences x ⟨#[c]⟩ 0 x.length (x.length + 1)).isEmpty = false := Bool.eq_false_iff.mpr fun z => key (by unfold Txt.split; rw [if_neg (by rw [e1]; exact Bool.false_ne_true), if_pos z])
  refine ⟨e1, e2, ?_⟩
  unfold Txt.split
  rw [if_neg (by rw [e1]; exact Bool.false_ne_true), if_neg (by rw [e2]; exact Bool.false_ne_true)]
end Pc

set_option Elab.async false
set_option linter.all false
set_option maxRecDepth 100000
namespace L2
open PySem PySem.Spec PyProof.Rows
theorem strs_are : ∀ {ys : List Str} {its : List Value}, Vals (ys.map V.str) its → StrsAre its ys
  | [], _, .nil => .nil
  | y :: ys, _, .cons r t => by
    obtain ⟨tk, e⟩ := (show ∃ t, _ = Value.str y t from r)
    subst e
    exact .cons y tk (strs_are t)
theorem strsFrom_vals : ∀ (ys : List Str) (k : Nat), Vals (ys.map V.str) (strsFrom k ys)
  | [], _ => .nil
  | y :: ys, k => .cons ⟨_, rfl⟩ (strsFrom_vals ys _)
section
variable {X : Cx}
theorem mt_join : MtR X "str.join" (fun x xs H Q => ∃ sep p ys, x = .str sep ∧ xs = [.ref p] ∧ H p = some (.lst (ys.map V.str)) ∧ sep.length ≤ 64 ∧ (List.map (fun x : Str => x.length) ys).sum + ys.length * 64 ≤ 16777216 ∧ Q (.str (Txt.join sep ys)) H) := by
  intro pins s σ H x xs v us Q I rx rv h
  obtain ⟨sep, p, ys, rfl, rfl, hp, h1, h2, q⟩ := h
  obtain ⟨t, rfl⟩ := rx
  obtain ⟨u, rfl, ru⟩ := vals1 rv
  cases ru
  obtain ⟨its, r, pl, hz⟩ := I.list (SqL.of hp)
  exact join_listC pl.isList (by simpa using strs_are r) h1 h2 fun t' k => ⟨.str _, H, I.tok _, ⟨_, rfl⟩, q⟩
theorem mt_split : MtR X "str.split" (fun x xs H Q => ∃ z y c ps, x = .str z ∧ xs = [.str y] ∧ y = ⟨#[c]⟩ ∧ c ∈ Pc.Lp z ∧ z.length ≤ sizeLine ∧ Txt.split z ⟨#[c]⟩ = ps ∧ ps.length ≤ sizeLine ∧ ∀ p, H p = none → Q (.ref p) (upd H p (.lst (ps.map V.str)))) := by
  intro pins s σ H x xs v us Q I rx rv h
  obtain ⟨z, y, c, ps, rfl, rfl, rfl, hc, hz, hs, hl, q⟩ := h
  obtain ⟨t, rfl⟩ := rx
  obtain ⟨u, rfl, ru⟩ := vals1 rv
  obtain ⟨t', rfl⟩ := ru
  obtain ⟨e1, e2, e3⟩ := Pc.split_has hc
  rw [hs] at e3
  refine call_meets F.slot_str_split rfl F.entry_str_split (F.args_str_split_2 _ _) (meets_str_split_sep z ⟨#[c]⟩ t t' e1 rfl e2 hz (by rw [← e3]; exact hl)) ?_
  rw [← e3]
  exact ⟨.ref s.heap.objs.size, _, I.lnew (strsFrom_vals ps s.toks) (by rw [List.length_map]; exact hl), rfl, q _ (I.hok.fresh (Nat.le_refl _))⟩
theorem mt_isascii : MtR X "str.isascii" (fun x xs H Q => ∃ z, x = .str z ∧ xs = [] ∧ Q (.bl (Txt.isascii z)) H) := by
  intro pins s σ H x xs v us Q I rx rv h
  obtain ⟨z, rfl, rfl, q⟩ := h
  obtain ⟨t, rfl⟩ := rx
  cases rv
  exact SC.isascii ⟨.bl _, H, I, rfl, q⟩
theorem mt_isdigit : MtR X "str.isdigit" (fun x xs H Q => ∃ z, x = .str z ∧ xs = [] ∧ Q (.bl (Txt.isdigit z)) H) := by
  intro pins s σ H x xs v us Q I rx rv h
  obtain ⟨z, rfl, rfl, q⟩ := h
  obtain ⟨t, rfl⟩ := rx
  cases rv
  exact SC.isdigit ⟨.bl _, H, I, rfl, q⟩
theorem mt_startswith : MtR X "str.startswith" (fun x xs H Q => ∃ z y, x = .str z ∧ xs = [.str y] ∧ Q (.bl (Txt.startswith z y)) H) := by
  intro pins s σ H x xs v us Q I rx rv h
  obtain ⟨z, y, rfl, rfl, q⟩ := h
  obtain ⟨t, rfl⟩ := rx
  obtain ⟨u, rfl, ru⟩ := vals1 rv
  obtain ⟨t', rfl⟩ := ru
  exact SC.startswith ⟨.bl _, H, I, rfl, q⟩
theorem mt_endswith : MtR X "str.endswith" (fun x xs H Q => ∃ z y, x = .str z ∧ xs = [.str y] ∧ Q (.bl (Txt.endswith z y)) H) := by
  intro pins s σ H x xs v us Q I rx rv h
  obtain ⟨z, y, rfl, rfl, q⟩ := h
  obtain ⟨t, rfl⟩ := rx
  obtain ⟨u, rfl, ru⟩ := vals1 rv
  obtain ⟨t', rfl⟩ := ru
  exact SC.endswith ⟨.bl _, H, I, rfl, q⟩
theorem call_int_text : CallR X (.type "int") (fun xs H Q => ∃ z n, xs = [.str z] ∧ intText? z = some n ∧ z.length ≤ 640 ∧ Q (.int n) H) := by
  intro pins s σ H xs us Q I rv h
  obtain ⟨z, n, rfl, e, hl, q⟩ := h
  obtain ⟨u, rfl, ru⟩ := vals1 rv
  obtain ⟨t', rfl⟩ := ru
  exact PySem.W.KIN.call_text e hl ⟨.int _, H, I.tok _, ⟨_, rfl⟩, q⟩
/-! ### f'..' -/
abbrev TJ := St → Hp → Str → (Str → Hp → Prop) → Prop
def PJ (X : Cx) (es : List Expr) (t : TJ) : Prop := ∀ (pins : List (Addr × Obj)) (s : Shared) (σ : St) (H : Hp) (out : Str) (Q : Str → Hp → Prop), Inv X pins σ H s → t σ H out Q →
  wpAny (model X.prog X.w) X.A (joinParts out (evalEach es X.env)) (EP X pins σ fun v H' => ∃ z, v = .str z ∧ Q z H') X.xe s
theorem pj_nil : PJ X [] (fun _ H out Q => out.length ≤ sizeLine ∧ Q out H) := fun pins s σ H out Q I h =>
  joinParts_nil ⟨.str out, H, I.tok _, ⟨_, rfl⟩, out, rfl, h.2⟩ h.1
def tJC (z : Str) (t : TJ) : TJ := fun σ H out Q => (out ++ z).length ≤ sizeLine ∧ t σ H (out ++ z) Q
theorem pj_str {z : Str} {j : Nat} {pos : Pos} {es : List Expr} {t : TJ} (hr : PJ X es t) : PJ X (.Constant (.str z) j pos :: es) (tJC z t) := fun pins s σ H out Q I h => by
  show wpAny _ _ (joinParts out (eval (.Constant (.str z) j pos) X.env :: evalEach es X.env)) _ _ s
  exact joinParts_cons (Calls.Constant_str ⟨h.1, hr pins _ σ H _ Q (I.tok _) h.2⟩)
def tJF (te : TE) (t : TJ) : TJ := fun σ H out Q => te σ H fun v H1 => ∃ z, ((∃ i : Int, v = .int i ∧ i.natAbs.log2 < 1920 ∧ z = Str.ofString (toString i)) ∨ (v = .str z ∧ z.length ≤ sizeLine)) ∧ (out ++ z).length ≤ sizeLine ∧ t σ H1 (out ++ z) Q
theorem pj_fld {e : Expr} {pos : Pos} {es : List Expr} {te : TE} {t : TJ} (he : PE X e te) (hr : PJ X es t) : PJ X (.FormattedValue e (-1) none pos :: es) (tJF te t) := fun pins s σ H out Q I h => by
  show wpAny _ _ (joinParts out (eval (.FormattedValue e (-1) none pos) X.env :: evalEach es X.env)) _ _ s
  refine joinParts_cons (FormattedValue_plain (thn (he pins s σ H _ I h) fun u s1 ⟨v, H1, I1, r, z, hz, hl, q⟩ => ?_))
  rcases hz with ⟨i, rfl, hi, rfl⟩ | ⟨rfl, hz⟩
  · obtain ⟨tk, rfl⟩ := r
    exact formatField_int_small hi ⟨hl, hr pins _ σ H1 _ Q (I1.tok _) q⟩
  · obtain ⟨tk, rfl⟩ := r
    exact formatField_str (fun t' k => ⟨hl, hr pins _ σ H1 _ Q (I1.tok _) q⟩) hz
theorem pe_joined {v₁ v₂ : Expr} {es : List Expr} {pos : Pos} {t : TJ} (h : PJ X (v₁ :: v₂ :: es) t) : PE X (.JoinedStr (v₁ :: v₂ :: es) pos) (fun σ H Q => t σ H Str.empty fun z H' => Q (.str z) H') := fun pins s σ H Q I hq => by
  refine JoinedStr_many ?_
  show wpAny _ _ (joinParts Str.empty (evalEach (v₁ :: v₂ :: es) X.env)) _ _ s
  exact thn (h pins s σ H Str.empty _ I hq) fun u s1 ⟨v, H1, I1, r, z, e, q⟩ => ⟨v, H1, I1, r, by rw [e]; exact q⟩
/-- try: return e, where e raises nothing -/
theorem ps_tryR {e : Expr} {te : TE} {hd : ExceptHandler} {hs : List ExceptHandler} {pos rpos : Pos} (he : PE X.nox e te) : PS X (.Try [.Return (some e) rpos] (hd :: hs) [] [] pos) (tRet te) := by
  intro pins s σ H D I h
  have hb : PS X.nox (.Return (some e) rpos) (tRet te) := ps_ret he
  refine wpAny_Try_except (wpAny_execs_cons (wpAny_mono (hb pins s σ H D (I.wish _) h) (fun f s1 q => ?_) fun _ _ z => False.elim z))
  cases f with
  | next =>
    obtain ⟨σ', H', J, q'⟩ := q
    exact wpAny_execs_nil (wpAny_execs_nil ⟨σ', H', J.unwish, q'⟩)
  | brk =>
    obtain ⟨σ', H', J, q'⟩ := q
    exact ⟨σ', H', J.unwish, q'⟩
  | cont =>
    obtain ⟨σ', H', J, q'⟩ := q
    exact ⟨σ', H', J.unwish, q'⟩
  | ret u =>
    obtain ⟨v, σ', H', J, r, q'⟩ := q
    exact ⟨v, σ', H', J.unwish, r, q'⟩
end
end L2

set_option Elab.async false
set_option linter.all false
set_option maxRecDepth 100000
namespace Pc
open PySem L2
abbrev num (n : Int) : Str := Str.ofString (toString n)
structure Nn (n : Int) : Prop where
  lo : 0 ≤ n
  hi : n < 10 ^ 60
theorem Nn.log {n : Int} (h : Nn n) : n.natAbs.log2 < 1920 := by
  have h1 : n.natAbs < 2 ^ 200 := by
    have := h.lo
    have := h.hi
    have e : (10 : Int) ^ 60 < 2 ^ 200 := by decide
    omega
  have h2 : n.natAbs.log2 < 200 := by
    by_cases z : n.natAbs = 0
    · rw [z]; decide
    · exact (Nat.log2_lt z).mpr h1
  omega
theorem Nn.len {n : Int} (h : Nn n) : (num n).length ≤ 60 := PyProof.Rows.toString_length_le h.lo (by decide) h.hi
theorem Nn.sg {n : Int} (h : Nn n) : Lp (num n) = Pc.sg n.toNat := Lp_num h.lo
theorem Nn.sgl {n : Int} (h : Nn n) : (Pc.sg n.toNat).length ≤ 60 := by
  have := h.len
  rw [len_Lp, h.sg] at this
  exact this
theorem Good.nw {k : Kd} (g : Good k) : Nn k.w := ⟨by have := g.w; omega, g.w'⟩
theorem Good.nh {k : Kd} (g : Good k) : Nn k.h := ⟨by have := g.h; omega, g.h'⟩
theorem Good.nwo {k : Kd} (g : Good k) : Nn k.wo := ⟨g.wo, g.wo'⟩
theorem Good.nwa {k : Kd} (g : Good k) : Nn k.wa := ⟨g.wa, g.wa'⟩
def wd (b : Bool) : Str := if b = true then "turns" else "stays"
theorem wd_len (b : Bool) : (wd b).length = 5 := by cases b <;> decide +kernel
theorem wd_free (b : Bool) : (32 ∉ Lp (wd b)) ∧ (10 ∉ Lp (wd b)) := by cases b <;> decide +kernel
def kparts (k : Kd) : List Str := [num k.w, num k.h, num k.wo, num k.wa, wd k.tu]
def kln (k : Kd) : Str := ⟨(jn 32 ((kparts k).map Lp)).toArray⟩
theorem Lp_kln (k : Kd) : Lp (kln k) = jn 32 ((kparts k).map Lp) := rfl
theorem Lp_blank : Lp (" " : Str) = [32] := by decide +kernel
theorem Lp_nl : Lp ("\n" : Str) = [10] := by decide +kernel
theorem Lp_no : Lp ("" : Str) = [] := by decide +kernel
theorem Lp_empty : Lp Str.empty = [] := by decide +kernel
theorem sg_free {m c : Nat} (h : c < 48) : c ∉ sg m := fun z => by have := sg_all m c z; omega
theorem kparts_free {k : Kd} (g : Good k) (c : Nat) (hc : c = 32 ∨ c = 10) : ∀ p ∈ kparts k, c ∉ Lp p := by
  intro p hp
  simp only [kparts, List.mem_cons, List.not_mem_nil, or_false] at hp
  have hl : c < 48 := by omega
  rcases hp with rfl | rfl | rfl | rfl | rfl
  · rw [g.nw.sg]; exact sg_free hl
  · rw [g.nh.sg]; exact sg_free hl
  · rw [g.nwo.sg]; exact sg_free hl
  · rw [g.nwa.sg]; exact sg_free hl
  · rcases hc with rfl | rfl
    · exact (wd_free _).1
    · exact (wd_free _).2
theorem kln_split {k : Kd} (g : Good k) : Txt.split (kln k) ⟨#[32]⟩ = kparts k :=
  split_is (by rw [Lp_kln]; simp [kparts, jn]) (by simp [kparts]) (kparts_free g 32 (.inl rfl)) rfl
theorem kln_blank (k : Kd) : 32 ∈ Lp (kln k) := by rw [Lp_kln]; simp [kparts, jn]
theorem kln_len {k : Kd} (g : Good k) : (kln k).length ≤ 300 := by
  have h1 := g.nw.sgl
  have h2 := g.nh.sgl
  have h3 := g.nwo.sgl
  have h4 := g.nwa.sgl
  have h5 := wd_len k.tu
  rw [len_Lp] at h5
  rw [len_Lp, Lp_kln]
  simp only [kparts, List.map_cons, List.map_nil, jn, g.nw.sg, g.nh.sg, g.nwo.sg, g.nwa.sg, List.length_append, List.length_cons]
  omega
theorem kln_nl {k : Kd} (g : Good k) : 10 ∉ Lp (kln k) := by
  have f := kparts_free g 10 (.inr rfl)
  rw [Lp_kln]
  simp only [kparts, List.map_cons, List.map_nil, jn]
  intro z
  simp only [List.mem_append, List.mem_cons] at z
  rcases z with z | z | z | z | z | z | z | z | z
  · exact f _ (by simp [kparts]) z
  · exact absurd z (by decide)
  · exact f _ (by simp [kparts]) z
  · exact absurd z (by decide)
  · exact f _ (by simp [kparts]) z
  · exact absurd z (by decide)
  · exact f _ (by simp [kparts]) z
  · exact absurd z (by decide)
  · exact f _ (by simp [kparts]) z
/-- the lines of a shop -/
def lns (b : Int) (ks : List Kd) : List Str := num b :: ks.map kln
def txt (b : Int) (ks : List Kd) : Str := ⟨(((lns b ks).map fun x => Lp x ++ [10]).flatten).toArray⟩
theorem Lp_txt (b : Int) (ks : List Kd) : Lp (txt b ks) = ((lns b ks).map fun x => Lp x ++ [10]).flatten := rfl
theorem jn_nl : ∀ xs : List (List Nat), jn 10 (xs ++ [[]]) = (xs.map fun x => x ++ [10]).flatten
  | [] => rfl
  | [a] => by simp [jn]
  | a :: b :: r => by
    have ih := jn_nl (b :: r)
    show a ++ 10 :: jn 10 (b :: (r ++ [[]])) = _
    rw [show b :: (r ++ [[]]) = (b :: r) ++ [[]] from rfl, ih]
    simp
theorem lns_free {b : Int} {ks : List Kd} (hb : Nn b) (g : ∀ k ∈ ks, Good k) : ∀ p ∈ lns b ks, 10 ∉ Lp p := by
  intro p hp
  rcases List.mem_cons.mp hp with rfl | h
  · rw [hb.sg]; exact sg_free (by decide)
  · obtain ⟨k, hk, rfl⟩ := List.mem_map.mp h
    exact kln_nl (g k hk)
theorem txt_split {b : Int} {ks : List Kd} (hb : Nn b) (g : ∀ k ∈ ks, Good k) : Txt.split (txt b ks) ⟨#[10]⟩ = lns b ks ++ [Str.empty] := by
  refine split_is ?_ (by simp) ?_ ?_
  · rw [Lp_txt]; simp [lns]
  · intro p hp
    rcases List.mem_append.mp hp with h | h
    · exact lns_free hb g p h
    · rw [List.mem_singleton] at h; subst h; rw [Lp_empty]; simp
  · rw [Lp_txt, List.map_append, show ([Str.empty].map Lp) = [[]] from by simp [Lp_empty], jn_nl, List.map_map]
    rfl
theorem txt_nl (b : Int) (ks : List Kd) : 10 ∈ Lp (txt b ks) := by rw [Lp_txt]; simp [lns]
theorem txt_len {b : Int} {ks : List Kd} (hb : Nn b) (g : ∀ k ∈ ks, Good k) : (txt b ks).length ≤ 61 + 301 * ks.length := by
  have h1 := hb.sgl
  have : ∀ ks : List Kd, (∀ k ∈ ks, Good k) → (((ks.map kln).map fun x => Lp x ++ [10]).flatten).length ≤ 301 * ks.length := by
    intro ks
    induction ks with
    | nil => intro _; simp
    | cons k r ih =>
      intro g
      have h2 := ih fun x hx => g x (List.mem_cons_of_mem _ hx)
      have h3 := kln_len (g k List.mem_cons_self)
      rw [len_Lp] at h3
      simp only [List.map_cons, List.flatten_cons, List.length_append, List.length_cons, List.length_nil] at h2 ⊢
      omega
  have h4 := this ks g
  rw [len_Lp, Lp_txt]
  simp only [lns, List.map_cons, List.flatten_cons, List.length_append, List.length_cons, List.length_nil, hb.sg]
  omega
theorem txt_ends (b : Int) (ks : List Kd) : Txt.endswith (txt b ks) "\n" = true := by
  obtain ⟨i, z, e⟩ : ∃ i z, lns b ks = i ++ [z] := by
    rcases List.eq_nil_or_concat (lns b ks) with h | ⟨i, z, h⟩
    · cases h
    · exact ⟨i, z, by rw [h]; simp⟩
  have e2 : txt b ks = (⟨((i.map fun x => Lp x ++ [10]).flatten ++ Lp z).toArray⟩ : Str) ++ ("\n" : Str) := str_ext (by
    rw [Lp_app, Lp_txt, e, Lp_nl, Lp_mk]
    simp)
  rw [e2]
  exact PySem.W.KT.ends_app _ _
theorem num_ascii {n : Int} (h : Nn n) : Txt.isascii (num n) = true := by
  unfold Txt.isascii
  rw [← Array.all_toList]
  rw [List.all_eq_true]
  intro c hc
  have := sg_all n.toNat c (by rw [← h.sg]; exact hc)
  exact decide_eq_true (by omega)
theorem num_digit {n : Int} (h : Nn n) : Txt.isdigit (num n) = true := by
  unfold Txt.isdigit
  rw [Bool.and_eq_true]
  refine ⟨decide_eq_true ?_, ?_⟩
  · rw [len_Lp, h.sg]
    exact List.length_pos_iff.mpr (sg_ne _)
  · rw [← Array.all_toList, List.all_eq_true]
    intro c hc
    have := sg_all n.toNat c (by rw [← h.sg]; exact hc)
    have hh : c = 48 ∨ c = 49 ∨ c = 50 ∨ c = 51 ∨ c = 52 ∨ c = 53 ∨ c = 54 ∨ c = 55 ∨ c = 56 ∨ c = 57 := by omega
    rcases hh with rfl | rfl | rfl | rfl | rfl | rfl | rfl | rfl | rfl | rfl <;> decide +kernel
theorem num_reads {n : Int} (h : Nn n) : intText? (num n) = some n := by
  have e := intText_digits (x := num n) (by rw [show (num n).cps.toList = Pc.sg n.toNat from h.sg]; exact sg_all _) (by rw [show (num n).cps.toList = Pc.sg n.toNat from h.sg]; exact sg_ne _) (by have := h.len; omega)
  rw [e, show (num n).cps.toList = Pc.sg n.toNat from h.sg, sg_val]
  have := h.lo
  congr 1
  omega
theorem num_nought {n : Int} (h : Nn n) : Txt.startswith (num n) "0" = false ∨ num n = "0" := by
  rcases sg_head n.toNat with e | ⟨c, r, e, hc⟩
  · refine .inr (str_ext ?_)
    rw [h.sg, e]
    decide +kernel
  · refine .inl (Bool.eq_false_iff.mpr fun z => ?_)
    unfold Txt.startswith at z
    rw [Bool.and_eq_true] at z
    have z2 := z.2
    unfold Builtin.Str.subAt at z2
    have z3 := eq_of_beq z2
    have z4 : ((num n).cps.extract 0 (0 + ("0" : Str).length)).toList = [48] := by rw [z3]; decide +kernel
    rw [Array.toList_extract, show (num n).cps.toList = Pc.sg n.toNat from h.sg, e] at z4
    rw [show (0 + ("0" : Str).length) = 1 by decide +kernel] at z4
    simp [List.extract] at z4
    omega
end Pc
namespace Pc
open PySem L2
theorem app_len (x y : Str) : (x ++ y).length = x.length + y.length := by rw [len_Lp, Lp_app, List.length_append, ← len_Lp, ← len_Lp]
theorem len_blank : (" " : Str).length = 1 := by decide +kernel
theorem len_nl : ("\n" : Str).length = 1 := by decide +kernel
theorem len_empty : Str.empty.length = 0 := by decide +kernel
theorem len_t : ("turns" : Str).length = 5 := by decide +kernel
theorem len_s : ("stays" : Str).length = 5 := by decide +kernel
end Pc

set_option Elab.async false
set_option linter.all false
set_option maxRecDepth 100000
namespace L2
open PySem PySem.Spec PyProof.Rows
/-! ### sorted, sum, all, repr, divmod by great numbers -/
theorem ints_of : ∀ {ns : List Int} {its : List Value}, Vals (ns.map V.int) its → IntsAre its ns
  | [], _, r => by cases r; exact .nil
  | n :: ns, _, r => by
    cases r with
    | cons r1 r2 =>
      obtain ⟨t, e⟩ := r1
      subst e
      exact .cons n t (ints_of r2)
section
variable {X : Cx}
theorem call_divmodB : CallR X (.builtin "divmod") (fun xs H Q => ∃ i j, xs = [.int i, .int j] ∧ CDivB i j ∧ ∀ p, H p = none → Q (.ref p) (upd H p (.tup [.int (i / j), .int (i % j)]))) := by
  intro pins s σ H xs us Q I r h
  obtain ⟨i, j, rfl, hc, q⟩ := h
  have h1 := hc.1
  obtain ⟨u, w', rfl, ⟨t, rfl⟩, ⟨t', rfl⟩⟩ := vals2 r
  refine divmod_int (by omega) ?_ (.inl hc.np)
  rw [Int.fdiv_eq_ediv_of_nonneg i (by omega), Int.fmod_eq_emod_of_nonneg i (by omega)]
  have hn : H s.heap.objs.size = none := I.hok.fresh (Nat.le_refl _)
  refine ⟨.ref s.heap.objs.size, _, ?_, rfl, q _ hn⟩
  refine I.laid (fun b o e => Heap.get?_push_of_some _ e) (Nat.le_refl _) ⟨by simp only [List.length_cons, List.length_nil]; rw [sizeLine_eq]; decide, [.int (i / j) s.toks, .int (i % j) (s.toks + 1)], .cons ⟨_, rfl⟩ (.cons ⟨_, rfl⟩ .nil), ?_⟩
  exact ⟨_, Heap.get?_push_size s.heap rfl, rfl, 0, rfl⟩
theorem call_sortedI : CallR X (.builtin "sorted") (fun xs H Q => ∃ (p : Addr) (ns : List Int), xs = [.ref p] ∧ SqL X.K H p (ns.map V.int) ∧ ns.length < 64 ∧ ∀ (l : Addr) (ns' : List Int), H l = none → ns'.Perm ns → ns'.Pairwise (· ≤ ·) → Q (.ref l) (upd H l (.lst (ns'.map V.int)))) := by
  intro pins s σ H xs us Q I r h
  obtain ⟨p, ns, rfl, hs, h64, q⟩ := h
  obtain ⟨u, rfl, rfl⟩ := vals1 r
  obtain ⟨its, rv, pl, _⟩ := I.list hs
  have hi := ints_of rv
  have hl := hi.length
  refine sorted_ints pl.isList hi (by omega) fun out ns' a1 a2 a3 => ?_
  obtain ⟨e, he⟩ := sortedAll_at s.heap its out
  have hn : H (s.heap.objs.size + 1) = none := I.hok.fresh (Nat.le_succ _)
  refine ⟨.ref (s.heap.objs.size + 1), upd H (s.heap.objs.size + 1) (.lst (ns'.map V.int)), I.laid (o := .lst (ns'.map V.int)) (t' := s.toks) (fun _ _ => sortedAll_old) (Nat.le_succ _) (show ObjOk _ _ _ _ _ (.lst _) from ⟨?_, out.toList, e, vals_ints a1, ?_⟩), rfl, q _ ns' hn a2 a3⟩
  · rw [List.length_map, a2.length_eq]
    have : (64 : Nat) ≤ sizeLine := by decide
    omega
  · rw [he]
theorem call_sumI (hc : X.calm = true) : CallR X (.builtin "sum") (fun xs H Q => ∃ (p : Addr) (ns : List Int), xs = [.ref p] ∧ SqL X.K H p (ns.map V.int) ∧ Q (.int ns.sum) H) := by
  intro pins s σ H xs us Q I r h
  obtain ⟨p, ns, rfl, hs, q⟩ := h
  obtain ⟨u, rfl, rfl⟩ := vals1 r
  obtain ⟨its, rv, pl, _⟩ := I.list hs
  have hi := ints_of rv
  obtain ⟨xs, e⟩ := hi.allInts.items
  have pl' := pl.isList
  rw [e] at pl'
  refine sum_intListG (I.ok.hd hc) pl' fun h' tk t' hk => ?_
  have e2 : preSum (numAt xs) xs.size = ns.sum := by
    rw [preSum_eq, List.take_of_length_le (by simp), ← nums_intItems, ← e, show its.toArray.toList = its from rfl, hi.numsOf]
  rw [e2]
  exact ⟨.int ns.sum, H, I.kept hk, ⟨_, rfl⟩, q⟩
theorem vals_bls : ∀ {bs : List Bool} {its : List Value}, Vals (bs.map V.bl) its → its = bs.map Value.bool
  | [], _, r => by cases r; rfl
  | b :: bs, _, r => by
    cases r with
    | cons r1 r2 =>
      have e : _ = Value.bool b := r1
      subst e
      rw [List.map_cons, vals_bls r2]
theorem range_all (bs : List Bool) : (List.range bs.length).all (fun i => bs.getD i false) = bs.all id := by
  rw [Bool.eq_iff_iff, List.all_eq_true, List.all_eq_true]
  constructor
  · intro h b hb
    obtain ⟨i, hi, e⟩ := List.getElem_of_mem hb
    have := h i (List.mem_range.mpr hi)
    rw [List.getD_eq_getElem?_getD, List.getElem?_eq_getElem hi] at this
    simpa [e] using this
  · intro h i hi
    have hi' := List.mem_range.mp hi
    rw [List.getD_eq_getElem?_getD, List.getElem?_eq_getElem hi']
    exact h _ (List.getElem_mem hi')
theorem call_allB (hc : X.calm = true) : CallR X (.builtin "all") (fun xs H Q => ∃ (p : Addr) (bs : List Bool), xs = [.ref p] ∧ SqL X.K H p (bs.map V.bl) ∧ Q (.bl (bs.all id)) H) := by
  intro pins s σ H xs us Q I r h
  obtain ⟨p, bs, rfl, hs, q⟩ := h
  obtain ⟨u, rfl, rfl⟩ := vals1 r
  obtain ⟨its, rv, pl, _⟩ := I.list hs
  have e := vals_bls rv
  subst e
  have hlt : p < s.heap.objs.size := by obtain ⟨_, _, e, _⟩ := pl; exact Heap.lt_size e
  refine call_all_walk (wpAny_pyIter_list pl.isList ?_)
  refine ⟨_, _, _, _, _, _, fun i => bs.getD i false, rfl, Walks.list (A := X.A.in1) (I.ok.hd hc) _ p (Nat.ne_of_lt hlt) _, ⟨⟨_, Heap.get?_push_size _ rfl, rfl, rfl⟩, pl.isList.push _⟩, fun i v s' Q' E' hP hQ' => ?_, fun h' tk hk => ?_⟩
  · have hP' : (bs.map Value.bool)[i]? = some v := by simpa using hP
    rw [List.getElem?_map] at hP'
    cases hb : bs[i]? with
    | none => rw [hb] at hP'; cases hP'
    | some b =>
      rw [hb] at hP'
      cases hP'
      have hQ2 : Q' (bs.getD i false) s' := hQ'
      rw [List.getD_eq_getElem?_getD, hb] at hQ2
      exact wpAny_truthy_bool hQ2
  · have e2 : ((bs.map Value.bool).toArray.size) = bs.length := by simp
    rw [e2, range_all]
    refine ⟨.bl (bs.all id), H, I.kept (h' := h') (t' := tk) (fun b o e => hk b o ?_ (Heap.get?_push_of_some _ e)), rfl, q⟩
    intro z
    rw [List.mem_singleton.mp z] at e
    exact absurd (Heap.lt_size e) (Nat.lt_irrefl _)
theorem call_repr (hg : X.A.guards = some []) (hu : X.A.units + 66 < cLine) : CallR X (.builtin "repr") (fun xs H Q => ∃ a d, xs = [.ref a] ∧ DatV X.K H (.ref a) d ∧ d.showable = true ∧ d.hasDict = false ∧ d.depth ≤ 64 ∧ d.shown.length ≤ sizeLine ∧ Q (.str d.shown) H) := by
  intro pins s σ H xs us Q I r h
  obtain ⟨a, d, rfl, hd, h1, h2, h3, h4, q⟩ := h
  obtain ⟨u, rfl, rfl⟩ := vals1 r
  obtain ⟨as, ra⟩ := I.reads hd (u := .ref a) rfl
  exact repr_of_reads' ra h1 (fun z => by rw [h2] at z; cases z) hg (by omega) (fun _ _ e => e) (fun h' u tk hk => ⟨.str d.shown, H, I.kept hk, ⟨_, rfl⟩, q⟩) h4
end
end L2

set_option Elab.async false
set_option linter.all false
set_option maxRecDepth 100000
namespace Pc
open PySem L2
/-! ### loads: the table by lesser sides -/
/-- max(0, x) -/
def m0 (x : Int) : Int := if x > 0 then x else 0
theorem m0_nn (x : Int) : 0 ≤ m0 x := by unfold m0; split <;> omega
def gI (l : List Int) (i : Int) : Int := l.getD i.toNat 0
def bst (b : Int) (ws ls : List Int) (s : Int) : Nat → Int × Int
  | 0 => (0, 0)
  | k + 1 => if (bst b ws ls s k).1 < gI ws k + gI ls (m0 (s - (k + 1) - b)) then (gI ws k + gI ls (m0 (s - (k + 1) - b)), (k : Int) + 1) else bst b ws ls s k
def tab (b : Int) (ws : List Int) : Nat → List Int × List Int
  | 0 => ([0], [0])
  | n + 1 => ((tab b ws n).1 ++ [(bst b ws (tab b ws n).1 (n + 1) (n + 1)).1], (tab b ws n).2 ++ [(bst b ws (tab b ws n).1 (n + 1) (n + 1)).2])
def Ld (b : Int) (ws : List Int) (n : Nat) : Int := (tab b ws n).1.getD n 0
def Sst (b : Int) (ws : List Int) (n : Nat) : Int := (tab b ws n).2.getD n 0
theorem tab_len (b : Int) (ws : List Int) : ∀ n, (tab b ws n).1.length = n + 1 ∧ (tab b ws n).2.length = n + 1
  | 0 => ⟨rfl, rfl⟩
  | n + 1 => by
    obtain ⟨h1, h2⟩ := tab_len b ws n
    simp only [tab, List.length_append, List.length_cons, List.length_nil, h1, h2]
    exact ⟨trivial, trivial⟩
theorem tab_at (b : Int) (ws : List Int) : ∀ (n i : Nat), i ≤ n → (tab b ws n).1.getD i 0 = Ld b ws i ∧ (tab b ws n).2.getD i 0 = Sst b ws i
  | 0, i, h => by
    have e : i = 0 := by omega
    subst e; exact ⟨rfl, rfl⟩
  | n + 1, i, h => by
    by_cases e : i = n + 1
    · subst e; exact ⟨rfl, rfl⟩
    · have hi : i ≤ n := by omega
      obtain ⟨q1, q2⟩ := tab_at b ws n i hi
      obtain ⟨l1, l2⟩ := tab_len b ws n
      rw [← q1, ← q2]
      simp only [tab, List.getD_eq_getElem?_getD]
      rw [List.getElem?_append_left (by omega), List.getElem?_append_left (by omega)]
      exact ⟨rfl, rfl⟩
theorem Ld_zero (b : Int) (ws : List Int) : Ld b ws 0 = 0 := rfl
theorem Sst_zero (b : Int) (ws : List Int) : Sst b ws 0 = 0 := rfl
theorem Ld_succ (b : Int) (ws : List Int) (n : Nat) : Ld b ws (n + 1) = (bst b ws (tab b ws n).1 (n + 1) (n + 1)).1 := by
  have l1 := (tab_len b ws n).1
  unfold Ld
  simp only [tab, List.getD_eq_getElem?_getD]
  rw [List.getElem?_append_right (by omega), l1, Nat.sub_self]
  rfl
theorem Sst_succ (b : Int) (ws : List Int) (n : Nat) : Sst b ws (n + 1) = (bst b ws (tab b ws n).1 (n + 1) (n + 1)).2 := by
  have l1 := (tab_len b ws n).2
  unfold Sst
  simp only [tab, List.getD_eq_getElem?_getD]
  rw [List.getElem?_append_right (by omega), l1, Nat.sub_self]
  rfl
theorem bst_ge (b : Int) (ws ls : List Int) (s : Int) : ∀ (k j : Nat), j < k → gI ws j + gI ls (m0 (s - (j + 1) - b)) ≤ (bst b ws ls s k).1
  | 0, _, h => absurd h (Nat.not_lt_zero _)
  | k + 1, j, h => by
    simp only [bst]
    by_cases e : j = k
    · subst e
      split
      · exact Int.le_refl _
      · omega
    · have := bst_ge b ws ls s k j (by omega)
      split
      · omega
      · exact this
theorem bst_is (b : Int) (ws ls : List Int) (s : Int) : ∀ k : Nat, bst b ws ls s k = (0, 0) ∨ ∃ j : Nat, j < k ∧ (bst b ws ls s k).2 = (j : Int) + 1 ∧ (bst b ws ls s k).1 = gI ws j + gI ls (m0 (s - (j + 1) - b)) ∧ 0 < (bst b ws ls s k).1
  | 0 => .inl rfl
  | k + 1 => by
    have ih := bst_is b ws ls s k
    have nn : 0 ≤ (bst b ws ls s k).1 := by
      rcases ih with e | ⟨_, _, _, _, e⟩
      · rw [e]; exact Int.le_refl _
      · omega
    simp only [bst]
    split
    · rename_i c
      exact .inr ⟨k, Nat.lt_succ_self _, rfl, rfl, by dsimp only; omega⟩
    · rcases ih with e | ⟨j, h1, h2⟩
      · exact .inl e
      · exact .inr ⟨j, by omega, h2⟩
theorem m0_lt {n j : Nat} {b : Int} (hb : 0 ≤ b) : (m0 (((n : Int) + 1) - (j + 1) - b)).toNat ≤ n := by unfold m0; split <;> omega
/-- the load of a side is no less than a length and the load behind it -/
theorem Ld_ge {b : Int} {ws : List Int} (hb : 0 ≤ b) (n j : Nat) (h : j ≤ n) : gI ws j + Ld b ws (m0 (((n : Int) + 1) - (j + 1) - b)).toNat ≤ Ld b ws (n + 1) := by
  have h1 := bst_ge b ws (tab b ws n).1 ((n : Int) + 1) (n + 1) j (by omega)
  rw [Ld_succ, ← (tab_at b ws n _ (m0_lt (n := n) (j := j) hb)).1]
  exact h1
theorem LS_is {b : Int} {ws : List Int} (hb : 0 ≤ b) (n : Nat) : (Ld b ws (n + 1) = 0 ∧ Sst b ws (n + 1) = 0) ∨ ∃ j : Nat, j ≤ n ∧ Sst b ws (n + 1) = (j : Int) + 1 ∧ Ld b ws (n + 1) = gI ws j + Ld b ws (m0 (((n : Int) + 1) - (j + 1) - b)).toNat := by
  rw [Ld_succ, Sst_succ]
  rcases bst_is b ws (tab b ws n).1 ((n : Int) + 1) (n + 1) with e | ⟨j, h1, h2, h3, _⟩
  · rw [e]; exact .inl ⟨rfl, rfl⟩
  · refine .inr ⟨j, by omega, h2, ?_⟩
    rw [h3, ← (tab_at b ws n _ (m0_lt (n := n) (j := j) hb)).1]
    rfl
/-- the lengths to which the steps lead -/
def lens (b : Int) (st : List Int) : Nat → Int → List Int
  | 0, _ => []
  | f + 1, s => if 0 < s ∧ 0 < gI st s then gI st s :: lens b st f (s - (gI st s + b)) else []
theorem lens_stop {b : Int} {st : List Int} {f : Nat} {s : Int} (h : ¬ (0 < s ∧ 0 < gI st s)) : lens b st f s = [] := by
  cases f with
  | zero => rfl
  | succ f => simp only [lens]; rw [if_neg h]
theorem lens_go {b : Int} {st : List Int} {f : Nat} {s : Int} (h : 0 < s ∧ 0 < gI st s) : lens b st (f + 1) s = gI st s :: lens b st f (s - (gI st s + b)) := by
  simp only [lens]; rw [if_pos h]
/-- more fuel changes nothing -/
theorem lens_fuel {b : Int} {st : List Int} (hb : 0 ≤ b) : ∀ (f : Nat) (s : Int), s ≤ f → ∀ g : Nat, s ≤ g → lens b st f s = lens b st g s
  | 0, s, h, g, hg => by
    have c : ¬ (0 < s ∧ 0 < gI st s) := by omega
    rw [lens_stop c, lens_stop c]
  | f + 1, s, h, g, hg => by
    by_cases c : 0 < s ∧ 0 < gI st s
    · obtain ⟨g', rfl⟩ : ∃ g', g = g' + 1 := ⟨g - 1, by omega⟩
      rw [lens_go c, lens_go c, lens_fuel hb f _ (by omega) g' (by omega)]
    · rw [lens_stop c, lens_stop c]
/-- what lengths take up -/
def taken (b : Int) (l : List Int) : Int := l.sum + b * m0 ((l.length : Int) - 1)
theorem taken_cons {b x : Int} {l : List Int} : taken b (x :: l) = x + (if l = [] then 0 else b + taken b l) := by
  unfold taken m0
  cases l with
  | nil => simp
  | cons y l =>
    simp only [List.sum_cons, List.length_cons, reduceCtorEq, if_false]
    rw [if_pos (by omega)]
    by_cases h : (0 : Int) < (l.length : Int)
    · rw [if_pos (by omega)]
      have e1 : ((l.length + 1 + 1 : Nat) : Int) - 1 = (l.length : Int) + 1 := by omega
      have e2 : ((l.length + 1 : Nat) : Int) - 1 = (l.length : Int) := by omega
      rw [e1, e2, Int.mul_add, Int.mul_one]; omega
    · have e : l = [] := by
        cases l with
        | nil => rfl
        | cons z l => exact absurd (by simp only [List.length_cons]; omega) h
      subst e
      simp
      omega
theorem lens_ok {b : Int} {ws : List Int} (hb : 0 ≤ b) {m : Nat} : ∀ (s : Nat), s ≤ m → ∀ f : Nat, s ≤ f → (∀ x ∈ lens b (tab b ws m).2 f s, 1 ≤ x ∧ x ≤ s) ∧ taken b (lens b (tab b ws m).2 f s) ≤ s ∧ ((lens b (tab b ws m).2 f s).map fun x => gI ws (x - 1)).sum = Ld b ws s ∧ (lens b (tab b ws m).2 f s).length ≤ s := by
  intro s
  induction s using Nat.strongRecOn with
  | ind s ih =>
    intro hs f hf
    cases s with
    | zero =>
      rw [lens_stop (by omega)]
      refine ⟨fun x hx => by simp at hx, ?_, rfl, Nat.zero_le _⟩
      show (0 : Int) + b * m0 (((0 : Nat) : Int) - 1) ≤ _
      have : m0 (((0 : Nat) : Int) - 1) = 0 := by unfold m0; rw [if_neg (by omega)]
      rw [this]; simp
    | succ n =>
      have eS : gI (tab b ws m).2 ((n + 1 : Nat) : Int) = Sst b ws (n + 1) := (tab_at b ws m (n + 1) hs).2
      rcases LS_is (ws := ws) hb n with ⟨e1, e2⟩ | ⟨j, hj, e1, e2⟩
      · rw [lens_stop (by rw [eS, e2]; omega), e1]
        refine ⟨fun x hx => by simp at hx, ?_, rfl, Nat.zero_le _⟩
        have : m0 (((0 : Nat) : Int) - 1) = 0 := by unfold m0; rw [if_neg (by omega)]
        show (0 : Int) + b * m0 (((0 : Nat) : Int) - 1) ≤ _
        rw [this]; omega
      · obtain ⟨f', rfl⟩ : ∃ f', f = f' + 1 := ⟨f - 1, by omega⟩
        rw [lens_go (by rw [eS, e1]; omega), eS, e1]
        -- what is left
        by_cases c : 0 < ((n + 1 : Nat) : Int) - ((j : Int) + 1 + b)
        · obtain ⟨r, hr⟩ : ∃ r : Nat, ((n + 1 : Nat) : Int) - ((j : Int) + 1 + b) = r := ⟨(((n + 1 : Nat) : Int) - ((j : Int) + 1 + b)).toNat, by omega⟩
          rw [hr]
          obtain ⟨i1, i2, i3, i4⟩ := ih r (by omega) (by omega) f' (by omega)
          have em : (m0 (((n : Int) + 1) - (j + 1) - b)).toNat = r := by unfold m0; rw [if_pos (by omega)]; omega
          rw [em] at e2
          refine ⟨fun x hx => ?_, ?_, ?_, ?_⟩
          · rcases List.mem_cons.mp hx with z | z
            · subst z; omega
            · have := i1 x z; omega
          · rw [taken_cons]
            split
            · omega
            · omega
          · rw [List.map_cons, List.sum_cons, i3, e2]
            congr 1
            show gI ws ((j : Int) + 1 - 1) = gI ws j
            rw [Int.add_sub_cancel]
          · rw [List.length_cons]; omega
        · rw [lens_stop (by omega)]
          have em : (m0 (((n : Int) + 1) - (j + 1) - b)).toNat = 0 := by unfold m0; split <;> omega
          rw [em, Ld_zero] at e2
          refine ⟨fun x hx => ?_, ?_, ?_, ?_⟩
          · have z := List.mem_singleton.mp hx
            subst z; omega
          · rw [taken_cons, if_pos rfl]; omega
          · rw [e2]
            show gI ws ((j : Int) + 1 - 1) + 0 = _
            rw [Int.add_sub_cancel]
          · show 1 ≤ n + 1; omega
theorem sum_perm {l l' : List Int} (h : l.Perm l') : l.sum = l'.sum := by
  induction h with
  | nil => rfl
  | cons x _ ih => rw [List.sum_cons, List.sum_cons, ih]
  | swap x y l => simp only [List.sum_cons]; omega
  | trans _ _ a b => exact a.trans b
theorem sum_map_perm {f : Int → Int} {l l' : List Int} (h : l.Perm l') : (l.map f).sum = (l'.map f).sum := sum_perm (h.map f)
theorem Ld_nn {b : Int} {ws : List Int} (n : Nat) : 0 ≤ Ld b ws n := by
  cases n with
  | zero => exact Int.le_refl _
  | succ n =>
    rw [Ld_succ]
    rcases bst_is b ws (tab b ws n).1 ((n : Int) + 1) (n + 1) with e | ⟨j, h1, h2, h3, h4⟩
    · rw [e]; exact Int.le_refl _
    · omega
/-- no weight is above M: then no load is above a side times that -/
theorem Ld_le {b : Int} {ws : List Int} (hb : 0 ≤ b) {M : Int} (hM : ∀ i, gI ws i ≤ M) (hM0 : 0 ≤ M) : ∀ n : Nat, Ld b ws n ≤ n * M := by
  intro n
  induction n using Nat.strongRecOn with
  | ind n ih =>
    cases n with
    | zero => rw [Ld_zero]; simp
    | succ n =>
      rcases LS_is (ws := ws) hb n with ⟨e1, _⟩ | ⟨j, hj, _, e2⟩
      · rw [e1]; exact Int.mul_nonneg (by omega) hM0
      · rw [e2]
        have h1 := hM j
        have h2 := m0_lt (n := n) (j := j) hb
        have h3 := ih _ (Nat.lt_succ_of_le h2)
        have h4 : ((m0 (((n : Int) + 1) - (j + 1) - b)).toNat : Int) * M ≤ (n : Int) * M := Int.mul_le_mul_of_nonneg_right (by omega) hM0
        have h5 : ((n + 1 : Nat) : Int) * M = n * M + M := by rw [Int.natCast_add, Int.add_mul]; simp
        omega
end Pc

set_option Elab.async false
set_option linter.all false
set_option maxRecDepth 100000
namespace L2
open PySem PySem.Spec PyProof.Rows
section
variable {X : Cx}
/-- products of great numbers -/
def CMulB (i j : Int) : Prop := i.natAbs < 2 ^ 4096 ∧ j.natAbs < 2 ^ 4096
theorem bits_le {k : Int} (h : k.natAbs < 2 ^ 4096) : Builtin.Int.intBits k ≤ 2 ^ 20 := by
  have e : (2 : Nat) ^ 20 = 1048576 := by decide
  unfold Builtin.Int.intBits
  split
  · exact Nat.zero_le _
  · have : k.natAbs.log2 < 4096 := by
      rcases Nat.eq_zero_or_pos k.natAbs with h0 | hp
      · rw [h0]; decide
      · exact (Nat.log2_lt (Nat.ne_of_gt hp)).mpr h
    omega
theorem CMulB.ok {i j : Int} (h : CMulB i j) : IntMulOk i j := .of_bits (bits_le h.1) (bits_le h.2)
theorem op_mulB : OpR X (binaryOp .Mult) (rI CMulB fun i j => .int (i * j)) := opI fun _ _ _ _ _ _ _ hc q => mul_int q hc.ok
end
theorem atI_int {α : Type} {xs : List α} {i : Int} {v : α} (h0 : 0 ≤ i) (h : xs[i.toNat]? = some v) : atI xs i = some v := by
  have e : i = ((i.toNat : Nat) : Int) := by omega
  have z : atI xs ((i.toNat : Nat) : Int) = some v := atI_nat h
  rw [← e] at z; exact z
end L2
namespace Pc
open PySem L2
/-- a pot of the later laws -/
def PotB (H : Hp) (p : Addr) : Prop := ∃ a b : Int, 0 ≤ a ∧ 0 ≤ b ∧ b < 2147483648 ∧ H p = some (.lst [.int a, .int b])
theorem PotB.new {H : Hp} {p q : Addr} {o : HO} (x : PotB H p) (h : H q = none) : PotB (upd H q o) p := by
  obtain ⟨a, b, h1, h2, h3, e⟩ := x
  exact ⟨a, b, h1, h2, h3, by rw [upd_ne (ne_of_none e h)]; exact e⟩
theorem PotB.same {H H' : Hp} {p : Addr} (x : PotB H p) (s : Same H H') : PotB H' p := by
  obtain ⟨a, b, h1, h2, h3, e⟩ := x
  exact ⟨a, b, h1, h2, h3, s _ _ e⟩
theorem PotB.some {H : Hp} {p : Addr} (x : PotB H p) : H p ≠ none := by
  obtain ⟨a, b, h1, h2, h3, e⟩ := x
  rw [e]; exact fun z => by cases z
theorem PotB.ne {H : Hp} {p q : Addr} (x : PotB H p) (h : H q = none) : p ≠ q := fun z => x.some (z ▸ h)
theorem But.freeB {p q : Addr} {H H' : Hp} (b : But p H H') (x : PotB H' p) (h : H' q = none) : q ≠ p ∧ H q = none := by
  have n : q ≠ p := fun z => x.some (z ▸ h)
  refine ⟨n, ?_⟩
  cases e : H q with
  | none => rfl
  | some o => rw [b q o n e] at h; cases h
def spCell (K : PySem.W.Frag) : Sp := fun vs H Q _ => ∃ (a : Addr) (ns : List Int) (n : Int), vs = [.ref a, .int n] ∧ SqL K H a (ns.map V.int) ∧ 0 ≤ n ∧ ∀ c : Int, Q (.int c) H
def spPotB : Sp := fun vs H Q _ => ∃ (c : Int), vs = [.int c] ∧ ∀ (p : Addr) (H' : Hp), H p = none → PotB H' p → Same H H' → Q (.ref p) H'
def spDrawB : Sp := fun vs H Q _ => ∃ (p : Addr) (m : Int), vs = [.ref p, .int m] ∧ PotB H p ∧ 0 < m ∧ m ≤ 10 ^ 60 ∧ ∀ (r : Int) (H' : Hp), 0 ≤ r → r < m → PotB H' p → But p H H' → Q (.int r) H'
def spGreat : Sp := fun vs H Q _ => ∃ (p : Addr), vs = [.ref p] ∧ PotB H p ∧ ∀ (r : Int) (H' : Hp), 0 ≤ r → r < 10 ^ 58 → PotB H' p → But p H H' → Q (.int r) H'
end Pc

set_option Elab.async false
set_option linter.all false
set_option maxRecDepth 100000
namespace L2
open PySem
theorem Room.units66 {k : Nat} {A : Around} (r : Room k A) : A.units + 66 < cLine := by have := r.un; omega
end L2
namespace Pc
open PySem L2
/-! ### lists of ints as data -/
def dI (ns : List Int) : PyData := .list (ns.map PyData.int)
theorem datI {K : PySem.W.Frag} {H : Hp} : ∀ ns : List Int, DatVs K H (ns.map V.int) (ns.map PyData.int)
  | [] => .nil
  | n :: r => .cons (.int n) (datI r)
theorem canI : ∀ ns : List Int, PyData.canLayAll0 (ns.map PyData.int) = true
  | [] => rfl
  | n :: r => by simp [PyData.canLayAll0, PyData.canLay0, canI r]
theorem depI : ∀ ns : List Int, PyData.depthAll (ns.map PyData.int) = 0
  | [] => rfl
  | n :: r => by simp [PyData.depthAll, PyData.depth, depI r]
theorem shapedI (ns : List Int) : SeqAt.shaped (dI ns) = true := by
  unfold dI
  simp [SeqAt.shaped, PyData.canLay0, PyData.depth, canI ns, depI ns]
theorem eqvAllI : ∀ ns : List Int, PyData.eqvAll (ns.map PyData.int) (ns.map PyData.int) = true
  | [] => rfl
  | n :: r => by simp [PyData.eqvAll, PyData.eqv, eqvAllI r]
theorem eqvI (ns : List Int) : PyData.eqv (dI ns) (dI ns) = true := by
  unfold dI
  simp [PyData.eqv, eqvAllI ns]
def Short (i : Int) : Prop := i.natAbs < 10 ^ 62
theorem Short.log {i : Int} (h : Short i) : i.natAbs.log2 < 1920 := by
  unfold Short at h
  rcases Nat.eq_zero_or_pos i.natAbs with h0 | hp
  · rw [h0]; decide
  · refine (Nat.log2_lt (Nat.ne_of_gt hp)).mpr (Nat.lt_trans h ?_)
    decide +kernel
theorem Short.len {i : Int} (h : Short i) : (PyData.shown (.int i)).length ≤ 63 := by
  show (Str.ofString (toString i)).length ≤ 63
  rw [ofString_length]
  exact int_text_length_le10 (by decide) h
theorem showI : ∀ ns : List Int, (∀ x ∈ ns, Short x) → PyData.showableAll (ns.map PyData.int) = true
  | [], _ => rfl
  | n :: r, h => by
    have h1 := (h n (List.mem_cons_self ..)).log
    have h2 := showI r fun x hx => h x (List.mem_cons_of_mem _ hx)
    simp [PyData.showableAll, PyData.showable, h1, h2]
theorem noDI : ∀ ns : List Int, PyData.hasDictAll (ns.map PyData.int) = false
  | [] => rfl
  | n :: r => by simp [PyData.hasDictAll, PyData.hasDict, noDI r]
theorem lenI : ∀ ns : List Int, (∀ x ∈ ns, Short x) → ((PyData.shownAll (ns.map PyData.int)).map (·.length)).sum ≤ 63 * ns.length ∧ (PyData.shownAll (ns.map PyData.int)).length = ns.length
  | [], _ => ⟨Nat.le_refl _, rfl⟩
  | n :: r, h => by
    have h1 := (h n (List.mem_cons_self ..)).len
    have h2 := lenI r fun x hx => h x (List.mem_cons_of_mem _ hx)
    simp only [List.map_cons, PyData.shownAll, List.sum_cons, List.length_cons]
    omega
/-- (load, [lengths]) -/
def dLd (L : Int) (ns : List Int) : PyData := .tuple [.int L, dI ns]
theorem dLd_ok {L : Int} {ns : List Int} (hL : Short L) (hn : ∀ x ∈ ns, Short x) (hl : ns.length ≤ 100) : (dLd L ns).showable = true ∧ (dLd L ns).hasDict = false ∧ (dLd L ns).depth ≤ 64 ∧ (dLd L ns).shown.length ≤ sizeLine := by
  have h1 := hL.log
  refine ⟨?_, ?_, ?_, ?_⟩
  · simp [dLd, dI, PyData.showable, PyData.showableAll, h1, showI ns hn]
  · simp [dLd, dI, PyData.hasDict, PyData.hasDictAll, noDI ns]
  · simp [dLd, dI, PyData.depth, PyData.depthAll, depI ns]
  · obtain ⟨s1, s2⟩ := lenI ns hn
    have a1 := listText_len_le (PyData.shownAll (ns.map PyData.int))
    have a2 := tupleText_len_le [PyData.shown (.int L), PyData.shown (dI ns)]
    have a3 := hL.len
    have e : (PyData.shown (dI ns)) = listText (PyData.shownAll (ns.map PyData.int)) := by simp only [dI, PyData.shown]
    have e2 : (dLd L ns).shown = tupleText [PyData.shown (.int L), PyData.shown (dI ns)] := by simp only [dLd, PyData.shown, PyData.shownAll]
    rw [e2]
    simp only [List.map_cons, List.map_nil, List.sum_cons, List.sum_nil, List.length_cons, List.length_nil] at a2
    rw [e] at a2 ⊢
    have : (20000 : Nat) ≤ sizeLine := by decide
    omega
end Pc

set_option Elab.async false
set_option linter.all false
set_option maxRecDepth 100000
namespace L2
open PySem PySem.Spec PyProof.Rows
/-! ### repr of data with dicts -/
mutual
inductive DatD (K : PySem.W.Frag) (H : Hp) : V → PyData → Prop
  | non : DatD K H .non .none
  | bl (b : Bool) : DatD K H (.bl b) (.bool b)
  | int (i : Int) : DatD K H (.int i) (.int i)
  | str (x : Str) : DatD K H (.str x) (.str x)
  | lst {a : Addr} {xs : List V} {ds : List PyData} : SqL K H a xs → DatDs K H xs ds → DatD K H (.ref a) (.list ds)
  | tup {a : Addr} {xs : List V} {ds : List PyData} : SqT K H a xs → DatDs K H xs ds → DatD K H (.ref a) (.tuple ds)
  | dct {a : Addr} {kv : List (Int × Int)} : H a = some (.dK (kv.map fun p => (Sum.inl p.1, V.int p.2))) → DatD K H (.ref a) (.dict (kv.map fun p => (.int p.1, .int p.2)))
inductive DatDs (K : PySem.W.Frag) (H : Hp) : List V → List PyData → Prop
  | nil : DatDs K H [] []
  | cons {x : V} {d : PyData} {xs : List V} {ds : List PyData} : DatD K H x d → DatDs K H xs ds → DatDs K H (x :: xs) (d :: ds)
end
def SysIn (K : PySem.W.Frag) : Prop := ∃ o, K.lookup sysModules = some o ∧ o.cls = .type "dict"
section
variable {X : Cx} {pins : List (Addr × Obj)} {σ : St} {H : Hp} {s : Shared}
theorem dict_reads {h : Heap} {P : Program} {w : World} : ∀ {es : List DictEntry} {kv : List (Int × Int)} {vs : List (Key × Value)}, KV (kv.map fun p => ((Sum.inl p.1 : Key), V.int p.2)) vs → Pairs (mixKind P w) es vs →
    ReadsAll h (es.map (·.key)) ((kv.map fun p => (PyData.int p.1, PyData.int p.2)).map (·.1)) [] ∧ ReadsAll h (es.map (·.val)) ((kv.map fun p => (PyData.int p.1, PyData.int p.2)).map (·.2)) []
  | es, [], vs, k, p => by
    cases k
    cases p
    exact ⟨.nil, .nil⟩
  | es, (i, j) :: kv, vs, k, p => by
    cases k with
    | @cons _ q _ l2 k1 k2 =>
      obtain ⟨e1, t, e2⟩ := k1
      cases p with
      | @cons e _ es' vs' p1 p2 p3 =>
        obtain ⟨q1, q2⟩ := q
        have e1' : (Sum.inl i : Key) = q1 := e1
        subst e1'
        obtain ⟨t', ek⟩ := Value.isInt_shape (k := i) (v := e.key) p1
        have e2' : q2 = Value.int j t := e2
        obtain ⟨r1, r2⟩ := dict_reads (h := h) k2 p3
        have ev : e.val = Value.int j t := by rw [p2]; exact e2'
        refine ⟨?_, ?_⟩
        · simp only [List.map_cons]
          rw [ek]
          exact .cons (as := []) (.int i t') r1
        · simp only [List.map_cons]
          rw [ev]
          exact .cons (as := []) (.int j t) r2
mutual
theorem Inv.readsD (I : Inv X pins σ H s) (sm : SysIn X.K) : ∀ {v : V} {d : PyData}, DatD X.K H v d → ∀ {u : Value}, RelV v u → ∃ as, Reads s.heap u d as ∧ sysModules ∉ as
  | _, _, .non, u, r => by cases (show u = Value.none from r); exact ⟨_, .none, by simp⟩
  | _, _, .bl b, u, r => by cases (show u = Value.bool b from r); exact ⟨_, .bool b, by simp⟩
  | _, _, .int i, u, r => by obtain ⟨t, e⟩ := (show ∃ t, u = Value.int i t from r); subst e; exact ⟨_, .int i t, by simp⟩
  | _, _, .str x, u, r => by obtain ⟨t, e⟩ := (show ∃ t, u = Value.str x t from r); subst e; exact ⟨_, .str x t, by simp⟩
  | _, _, .lst (a := a) h hs, u, r => by
    cases (show u = Value.ref a from r)
    obtain ⟨its, rv, ⟨o, n, e, c, _, d⟩, _⟩ := I.list h
    obtain ⟨as, ra, na⟩ := I.readsAllD sm hs rv
    refine ⟨_, .list e c d (by simpa using ra), ?_⟩
    intro z
    rcases List.mem_cons.mp z with z | z
    · obtain ⟨o', k1, k2⟩ := sm
      have k3 := I.kIn _ _ k1
      rw [z, e] at k3
      cases k3
      rw [c] at k2
      simp at k2
    · exact na z
  | _, _, .tup (a := a) h hs, u, r => by
    cases (show u = Value.ref a from r)
    obtain ⟨its, rv, ⟨o, e, c, n, d⟩, _⟩ := I.tuple h
    obtain ⟨as, ra, na⟩ := I.readsAllD sm hs rv
    exact ⟨_, .tuple e c d (by simpa using ra), na⟩
  | _, _, .dct (a := a) (kv := kv) h, u, r => by
    cases (show u = Value.ref a from r)
    obtain ⟨_, ne, vs, kv', o, es, ep, h1, h2, h3, _, h5, _⟩ := I.hok a _ h
    obtain ⟨r1, r2⟩ := dict_reads (h := s.heap) kv' h5
    refine ⟨_, .dict h1 h2.1 h3 r1 r2, ?_⟩
    intro z
    have z' : sysModules = a := by simpa using z
    rw [z'] at ne
    simp at ne
theorem Inv.readsAllD (I : Inv X pins σ H s) (sm : SysIn X.K) : ∀ {vs : List V} {ds : List PyData}, DatDs X.K H vs ds → ∀ {us : List Value}, Vals vs us → ∃ as, ReadsAll s.heap us ds as ∧ sysModules ∉ as
  | _, _, .nil, _, .nil => ⟨_, .nil, by simp⟩
  | _, _, .cons h hs, _, .cons r rs => by
    obtain ⟨as, ra, na⟩ := I.readsD sm h r
    obtain ⟨bs, rb, nb⟩ := I.readsAllD sm hs rs
    exact ⟨_, .cons ra rb, fun z => (List.mem_append.mp z).elim na nb⟩
end
theorem call_reprD (sm : SysIn X.K) (hg : X.A.guards = some []) (hu : X.A.units + 66 < cLine) : CallR X (.builtin "repr") (fun xs H Q => ∃ a d, xs = [.ref a] ∧ DatD X.K H (.ref a) d ∧ d.showable = true ∧ d.depth ≤ 64 ∧ d.shown.length ≤ sizeLine ∧ Q (.str d.shown) H) := by
  intro pins s σ H xs us Q I r h
  obtain ⟨a, d, rfl, hd, h1, h3, h4, q⟩ := h
  obtain ⟨u, rfl, rfl⟩ := vals1 r
  obtain ⟨as, ra, na⟩ := I.readsD sm hd (u := .ref a) rfl
  exact repr_of_reads' ra h1 (fun _ => na) hg (by omega) (fun _ _ e => e) (fun h' u tk hk => ⟨.str d.shown, H, I.kept hk, ⟨_, rfl⟩, q⟩) h4
end
end L2

set_option Elab.async false
set_option linter.all false
set_option maxRecDepth 100000
namespace L2
open PySem PySem.Spec PyProof.Rows
/-! ### a def that may raise, called; try: x = f(..) except C as n: .. -/
section
variable {X : Cx} {k : Nat} {ps : List Str} {sp : Sp} {x : Str} {p pos : Pos} {e : Expr} {es : List Expr} {t : TA}
def DnX (P : Program) (w : World) (K : PySem.W.Frag) (mg : Str → Option Value) (base : Heap) (x : Str) (ps : List Str) (k : Nat) (sp : Sp) : Prop :=
  ∃ (f : Addr) (fd : FuncData), FnOk P w K mg base (CXx P w) k f fd ps sp ∧ Binds K fd ps [] ∧ PySem.W.keepIn K (.ref f) = true ∧ mg x = some (.ref f)
def tCallX (sp : Sp) (t : TA) : TX := fun σ H Q E => t σ H fun vs H1 => sp vs H1 Q E
theorem pex_cD (D : DnX X.prog X.w X.K X.mg X.base x ps k sp) (hr : Room k X.A) (hg : Gl X x) (ha : PA X.nox (e :: es) t)
    (hdb : (x == ("__debug__" : Str)) = false := by decide) (he : starEach (e :: es) X.env = (false, eval e X.env) :: starEach es X.env := by rfl) (hpl : (backTo pos (starEach es X.env)).any (·.1) = false := by rfl) :
    PEx X (.Call (.Name x p) (e :: es) [] pos) (tCallX sp t) := by
  obtain ⟨f, fd, F, hb, hk, hm⟩ := D
  intro pins s σ H Q E I h
  refine wpAny_Call_Name_kw (ld_glob I hg hm ?_ hdb)
  refine PySem.W.callWith_K (h₀ := X.base) I.ok.mod.kin hk (wpAny_mono (ha pos pins s σ H _ (I.wish _) h) (fun us s1 ⟨vs, H1, I1, r, q⟩ => ⟨I1.kIn, ?_⟩) fun _ _ z => False.elim z) he hpl
  exact run_fnX F hr hb I1.unwish r q
end
def tTryA (K : PySem.W.Frag) (j i : Nat) (CE : Addr) (tx : TX) (ts : TS) : TS := fun D σ H => tx σ H (fun v H1 => D.nx (σ.set j (some v)) H1) (fun c _ H1 => PySem.W.exmOne K c (.ref CE) = some true ∧ ∀ ea, H1 ea = none →
  ts { nx := fun σ2 H2 => D.nx (σ2.set i none) H2, rt := D.rt, bk := fun σ2 H2 => D.bk (σ2.set i none) H2, ct := fun σ2 H2 => D.ct (σ2.set i none) H2 } (σ.set i (some (.ref ea))) (upd H1 ea (.ext (IsA ea c))))
section
variable {X : Cx} {e : Expr} {tx : TX} {ts : TS} {i j : Nat} {n m y : Str} {CE : Addr} {b₀ : Stmt} {suite : List Stmt} {np mp hpos epos pos : Pos}
theorem ps_tryA (hst : X.stack = X.env :: X.outer) (hfr : X.env.frame = some X.env.locals) (hex : X.ex = []) (he : PEx X e tx) (hN : X.N.Nodup) (hj : X.N[j]? = some m) (hl : X.env.scope.names.lookup m = some .local) (hi : X.N[i]? = some n) (hk : X.env.scope.names.lookup n = some .local) (hg : Gl X y) (hm : X.mg y = some (.ref CE))
    (hsu : ∀ ea, PSs (X.marked ea) (b₀ :: suite) ts) (hs : swapsWith e (some (.Name m mp)) epos.line X.env = pure false := by rfl) (hd : (y == ("__debug__" : Str)) = false := by decide) :
    PS X (.Try [.Assign [.Name m mp] e epos] [.ExceptHandler (some (.Name y np)) (some n) (b₀ :: suite) hpos] [] [] pos) (tTryA X.K j i CE tx ts) := by
  intro pins s σ H D I h
  refine wpAny_Try_except (wpAny_execs_cons (wpAny_Assign_Name (wpAny_mono (he pins s σ H _ _ I h) (fun v s1 ⟨x, H1, I1, r1, q1⟩ => ?_) fun v s1 hx => ?_) hs))
  · exact store_ok I1 hN hj (.inl hl) r1 (fun s2 I2 => wpAny_execs_nil (wpAny_execs_nil ⟨_, H1, I2, q1⟩)) (.inr hl)
  obtain ⟨ea, c, H0, H', B, s0, rfl, I0, f, hm1, q⟩ := hx
  obtain ⟨a0, fl⟩ := f.fly
  rw [hst] at fl
  refine looks_onQ (by rw [← hst]; exact I.ok.frames) hfr fl f.ctx fun h4 held4 sm4 q4 => ?_
  refine landsQ held4 q4 fun h5 fl5 sm5 q5 => ?_
  have I5 : Inv X pins σ H' { s1 with heap := h5 } := f.inv (t := s1.toks) I0 fl5.1 (sm4.trans sm5)
  obtain ⟨ob, hob, hobc⟩ := fl5.there
  refine wpAny_handleBy_cons (codeAny_handlers_test (ld_glob (X := X.marked ea) (I5.mark ea) hg hm ?_ hd)) (by intro q; cases q)
  have LT : PySem.W.Looks (model X.prog X.w) h5 (typeOf (.ref ea)) c := hobc ▸ (PySem.W.Looks.ld hob).andThen .now
  refine (PySem.W.exm_one (M := model X.prog X.w) I5.kIn LT hm1).here ?_
  show codeAny _ _ _ _ _
  refine codeAny_handlers_suite_as ?_
  refine lands_againQ fl5 q5 fun h6 fl6 sm6 q6 => ?_
  have I6 : Inv X pins σ H' { s1 with heap := h6 } := f.inv (t := s1.toks) I0 fl6.1 ((sm4.trans sm5).trans sm6)
  have I7 : Inv X pins σ (upd H' ea (.ext (IsA ea c))) { s1 with heap := h6 } := by
    refine I6.track2 f.new.2 (fun z => ?_) ?_ (fun x c' e z => ?_) (fun p hp z => ?_) (IsA.obj (IsA.of fl6.there q6))
    · obtain ⟨m, ⟨o, _, _, ho, _⟩, _⟩ := I0.loc
      have := f.new.1
      rw [z, ho] at this; cases this
    · cases q' : X.s₀.heap.get? ea with
      | none => rfl
      | some o =>
        obtain ⟨o', e1⟩ := I0.base.there ea o q' (by rw [hex]; simp)
        have := f.new.1
        rw [e1] at this; cases this
    · obtain ⟨v, o, ho, _⟩ := I0.cell x c' e
      have := f.new.1
      rw [← z, ho] at this; cases this
    · have := (I0.pin p hp).1
      rw [z, f.new.1] at this; cases this
  refine store_ok (X := X.marked ea) (I7.mark ea) hN hi (.inl hk) (v := .ref ea) rfl (fun s7 I8 => ?_) (.inr hk)
  refine wpAny_mono (hsu ea pins s7 _ _ _ I8 (q ea f.new.2)) (fun fl s8 hq => ?_) fun _ _ z => False.elim z
  cases fl with
  | next =>
    obtain ⟨σ', H'', J, q'⟩ := hq
    exact name_gone (J.unmark I.ok) hN hi hk fun s9 J9 => ⟨_, _, J9, q'⟩
  | brk =>
    obtain ⟨σ', H'', J, q'⟩ := hq
    exact name_gone (J.unmark I.ok) hN hi hk fun s9 J9 => ⟨_, _, J9, q'⟩
  | cont =>
    obtain ⟨σ', H'', J, q'⟩ := hq
    exact name_gone (J.unmark I.ok) hN hi hk fun s9 J9 => ⟨_, _, J9, q'⟩
  | ret u =>
    obtain ⟨v, σ', H'', J, r, q'⟩ := hq
    exact name_gone (J.unmark I.ok) hN hi hk fun s9 J9 => ⟨_, _, _, J9, r, q'⟩
end
end L2

set_option Elab.async false
set_option linter.all false
set_option maxRecDepth 100000
namespace L2
open PySem PySem.Spec PyProof.Rows
/-! ### the end of a range within an except suite -/
theorem entry_unchain : entryFor table "proto.unchain" = some Builtin.«proto.unchain» := by
  exact entryFor_of_tree (by kernel_rfl)
section
variable {prog : Program} {w : World} {A : Around} {E : Value → Shared → Prop} {s : Shared}
theorem unchain_none {e : Value} {ea : Addr} {Q : Value → Shared → Prop} (q : Q2 ea s.heap) (h : Q .none s) : wpAny (model prog w) A (runValue (.builtin "proto.unchain" ⟨[e, .ref ea, .ref ea, .bool false], []⟩)) Q E s := by
  obtain ⟨oe, vs, he, hd, h2⟩ := q
  refine runValue_entry entry_unchain ?_
  show wpAny _ _ (field (.ref ea) 2 >>= _) _ _ s
  refine wpAny_bind (wpAny_field he hd h2 ?_)
  show wpAny _ _ (ret .none) _ _ s
  exact wpAny_pure ⟨_, rfl, h⟩
theorem range_endH {it ea : Addr} {x left step : Int} {Q : Option Value → Shared → Prop} (hh : A.handled = some (.ref ea)) (q2 : Q2 ea s.heap) (hit : IsRangeIter s.heap it x left step) (hleft : left ≤ 0)
    (hQ : ∀ h', Heap.ExtBut it s.heap h' → Q none { s with heap := h' }) : wpAny (model prog w) A (pyNext (.ref it)) Q E s := by
  have hT : s.TypeIs (.ref it) "range_iterator" := ⟨_, hit, rfl⟩
  unfold pyNext
  refine wpAny_bind (wpAny_attempt (wpAny_callSpecial?_slot (name := Str.ofString "__next__") hT F.slot_range_iterator_next
    (wpAny_call_entry F.slot_range_iterator_next hT F.entry_range_iterator_next ?_ (F.args_range_iterator_next_1 _))))
  show wpAny _ _ (field (.ref it) 0 >>= _) _ _ s
  refine wpAny_bind (wpAny_field hit rfl (x := rawInt x) rfl ?_)
  show wpAny _ _ (field (.ref it) 1 >>= _) _ _ s
  refine wpAny_bind (wpAny_field hit rfl (x := rawInt left) rfl ?_)
  show wpAny _ _ (field (.ref it) 2 >>= _) _ _ s
  refine wpAny_bind (wpAny_field hit rfl (x := rawInt step) rfl ?_)
  show wpAny _ _ (if left ≤ 0 then _ else _) _ _ s
  rw [if_pos hleft]
  refine wpAny_bind (wpAny_rule ?_)
  refine wpAny_bind ?_
  show wpAny _ _ (newExc (.type "StopIteration") [] >>= _) _ _ _
  refine wpAny_bind ?_
  simp only [newExc, newTuple]
  refine wpAny_bind (wpAny_newObj_type ?_ (by size_fits))
  refine wpAny_bind (m := firstArgMember _ _) (wpAny_of_eq (a := Value.none) (by first | rfl | (simp only [firstArgMember]; rfl)) ?_)
  refine wpAny_newObj_type ?_ (by size_fits)
  simp only [raiseNew]
  refine wpAny_bind (wpAny_handled ?_)
  rw [show A.in1.handled = some (.ref ea) from hh]
  dsimp only
  obtain ⟨oe, vs, he, hd, h2⟩ := id q2
  generalize hB : s.heap.push { cls := .type "tuple", dict := none, data := .seq ([] : List Value).toArray } = B
  have q3 : Q2 ea B := hB ▸ q2.push
  have hne : (Value.ref ea != Value.ref B.objs.size) = true := by
    obtain ⟨oe, vs, he, hd, h2⟩ := id q3
    exact bne_iff_ne.mpr fun z => Nat.ne_of_lt (Heap.lt_size he) (Value.ref.inj z)
  rw [if_pos hne]
  refine wpAny_bind (wpAny_holding (unchain_none q3.push ?_))
  have hE := Heap.get?_push_size (h := B) (o := { cls := .type "StopIteration", data := .fields (#[.ref s.heap.objs.size, .none, .none, .none, .bool false, Value.none] ++ ownMembersOf (.type "StopIteration") []) }) rfl
  refine wpAny_bind (wpAny_setField hE rfl (show 2 < 6 by decide) (wpAny_throw ?_))
  refine wpAny_bind (wpAny_isInstance (T := "StopIteration") (b := true) ⟨_, Heap.get?_update_self _ hE rfl, rfl⟩ isSubtype_stop ?_)
  refine wpAny_pure (hQ _ fun b o hb e => ?_)
  have e1 : B.get? b = some o := hB ▸ Heap.get?_push_of_some _ e
  exact (Heap.get?_update_other _ _ (Nat.ne_of_gt (Heap.lt_size e1))).trans (Heap.get?_push_of_some _ e1)
end

/-! ### a comprehension over a range within an except suite -/
/-- what is being handled stands in H, and bears no context -/
def QH (A : Around) (H : Hp) : Prop := ∃ ea c, A.handled = some (.ref ea) ∧ H ea = some (.ext (IsA ea c))
structure TurnH (P : Program) (w : World) (K : PySem.W.Frag) (tg : Expr) (J : It) (fp : List Addr) (it : Addr) (tn : Nat → Heap → Prop) : Prop where
  mem : it ∈ fp
  obj : ∀ i h, tn i h → ∀ b ∈ fp, ∃ o, h.get? b = some o ∧ ∀ v, o.data ≠ .cell v
  keep : ∀ i h h', tn i h → (∀ b ∈ fp, ∀ o, h.get? b = some o → h'.get? b = some o) → tn i h'
  item : ∀ (X : Cx), X.prog = P → X.w = w → X.K = K → ∀ (i : Nat) (pins : List (Addr × Obj)) (s : Shared) (σ : St) (H : Hp) (E : Value → Shared → Prop), QH X.A H → Inv X pins σ H s → (∀ b ∈ fp, FpOk X pins H b) → tn i s.heap → J.go i H →
    wpAny (model P w) X.A (pyNext (.ref it)) (fun r s1 => ∃ u, r = some u ∧
      wpAny (model P w) X.A (letOwnedTupleGo tg (.ref it) u) (fun _ s2 => ∃ x H', Inv X pins σ H' s2 ∧ RelV x u ∧ J.yld i H x H' ∧ tn (i + 1) s2.heap ∧ ∀ b ∈ fp, H' b = none) E s1) E s
  done : ∀ (X : Cx), X.prog = P → X.w = w → X.K = K → ∀ (i : Nat) (pins : List (Addr × Obj)) (s : Shared) (σ : St) (H : Hp) (E : Value → Shared → Prop), QH X.A H → Inv X pins σ H s → (∀ b ∈ fp, FpOk X pins H b) → tn i s.heap → J.stop i H →
    wpAny (model P w) X.A (pyNext (.ref it)) (fun r s1 => r = none ∧ Inv X pins σ H s1) E s
  self : ∀ (A : Around) (i : Nat) (s : Shared) (Q : Value → Shared → Prop) (E : Value → Shared → Prop), tn i s.heap → Q (.ref it) s → wpAny (model P w) A (pyIter (.ref it)) Q E s
theorem turn_rangeH {P : Program} {w : World} {K : PySem.W.Frag} {tg : Expr} (it : Addr) (lo : Int) (n : Nat) : TurnH P w K tg (Itr lo n) [it] it (fun i h => IsRangeIter h it (lo + (i : Nat) * 1) ((n : Int) - (i : Nat)) 1) where
  mem := (turn_range (P := P) (w := w) (K := K) (tg := tg) it lo n).mem
  obj := (turn_range (P := P) (w := w) (K := K) (tg := tg) it lo n).obj
  keep := (turn_range (P := P) (w := w) (K := K) (tg := tg) it lo n).keep
  item := by
    intro X hP hw hK i pins s σ H E qh I hf st hg
    subst hP hw hK
    obtain ⟨f0, f1, f2, f3, f4, f5⟩ := hf it (by simp)
    have hg : i < n := hg
    refine wpAny_pyNext_range_item st (by omega) fun h' st' sb => ?_
    have I1 : Inv X pins σ H { s with heap := h', toks := s.toks + 1 } := I.turned (fun b o hb e => sb.extBut b o hb e) f0 f1 f3 f4 f5
    have e1 : lo + ((i + 1 : Nat) : Int) * 1 = lo + (i : Int) * 1 + 1 := by push_cast; omega
    have e2 : (n : Int) - ((i + 1 : Nat) : Int) = (n : Int) - (i : Int) - 1 := by push_cast; omega
    rw [← e1, ← e2] at st'
    refine ⟨_, rfl, go_of (s := { s with heap := h', toks := s.toks + 1 }) (n := "range_iterator") st' rfl rfl (by decide) ⟨.int (lo + i), H, I1, ⟨s.toks, ?_⟩, ⟨rfl, rfl⟩, st', fun b hb => (hf b hb).1⟩⟩
    rw [Int.mul_one]
  done := by
    intro X hP hw hK i pins s σ H E qh I hf st hg
    subst hP hw hK
    obtain ⟨f0, f1, f2, f3, f4, f5⟩ := hf it (by simp)
    obtain ⟨ea, c, hh, he⟩ := qh
    obtain ⟨o, eo, _, vs, hd, h2⟩ := (I.hok ea _ he).1
    exact range_endH hh ⟨o, vs, eo, hd, h2⟩ st (by have : n ≤ i := hg; omega) fun h' eb => ⟨rfl, I.turned (t' := s.toks) (fun b o hb e => eb b o hb e) f0 f1 f3 f4 f5⟩
  self := (turn_range (P := P) (w := w) (K := K) (tg := tg) it lo n).self
section
variable {X : Cx} {pins : List (Addr × Obj)} {σ : St} {H2 : Hp} {s2 : Shared} {scope : Scope} {own cs : List Str} {cap : List Nat} {fp : List Addr} {it : Addr} {tn : Nat → Heap → Prop}
  {elt tg iter : Expr} {ifs : List Expr} {pos : Pos} {J : It} {g : TG} {tt : TT} {te : TE} {E : Value → Shared → Prop} {W : Nat → Nat → List V → Hp → Prop} {Qf : List V → Hp → Prop}
theorem comp_runH {RR : Value → Addr → Result → Shared → Prop} (I : Inv X pins σ H2 s2) (ok : CompOk X scope own cs cap) (T : TurnH X.prog X.w X.K tg J fp it tn) (st : tn 0 s2.heap) (hf : ∀ b ∈ fp, FpOk X pins H2 b)
    (hg : ∀ C, PG (blkCx X pins s2 H2 scope C (own ++ cs) fp) tg g) (hi : ∀ C, PIfs (blkCx X pins s2 H2 scope C (own ++ cs) fp) ifs tt) (he : ∀ C, PE (blkCx X pins s2 H2 scope C (own ++ cs) fp) elt te)
    (w0 : ∃ m, W 0 m [] H2) (hq : ∀ i m ys H, W i m ys H → QH X.A H) (turn : CompW σ cap own.length J g tt te Qf W)
    (hRR : ∀ D C s', BlkEnd X pins σ Qf D C s' → RR (.ref D) C (.ok .next) s') :
    wpAny (model X.prog X.w) X.A (newList []) (fun acc s₃ => wpAny (model X.prog X.w) X.A (newFunctionEnv scope X.env.globals (clAdd X.env scope.names []) [] X.env.qual none .none (some X.env)) (fun cenv s₄ =>
      codeAny (model X.prog X.w) X.A (.compStart (.ListComp elt [⟨tg, iter, ifs, 0⟩] scope pos) 0 (.ref it) acc { cenv with scope := relabel scope X.env }) (RR acc cenv.locals) s₄) E s₃) E s2 := by
  refine wpAny_newObj_type (wpAny_newFunctionEnv ok.cell (by intro y hy; simp at hy) (fun h₁ hns₁ hsb₁ => ?_) ok.kind)
  dsimp only at hns₁ hsb₁ ⊢
  generalize hHH : s2.heap.push { cls := .type "list", dict := none, data := .seq ([] : List Value).toArray } = HH at hns₁ hsb₁ ⊢
  have hCs : HH.objs.size = s2.heap.objs.size + 1 := by rw [← hHH, Heap.size_push]
  have hDC : s2.heap.objs.size ≠ HH.objs.size := by rw [hCs]; exact Nat.ne_of_lt (Nat.lt_succ_self _)
  have hCle : s2.heap.objs.size ≤ HH.objs.size := by rw [hCs]; exact Nat.le_succ _
  have hfl : ∀ b ∈ fp, b < s2.heap.objs.size := fun b hb => by
    obtain ⟨o, e, _⟩ := T.obj 0 _ st b hb
    exact Heap.lt_size e
  have old : ∀ b o, s2.heap.get? b = some o → h₁.get? b = some o := fun b o e => hsb₁.extBut b o (by rw [hCs]; exact Nat.ne_of_lt (Nat.lt_succ_of_lt (Heap.lt_size e))) (Heap.get?_push_of_some _ (hHH ▸ Heap.get?_push_of_some _ e))
  have hacc : h₁.PlainList s2.heap.objs.size #[] := ⟨_, hsb₁.extBut _ _ hDC (Heap.get?_push_of_some _ (hHH ▸ Heap.get?_push_size _ rfl))⟩
  generalize hD : s2.heap.objs.size = D at *
  generalize hCC : HH.objs.size = C at *
  have hns₁' : h₁.Ns C (fun _ => none) := hns₁
  have I0 : Inv (blkCx X pins s2 H2 scope C (own ++ cs) fp) [] (blkSt σ cap own.length) H2 { s2 with heap := h₁, toks := s2.toks + ([] : List (Str × Value)).length } :=
    blk_start I ok hf (fun b hb => by rw [hD]; exact hfl b hb) (by rw [hD]; exact hCle) hns₁' old
  -- static facts
  have Dfs : D ∉ frs X.stack := fun hb => by
    obtain ⟨_, o, ho, _⟩ := I.stack.mem hb
    exact absurd (Heap.lt_size ho) (by rw [hD]; exact Nat.lt_irrefl _)
  have Dfp : ∀ b ∈ fp, D ≠ b := fun b hb z => absurd (hfl b hb) (by rw [← z]; exact Nat.lt_irrefl _)
  have clt : ∀ x c, (clAdd X.env scope.names []).lookup x = some c → c < D := fun x c e => by
    have e' := clAdd_lookup X.env scope.names [] x c (fun y hy e => I.ok.has y.1 (ok.free y hy e)) (fun _ _ z => by simp at z) e
    obtain ⟨v, o, ho, _⟩ := I.cell x c e'
    have := Heap.lt_size ho
    rw [hD] at this; exact this
  have plt : ∀ p ∈ X.pn ++ pins, p.1 < D := fun p hp => by
    have := Heap.lt_size (I.pin p hp).1
    rw [hD] at this; exact this
  have stat : ∀ {H' : Hp} {ob : Obj}, (∀ b ∈ fp, H' b = none) → ∀ b ∈ fp, FpOk (blkCx X pins s2 H2 scope C (own ++ cs) fp) [(D, ob)] H' b := fun {H' ob} hn b hb => by
    have q := I0.ok.exf b hb
    refine ⟨hn b hb, q.1, I0.ok.exfs b hb, .inl hb, q.2, fun p hp => ?_⟩
    rcases List.mem_append.mp hp with z | z
    · exact (hf b hb).2.2.2.2.2 p z
    · have : p = (D, ob) := by simpa using z
      subst this
      exact Dfp b hb
  have loop : codeAny (model X.prog X.w) X.A (.compLoop (.ListComp elt [⟨tg, iter, ifs, 0⟩] scope pos) 0 (.ref it) (.ref D) (compEnvC scope (clAdd X.env scope.names []) C X.env)) (RR (.ref D) C)
      { s2 with heap := h₁, toks := s2.toks + ([] : List (Str × Value)).length } := by
    obtain ⟨m0, w0⟩ := w0
    refine codeAny_loop rfl (fun n s' => ∃ i H' its ys, Inv (blkCx X pins s2 H2 scope C (own ++ cs) fp) [] (blkSt σ cap own.length) H' s' ∧ tn i s'.heap ∧ (∀ b ∈ fp, H' b = none) ∧ s'.heap.PlainList D its.toArray ∧ Vals ys its ∧ H' D = none ∧ W i n ys H') ?_ m0
      ⟨0, H2, [], [], I0, T.keep 0 _ _ st fun b _ o e => old b o e, fun b hb => (hf b hb).1, hacc, .nil, I.hok.fresh (by rw [hD]; exact Nat.le_refl _), w0⟩
    rintro n s3 ⟨i, H3, its, ys, I3, st3, fr3, ⟨nn, pl3⟩, rv3, hD3, w3⟩
    show wpAny _ X.A ((compTurn (.ListComp elt [⟨tg, iter, ifs, 0⟩] scope pos) 0 (.ref it) (.ref D) (compEnvC scope (clAdd X.env scope.names []) C X.env)).onRaise (fun x => do noteFrame x (compEnvC scope (clAdd X.env scope.names []) C X.env); theTreesLotGoes x)) _ _ s3
    refine wpAny_noted ?_
    rw [compTurn_list]
    refine wpAny_bind (wpAny_standAt (wpAny_bind ?_))
    have I3' : Inv (blkCx X pins s2 H2 scope C (own ++ cs) fp) [(D, { cls := .type "list", data := .seq its.toArray nn })] (blkSt σ cap own.length) H3 s3 :=
      I3.pins_of fun p hp => by
        have : p = (D, { cls := .type "list", data := .seq its.toArray nn }) := by simpa using hp
        subst this
        exact ⟨pl3, hD3, hDC, Dfs, fun v z => by cases z⟩
    rcases turn i n ys H3 w3 with ⟨stop, hz, qf⟩ | ⟨go, hz, step⟩
    · refine thn (T.done (blkCx X pins s2 H2 scope C (own ++ cs) fp) rfl rfl rfl i _ s3 _ H3 _ (hq _ _ _ _ w3) I3' (stat fr3) st3 stop) fun r s4 ⟨hr, I4⟩ => ?_
      subst hr
      refine wpAny_pure (hRR D C s4 ⟨⟨ys, H3, hD3, qf, ?_, ?_⟩, ?_⟩)
      · have pl4 := (I4.pin (D, _) (List.mem_append_right _ (List.mem_singleton.mpr rfl))).1
        have u4 := I4.base
        have Ds2 : s2.heap.get? D = none := Heap.get?_none_of_le (by rw [hD]; exact Nat.le_refl _)
        refine I.call' (s' := s4) (ch := fp) I4.os ⟨u4.keep, u4.slot, fun b o e n hx => ?_, u4.there, fun b xs e => ?_, fun b o u e => ?_, fun b ps e => ?_⟩ ?_ I4.bare fun b hb => ⟨(hf b hb).2.2.2.1, (hf b hb).2.1, (hf b hb).2.2.2.2.1, (hf b hb).2.2.2.2.2⟩
        · rw [upd_ne (fun z => by rw [z, Ds2] at e; cases e)]
          exact u4.free b o e n hx
        · have := u4.tups b xs e
          rw [upd_ne (ne_of_none this hD3)]; exact this
        · have := u4.frzs b o u e
          rw [upd_ne (ne_of_none this hD3)]; exact this
        · obtain ⟨more, e'⟩ := u4.tbls b ps e
          exact ⟨more, by rw [upd_ne (ne_of_none e' hD3)]; exact e'⟩
        · exact I4.hok.add hD3 ⟨hz, its, nn, rv3, pl4⟩
      · have CH : (upd H3 D (.lst ys)) C = none := by rw [upd_ne (Ne.symm hDC)]; exact I4.free
        exact I.fpOk (H' := upd H3 D (.lst ys)) (by rw [hD]; exact hCle) CH
      · obtain ⟨m, hn, _⟩ := I4.loc
        exact ⟨m, hn⟩
    · refine thn (T.item (blkCx X pins s2 H2 scope C (own ++ cs) fp) rfl rfl rfl i _ s3 _ H3 _ (hq _ _ _ _ w3) I3' (stat fr3) st3 go) fun r s4 ⟨u, hr, h4⟩ => ?_
      subst hr
      refine wpAny_bind (thn h4 fun _ s5 ⟨x, H5, I5, r5, y5, st5, fr5⟩ => ?_)
      have I5' := I5.pinned (stat fr5) (T.obj _ _ st5)
      refine wpAny_bind (wpAny_mono (hg C _ s5 _ H5 x u _ I5' r5 (step x H5 y5)) (fun _ s6 ⟨σ6, H6, I6, le6, q6⟩ => ?_) fun _ _ z => False.elim z)
      refine wpAny_bind (wpAny_mono (hi C _ s6 σ6 H6 _ I6 q6) (fun b s7 ⟨H7, I7, q7⟩ => ?_) fun _ _ z => False.elim z)
      have back : ∀ {pins' : List (Addr × Obj)} {H8 : Hp} {s8 : Shared}, Inv (blkCx X pins s2 H2 scope C (own ++ cs) fp) pins' σ6 H8 s8 → Inv (blkCx X pins s2 H2 scope C (own ++ cs) fp) [] (blkSt σ cap own.length) H8 s8 := fun I8 =>
        I8.bareP.weak le6.1.symm fun i v e => le6.2 i v e
      cases b with
      | false =>
        rw [if_neg Bool.false_ne_true] at q7
        obtain ⟨m', hm, w7⟩ := q7
        refine wpAny_pure ⟨rfl, m', hm, i + 1, H7, its, ys, back I7, T.keep _ _ _ st5 fun b hb o e => ?_, fun b hb => ?_, ⟨nn, ?_⟩, rv3, ?_, w7⟩
        · exact (I7.pin (b, o) (List.mem_append_right _ (List.mem_append_right _ (mem_pinsAt hb e)))).1
        · obtain ⟨o, e, d⟩ := T.obj _ _ st5 b hb
          exact (I7.pin (b, o) (List.mem_append_right _ (List.mem_append_right _ (mem_pinsAt hb e)))).2.1
        · exact (I7.pin (D, _) (List.mem_append_right _ (List.mem_append_left _ (List.mem_singleton.mpr rfl)))).1
        · exact (I7.pin (D, _) (List.mem_append_right _ (List.mem_append_left _ (List.mem_singleton.mpr rfl)))).2.1
      | true =>
        rw [if_pos rfl] at q7
        refine wpAny_bind (wpAny_bind (wpAny_mono (he C _ s7 σ6 H7 _ I7 q7) (fun y s8 ⟨v, H8, I8, r8, m', hm, w8⟩ => ?_) fun _ _ z => False.elim z))
        have pD := I8.pin (D, { cls := .type "list", data := .seq its.toArray nn }) (List.mem_append_right _ (List.mem_append_left _ (List.mem_singleton.mpr rfl)))
        have hlen := rv3.length
        refine wpAny_bind (wpAny_list_append_plain (hsz := by rw [List.size_toArray]; omega) ⟨nn, pD.1⟩ fun h9 pl9 sb9 => wpAny_pure (wpAny_pure ?_))
        have I8' := back I8
        refine ⟨rfl, m', hm, i + 1, H8, its ++ [y], ys ++ [v], ?_, T.keep _ _ _ st5 fun b hb o e => ?_, fun b hb => ?_, ?_, rv3.append (.cons r8 .nil), pD.2.1, w8⟩
        · exact I8'.turned (t' := s8.toks) (fun b o hb e => sb9.extBut b o hb e) pD.2.1 hDC (.inr (by show s2.heap.objs.size ≤ D; rw [hD]; exact Nat.le_refl _)) (fun x c e => Nat.ne_of_lt (clt x c e)) fun p hp => by
            have hp' : p ∈ X.pn ++ pins := by
              have : p ∈ (X.pn ++ pins) ++ [] := hp
              simpa using this
            exact Nat.ne_of_lt (plt p hp')
        · exact sb9.extBut b o (Ne.symm (Dfp b hb)) (I8.pin (b, o) (List.mem_append_right _ (List.mem_append_right _ (mem_pinsAt hb e)))).1
        · obtain ⟨o, e, d⟩ := T.obj _ _ st5 b hb
          exact (I8.pin (b, o) (List.mem_append_right _ (List.mem_append_right _ (mem_pinsAt hb e)))).2.1
        · have e : its.toArray.push y = (its ++ [y]).toArray := by simp
          rw [← e]; exact pl9
  exact codeAny_compStart_list loop (T.self _ 0 _ _ _ (T.keep 0 _ _ st fun b _ o e => old b o e) loop)


/-- the reading of [elt for tg in range(e) if ..] there -/
def tCompH (A : Around) (ta : TA) (cap : List Nat) (k : Nat) (g : TG) (tt : TT) (te : TE) : TE := fun σ H Q => ta σ H fun vs H1 => ∃ j : Int, vs = [.int j] ∧ -(2 ^ 62) ≤ j ∧ j < 2 ^ 62 ∧
  ∃ W : Nat → Nat → List V → Hp → Prop, (∃ m, W 0 m [] H1) ∧ (∀ i m ys H, W i m ys H → QH A H) ∧ CompW σ cap k (Itr 0 j.toNat) g tt te (fun ys H' => ∀ p, H' p = none → Q (.ref p) (upd H' p (.lst ys))) W
theorem pe_compH {a : Expr} {ta : TA} {p rpos : Pos} (hgr : Gl X "range") (hm : X.mg "range" = none) (ha : PA X [a] ta) (ok : CompOk X scope own cs cap)
    (hg : ∀ pins s2 H2 C fp, PG (blkCx X pins s2 H2 scope C (own ++ cs) fp) tg g) (hi : ∀ pins s2 H2 C fp, PIfs (blkCx X pins s2 H2 scope C (own ++ cs) fp) ifs tt) (he : ∀ pins s2 H2 C fp, PE (blkCx X pins s2 H2 scope C (own ++ cs) fp) elt te)
    (hst : starEach [a] X.env = [(false, eval a X.env)] := by rfl)
    (hs : ∀ x, foldedSetIterable (.Call (.Name "range" p) [a] [] rpos) X.env x = pure x := by intro _; rfl) : PE X (.ListComp elt [⟨tg, .Call (.Name "range" p) [a] [] rpos, ifs, 0⟩] scope pos) (tCompH X.A ta cap own.length g tt te) := by
  intro pins s σ H Q I h
  rw [eval_ListComp]
  refine wpAny_comprehension_free (use := none) rfl hs (closure_eq fun y hy e => I.ok.has y.1 (ok.free y hy e)) ok.kind ok.names ?_
  refine Call_ (ld_blt I hgr hm boot_range (PyProof.Rows.callWith_type1 (thn (ha rpos pins s σ H _ I h) fun us s1 ⟨vs, H1, I1, r1, q1⟩ => ?_) hst rfl))
  obtain ⟨j, e, q1, q2, W, w0, hq, turn⟩ := q1
  subst e
  cases r1 with
  | cons r rr =>
    cases rr
    obtain ⟨t, rfl⟩ := r
    refine call_range_1 ?_
    refine wpAny_pyIter_range (IsRange.new ..) (small_one (by omega) (by omega) q1 q2) ?_
    generalize hB : s1.heap.push { cls := Value.type "range", data := Data.fields #[Value.int 0 s1.toks, Value.int j t, Value.int 1 (s1.toks + 1)] } = B
    have I2 : Inv X pins σ H1 { s1 with heap := B, toks := s1.toks + 1 + 1 } := I1.kept fun b o e => hB ▸ Heap.get?_push_of_some _ e
    have I3 : Inv X pins σ H1 { s1 with heap := B.push { cls := Value.type "range_iterator", data := Data.fields #[rawInt 0, rawInt (Builtin.Range.rangeSize 0 j 1), rawInt 1] }, toks := s1.toks + 1 + 1 } := I2.kept (t' := s1.toks + 1 + 1) fun b o e => Heap.get?_push_of_some _ e
    have st3 : IsRangeIter (B.push { cls := Value.type "range_iterator", data := Data.fields #[rawInt 0, rawInt (Builtin.Range.rangeSize 0 j 1), rawInt 1] }) B.objs.size (0 + ((0 : Nat) : Int) * 1) ((j.toNat : Int) - ((0 : Nat) : Int)) 1 := by
      have e1 : (0 : Int) + ((0 : Nat) : Int) * 1 = 0 := by simp
      have e2 : ((j.toNat : Nat) : Int) - ((0 : Nat) : Int) = Builtin.Range.rangeSize 0 j 1 := by rw [rangeSize_one]; split <;> omega
      rw [e1, e2]
      exact Heap.get?_push_size _ rfl
    refine comp_runH (RR := fun acc C => compPost (model X.prog X.w) X.A X.xe none (EP X pins σ Q) acc C) I3 ok (turn_rangeH B.objs.size 0 j.toNat) st3 (fun b hb => ?_) (fun C => hg _ _ _ _ _) (fun C => hi _ _ _ _ _) (fun C => he _ _ _ _ _) w0 hq turn fun D C s' B => ?_
    · have e : b = B.objs.size := by simpa using hb
      subst e
      exact I2.fpOk (Nat.le_refl _) (I2.hok.fresh (Nat.le_refl _))
    · obtain ⟨⟨ys, H', hD, q, I', fp'⟩, m, hn⟩ := B
      obtain ⟨f0, f1, f2', f3, f4, f5⟩ := fp'
      exact ⟨m, hn, fun h' sb => ⟨.ref D, _, I'.turned (t' := s'.toks) (fun b o hb e => sb.extBut b o hb e) f0 f1 f3 f4 f5, rfl, q D hD⟩⟩
end
end L2

set_option Elab.async false
set_option linter.all false
set_option maxRecDepth 100000
namespace L2
open PySem PySem.Spec PyProof.Rows
structure FnQ (P : Program) (w : World) (K : PySem.W.Frag) (mg : Str → Option Value) (base : Heap) (k : Nat) (f : Addr) (fd : FuncData) (ps : List Str) (sp : Sp) : Prop where
  len : ∀ vs H Q E, sp vs H Q E → vs.length = ps.length
  run : ∀ (A : Around) (outer : List Env) (s : Shared) (H : Hp) (args : Args) (us : List Value) (vs : List V) (Q : VK) (E : XK), RoomH k A → QH A H → Env0 P w K mg base A outer s H → BindsTo s fd args (ps.zip us) → Vals vs us → sp vs H Q E →
    codeAny (model P w) A (.call (.ref f) args) (CR CX0 outer P w H s Q E) s
theorem fnQ_of {P : Program} {w : World} {K : PySem.W.Frag} {mg : Str → Option Value} {base : Heap} {k : Nat} {f : Addr} {x qual : Str} {st : Stmt} {fd : FuncData} {N ps : List Str} {sp : Sp} (F : Fun K x qual st f fd) (S : FnScope N ps (defScope st))
    (len : ∀ vs H Q E, sp vs H Q E → vs.length = ps.length)
    (hbody : ∀ (cdv : Value) (A : Around) (outer : List Env) (s : Shared) (H : Hp) (vs : List V) (Q : VK) (E : XK), RoomH k (A.deeper (envOfC qual (defScope st) s.heap.objs.size f cdv)) → QH (A.deeper (envOfC qual (defScope st) s.heap.objs.size f cdv)) H → sp vs H Q E →
      ∃ t, PSs (cxH P w K mg base N qual (defScope st) f cdv A outer s H) (defBody st) t ∧ t { nx := fun _ H' => Q .non H', rt := Q } (start N vs) H) : FnQ P w K mg base (k + 1) f fd ps sp := by
  obtain ⟨oc, od, kV, doc, pm, an, cdv, ct, osl, rfl, lk, hcd⟩ := F.ex
  refine ⟨len, fun A outer s H args us vs Q E hr hqh e0 hb r hsp => ?_⟩
  have hl := len _ _ _ _ hsp
  have KX : K.In s.heap := e0.mod.kin.keeps fun b o e => (e0.bs b o e).1
  have lim : s.heap.NoLimit := e0.mod.nolimit.keeps fun b o e => (e0.bs b o e).1
  have hkind : ∀ y ∈ ps.zip us, (defScope st).names.lookup y.1 = some .local ∨ ((defScope st).names.lookup y.1 = some .cell ∧ ((cellsFrom (s.heap.objs.size + 1) (defScope st).names []).lookup y.1).isSome = true) := fun ⟨n, v⟩ hy => by
    rcases S.par n (List.of_mem_zip hy).1 with q | q
    · exact .inl q
    · exact .inr ⟨q, PySem.W.cellsFrom_some _ _ _ (.inl q)⟩
  have dep : A.depth < recursionLimit := by have := hr.dp; omega
  refine codeAny_call_function dep (KX _ _ lk) rfl S.co S.gen rfl (PySem.W.codeRec_of KX hcd) (hb _ _ _ _ ?_)
  refine wpAny_newFunctionEnv_cells S.kind hkind fun env he s1 x => ?_
  subst he
  refine ⟨lim.keeps x.toInCall.keep, codeAny_func ?_⟩
  obtain ⟨t, ht, hq⟩ := hbody cdv A outer s H vs Q E (hr.deeper _) (by obtain ⟨ea, c, h1, h2⟩ := hqh; exact ⟨ea, c, h1, h2⟩) hsp
  have e0' : Env0 P w K mg base { A with handled := none } outer s H := ⟨e0.frames, e0.mod, e0.bs, e0.bsz, e0.funs, e0.frf, e0.hok, e0.bare⟩
  have J : Inv (cxOf CX0 P w K mg base N qual (defScope st) f cdv { A with handled := none } outer s H E0) [] (start N vs) H s1 := inv_start S rfl e0' hl r x
  have I : Inv (cxH P w K mg base N qual (defScope st) f cdv A outer s H) [] (start N vs) H s1 :=
    ⟨⟨J.ok.mod, J.ok.kind, J.ok.glob, J.ok.blt, J.ok.above, J.ok.inj, J.ok.has, J.ok.cab, fun z => absurd (show false = true from z) Bool.false_ne_true, Around.frames_deeper e0.frames, J.ok.stk, J.ok.exf, J.ok.bs, J.ok.bsz, J.ok.noex, J.ok.exfs, J.ok.funs, J.ok.frf⟩,
      J.os, J.bare, J.base, J.loc, J.cell, J.free, J.freeC, J.pin, J.hok, J.len⟩
  refine wpAny_mono (ht [] s1 (start N vs) H _ I hq) (fun fl s' hs => ?_) fun e s' hs => False.elim hs
  have fin : ∀ {σ' : St} {H' : Hp} {v : V} {u : Value}, Inv (cxH P w K mg base N qual (defScope st) f cdv A outer s H) [] σ' H' s' → RelV v u → Q v H' → CE outer P w H s Q u s' :=
    fun {σ' H' v u} J rv q => ⟨v, H', J.os, J.bare, J.base, J.hok, rv, q⟩
  cases fl with
  | ret u =>
    obtain ⟨v, σ', H', J, rv, q⟩ := hs
    exact fin J rv q
  | next =>
    obtain ⟨σ', H', J, q⟩ := hs
    exact fin (v := V.non) (u := Value.none) J rfl q
  | brk =>
    obtain ⟨_, _, _, q⟩ := hs
    exact False.elim q
  | cont =>
    obtain ⟨_, _, _, q⟩ := hs
    exact False.elim q
def DnQ (P : Program) (w : World) (K : PySem.W.Frag) (mg : Str → Option Value) (base : Heap) (x : Str) (ps : List Str) (k : Nat) (sp : Sp) : Prop :=
  ∃ (f : Addr) (fd : FuncData), FnQ P w K mg base k f fd ps sp ∧ Binds K fd ps [] ∧ PySem.W.keepIn K (.ref f) = true ∧ mg x = some (.ref f)
theorem pe_cQ {X : Cx} {k : Nat} {ps : List Str} {sp : Sp} {x : Str} {p pos : Pos} {e : Expr} {es : List Expr} {t : TA} (D : DnQ X.prog X.w X.K X.mg X.base x ps k sp) (hr : RoomH k X.A) (hg : Gl X x) (ha : PA X (e :: es) t)
    (hdb : (x == ("__debug__" : Str)) = false := by decide) (he : starEach (e :: es) X.env = (false, eval e X.env) :: starEach es X.env := by rfl) (hpl : (backTo pos (starEach es X.env)).any (·.1) = false := by rfl) :
    PE X (.Call (.Name x p) (e :: es) [] pos) (tCall (fun vs H1 Q E => QH X.A H1 ∧ sp vs H1 Q E) [] E0 t) := by
  obtain ⟨f, fd, F, hb, hk, hm⟩ := D
  intro pins s σ H Q I h
  refine wpAny_Call_Name_kw (ld_glob I hg hm ?_ hdb)
  refine PySem.W.callWith_K (h₀ := X.base) I.ok.mod.kin hk (thn (ha pos pins s σ H _ I h) fun us s1 ⟨vs, H1, I1, r, q⟩ => ⟨I1.kIn, ?_⟩) he hpl
  have q : QH X.A H1 ∧ sp (vs ++ []) H1 Q E0 := q
  rw [List.append_nil] at q
  have hl : (us ++ []).length = ps.length := by rw [List.append_nil, ← r.length]; exact F.len _ _ _ _ q.2
  have b := hb s1 us I1.kIn hl
  rw [List.append_nil] at b
  refine wpAny_call (codeAny_mono (F.run X.A X.stack s1 H1 ⟨us, []⟩ us vs Q E0 hr q.1 I1.env0 b r q.2) fun r s' hq => ?_)
  cases r with
  | error e => exact False.elim hq
  | ok fl =>
    cases fl with
    | ret u => exact I1.after hq
    | next => exact False.elim hq
    | brk => exact False.elim hq
    | cont => exact False.elim hq
theorem FnQ.or {P : Program} {w : World} {K : PySem.W.Frag} {mg : Str → Option Value} {base : Heap} {k : Nat} {f : Addr} {fd : FuncData} {ps : List Str} {sp sp' : Sp} (a : FnQ P w K mg base k f fd ps sp) (b : FnQ P w K mg base k f fd ps sp') :
    FnQ P w K mg base k f fd ps (fun vs H Q E => sp vs H Q E ∨ sp' vs H Q E) :=
  ⟨fun vs H Q E h => h.elim (a.len vs H Q E) (b.len vs H Q E), fun A outer s H args us vs Q E hr hq e0 hb r hsp => hsp.elim (a.run A outer s H args us vs Q E hr hq e0 hb r) (b.run A outer s H args us vs Q E hr hq e0 hb r)⟩
/-! ### the suite reads what is handled -/
def tTryB (K : PySem.W.Frag) (j i : Nat) (CE : Addr) (tx : TX) (ts : Addr → TS) : TS := fun D σ H => tx σ H (fun v H1 => D.nx (σ.set j (some v)) H1) (fun c _ H1 => PySem.W.exmOne K c (.ref CE) = some true ∧ ∀ ea, H1 ea = none →
  ts ea { nx := fun σ2 H2 => D.nx (σ2.set i none) H2, rt := D.rt, bk := fun σ2 H2 => D.bk (σ2.set i none) H2, ct := fun σ2 H2 => D.ct (σ2.set i none) H2 } (σ.set i (some (.ref ea))) (upd H1 ea (.ext (IsA ea c))))
section
variable {X : Cx} {e : Expr} {tx : TX} {ts : Addr → TS} {i j : Nat} {n m y : Str} {CE : Addr} {b₀ : Stmt} {suite : List Stmt} {np mp hpos epos pos : Pos}
theorem ps_tryB (hst : X.stack = X.env :: X.outer) (hfr : X.env.frame = some X.env.locals) (hex : X.ex = []) (he : PEx X e tx) (hN : X.N.Nodup) (hj : X.N[j]? = some m) (hl : X.env.scope.names.lookup m = some .local) (hi : X.N[i]? = some n) (hk : X.env.scope.names.lookup n = some .local) (hg : Gl X y) (hm : X.mg y = some (.ref CE))
    (hsu : ∀ ea, PSs (X.marked ea) (b₀ :: suite) (ts ea)) (hs : swapsWith e (some (.Name m mp)) epos.line X.env = pure false := by rfl) (hd : (y == ("__debug__" : Str)) = false := by decide) :
    PS X (.Try [.Assign [.Name m mp] e epos] [.ExceptHandler (some (.Name y np)) (some n) (b₀ :: suite) hpos] [] [] pos) (tTryB X.K j i CE tx ts) := by
  intro pins s σ H D I h
  refine wpAny_Try_except (wpAny_execs_cons (wpAny_Assign_Name (wpAny_mono (he pins s σ H _ _ I h) (fun v s1 ⟨x, H1, I1, r1, q1⟩ => ?_) fun v s1 hx => ?_) hs))
  · exact store_ok I1 hN hj (.inl hl) r1 (fun s2 I2 => wpAny_execs_nil (wpAny_execs_nil ⟨_, H1, I2, q1⟩)) (.inr hl)
  obtain ⟨ea, c, H0, H', B, s0, rfl, I0, f, hm1, q⟩ := hx
  obtain ⟨a0, fl⟩ := f.fly
  rw [hst] at fl
  refine looks_onQ (by rw [← hst]; exact I.ok.frames) hfr fl f.ctx fun h4 held4 sm4 q4 => ?_
  refine landsQ held4 q4 fun h5 fl5 sm5 q5 => ?_
  have I5 : Inv X pins σ H' { s1 with heap := h5 } := f.inv (t := s1.toks) I0 fl5.1 (sm4.trans sm5)
  obtain ⟨ob, hob, hobc⟩ := fl5.there
  refine wpAny_handleBy_cons (codeAny_handlers_test (ld_glob (X := X.marked ea) (I5.mark ea) hg hm ?_ hd)) (by intro q; cases q)
  have LT : PySem.W.Looks (model X.prog X.w) h5 (typeOf (.ref ea)) c := hobc ▸ (PySem.W.Looks.ld hob).andThen .now
  refine (PySem.W.exm_one (M := model X.prog X.w) I5.kIn LT hm1).here ?_
  show codeAny _ _ _ _ _
  refine codeAny_handlers_suite_as ?_
  refine lands_againQ fl5 q5 fun h6 fl6 sm6 q6 => ?_
  have I6 : Inv X pins σ H' { s1 with heap := h6 } := f.inv (t := s1.toks) I0 fl6.1 ((sm4.trans sm5).trans sm6)
  have I7 : Inv X pins σ (upd H' ea (.ext (IsA ea c))) { s1 with heap := h6 } := by
    refine I6.track2 f.new.2 (fun z => ?_) ?_ (fun x c' e z => ?_) (fun p hp z => ?_) (IsA.obj (IsA.of fl6.there q6))
    · obtain ⟨m, ⟨o, _, _, ho, _⟩, _⟩ := I0.loc
      have := f.new.1
      rw [z, ho] at this; cases this
    · cases q' : X.s₀.heap.get? ea with
      | none => rfl
      | some o =>
        obtain ⟨o', e1⟩ := I0.base.there ea o q' (by rw [hex]; simp)
        have := f.new.1
        rw [e1] at this; cases this
    · obtain ⟨v, o, ho, _⟩ := I0.cell x c' e
      have := f.new.1
      rw [← z, ho] at this; cases this
    · have := (I0.pin p hp).1
      rw [z, f.new.1] at this; cases this
  refine store_ok (X := X.marked ea) (I7.mark ea) hN hi (.inl hk) (v := .ref ea) rfl (fun s7 I8 => ?_) (.inr hk)
  refine wpAny_mono (hsu ea pins s7 _ _ _ I8 (q ea f.new.2)) (fun fl s8 hq => ?_) fun _ _ z => False.elim z
  cases fl with
  | next =>
    obtain ⟨σ', H'', J, q'⟩ := hq
    exact name_gone (J.unmark I.ok) hN hi hk fun s9 J9 => ⟨_, _, J9, q'⟩
  | brk =>
    obtain ⟨σ', H'', J, q'⟩ := hq
    exact name_gone (J.unmark I.ok) hN hi hk fun s9 J9 => ⟨_, _, J9, q'⟩
  | cont =>
    obtain ⟨σ', H'', J, q'⟩ := hq
    exact name_gone (J.unmark I.ok) hN hi hk fun s9 J9 => ⟨_, _, J9, q'⟩
  | ret u =>
    obtain ⟨v, σ', H'', J, r, q'⟩ := hq
    exact name_gone (J.unmark I.ok) hN hi hk fun s9 J9 => ⟨_, _, _, J9, r, q'⟩
end
end L2

set_option Elab.async false
set_option linter.all false
set_option maxRecDepth 100000
namespace Pc
open PySem L2
def top (i : Nat) : Stmt := PySem.Challenge.pw_platecuts_k62_loads_refused.main.body.getD i (.Pass ⟨0, 0, 0, 0⟩)
abbrev sWhole : Stmt := top 16
abbrev sRow : Stmt := top 17
abbrev sIsWeights : Stmt := top 20
abbrev sBestLength : Stmt := top 21
abbrev sLengthsBySteps : Stmt := top 22
abbrev sLoadOf : Stmt := top 23
abbrev sCell : Stmt := top 25
abbrev sPot : Stmt := top 26
abbrev sDraw : Stmt := top 27
abbrev sGreat : Stmt := top 28
abbrev sBadBlade : Stmt := top 29
abbrev sBadSide : Stmt := top 30
abbrev sBadWeights : Stmt := top 31
abbrev sKinds : Stmt := top 32
abbrev sTold : Stmt := top 33
abbrev sRight : Stmt := top 34
abbrev sLaw : Stmt := top 35
section
variable {P : Program} {w : World} {K : PySem.W.Frag} {mg : Str → Option Value} {base : Heap}
/-- names that stand for what is built in -/
structure Blt (mg : Str → Option Value) : Prop where
  isi : mg "isinstance" = none
  int : mg "int" = none
  bool : mg "bool" = none
  list : mg "list" = none
  tuple : mg "tuple" = none
  len : mg "len" = none
  range : mg "range" = none
  max : mg "max" = none
  min : mg "min" = none
  abs : mg "abs" = none
  divmod : mg "divmod" = none
  sum : mg "sum" = none
  sorted : mg "sorted" = none
  all : mg "all" = none
  repr : mg "repr" = none
theorem sccell : FnScope ["_law_script", "_law_k"] ["_law_script", "_law_k"] (defScope sCell) := ⟨rfl, rfl, rfl, by decide +kernel, rfl, by decide +kernel, by decide +kernel⟩
theorem ok_cell {f : Addr} {fd : FuncData} (F : Fun K "_law_cell" "_law_cell" sCell f fd) (B : Blt mg) : FnOk P w K mg base CX0 1 f fd ["_law_script", "_law_k"] (spCell K) := by
  refine F.ok sccell (fun vs H Q E h => ?_) (fun cdv A outer s H vs Q E hr h => ?_)
  · obtain ⟨a, ns, n, rfl, _⟩ := h
    rfl
  obtain ⟨a, ns, n, rfl, hS, n0, q⟩ := h
  have nd := sccell.nd
  refine ⟨_, (@pss_cons _ _ _ _ _ (@ps_if _ _ _ _ _ _ _ _ (@pt_cmpR _ _ _ _ _ _ _ _ op_lt (pv 1) (@pe_callB _ _ _ _ _ _ _ _ _ call_len_seq rfl B.len PySem.boot_len (@pa_cons _ _ _ _ _ (pv 0) pa_nil rfl) (by decide) (by decide) rfl rfl) (nomark _)) (@pss_one _ _ _ (@ps_ret _ _ _ _ (@pe_ix _ _ _ _ _ _ _ ix_list (pv 0) (pv 1) (fun _ _ => rfl)))) pss_nil) (@pss_one _ _ _ (@ps_ret _ _ _ _ pe_int))), ?_⟩
  have hl : (ns.map V.int).length = ns.length := List.length_map _
  refine ⟨_, rfl, _, rfl, a, _, rfl, .inl hS, _, _, rfl, rfl, _, rfl, ?_⟩
  refine ite2 (fun c => ?_) (fun c => ?_)
  · have c' : n < ((ns.map V.int).length : Int) := of_decide_eq_true c
    rw [hl] at c'
    have hk : n.toNat < ns.length := by omega
    have hv : atI (ns.map V.int) n = some (.int ns[n.toNat]) := atI_int n0 (by rw [List.getElem?_map, List.getElem?_eq_getElem hk]; rfl)
    exact ⟨_, rfl, _, rfl, a, _, _, _, rfl, rfl, hS, hv, q _⟩
  · exact q _
theorem scpot : FnScope ["_law_cell_here"] ["_law_cell_here"] (defScope sPot) := ⟨rfl, rfl, rfl, by decide +kernel, rfl, by decide +kernel, by decide +kernel⟩
theorem ok_pot {f : Addr} {fd : FuncData} (F : Fun K "_law_pot" "_law_pot" sPot f fd) (B : Blt mg) : FnOk P w K mg base CX0 1 f fd ["_law_cell_here"] (spPotB) := by
  refine F.ok scpot (fun vs H Q E h => ?_) (fun cdv A outer s H vs Q E hr h => ?_)
  · obtain ⟨c, rfl, _⟩ := h
    rfl
  obtain ⟨c, rfl, q⟩ := h
  have nd := scpot.nd
  refine ⟨_, (@pss_one _ _ _ (@ps_ret _ _ _ _ (@pe_lst _ _ _ _ (@pa_cons _ _ _ _ _ (@pe_callB _ _ _ _ _ _ _ _ _ (call_max2 rfl) rfl B.max PyProof.Rows.boot_max (@pa_cons _ _ _ _ _ pe_int (@pa_cons _ _ _ _ _ (@pe_op _ _ _ _ _ _ _ _ op_sub (@pe_callB _ _ _ _ _ _ _ _ _ call_abs rfl B.abs PyProof.Rows.boot_abs (@pa_cons _ _ _ _ _ (pv 0) pa_nil rfl) (by decide) (by decide) rfl rfl) (@pe_op _ _ _ _ _ _ _ _ op_pow pe_int pe_int)) pa_nil rfl) rfl) (by decide) (by decide) rfl rfl) (@pa_cons _ _ _ _ _ (@pe_op _ _ _ _ _ _ _ _ op_add (@pe_op _ _ _ _ _ _ _ _ op_mod (@pe_callB _ _ _ _ _ _ _ _ _ call_abs rfl B.abs PyProof.Rows.boot_abs (@pa_cons _ _ _ _ _ (pv 0) pa_nil rfl) (by decide) (by decide) rfl rfl) pe_int) pe_int) pa_nil rfl) rfl)))), ?_⟩
  refine ⟨_, rfl, _, rfl, _, _, rfl, rfl, ⟨by decide, by decide, by decide⟩, _, _, rfl, rfl, _, _, rfl, _, rfl, _, rfl, _, _, rfl, rfl, (by show (0 : Int) < 2147483629; decide), _, _, rfl, rfl, (by show 2 ≤ sizeLine; decide), fun p hp => ?_⟩
  refine q p _ hp ⟨_, _, ?_, ?_, ?_, upd_same⟩ (Same.new hp)
  · split <;> omega
  · have := Int.emod_nonneg (if c < 0 then -c else c) (show (2147483629 : Int) ≠ 0 by decide)
    omega
  · have := Int.emod_lt_of_pos (if c < 0 then -c else c) (show (0 : Int) < 2147483629 by decide)
    omega
theorem scdraw : FnScope ["_law_pot_here", "_law_many", "_law_digit"] ["_law_pot_here", "_law_many"] (defScope sDraw) := ⟨rfl, rfl, rfl, by decide +kernel, rfl, by decide +kernel, by decide +kernel⟩
theorem ok_draw {f : Addr} {fd : FuncData} (F : Fun K "_law_draw" "_law_draw" sDraw f fd) (B : Blt mg) : FnOk P w K mg base CX0 1 f fd ["_law_pot_here", "_law_many"] (spDrawB) := by
  refine F.ok scdraw (fun vs H Q E h => ?_) (fun cdv A outer s H vs Q E hr h => ?_)
  · obtain ⟨p, m, rfl, _⟩ := h
    rfl
  obtain ⟨p, m, rfl, ⟨a, b, a0, b0, b1, hp⟩, m0, m1, q⟩ := h
  have nd := scdraw.nd
  refine ⟨_, (@pss_cons _ _ _ _ _ (@ps_if _ _ _ _ _ _ _ _ (@pt_cmpR _ _ _ _ _ _ _ _ op_gt (@pe_ix _ _ _ _ _ _ _ ix_list (pv 0) pe_int (fun _ _ => rfl)) pe_int (nomark _)) (@pss_cons _ _ _ _ _ (@ps_asg _ _ _ _ _ _ (@pe_callB _ _ _ _ _ _ _ _ _ call_divmodB rfl B.divmod PyProof.Rows.boot_divmod (@pa_cons _ _ _ _ _ (@pe_ix _ _ _ _ _ _ _ ix_list (pv 0) pe_int (fun _ _ => rfl)) (@pa_cons _ _ _ _ _ (pv 1) pa_nil rfl) rfl) (by decide) (by decide) rfl rfl) (pg_tup rfl (pgs_cons (pg_sub (pv 0) pe_int set_list) (pgs_cons (pg_name (i := 2) nd rfl (Or.inl rfl)) pgs_nil))) rfl rfl rfl) (@pss_one _ _ _ (@ps_ret _ _ _ _ (pv 2)))) pss_nil) (@pss_cons _ _ _ _ _ (@ps_asg _ _ _ _ _ _ (@pe_op _ _ _ _ _ _ _ _ op_mod (@pe_op _ _ _ _ _ _ _ _ op_add (@pe_op _ _ _ _ _ _ _ _ op_mul (@pe_ix _ _ _ _ _ _ _ ix_list (pv 0) pe_int (fun _ _ => rfl)) pe_int) pe_int) pe_int) (pg_sub (pv 0) pe_int set_list) rfl rfl rfl) (@pss_one _ _ _ (@ps_ret _ _ _ _ (@pe_op _ _ _ _ _ _ _ _ op_mod (@pe_op _ _ _ _ _ _ _ _ op_fdivB (@pe_op _ _ _ _ _ _ _ _ op_mod (@pe_op _ _ _ _ _ _ _ _ op_mul (@pe_ix _ _ _ _ _ _ _ ix_list (pv 0) pe_int (fun _ _ => rfl)) (@pe_ix _ _ _ _ _ _ _ ix_list (pv 0) pe_int (fun _ _ => rfl))) pe_int) pe_int) (pv 1)))))), ?_⟩
  have at0 : atI [V.int a, V.int b] 0 = some (.int a) := rfl
  have at1 : atI [V.int a, V.int b] 1 = some (.int b) := rfl
  refine ⟨_, rfl, p, _, _, _, rfl, rfl, SqL.of hp, at0, _, _, rfl, rfl, _, rfl, ?_⟩
  refine ite2 (fun c => ?_) (fun c => ?_)
  · have c' : 0 < a := of_decide_eq_true c
    refine ⟨_, rfl, p, _, _, _, rfl, rfl, SqL.of hp, at0, _, rfl, _, _, rfl, ⟨m0, m1⟩, fun t ht => ?_⟩
    have npt : p ≠ t := ne_of_none hp ht
    have hp1 : (upd H t (.tup [.int (a / m), .int (a % m)])) p = some (.lst [.int a, .int b]) := by rw [upd_ne npt]; exact hp
    refine ⟨t, _, rfl, SqT.of upd_same, rfl, _, _, rfl, _, rfl, p, _, _, _, rfl, rfl, hp1, rfl, _, _, rfl, rfl, ?_⟩
    refine ⟨_, rfl, q _ _ (Int.emod_nonneg _ (by omega)) (Int.emod_lt_of_pos _ m0) ⟨a / m, b, Int.ediv_nonneg a0 (by omega), b0, b1, upd_same⟩ ((But.new ht).trans But.upd)⟩
  · refine ⟨_, rfl, p, _, _, _, rfl, rfl, SqL.of hp, at1, _, _, rfl, rfl, .inr ⟨by decide, by decide⟩, _, _, rfl, rfl, _, _, rfl, rfl, (by show (0 : Int) < 2147483647; decide), _, rfl, p, _, _, _, rfl, rfl, hp, rfl, ?_⟩
    have n0 : 0 ≤ (b * 48271 + 11) % 2147483647 := Int.emod_nonneg _ (by decide)
    have n1 : (b * 48271 + 11) % 2147483647 < 2147483647 := Int.emod_lt_of_pos _ (by decide)
    refine ⟨_, rfl, p, _, _, _, rfl, rfl, SqL.of upd_same, rfl, _, rfl, p, _, _, _, rfl, rfl, SqL.of upd_same, rfl, _, _, rfl, rfl, .inl ⟨by omega, by omega⟩, _, _, rfl, rfl, (by show (0 : Int) < 2147483629; decide), _, _, rfl, rfl, ⟨by decide, by decide⟩, _, rfl, _, _, rfl, rfl, m0, ?_⟩
    exact q _ _ (Int.emod_nonneg _ (by omega)) (Int.emod_lt_of_pos _ m0) ⟨a, _, a0, n0, by omega, upd_same⟩ But.upd
theorem scgreat : FnScope ["_law_pot_here"] ["_law_pot_here"] (defScope sGreat) := ⟨rfl, rfl, rfl, by decide +kernel, rfl, by decide +kernel, by decide +kernel⟩
theorem ok_great {f : Addr} {fd : FuncData} (F : Fun K "_law_great" "_law_great" sGreat f fd) (DD : Dn P w K mg base "_law_draw" ["_law_pot_here", "_law_many"] 1 spDrawB) : FnOk P w K mg base CX0 2 f fd ["_law_pot_here"] (spGreat) := by
  refine F.ok scgreat (fun vs H Q E h => ?_) (fun cdv A outer s H vs Q E hr h => ?_)
  · obtain ⟨p, rfl, _⟩ := h
    rfl
  obtain ⟨p, rfl, pt, q⟩ := h
  have nd := scgreat.nd
  refine ⟨_, (@pss_one _ _ _ (@ps_ret _ _ _ _ (@pe_op _ _ _ _ _ _ _ _ op_mod (@pe_op _ _ _ _ _ _ _ _ op_mulB (@pe_cD _ _ _ _ _ _ _ _ _ _ DD hr rfl (@pa_cons _ _ _ _ _ (pv 0) (@pa_cons _ _ _ _ _ (@pe_op _ _ _ _ _ _ _ _ op_pow pe_int pe_int) pa_nil rfl) rfl) (by decide) rfl rfl) (@pe_op _ _ _ _ _ _ _ _ op_pow pe_int pe_int)) (@pe_op _ _ _ _ _ _ _ _ op_pow pe_int pe_int)))), ?_⟩
  refine ⟨_, rfl, _, _, rfl, rfl, ⟨by decide, by decide, by decide⟩, p, _, rfl, pt, (by show (0 : Int) < 10 ^ (58 : Int).toNat; decide), (by show (10 : Int) ^ (58 : Int).toNat ≤ 10 ^ 60; decide), fun r H' r0 r1 pt' b' => ?_⟩
  have r1' : r < 10 ^ 58 := r1
  refine ⟨_, _, rfl, rfl, ⟨by decide, by decide, by decide⟩, _, _, rfl, rfl, ⟨?_, by decide⟩, _, _, rfl, rfl, ⟨by decide, by decide, by decide⟩, _, _, rfl, rfl, (by show (0 : Int) < 10 ^ (58 : Int).toNat; decide), ?_⟩
  · have e : (10 : Int) ^ 58 < 2 ^ 4096 := by decide +kernel
    have e2 : (10 : Nat) ^ 58 < 2 ^ 4096 := by decide +kernel
    have : r.natAbs < 10 ^ 58 := by omega
    omega
  · exact q _ _ (Int.emod_nonneg _ (by decide)) (Int.emod_lt_of_pos _ (by decide)) pt' b' 
end
section
variable {P : Program} {w : World} {K : PySem.W.Frag} {mg : Str → Option Value} {base : Heap}
theorem scWhole : FnScope ["thing", "least"] ["thing", "least"] (defScope sWhole) := ⟨rfl, rfl, rfl, by decide +kernel, rfl, by decide +kernel, by decide +kernel⟩
theorem ok_whole {f : Addr} {fd : FuncData} (F : Fun K "is_whole" "is_whole" sWhole f fd) (B : Blt mg) : FnOk P w K mg base CX0 1 f fd ["thing", "least"] (spWhole K) := by
  refine F.ok scWhole (fun vs H Q E h => ?_) (fun cdv A outer s H vs Q E hr h => ?_)
  · obtain ⟨x, T, l, rfl, _⟩ := h
    rfl
  obtain ⟨x, T, l, rfl, ⟨tn, ty⟩, q⟩ := h
  refine ⟨_, pss_one (ps_ret (pe_and (pe_callB call_isinst rfl B.isi PyProof.Rows.boot_isinstance (pa_cons (pv 0) (pa_cons (pe_bltn (v := .ty "int") rfl B.int PyProof.Rows.boot_int rfl) pa_nil)))
    (pe_and (pe_not (pe_callB call_isinst rfl B.isi PyProof.Rows.boot_isinstance (pa_cons (pv 0) (pa_cons (pe_bltn (v := .ty "bool") rfl B.bool PyProof.Rows.boot_bool rfl) pa_nil))))
    (pe_one (pe_cmpR op_ge (pv 0) (pv 1) (nomark _)))))), ?_⟩
  refine ⟨_, rfl, x, _, _, _, _, rfl, ty, rfl, kit_int T tn, _, rfl, ?_⟩
  have tb := ty_bool ty
  refine ite2 (fun c => ?_) (fun c => ?_)
  · refine ⟨_, rfl, x, _, _, _, _, rfl, ty, rfl, kit_bool T tn, _, rfl, _, rfl, ?_⟩
    refine ite2 (fun c2 => ?_) (fun c2 => ?_)
    · have hT : (T == "int") = true := by
        have : (T == "bool") = false := by simpa using c2
        rw [this, Bool.or_false] at c; exact c
      obtain ⟨i, rfl⟩ := ty_int ty tn hT
      exact ⟨_, rfl, _, rfl, _, _, rfl, rfl, q⟩
    · have hT : isBl x = true := by
        rw [← tb]
        cases e : (T == "bool") with
        | true => rfl
        | false => rw [e] at c2; exact absurd rfl c2
      cases x <;> first | exact q | (exact absurd hT Bool.false_ne_true)
  · have hx : whole x l = false := by
      cases x with
      | int i =>
        exfalso
        have ty' := ty
        generalize hv : Value.type T = tv at ty'
        cases ty' with
        | int => cases hv; exact c rfl
      | _ => rfl
    rw [hx] at q
    exact q

theorem scRow : FnScope ["thing"] ["thing"] (defScope sRow) := ⟨rfl, rfl, rfl, by decide +kernel, rfl, by decide +kernel, by decide +kernel⟩
theorem ok_row {f : Addr} {fd : FuncData} (F : Fun K "is_row" "is_row" sRow f fd) (B : Blt mg) : FnOk P w K mg base CX0 1 f fd ["thing"] (spRow K) := by
  refine F.ok scRow (fun vs H Q E h => ?_) (fun cdv A outer s H vs Q E hr h => ?_)
  · obtain ⟨x, T, rfl, _⟩ := h
    rfl
  obtain ⟨x, T, rfl, ty, q⟩ := h
  refine ⟨_, pss_one (ps_ret (pe_callB call_isinstT rfl B.isi PyProof.Rows.boot_isinstance (pa_cons (pv 0) (pa_cons (pe_tup (pa_cons (pe_bltn (v := .ty "list") rfl B.list PyProof.Rows.boot_list rfl) (pa_cons (pe_bltn (v := .ty "tuple") rfl B.tuple PyProof.Rows.boot_tuple rfl) pa_nil))) pa_nil)))), ?_⟩
  refine ⟨_, rfl, (by show 2 ≤ sizeLine; decide), fun p hp => ?_⟩
  have s1 : Same H (upd H p (.tup [.ty "list", .ty "tuple"])) := fun b o e => by rw [upd_ne (ne_of_none e hp)]; exact e
  have t2 := Ty.same s1 ty
  exact ⟨x, p, _, _, _, _, rfl, t2.2, upd_same, rfl, kit_row T ty.1, q _ s1⟩

end
section
variable {P : Program} {w : World} {K : PySem.W.Frag} {mg : Str → Option Value} {base : Heap}
theorem Same.free {H H' : Hp} {t : Addr} (s : Same H H') (h : H' t = none) : H t = none := by
  cases z : H t with
  | none => rfl
  | some o => rw [s _ _ z] at h; cases h
def ws60 (xs : List V) : Bool := decide (1 ≤ xs.length) && decide (xs.length ≤ 60) && xs.all (fun y => whole y 0)
def spIsW (K : PySem.W.Frag) : Sp := fun vs H Q _ => ∃ (x : V) (T : String), vs = [x] ∧ Ty K H x T ∧
  ((T ≠ "list" ∧ T ≠ "tuple" ∧ ∀ H', Same H H' → Q (.bl false) H') ∨ ∃ (a : Addr) (xs : List V), x = .ref a ∧ (H a = some (.lst xs) ∨ H a = some (.tup xs)) ∧ (∀ y ∈ xs, ∃ U, Ty K H y U) ∧ ∀ H', Same H H' → Q (.bl (ws60 xs)) H')
theorem ty_row {K : PySem.W.Frag} {H : Hp} {a : Addr} {xs : List V} {T : String} (ty : Ty K H (.ref a) T) (hx : H a = some (.lst xs) ∨ H a = some (.tup xs)) : (T == "list" || T == "tuple") = true := by
  have t2 := ty.2
  generalize hv : Value.type T = tv at t2
  generalize hr : V.ref a = rv at t2
  cases t2 with
  | lst _ => cases hv; rfl
  | frz _ => cases hv; rfl
  | tup _ => cases hv; rfl
  | dK e => cases hr; rcases hx with z | z <;> (rw [z] at e; cases e)
  | dT e => cases hr; rcases hx with z | z <;> (rw [z] at e; cases e)
  | ins => cases hv
  | _ => cases hr
theorem scisw : FnScope ["thing"] ["thing"] (defScope sIsWeights) := ⟨rfl, rfl, rfl, by decide +kernel, rfl, by decide +kernel, by decide +kernel⟩
theorem ok_isw {f : Addr} {fd : FuncData} (F : Fun K "is_weights" "is_weights" sIsWeights f fd) (B : Blt mg) (mw : ∃ t, mg "MOST_WEIGHTS" = some (.int 60 t)) (DW : Dn P w K mg base "is_whole" ["thing", "least"] 1 (spWhole K)) (DR : Dn P w K mg base "is_row" ["thing"] 1 (spRow K)) : FnOk P w K mg base CX0 2 f fd ["thing"] (spIsW K) := by
  refine F.ok scisw (fun vs H Q E h => ?_) (fun cdv A outer s H vs Q E hr h => ?_)
  · obtain ⟨x, T, rfl, _⟩ := h
    rfl
  obtain ⟨x, T, rfl, ty, q⟩ := h
  have nd := scisw.nd
  obtain ⟨tk, htk⟩ := mw
  refine ⟨_, (@pss_cons _ _ _ _ _ (@ps_if _ _ _ _ _ _ _ _ (PW.pt (pw_or (@pt_not _ _ _ _ (@pt_val _ _ _ (@pe_cD _ _ _ _ _ _ _ _ _ _ DR hr rfl (@pa_cons _ _ _ _ _ (pv 0) pa_nil rfl) (by decide) rfl rfl) (by intro _; rfl))) (pw_or1 (@pt_not _ _ _ _ (pt_chain op_le op_le pe_int (@pe_callB _ _ _ _ _ _ _ _ _ call_len_seq rfl B.len PySem.boot_len (@pa_cons _ _ _ _ _ (pv 0) pa_nil rfl) (by decide) (by decide) rfl rfl) (pe_glob (v := .int 60) rfl htk ⟨tk, rfl⟩)))))) (@pss_one _ _ _ (@ps_ret _ _ _ _ pe_bl)) pss_nil) (@pss_one _ _ _ (@ps_ret _ _ _ _ (@pe_callB _ _ _ _ _ _ _ _ _ (call_allB rfl) rfl B.all PyProof.Rows.boot_all (@pa_cons _ _ _ _ _ (pe_comp (own := ["weight"]) (cs := []) (cap := []) rfl (pi_seq (pv 0)) (compOk_of (sc := defScope sIsWeights) (N := ["thing"]) rfl rfl (by decide +kernel)) (fun _ _ _ _ _ => pg_name (i := 0) (by show List.Nodup (["weight"] : List Str) ; decide +kernel) rfl (Or.inl rfl) (Or.inr rfl)) (fun _ _ _ _ _ => pifs_nil) (fun _ _ _ _ _ => (@pe_cD _ _ _ _ _ _ _ _ _ _ DW hr rfl (@pa_cons _ _ _ _ _ (pv 0) (@pa_cons _ _ _ _ _ pe_int pa_nil rfl) rfl) (by decide) rfl rfl))) pa_nil rfl) (by decide) (by decide) rfl rfl)))), ?_⟩
  refine ⟨_, rfl, x, T, rfl, ty, fun H1 s1 => ⟨_, rfl, ?_⟩⟩
  rcases q with ⟨n1, n2, q⟩ | ⟨a, xs, rfl, hx, its, q⟩
  · have e : (T == "list" || T == "tuple") = false := by simp [n1, n2]
    rw [e]
    refine iteT (iteT ?_)
    exact q H1 s1
  · rw [ty_row ty hx]
    have hx1 : H1 a = some (.lst xs) ∨ H1 a = some (.tup xs) := hx.imp (fun z => s1 _ _ z) fun z => s1 _ _ z
    have sq : SqL K H1 a xs ∨ SqT K H1 a xs := hx1.imp (fun z => SqL.of z) fun z => SqT.of z
    refine iteF ⟨_, rfl, a, xs, rfl, sq, _, _, rfl, rfl, _, rfl, ?_⟩
    have no : ws60 xs = false → tRet (tC (V.bl false)) { nx := fun x H' => Q V.non H', rt := Q } [some (.ref a)] H1 := fun e => by
      have q1 := q H1 s1
      rw [e] at q1
      exact q1
    refine ite2 (fun c => ?_) (fun c => ?_)
    · refine ⟨_, _, rfl, rfl, _, rfl, ?_⟩
      have c1 : 1 ≤ xs.length := by have := of_decide_eq_true c; omega
      refine ite2 (fun c2 => ?_) (fun c2 => ?_)
      · refine no ?_
        have : ¬ xs.length ≤ 60 := fun z => by
          rw [decide_eq_true (show (xs.length : Int) ≤ 60 by omega)] at c2
          cases c2
        unfold ws60
        rw [decide_eq_false this]
        simp
      · have c3 : xs.length ≤ 60 := by
          by_cases z : (xs.length : Int) ≤ 60
          · omega
          · rw [decide_eq_false z] at c2; exact absurd rfl c2
        have sz : (100 : Nat) < sizeLine := by decide
        dsimp only [tNext, tRet, tCB, tCons, tNil]
        refine comp_seqV (j := 0) (a := a) (xs := xs) rfl hx1 (fun i ys H4 => Same H1 H4 ∧ ys = ((xs.take i).map fun y => whole y 0).map V.bl) (fun i ys H4 _ ⟨s4, _⟩ o e => s4 _ _ e) ⟨Same.refl _, rfl⟩ ?_ ?_
        · rintro i y ys H4 hi ⟨s4, rfl⟩
          have hin : i < xs.length := (List.getElem?_eq_some_iff.mp hi).1
          obtain ⟨U, hU⟩ := its y (List.mem_of_getElem? hi)
          refine ⟨by rw [List.length_map, List.length_map, List.length_take]; omega, leS.set rfl, tYes_ite ?_⟩
          refine ⟨_, rfl, y, U, 0, rfl, Ty.same (s1.trans s4) hU, Nx.of hin ⟨s4, ?_⟩⟩
          rw [List.take_add_one, hi]
          simp only [Option.toList_some, List.map_append, List.map_cons, List.map_nil]
        · rintro ys H4 ⟨s4, rfl⟩
          refine ⟨by rw [List.length_map, List.length_map, List.length_take]; omega, fun p hp => ?_⟩
          rw [List.take_length]
          refine ⟨p, _, rfl, SqL.of upd_same, ?_⟩
          have q1 := q _ ((s1.trans s4).trans (Same.new hp (o := .lst ((xs.map fun y => whole y 0).map V.bl))))
          have e : ws60 xs = (xs.map fun y => whole y 0).all id := by
            unfold ws60
            rw [decide_eq_true c1, decide_eq_true c3, List.all_map]
            rfl
          rw [e] at q1
          exact q1
    · have c1 : ¬ 1 ≤ xs.length := fun z => c (decide_eq_true (by omega))
      refine ⟨_, rfl, iteT (no ?_)⟩
      unfold ws60
      rw [decide_eq_false c1]
      rfl
/-- a row of ints: a list or a tuple -/
def RowI (H : Hp) (a : Addr) (ws : List Int) : Prop := H a = some (.lst (ws.map V.int)) ∨ H a = some (.tup (ws.map V.int))
theorem RowI.same {H H' : Hp} {a : Addr} {ws : List Int} (s : Same H H') (h : RowI H a ws) : RowI H' a ws := h.imp (fun z => s _ _ z) fun z => s _ _ z
theorem rix_row {K : PySem.W.Frag} {H : Hp} {a : Addr} {ws : List Int} {i : Int} {Q : VK} (h : RowI H a ws) (i0 : 0 ≤ i) (i1 : i < ws.length) (q : Q (.int (gI ws i)) H) : rIx K (.ref a) (.int i) H Q := by
  have hv : atI (ws.map V.int) i = some (.int (gI ws i)) := by
    refine atI_int i0 ?_
    have hi : i.toNat < ws.length := by omega
    unfold gI
    rw [List.getElem?_map, List.getElem?_eq_getElem hi, List.getD_eq_getElem?_getD, List.getElem?_eq_getElem hi]
    rfl
  rcases h with z | z
  · exact .inl ⟨a, _, _, _, rfl, rfl, SqL.of z, hv, q⟩
  · exact .inr (.inl ⟨a, _, _, _, rfl, rfl, SqT.of z, hv, q⟩)
theorem at_row {ws : List Int} {i : Int} (i0 : 0 ≤ i) (i1 : i < ws.length) : atI (ws.map V.int) i = some (.int (gI ws i)) := by
  refine atI_int i0 ?_
  have hi : i.toNat < ws.length := by omega
  unfold gI
  rw [List.getElem?_map, List.getElem?_eq_getElem hi, List.getD_eq_getElem?_getD, List.getElem?_eq_getElem hi]
  rfl
def spBest (K : PySem.W.Frag) : Sp := fun vs H Q _ => ∃ (b : Int) (a l : Addr) (ws ls : List Int) (n : Nat), vs = [.int b, .ref a, .ref l, .int n] ∧ 0 ≤ b ∧ RowI H a ws ∧ H l = some (.lst (ls.map V.int)) ∧ ls.length = n ∧ 1 ≤ n ∧ n ≤ ws.length ∧ n ≤ 60 ∧
  ∀ (t : Addr) (H' : Hp), H t = none → H' t = some (.tup [.int (bst b ws ls n n).1, .int (bst b ws ls n n).2]) → Same H H' → Q (.ref t) H'
theorem scbest : FnScope ["blade", "weights", "loads", "side", "load", "length", "first", "behind", "together"] ["blade", "weights", "loads", "side"] (defScope sBestLength) := ⟨rfl, rfl, rfl, by decide +kernel, rfl, by decide +kernel, by decide +kernel⟩
theorem ok_best {f : Addr} {fd : FuncData} (F : Fun K "best_length" "best_length" sBestLength f fd) (B : Blt mg) : FnOk P w K mg base CX0 1 f fd ["blade", "weights", "loads", "side"] (spBest K) := by
  refine F.ok scbest (fun vs H Q E h => ?_) (fun cdv A outer s H vs Q E hr h => ?_)
  · obtain ⟨b, a, l, ws, ls, n, rfl, _⟩ := h
    rfl
  obtain ⟨b, a, l, ws, ls, n, rfl, b0, hw, hl, len, n1, n2, n60, q⟩ := h
  have nd := scbest.nd
  refine ⟨_, (@pss_cons _ _ _ _ _ (@ps_asg _ _ _ _ _ _ (@pe_tup _ _ _ _ _ (@pa_cons _ _ _ _ _ pe_int (@pa_cons _ _ _ _ _ pe_int pa_nil rfl) rfl)) (pg_tup rfl (pgs_cons (pg_name (i := 4) nd rfl (Or.inl rfl)) (pgs_cons (pg_name (i := 5) nd rfl (Or.inl rfl)) pgs_nil))) rfl rfl rfl) (@pss_cons _ _ _ _ _ (@ps_for _ _ _ _ _ _ _ _ PassesOwn.never rfl (pi_range2 rfl B.range (@pa_cons _ _ _ _ _ pe_int (@pa_cons _ _ _ _ _ (@pe_op _ _ _ _ _ _ _ _ op_add (pv 3) pe_int) pa_nil rfl) rfl)) (pg_name (i := 6) nd rfl (Or.inl rfl)) (@pss_cons _ _ _ _ _ (@ps_set _ _ 7 _ _ _ _ nd rfl (Or.inl rfl) (@pe_callB _ _ _ _ _ _ _ _ _ (call_max2 rfl) rfl B.max PyProof.Rows.boot_max (@pa_cons _ _ _ _ _ pe_int (@pa_cons _ _ _ _ _ (@pe_op _ _ _ _ _ _ _ _ op_sub (@pe_op _ _ _ _ _ _ _ _ op_sub (pv 3) (pv 6)) (pv 0)) pa_nil rfl) rfl) (by decide) (by decide) rfl rfl) rfl (Or.inr rfl)) (@pss_cons _ _ _ _ _ (@ps_set _ _ 8 _ _ _ _ nd rfl (Or.inl rfl) (@pe_op _ _ _ _ _ _ _ _ op_add (@pe_ix _ _ _ _ _ _ _ ix_seq (pv 1) (@pe_op _ _ _ _ _ _ _ _ op_sub (pv 6) pe_int) (fun _ _ => rfl)) (@pe_ix _ _ _ _ _ _ _ ix_list (pv 2) (pv 7) (fun _ _ => rfl))) rfl (Or.inr rfl)) (@pss_one _ _ _ (@ps_if _ _ _ _ _ _ _ _ (@pt_cmpR _ _ _ _ _ _ _ _ op_gt (pv 8) (pv 4) (nomark _)) (@pss_one _ _ _ (ps_par rfl nd rfl rfl (i := 4) (j := 5) (by decide) rfl rfl (@pa_cons _ _ _ _ _ (pv 8) (@pa_cons _ _ _ _ _ (pv 6) pa_nil rfl) rfl) rfl)) pss_nil)))) (by intro _; rfl)) (@pss_one _ _ _ (@ps_ret _ _ _ _ (@pe_tup _ _ _ _ _ (@pa_cons _ _ _ _ _ (pv 4) (@pa_cons _ _ _ _ _ (pv 5) pa_nil rfl) rfl)))))), ?_⟩
  refine ⟨(by show 2 ≤ sizeLine; decide), fun t0 ht0 => ⟨t0, _, rfl, SqT.of upd_same, rfl, _, _, rfl, _, _, rfl, rfl, ?_⟩⟩
  have s0 : Same H (upd H t0 (.tup [.int 0, .int 0])) := Same.new ht0
  generalize upd H t0 (.tup [.int 0, .int 0]) = H0 at s0 ⊢
  replace hw := hw.same s0
  replace hl := s0 _ _ hl
  refine ⟨_, rfl, _, _, rfl, rfl, _, _, rfl, ⟨by decide, by decide, by omega, by omega⟩, ?_⟩
  have en : ((n : Int) + 1 - 1).toNat = n := by omega
  rw [en]
  refine for_range (lo := 1) (n := n) (fun i σ H' => H' = H0 ∧ ∃ v6 v7 v8, σ = [some (.int b), some (.ref a), some (.ref l), some (.int n), some (.int (bst b ws ls n i).1), some (.int (bst b ws ls n i).2), v6, v7, v8]) ⟨rfl, none, none, none, rfl⟩ ?_ ?_
  · rintro i σ _ hi ⟨rfl, v6, v7, v8, rfl⟩
    refine ⟨_, rfl, _, rfl, _, _, rfl, rfl, _, rfl, _, _, rfl, rfl, _, _, rfl, ?_⟩
    have em : (if (n : Int) - (1 + (i : Int)) - b > 0 then (n : Int) - (1 + (i : Int)) - b else 0) = m0 ((n : Int) - ((i : Int) + 1) - b) := by rw [Int.add_comm 1 (i : Int)]; rfl
    have h0 : 0 ≤ m0 ((n : Int) - ((i : Int) + 1) - b) := m0_nn _
    have h1 : m0 ((n : Int) - ((i : Int) + 1) - b) < ls.length := by unfold m0; split <;> omega
    refine ⟨_, rfl, _, rfl, _, _, rfl, rfl, rix_row hw (by omega) (by omega) ?_⟩
    have ei : (1 + (i : Int)) - 1 = i := by omega
    refine ⟨_, rfl, _, rfl, l, _, _, _, rfl, rfl, SqL.of hl, (by rw [em]; exact at_row h0 h1), _, _, rfl, rfl, ?_⟩
    refine ⟨_, rfl, _, rfl, _, _, rfl, rfl, _, rfl, ?_⟩
    rw [ei]
    refine ite2 (fun c => ?_) (fun c => ?_)
    · have c' := of_decide_eq_true c
      have eb : bst b ws ls n (i + 1) = (gI ws i + gI ls (m0 ((n : Int) - ((i : Int) + 1) - b)), (i : Int) + 1) := by
        simp only [bst]; rw [if_pos c']
      exact ⟨_, rfl, _, rfl, _, _, rfl, rfl, _, _, _, by rw [eb, Int.add_comm (i : Int) 1]; rfl⟩
    · have eb : bst b ws ls n (i + 1) = bst b ws ls n i := by
        simp only [bst]; rw [if_neg (fun z => c (decide_eq_true z))]
      exact ⟨rfl, _, _, _, by rw [eb]; rfl⟩
  · rintro σ _ ⟨rfl, v6, v7, v8, rfl⟩
    exact ⟨_, rfl, _, rfl, (by show 2 ≤ sizeLine; decide), fun t ht => q t _ (s0.free ht) upd_same (s0.trans (Same.new ht))⟩
theorem lens_len {b : Int} {st : List Int} : ∀ (f : Nat) (s : Int), (lens b st f s).length ≤ f
  | 0, _ => Nat.zero_le _
  | f + 1, s => by
    by_cases c : 0 < s ∧ 0 < gI st s
    · rw [lens_go c, List.length_cons]; exact Nat.succ_le_succ (lens_len f _)
    · rw [lens_stop c]; exact Nat.zero_le _
def lensN (b : Int) (st : List Int) (s : Int) : List Int := lens b st s.toNat s
theorem lensN_go {b : Int} {st : List Int} {s : Int} (hb : 0 ≤ b) (h : 0 < s ∧ 0 < gI st s) : lensN b st s = gI st s :: lensN b st (s - (gI st s + b)) := by
  unfold lensN
  obtain ⟨f, hf⟩ : ∃ f : Nat, s.toNat = f + 1 := ⟨s.toNat - 1, by omega⟩
  rw [hf, lens_go h, lens_fuel hb f _ (by omega) (s - (gI st s + b)).toNat (by omega)]
theorem lensN_stop {b : Int} {st : List Int} {s : Int} (h : ¬ (0 < s ∧ 0 < gI st s)) : lensN b st s = [] := lens_stop h
def spLens : Sp := fun vs H Q _ => ∃ (b : Int) (l : Addr) (st : List Int) (n : Nat), vs = [.int b, .ref l, .int n] ∧ 0 ≤ b ∧ H l = some (.lst (st.map V.int)) ∧ n < st.length ∧ n ≤ 60 ∧
  ∀ (t : Addr) (ns : List Int) (H' : Hp), H t = none → ns.Perm (lensN b st n) → ns.Pairwise (· ≤ ·) → H' t = some (.lst (ns.map V.int)) → Same H H' → Q (.ref t) H'
theorem sclens : FnScope ["blade", "steps", "side", "lengths", "length"] ["blade", "steps", "side"] (defScope sLengthsBySteps) := ⟨rfl, rfl, rfl, by decide +kernel, rfl, by decide +kernel, by decide +kernel⟩
theorem ok_lens {f : Addr} {fd : FuncData} (F : Fun K "lengths_by_steps" "lengths_by_steps" sLengthsBySteps f fd) (B : Blt mg) : FnOk P w K mg base CX0 1 f fd ["blade", "steps", "side"] (spLens) := by
  refine F.ok sclens (fun vs H Q E h => ?_) (fun cdv A outer s H vs Q E hr h => ?_)
  · obtain ⟨b, l, st, n, rfl, _⟩ := h
    rfl
  obtain ⟨b, l, st, n, rfl, b0, hl, n1, n60, q⟩ := h
  have nd := sclens.nd
  refine ⟨_, (@pss_cons _ _ _ _ _ (@ps_set _ _ 3 _ _ _ _ nd rfl (Or.inl rfl) (@pe_lst _ _ _ _ pa_nil) rfl (Or.inr rfl)) (@pss_cons _ _ _ _ _ (ps_while PassesOwn.never (PW.pt (pw_and (@pt_cmpR _ _ _ _ _ _ _ _ op_gt (pv 2) pe_int (nomark _)) (pw_and1 (@pt_cmpR _ _ _ _ _ _ _ _ op_gt (@pe_ix _ _ _ _ _ _ _ ix_list (pv 1) (pv 2) (fun _ _ => rfl)) pe_int (nomark _))))) (@pss_cons _ _ _ _ _ (@ps_set _ _ 4 _ _ _ _ nd rfl (Or.inl rfl) (@pe_ix _ _ _ _ _ _ _ ix_list (pv 1) (pv 2) (fun _ _ => rfl)) rfl (Or.inr rfl)) (@pss_cons _ _ _ _ _ (@ps_expr _ _ _ _ (@pe_bm _ _ _ _ _ _ _ _ _ _ _ _ PySem.F.plainAttrs_list PySem.F.slot_list_append PySem.F.type_list_append mt_append (pv 3) (@pa_cons _ _ _ _ _ (pv 4) pa_nil rfl) rfl rfl rfl rfl rfl) rfl) (@pss_one _ _ _ (ps_aug (i := 2) nd rfl (Or.inl rfl) (@pe_op _ _ _ _ _ _ _ _ op_add (pv 4) (pv 0)) ip_sub))))) (@pss_one _ _ _ (@ps_ret _ _ _ _ (@pe_callB _ _ _ _ _ _ _ _ _ call_sortedI rfl B.sorted PyProof.Rows.boot_sorted (@pa_cons _ _ _ _ _ (pv 3) pa_nil rfl) (by decide) (by decide) rfl rfl))))), ?_⟩
  refine ⟨by decide, fun t ht => ?_⟩
  have lt : l ≠ t := ne_of_none hl ht
  have sz : (100 : Nat) < sizeLine := by decide
  have ln := lens_len (b := b) (st := st) n (n : Int)
  refine while_by (fun σ H' => ∃ (dn : List Int) (r : Int) (v : Option V), σ = [some (.int b), some (.ref l), some (.int r), some (.ref t), v] ∧ r ≤ n ∧ H' t = some (.lst (dn.map V.int)) ∧ Same H H' ∧ dn ++ lensN b st r = lensN b st n)
    (fun σ _ => match σ with | [_, _, some (.int r), _, _] => r.toNat | _ => 0) ⟨[], n, none, rfl, Int.le_refl _, upd_same, Same.new ht, rfl⟩ ?_ ?_
  · rintro σ H1 ⟨dn, r, v, rfl, hr1, t1, s1, e1⟩
    have dl : dn.length ≤ 60 := by
      have := congrArg List.length e1
      rw [List.length_append] at this
      unfold lensN at this
      rw [Int.toNat_natCast] at this
      omega
    have out : ¬ (0 < r ∧ 0 < gI st r) → dn = lensN b st n := fun c => by rw [lensN_stop c, List.append_nil] at e1; exact e1
    have fin : dn = lensN b st n → tRet (tCB (fun xs H Q => ∃ (p : Addr) (ns : List Int), xs = [.ref p] ∧ SqL K H p (ns.map V.int) ∧ ns.length < 64 ∧ ∀ (l : Addr) (ns' : List Int), H l = none → ns'.Perm ns → ns'.Pairwise (· ≤ ·) → Q (.ref l) (upd H l (.lst (ns'.map V.int)))) (tCons (tVar 3) tNil)) { nx := fun x H' => Q V.non H', rt := Q } [some (.int b), some (.ref l), some (.int r), some (.ref t), v] H1 := fun e => by
      refine ⟨_, rfl, t, dn, rfl, SqL.of t1, by omega, fun t' ns' ht' pm pw => ?_⟩
      rw [e] at pm
      have ht0 : H t' = none := by
        cases z : H t' with
        | none => rfl
        | some o => rw [s1 _ _ z] at ht'; cases ht'
      exact q t' ns' _ ht0 pm pw upd_same (s1.trans (Same.new ht'))
    refine ⟨_, rfl, _, _, rfl, rfl, _, rfl, ?_⟩
    refine ite2 (fun c => ?_) (fun c => ?_)
    · have c0 : 0 < r := of_decide_eq_true c
      refine ⟨_, rfl, _, rfl, l, _, _, _, rfl, rfl, SqL.of (s1 _ _ hl), at_row (by omega) (by omega), _, _, rfl, rfl, _, rfl, ?_⟩
      refine ite2 (fun c2 => ?_) (fun c2 => ?_)
      · have c3 : 0 < gI st r := of_decide_eq_true c2
        refine ⟨_, rfl, _, rfl, l, _, _, _, rfl, rfl, SqL.of (s1 _ _ hl), at_row (by omega) (by omega), ?_⟩
        refine ⟨_, rfl, .inl ⟨rfl, _, SqL.of t1⟩, _, rfl, t, _, _, rfl, rfl, t1, (by rw [List.length_map]; omega), ?_⟩
        refine ⟨_, rfl, _, rfl, _, rfl, _, _, rfl, rfl, _, _, rfl, rfl, ⟨dn ++ [gI st r], r - (gI st r + b), _, rfl, by omega, ?_, ?_, ?_⟩, ?_⟩
        · rw [upd_same, List.map_append]; rfl
        · intro c o e
          rw [upd_ne (fun z => by rw [z, ht] at e; cases e)]
          exact s1 c o e
        · rw [List.append_assoc, List.singleton_append, ← lensN_go b0 ⟨c0, c3⟩]; exact e1
        · show (r - (gI st r + b)).toNat < r.toNat
          omega
      · exact fin (out fun z => c2 (decide_eq_true z.2))
    · exact fin (out fun z => c (decide_eq_true z.1))
  · rintro σ H1 Q1 Q2 hq ⟨x, e1, i, j, e2, e3, k, e4, h⟩
    refine ⟨x, e1, i, j, e2, e3, k, e4, ?_⟩
    cases k with
    | false => rw [if_neg Bool.false_ne_true] at h ⊢; exact hq _ _ h
    | true =>
      rw [if_pos rfl] at h ⊢
      obtain ⟨x1, f1, x2, f2, p1, a1, a2, a3, g1, g2, g3, g4, i2, j2, g5, g6, k2, g7, h2⟩ := h
      exact ⟨x1, f1, x2, f2, p1, a1, a2, a3, g1, g2, g3, g4, i2, j2, g5, g6, k2, g7, hq _ _ h2⟩
end
/-! ### odd things -/
def Od1 (H : Hp) (p : Addr) (v : V) : Prop := v = .non ∨ (∃ b, v = .bl b) ∨ (∃ i, v = .int i ∧ Short i) ∨ v = .str "1" ∨ v = .str "12" ∨
  ∃ a, v = .ref a ∧ a ≠ p ∧ (H a = some (.lst [.int 1]) ∨ H a = some (.tup [.int 1]) ∨ H a = some (.dK []) ∨ H a = some (.dK [(Sum.inl 1, .int 1)]))
theorem Od1.mono {H H' : Hp} {p : Addr} {v : V} (b : But p H H') (h : Od1 H p v) : Od1 H' p v := by
  rcases h with h | h | h | h | h | ⟨a, e, n, h⟩
  · exact .inl h
  · exact .inr (.inl h)
  · exact .inr (.inr (.inl h))
  · exact .inr (.inr (.inr (.inl h)))
  · exact .inr (.inr (.inr (.inr (.inl h))))
  · exact .inr (.inr (.inr (.inr (.inr ⟨a, e, n, h.imp (b _ _ n) (Or.imp (b _ _ n) (Or.imp (b _ _ n) (b _ _ n)))⟩))))
theorem sBut {H H' : Hp} {p : Addr} (s : Same H H') : But p H H' := fun c o _ e => s c o e
theorem Od1.ty {K : PySem.W.Frag} {H : Hp} {p : Addr} {v : V} (h : Od1 H p v) : ∃ T, Ty K H v T := by
  rcases h with rfl | ⟨b, rfl⟩ | ⟨i, rfl, _⟩ | rfl | rfl | ⟨a, rfl, n, h | h | h | h⟩
  · exact ⟨_, Ty.non⟩
  · exact ⟨_, Ty.bl⟩
  · exact ⟨_, Ty.int⟩
  · exact ⟨_, Ty.str⟩
  · exact ⟨_, Ty.str⟩
  · exact ⟨_, Ty.lst h⟩
  · exact ⟨_, Ty.tup h⟩
  · exact ⟨_, Ty.dK h⟩
  · exact ⟨_, Ty.dK h⟩
/-- its data, whatever else is made -/
def Dt (K : PySem.W.Frag) (H : Hp) (v : V) (d : PyData) (k n : Nat) : Prop := (∀ H', Same H H' → DatD K H' v d) ∧ d.showable = true ∧ d.depth ≤ k ∧ d.shown.length ≤ n
theorem Od1.dat {K : PySem.W.Frag} {H : Hp} {p : Addr} {v : V} (h : Od1 H p v) : ∃ d, Dt K H v d 1 70 := by
  rcases h with rfl | ⟨b, rfl⟩ | ⟨i, rfl, hs⟩ | rfl | rfl | ⟨a, rfl, n, h | h | h | h⟩
  · exact ⟨.none, fun _ _ => .non, by decide +kernel, by decide +kernel, by decide +kernel⟩
  · exact ⟨.bool b, fun _ _ => .bl b, by cases b <;> decide +kernel, by cases b <;> decide +kernel, by cases b <;> decide +kernel⟩
  · exact ⟨.int i, fun _ _ => .int i, by simp [PyData.showable, hs.log], by simp [PyData.depth], by have := hs.len; omega⟩
  · exact ⟨.str "1", fun _ _ => .str _, by decide +kernel, by decide +kernel, by decide +kernel⟩
  · exact ⟨.str "12", fun _ _ => .str _, by decide +kernel, by decide +kernel, by decide +kernel⟩
  · exact ⟨.list [.int 1], fun H' s => .lst (SqL.of (s _ _ h)) (.cons (.int 1) .nil), by decide +kernel, by decide +kernel, by decide +kernel⟩
  · exact ⟨.tuple [.int 1], fun H' s => .tup (SqT.of (s _ _ h)) (.cons (.int 1) .nil), by decide +kernel, by decide +kernel, by decide +kernel⟩
  · exact ⟨.dict [], fun H' s => .dct (kv := []) (s _ _ h), by decide +kernel, by decide +kernel, by decide +kernel⟩
  · exact ⟨.dict [(.int 1, .int 1)], fun H' s => .dct (kv := [(1, 1)]) (s _ _ h), by decide +kernel, by decide +kernel, by decide +kernel⟩
theorem dat_row {K : PySem.W.Frag} {H : Hp} {p : Addr} : ∀ xs : List V, (∀ x ∈ xs, Od1 H p x) → ∃ ds, (∀ H', Same H H' → DatDs K H' xs ds) ∧ PyData.showableAll ds = true ∧ PyData.depthAll ds ≤ 1 ∧ ((PyData.shownAll ds).map (·.length)).sum ≤ 70 * xs.length ∧ (PyData.shownAll ds).length = xs.length
  | [], _ => ⟨[], fun _ _ => .nil, rfl, by decide, by decide, rfl⟩
  | x :: xs, h => by
    obtain ⟨d, d1, d2, d3, d4⟩ := (h x (List.mem_cons_self ..)).dat (K := K)
    obtain ⟨ds, e1, e2, e3, e4, e5⟩ := dat_row xs fun y hy => h y (List.mem_cons_of_mem _ hy)
    refine ⟨d :: ds, fun H' s => .cons (d1 H' s) (e1 H' s), ?_, ?_, ?_, ?_⟩
    · simp only [PyData.showableAll, d2, e2, Bool.and_self]
    · simp only [PyData.depthAll]; omega
    · simp only [PyData.shownAll, List.map_cons, List.sum_cons, List.length_cons]; omega
    · simp only [PyData.shownAll, List.length_cons]; omega
def Row2 (H : Hp) (p : Addr) (v : V) (xs : List V) : Prop := ∃ a, v = .ref a ∧ a ≠ p ∧ (H a = some (.lst xs) ∨ H a = some (.tup xs)) ∧ xs.length ≤ 61 ∧ ∀ x ∈ xs, Od1 H p x
theorem Row2.mono {H H' : Hp} {p : Addr} {v : V} {xs : List V} (b : But p H H') (h : Row2 H p v xs) : Row2 H' p v xs :=
  let ⟨a, e, n, h, l, o⟩ := h; ⟨a, e, n, h.imp (b _ _ n) (b _ _ n), l, fun x hx => (o x hx).mono b⟩
theorem Row2.dat {K : PySem.W.Frag} {H : Hp} {p : Addr} {v : V} {xs : List V} (h : Row2 H p v xs) : ∃ d, Dt K H v d 2 6000 := by
  obtain ⟨a, rfl, n, h, l, o⟩ := h
  obtain ⟨ds, e1, e2, e3, e4, e5⟩ := dat_row (K := K) xs o
  rcases h with h | h
  · refine ⟨.list ds, fun H' s => .lst (SqL.of (s _ _ h)) (e1 H' s), by simp only [PyData.showable, e2], by simp only [PyData.depth]; omega, ?_⟩
    have := listText_len_le (PyData.shownAll ds)
    simp only [PyData.shown]
    omega
  · refine ⟨.tuple ds, fun H' s => .tup (SqT.of (s _ _ h)) (e1 H' s), by simp only [PyData.showable, e2], by simp only [PyData.depth]; omega, ?_⟩
    have := tupleText_len_le (PyData.shownAll ds)
    simp only [PyData.shown]
    omega
/-- handed weights, of any kind -/
def Hnd (K : PySem.W.Frag) (H : Hp) (p : Addr) (v : V) (o : Option (List V)) : Prop := (o = none ∧ Od1 H p v ∧ ∃ T, Ty K H v T ∧ T ≠ "list" ∧ T ≠ "tuple") ∨ ∃ xs, o = some xs ∧ Row2 H p v xs
def wok : Option (List V) → Bool
  | none => false
  | some xs => ws60 xs
theorem Hnd.mono {K : PySem.W.Frag} {H H' : Hp} {p : Addr} {v : V} {o : Option (List V)} (s : Same H H') (h : Hnd K H p v o) : Hnd K H' p v o :=
  h.imp (fun ⟨e, a, T, t, n⟩ => ⟨e, a.mono (sBut s), T, Ty.same s t, n⟩) fun ⟨xs, e, r⟩ => ⟨xs, e, r.mono (sBut s)⟩
theorem Hnd.dat {K : PySem.W.Frag} {H : Hp} {p : Addr} {v : V} {o : Option (List V)} (h : Hnd K H p v o) : ∃ d, Dt K H v d 2 6000 := by
  rcases h with ⟨_, h, _⟩ | ⟨xs, _, h⟩
  · obtain ⟨d, d1, d2, d3, d4⟩ := h.dat (K := K)
    exact ⟨d, d1, d2, by omega, by omega⟩
  · exact h.dat
theorem dat3 {K : PySem.W.Frag} {H : Hp} {a b c : V} {x y z : PyData} (ha : Dt K H a x 1 70) (hb : Dt K H b y 2 6000) (hc : Dt K H c z 1 70) :
    (∀ (H' : Hp) (l : Addr), Same H H' → H' l = some (.lst [a, b, c]) → DatD K H' (.ref l) (.list [x, y, z])) ∧ (PyData.list [x, y, z]).showable = true ∧ (PyData.list [x, y, z]).depth ≤ 64 ∧ (PyData.list [x, y, z]).shown.length ≤ sizeLine := by
  obtain ⟨a1, a2, a3, a4⟩ := ha
  obtain ⟨b1, b2, b3, b4⟩ := hb
  obtain ⟨c1, c2, c3, c4⟩ := hc
  refine ⟨fun H' l s e => .lst (SqL.of e) (.cons (a1 H' s) (.cons (b1 H' s) (.cons (c1 H' s) .nil))), ?_, ?_, ?_⟩
  · simp only [PyData.showable, PyData.showableAll, a2, b2, c2, Bool.and_self]
  · simp only [PyData.depth, PyData.depthAll]; omega
  · have := listText_len_le (PyData.shownAll [x, y, z])
    have sz : (20000 : Nat) ≤ sizeLine := by decide
    simp only [PyData.shown]
    simp only [PyData.shownAll, List.map_cons, List.map_nil, List.sum_cons, List.sum_nil, List.length_cons, List.length_nil] at this ⊢
    omega
section
variable {P : Program} {w : World} {K : PySem.W.Frag} {mg : Str → Option Value} {base : Heap}
theorem at_mem {xs : List V} {i : Int} (h0 : 0 ≤ i) (h1 : i < xs.length) : ∃ v, atI xs i = some v ∧ v ∈ xs := by
  have hk : i.toNat < xs.length := by omega
  exact ⟨xs[i.toNat], atI_int h0 (List.getElem?_eq_getElem hk), List.getElem_mem hk⟩
/-- a new thing stands beside the pot -/
theorem put1 {p c : Addr} {H0 H : Hp} {o : HO} (b : But p H0 H) (pt : PotB H p) (h : H c = none) : ∃ H', upd H c o = H' ∧ H' c = some o ∧ c ≠ p ∧ Same H H' ∧ But p H0 H' ∧ PotB H' p :=
  ⟨_, rfl, upd_same, Ne.symm (pt.ne h), Same.new h, b.trans (But.new h), pt.new h⟩
theorem od_int {H : Hp} {p : Addr} {i : Int} (h : i.natAbs < 10 ^ 62) : Od1 H p (.int i) := .inr (.inr (.inl ⟨i, rfl, h⟩))
theorem od_bl {H : Hp} {p : Addr} {b : Bool} : Od1 H p (.bl b) := .inr (.inl ⟨b, rfl⟩)
theorem od_ref {H : Hp} {p a : Addr} (n : a ≠ p) (h : H a = some (.lst [.int 1]) ∨ H a = some (.tup [.int 1]) ∨ H a = some (.dK []) ∨ H a = some (.dK [(Sum.inl 1, .int 1)])) : Od1 H p (.ref a) := .inr (.inr (.inr (.inr (.inr ⟨a, rfl, n, h⟩))))
def spBadBlade : Sp := fun vs H Q _ => ∃ (p : Addr), vs = [.ref p] ∧ PotB H p ∧ ∀ (v : V) (H' : Hp), Od1 H' p v → whole v 0 = false → PotB H' p → But p H H' → Q v H'
def spBadSide : Sp := fun vs H Q _ => ∃ (p : Addr) (m : Int), vs = [.ref p, .int m] ∧ 1 ≤ m ∧ m ≤ 8 ∧ PotB H p ∧ ∀ (v : V) (H' : Hp), Od1 H' p v → (whole v 1 = false ∨ ∃ i, v = .int i ∧ m < i) → PotB H' p → But p H H' → Q v H'
theorem scbadblade : FnScope ["_law_pot_here", "_law_some"] ["_law_pot_here"] (defScope sBadBlade) := ⟨rfl, rfl, rfl, by decide +kernel, rfl, by decide +kernel, by decide +kernel⟩
theorem ok_badblade {f : Addr} {fd : FuncData} (F : Fun K "_law_bad_blade" "_law_bad_blade" sBadBlade f fd) (B : Blt mg) (DD : Dn P w K mg base "_law_draw" ["_law_pot_here", "_law_many"] 1 spDrawB) (DG : Dn P w K mg base "_law_great" ["_law_pot_here"] 2 spGreat) : FnOk P w K mg base CX0 3 f fd ["_law_pot_here"] (spBadBlade) := by
  refine F.ok scbadblade (fun vs H Q E h => ?_) (fun cdv A outer s H vs Q E hr h => ?_)
  · obtain ⟨p, rfl, _⟩ := h
    rfl
  obtain ⟨p, rfl, pt, q⟩ := h
  have nd := scbadblade.nd
  have hr1 := hr.mono (show 1 ≤ 2 by decide)
  have hr2 := hr.mono (show 2 ≤ 2 by decide)
  refine ⟨_, (@pss_cons _ _ _ _ _ (@ps_set _ _ 1 _ _ _ _ nd rfl (Or.inl rfl) (@pe_lst _ _ _ _ (@pa_cons _ _ _ _ _ (@pe_un _ _ _ _ _ _ un_neg pe_int) (@pa_cons _ _ _ _ _ (@pe_op _ _ _ _ _ _ _ _ op_sub (@pe_un _ _ _ _ _ _ un_neg pe_int) (@pe_cD _ _ _ _ _ _ _ _ _ _ DG hr2 rfl (@pa_cons _ _ _ _ _ (pv 0) pa_nil rfl) (by decide) rfl rfl)) (@pa_cons _ _ _ _ _ pe_bl (@pa_cons _ _ _ _ _ pe_bl (@pa_cons _ _ _ _ _ pe_str (@pa_cons _ _ _ _ _ (@pe_lst _ _ _ _ (@pa_cons _ _ _ _ _ pe_int pa_nil rfl)) (@pa_cons _ _ _ _ _ (@pe_tup _ _ _ _ _ (@pa_cons _ _ _ _ _ pe_int pa_nil rfl)) (@pa_cons _ _ _ _ _ pe_non (@pa_cons _ _ _ _ _ pe_no_dict pa_nil rfl) rfl) rfl) rfl) rfl) rfl) rfl) rfl) rfl)) rfl (Or.inr rfl)) (@pss_one _ _ _ (@ps_ret _ _ _ _ (@pe_ix _ _ _ _ _ _ _ ix_list (pv 1) (@pe_cD _ _ _ _ _ _ _ _ _ _ DD hr1 rfl (@pa_cons _ _ _ _ _ (pv 0) (@pa_cons _ _ _ _ _ (@pe_callB _ _ _ _ _ _ _ _ _ call_len_seq rfl B.len PySem.boot_len (@pa_cons _ _ _ _ _ (pv 1) pa_nil rfl) (by decide) (by decide) rfl rfl) pa_nil rfl) rfl) (by decide) rfl rfl) (fun _ _ => rfl))))), ?_⟩
  refine ⟨_, rfl, _, rfl, _, rfl, p, rfl, pt, fun g H1 g0 g1 pt1 b1 => ⟨_, _, rfl, rfl, ?_⟩⟩
  refine ⟨(by show 1 ≤ sizeLine; decide), fun c1 hc1 => ?_⟩
  obtain ⟨H2, e2, k1, n1, s2, b2, pt2⟩ := put1 (o := .lst [.int 1]) b1 pt1 hc1
  rw [e2]; clear e2
  refine ⟨(by show 1 ≤ sizeLine; decide), fun c2 hc2 => ?_⟩
  obtain ⟨H3, e3, k2, n2, s3, b3, pt3⟩ := put1 (o := .tup [.int 1]) b2 pt2 hc2
  rw [e3]; clear e3
  refine fun c3 hc3 => ?_
  obtain ⟨H4, e4, k3, n3, s4, b4, pt4⟩ := put1 (o := .dK []) b3 pt3 hc3
  rw [e4]; clear e4
  refine ⟨(by show 9 ≤ sizeLine; decide), fun c4 hc4 => ?_⟩
  obtain ⟨H5, e5, k4, n4, s5, b5, pt5⟩ := put1 (o := .lst [.int (-1), .int (-1 - g), .bl true, .bl false, .str "1", .ref c1, .ref c2, .non, .ref c3]) b4 pt4 hc4
  rw [show upd H4 c4 _ = H5 from e5]; clear e5
  refine ⟨_, rfl, _, rfl, _, rfl, c4, _, rfl, .inl (SqL.of k4), p, 9, rfl, pt5, by decide, by decide, fun r H6 r0 r1 pt6 b6 => ?_⟩
  obtain ⟨v, hv, hm⟩ := at_mem (xs := [.int (-1), .int (-1 - g), .bl true, .bl false, .str "1", .ref c1, .ref c2, .non, .ref c3]) r0 r1
  have m1 := b6 _ _ n1 (s5 _ _ (s4 _ _ (s3 _ _ k1)))
  have m2 := b6 _ _ n2 (s5 _ _ (s4 _ _ k2))
  have m3 := b6 _ _ n3 (s5 _ _ k3)
  have h58 : (10 : Int) ^ 58 < 10 ^ 62 := by decide
  have od : Od1 H6 p v ∧ whole v 0 = false := by
    simp only [List.mem_cons, List.not_mem_nil, or_false] at hm
    rcases hm with rfl | rfl | rfl | rfl | rfl | rfl | rfl | rfl | rfl
    · exact ⟨od_int (by decide), rfl⟩
    · exact ⟨od_int (by omega), decide_eq_false (by omega)⟩
    · exact ⟨od_bl, rfl⟩
    · exact ⟨od_bl, rfl⟩
    · exact ⟨.inr (.inr (.inr (.inl rfl))), rfl⟩
    · exact ⟨od_ref n1 (.inl m1), rfl⟩
    · exact ⟨od_ref n2 (.inr (.inl m2)), rfl⟩
    · exact ⟨.inl rfl, rfl⟩
    · exact ⟨od_ref n3 (.inr (.inr (.inl m3))), rfl⟩
  exact ⟨c4, _, _, _, rfl, rfl, SqL.of (b6 _ _ n4 k4), hv, q v H6 od.1 od.2 pt6 (b5.trans b6)⟩
theorem scbadside : FnScope ["_law_pot_here", "_law_many", "_law_some"] ["_law_pot_here", "_law_many"] (defScope sBadSide) := ⟨rfl, rfl, rfl, by decide +kernel, rfl, by decide +kernel, by decide +kernel⟩
theorem ok_badside {f : Addr} {fd : FuncData} (F : Fun K "_law_bad_side" "_law_bad_side" sBadSide f fd) (B : Blt mg) (DD : Dn P w K mg base "_law_draw" ["_law_pot_here", "_law_many"] 1 spDrawB) (DG : Dn P w K mg base "_law_great" ["_law_pot_here"] 2 spGreat) : FnOk P w K mg base CX0 3 f fd ["_law_pot_here", "_law_many"] (spBadSide) := by
  refine F.ok scbadside (fun vs H Q E h => ?_) (fun cdv A outer s H vs Q E hr h => ?_)
  · obtain ⟨p, m, rfl, _⟩ := h
    rfl
  obtain ⟨p, m, rfl, m1, m8, pt, q⟩ := h
  have nd := scbadside.nd
  have hr1 := hr.mono (show 1 ≤ 2 by decide)
  have hr2 := hr.mono (show 2 ≤ 2 by decide)
  refine ⟨_, (@pss_cons _ _ _ _ _ (@ps_set _ _ 2 _ _ _ _ nd rfl (Or.inl rfl) (@pe_lst _ _ _ _ (@pa_cons _ _ _ _ _ pe_int (@pa_cons _ _ _ _ _ (@pe_un _ _ _ _ _ _ un_neg pe_int) (@pa_cons _ _ _ _ _ (@pe_op _ _ _ _ _ _ _ _ op_sub (@pe_un _ _ _ _ _ _ un_neg pe_int) (@pe_cD _ _ _ _ _ _ _ _ _ _ DG hr2 rfl (@pa_cons _ _ _ _ _ (pv 0) pa_nil rfl) (by decide) rfl rfl)) (@pa_cons _ _ _ _ _ (@pe_op _ _ _ _ _ _ _ _ op_add (pv 1) pe_int) (@pa_cons _ _ _ _ _ (@pe_op _ _ _ _ _ _ _ _ op_add (@pe_op _ _ _ _ _ _ _ _ op_add (pv 1) pe_int) (@pe_cD _ _ _ _ _ _ _ _ _ _ DG hr2 rfl (@pa_cons _ _ _ _ _ (pv 0) pa_nil rfl) (by decide) rfl rfl)) (@pa_cons _ _ _ _ _ pe_bl (@pa_cons _ _ _ _ _ pe_str (@pa_cons _ _ _ _ _ (@pe_lst _ _ _ _ (@pa_cons _ _ _ _ _ pe_int pa_nil rfl)) (@pa_cons _ _ _ _ _ pe_non pa_nil rfl) rfl) rfl) rfl) rfl) rfl) rfl) rfl) rfl)) rfl (Or.inr rfl)) (@pss_one _ _ _ (@ps_ret _ _ _ _ (@pe_ix _ _ _ _ _ _ _ ix_list (pv 2) (@pe_cD _ _ _ _ _ _ _ _ _ _ DD hr1 rfl (@pa_cons _ _ _ _ _ (pv 0) (@pa_cons _ _ _ _ _ (@pe_callB _ _ _ _ _ _ _ _ _ call_len_seq rfl B.len PySem.boot_len (@pa_cons _ _ _ _ _ (pv 2) pa_nil rfl) (by decide) (by decide) rfl rfl) pa_nil rfl) rfl) (by decide) rfl rfl) (fun _ _ => rfl))))), ?_⟩
  refine ⟨_, rfl, _, rfl, _, rfl, p, rfl, pt, fun g H1 g0 g1 pt1 b1 => ⟨_, _, rfl, rfl, _, rfl, _, _, rfl, rfl, _, rfl, _, _, rfl, rfl, _, rfl, p, rfl, pt1, fun g' H1' g0' g1' pt1' b1' => ⟨_, _, rfl, rfl, ?_⟩⟩⟩
  have b1 := b1.trans b1'
  refine ⟨(by show 1 ≤ sizeLine; decide), fun c1 hc1 => ?_⟩
  obtain ⟨H2, e2, k1, n1, s2, b2, pt2⟩ := put1 (o := .lst [.int 1]) b1 pt1' hc1
  rw [e2]; clear e2
  refine ⟨(by show 9 ≤ sizeLine; decide), fun c4 hc4 => ?_⟩
  obtain ⟨H5, e5, k4, n4, s5, b5, pt5⟩ := put1 (o := .lst [.int 0, .int (-1), .int (-1 - g), .int (m + 1), .int (m + 1 + g'), .bl true, .str "1", .ref c1, .non]) b2 pt2 hc4
  rw [show upd H2 c4 _ = H5 from e5]; clear e5
  refine ⟨_, rfl, _, rfl, _, rfl, c4, _, rfl, .inl (SqL.of k4), p, 9, rfl, pt5, by decide, by decide, fun r H6 r0 r1 pt6 b6 => ?_⟩
  obtain ⟨v, hv, hm⟩ := at_mem (xs := [.int 0, .int (-1), .int (-1 - g), .int (m + 1), .int (m + 1 + g'), .bl true, .str "1", .ref c1, .non]) r0 r1
  have m1' := b6 _ _ n1 (s5 _ _ k1)
  have h58 : (10 : Int) ^ 58 + 100 < 10 ^ 62 := by decide
  have od : Od1 H6 p v ∧ (whole v 1 = false ∨ ∃ i, v = .int i ∧ m < i) := by
    simp only [List.mem_cons, List.not_mem_nil, or_false] at hm
    rcases hm with rfl | rfl | rfl | rfl | rfl | rfl | rfl | rfl | rfl
    · exact ⟨od_int (by decide), .inl rfl⟩
    · exact ⟨od_int (by decide), .inl rfl⟩
    · exact ⟨od_int (by omega), .inl (decide_eq_false (by omega))⟩
    · exact ⟨od_int (by omega), .inr ⟨_, rfl, by omega⟩⟩
    · exact ⟨od_int (by omega), .inr ⟨_, rfl, by omega⟩⟩
    · exact ⟨od_bl, .inl rfl⟩
    · exact ⟨.inr (.inr (.inr (.inl rfl))), .inl rfl⟩
    · exact ⟨od_ref n1 (.inl m1'), .inl rfl⟩
    · exact ⟨.inl rfl, .inl rfl⟩
  exact ⟨c4, _, _, _, rfl, rfl, SqL.of (b6 _ _ n4 k4), hv, q v H6 od.1 od.2 pt6 (b5.trans b6)⟩
end
section
variable {P : Program} {w : World} {K : PySem.W.Frag} {mg : Str → Option Value} {base : Heap}
def spBadW (K : PySem.W.Frag) : Sp := fun vs H Q _ => ∃ (p l : Addr) (ws : List Int), vs = [.ref p, .ref l] ∧ l ≠ p ∧ H l = some (.lst (ws.map V.int)) ∧ 1 ≤ ws.length ∧ ws.length ≤ 8 ∧ (∀ x ∈ ws, 0 ≤ x ∧ x < 9) ∧ PotB H p ∧
  ∀ (v : V) (o : Option (List V)) (H' : Hp), Hnd K H' p v o → wok o = false → PotB H' p → But p H H' → Q v H'
theorem ws60_bad {xs ys : List V} {v : V} (h : whole v 0 = false) : ws60 (xs ++ [v] ++ ys) = false := by
  unfold ws60
  rw [Bool.and_eq_false_iff]
  refine .inr ?_
  rw [List.all_append, List.all_append]
  simp [h]
theorem scbadweights : FnScope ["_law_pot_here", "_law_weights", "_law_way", "_law_bad", "_law_at"] ["_law_pot_here", "_law_weights"] (defScope sBadWeights) := ⟨rfl, rfl, rfl, by decide +kernel, rfl, by decide +kernel, by decide +kernel⟩
theorem ok_badweights {f : Addr} {fd : FuncData} (F : Fun K "_law_bad_weights" "_law_bad_weights" sBadWeights f fd) (B : Blt mg) (DD : Dn P w K mg base "_law_draw" ["_law_pot_here", "_law_many"] 1 spDrawB) (DG : Dn P w K mg base "_law_great" ["_law_pot_here"] 2 spGreat) : FnOk P w K mg base CX0 3 f fd ["_law_pot_here", "_law_weights"] (spBadW K) := by
  refine F.ok scbadweights (fun vs H Q E h => ?_) (fun cdv A outer s H vs Q E hr h => ?_)
  · obtain ⟨p, l, ws, rfl, _⟩ := h
    rfl
  obtain ⟨p, l, ws, rfl, nl, hl, w1, w8, wr, pt, q⟩ := h
  have nd := scbadweights.nd
  have hr1 := hr.mono (show 1 ≤ 2 by decide)
  have hr2 := hr.mono (show 2 ≤ 2 by decide)
  refine ⟨_, (@pss_cons _ _ _ _ _ (@ps_set _ _ 2 _ _ _ _ nd rfl (Or.inl rfl) (@pe_cD _ _ _ _ _ _ _ _ _ _ DD hr1 rfl (@pa_cons _ _ _ _ _ (pv 0) (@pa_cons _ _ _ _ _ pe_int pa_nil rfl) rfl) (by decide) rfl rfl) rfl (Or.inr rfl)) (@pss_cons _ _ _ _ _ (@ps_if _ _ _ _ _ _ _ _ (@pt_cmpR _ _ _ _ _ _ _ _ op_lt (pv 2) pe_int (nomark _)) (@pss_cons _ _ _ _ _ (@ps_set _ _ 3 _ _ _ _ nd rfl (Or.inl rfl) (@pe_ix _ _ _ _ _ _ _ ix_list (@pe_lst _ _ _ _ (@pa_cons _ _ _ _ _ (@pe_un _ _ _ _ _ _ un_neg pe_int) (@pa_cons _ _ _ _ _ pe_bl (@pa_cons _ _ _ _ _ pe_str (@pa_cons _ _ _ _ _ pe_non (@pa_cons _ _ _ _ _ (@pe_lst _ _ _ _ (@pa_cons _ _ _ _ _ pe_int pa_nil rfl)) (@pa_cons _ _ _ _ _ (@pe_op _ _ _ _ _ _ _ _ op_sub (@pe_un _ _ _ _ _ _ un_neg pe_int) (@pe_cD _ _ _ _ _ _ _ _ _ _ DG hr2 rfl (@pa_cons _ _ _ _ _ (pv 0) pa_nil rfl) (by decide) rfl rfl)) pa_nil rfl) rfl) rfl) rfl) rfl) rfl)) (@pe_cD _ _ _ _ _ _ _ _ _ _ DD hr1 rfl (@pa_cons _ _ _ _ _ (pv 0) (@pa_cons _ _ _ _ _ pe_int pa_nil rfl) rfl) (by decide) rfl rfl) (fun _ _ => rfl)) rfl (Or.inr rfl)) (@pss_cons _ _ _ _ _ (@ps_set _ _ 4 _ _ _ _ nd rfl (Or.inl rfl) (@pe_cD _ _ _ _ _ _ _ _ _ _ DD hr1 rfl (@pa_cons _ _ _ _ _ (pv 0) (@pa_cons _ _ _ _ _ (@pe_op _ _ _ _ _ _ _ _ op_add (@pe_callB _ _ _ _ _ _ _ _ _ call_len_seq rfl B.len PySem.boot_len (@pa_cons _ _ _ _ _ (pv 1) pa_nil rfl) (by decide) (by decide) rfl rfl) pe_int) pa_nil rfl) rfl) (by decide) rfl rfl) rfl (Or.inr rfl)) (@pss_one _ _ _ (@ps_ret _ _ _ _ (@pe_ix _ _ _ _ _ _ _ ix_list (@pe_lst _ _ _ _ (@pa_cons _ _ _ _ _ (@pe_op _ _ _ _ _ _ _ _ op_cat (@pe_op _ _ _ _ _ _ _ _ op_cat (@pe_slice _ _ _ _ _ _ _ _ _ _ sl_list (pv 1) po_none (po_some (pv 4))) (@pe_lst _ _ _ _ (@pa_cons _ _ _ _ _ (pv 3) pa_nil rfl))) (@pe_slice _ _ _ _ _ _ _ _ _ _ sl_list (pv 1) (po_some (pv 4)) po_none)) (@pa_cons _ _ _ _ _ (@pe_callTy _ _ _ _ _ _ _ _ _ call_tuple_of rfl B.tuple PyProof.Rows.boot_tuple (@pa_cons _ _ _ _ _ (@pe_op _ _ _ _ _ _ _ _ op_cat (@pe_op _ _ _ _ _ _ _ _ op_cat (@pe_slice _ _ _ _ _ _ _ _ _ _ sl_list (pv 1) po_none (po_some (pv 4))) (@pe_lst _ _ _ _ (@pa_cons _ _ _ _ _ (pv 3) pa_nil rfl))) (@pe_slice _ _ _ _ _ _ _ _ _ _ sl_list (pv 1) (po_some (pv 4)) po_none)) pa_nil rfl) (by decide) (by decide) rfl rfl) pa_nil rfl) rfl)) (@pe_op _ _ _ _ _ _ _ _ op_mod (pv 2) pe_int) (fun _ _ => rfl)))))) pss_nil) (@pss_one _ _ _ (@ps_ret _ _ _ _ (@pe_ix _ _ _ _ _ _ _ ix_list (@pe_lst _ _ _ _ (@pa_cons _ _ _ _ _ (@pe_lst _ _ _ _ pa_nil) (@pa_cons _ _ _ _ _ (@pe_tup _ _ _ _ _ pa_nil) (@pa_cons _ _ _ _ _ (@pe_op _ _ _ _ _ _ _ _ op_rep (@pe_lst _ _ _ _ (@pa_cons _ _ _ _ _ pe_int pa_nil rfl)) pe_int) (@pa_cons _ _ _ _ _ pe_str (@pa_cons _ _ _ _ _ (pe_dict1 pe_int pe_int) pa_nil rfl) rfl) rfl) rfl) rfl)) (@pe_op _ _ _ _ _ _ _ _ op_sub (pv 2) pe_int) (fun _ _ => rfl)))))), ?_⟩
  have h58 : (10 : Int) ^ 58 < 10 ^ 62 := by decide
  have sz : (1000 : Nat) < sizeLine := by decide
  refine ⟨_, rfl, p, 10, rfl, pt, by decide, by decide, fun wy H1 w0 w1 pt1 b1 => ?_⟩
  refine ⟨_, rfl, _, _, rfl, rfl, _, rfl, ?_⟩
  refine ite2 (fun c => ?_) (fun c => ?_)
  · refine ⟨_, rfl, (by show 1 ≤ sizeLine; decide), fun c2 hc2 => ?_⟩
    obtain ⟨H2, e2, k2, n2, s2, b2, pt2⟩ := put1 (o := .lst [.int 1]) b1 pt1 hc2
    rw [e2]; clear e2
    refine ⟨_, rfl, _, rfl, p, rfl, pt2, fun g H3 g0 g1 pt3 b3 => ⟨_, _, rfl, rfl, ?_⟩⟩
    refine ⟨(by show 6 ≤ sizeLine; decide), fun c4 hc4 => ?_⟩
    obtain ⟨H4, e4, k4, n4, s4, b4, pt4⟩ := put1 (o := .lst [.int (-1), .bl true, .str "1", .non, .ref c2, .int (-1 - g)]) (b2.trans b3) pt3 hc4
    rw [show upd H3 c4 _ = H4 from e4]; clear e4
    refine ⟨_, rfl, p, 6, rfl, pt4, by decide, by decide, fun r H5 r0 r1 pt5 b5 => ?_⟩
    obtain ⟨v, hv, hm⟩ := at_mem (xs := [.int (-1), .bl true, .str "1", .non, .ref c2, .int (-1 - g)]) r0 r1
    have m2 := b5 _ _ n2 (s4 _ _ (b3 _ _ n2 k2))
    have od : Od1 H5 p v ∧ whole v 0 = false := by
      simp only [List.mem_cons, List.not_mem_nil, or_false] at hm
      rcases hm with rfl | rfl | rfl | rfl | rfl | rfl
      · exact ⟨od_int (by decide), rfl⟩
      · exact ⟨od_bl, rfl⟩
      · exact ⟨.inr (.inr (.inr (.inl rfl))), rfl⟩
      · exact ⟨.inl rfl, rfl⟩
      · exact ⟨od_ref n2 (.inl m2), rfl⟩
      · exact ⟨od_int (by omega), decide_eq_false (by omega)⟩
    refine ⟨c4, _, _, _, rfl, rfl, SqL.of (b5 _ _ n4 k4), hv, ?_⟩
    have b5' := b4.trans b5
    have l5 : H5 l = some (.lst (ws.map V.int)) := b5' _ _ nl hl
    refine ⟨_, rfl, _, rfl, l, _, rfl, .inl (SqL.of l5), _, _, rfl, rfl, p, _, rfl, pt5, ?_, ?_, fun at' H6 a0 a1 pt6 b6 => ?_⟩
    · omega
    · have : (100 : Int) < 10 ^ 60 := by decide
      rw [List.length_map]
      omega
    obtain ⟨k, rfl⟩ : ∃ k : Nat, at' = (k : Int) := ⟨at'.toNat, by omega⟩
    rw [List.length_map] at a1
    have b6' := b5'.trans b6
    have l6 : H6 l = some (.lst (ws.map V.int)) := b6 _ _ nl l5
    have o6 : Od1 H6 p v := od.1.mono b6
    clear hv hm b5 b6 s4 k4 hc4
    have hz : ((ws.map V.int).take k ++ [v]).length + ((ws.map V.int).drop k).length ≤ sizeLine := by
      rw [List.length_append, List.length_take, List.length_drop, List.length_map]
      show _ + 1 + _ ≤ _
      omega
    obtain ⟨xs, hxs⟩ : ∃ xs, (ws.map V.int).take k ++ [v] ++ (ws.map V.int).drop k = xs := ⟨_, rfl⟩
    refine ⟨_, rfl, _, rfl, _, rfl, l, _, rfl, SqL.of l6, fun c7 hc7 => ?_⟩
    rw [cutV_take]
    obtain ⟨H7, e7, k7, n7, s7, b7, pt7⟩ := put1 (o := .lst ((ws.map V.int).take k)) b6' pt6 hc7
    rw [e7]; clear e7
    refine ⟨_, rfl, (by show 1 ≤ sizeLine; decide), fun c8 hc8 => ?_⟩
    obtain ⟨H8, e8, k8, n8, s8, b8, pt8⟩ := put1 (o := .lst [v]) b7 pt7 hc8
    rw [e8]; clear e8
    have j7 := s8 _ _ k7
    refine ⟨c7, c8, _, _, rfl, rfl, j7, k8, (by rw [List.length_take, List.length_map]; show _ + 1 ≤ _; omega), fun c9 hc9 => ?_⟩
    obtain ⟨H9, e9, k9, n9, s9, b9, pt9⟩ := put1 (o := .lst ((ws.map V.int).take k ++ [v])) b8 pt8 hc9
    rw [e9]; clear e9
    have l9 : H9 l = some (.lst (ws.map V.int)) := s9 _ _ (s8 _ _ (s7 _ _ l6))
    refine ⟨_, rfl, _, rfl, _, rfl, l, _, rfl, SqL.of l9, fun c10 hc10 => ?_⟩
    rw [cutV_drop]
    obtain ⟨H10, e10, k10, n10, s10, b10, pt10⟩ := put1 (o := .lst ((ws.map V.int).drop k)) b9 pt9 hc10
    rw [e10]; clear e10
    have j9 := s10 _ _ k9
    refine ⟨c9, c10, _, _, rfl, rfl, j9, k10, hz, fun c11 hc11 => ?_⟩
    obtain ⟨H11, e11, k11, n11, s11, b11, pt11⟩ := put1 (o := .lst xs) b10 pt10 hc11
    rw [hxs, e11]; clear e11
    have l11 : H11 l = some (.lst (ws.map V.int)) := s11 _ _ (s10 _ _ l9)
    have t11 : Same H6 H11 := fun c o e => s11 _ _ (s10 _ _ (s9 _ _ (s8 _ _ (s7 _ _ e))))
    refine ⟨_, rfl, _, rfl, _, rfl, l, _, rfl, SqL.of l11, fun c12 hc12 => ?_⟩
    rw [cutV_take]
    obtain ⟨H12, e12, k12, n12, s12, b12, pt12⟩ := put1 (o := .lst ((ws.map V.int).take k)) b11 pt11 hc12
    rw [e12]; clear e12
    refine ⟨_, rfl, (by show 1 ≤ sizeLine; decide), fun c13 hc13 => ?_⟩
    obtain ⟨H13, e13, k13, n13, s13, b13, pt13⟩ := put1 (o := .lst [v]) b12 pt12 hc13
    rw [e13]; clear e13
    have j12 := s13 _ _ k12
    refine ⟨c12, c13, _, _, rfl, rfl, j12, k13, (by rw [List.length_take, List.length_map]; show _ + 1 ≤ _; omega), fun c14 hc14 => ?_⟩
    obtain ⟨H14, e14, k14, n14, s14, b14, pt14⟩ := put1 (o := .lst ((ws.map V.int).take k ++ [v])) b13 pt13 hc14
    rw [e14]; clear e14
    have l14 : H14 l = some (.lst (ws.map V.int)) := s14 _ _ (s13 _ _ (s12 _ _ l11))
    refine ⟨_, rfl, _, rfl, _, rfl, l, _, rfl, SqL.of l14, fun c15 hc15 => ?_⟩
    rw [cutV_drop]
    obtain ⟨H15, e15, k15, n15, s15, b15, pt15⟩ := put1 (o := .lst ((ws.map V.int).drop k)) b14 pt14 hc15
    rw [e15]; clear e15
    have j14 := s15 _ _ k14
    refine ⟨c14, c15, _, _, rfl, rfl, j14, k15, hz, fun c16 hc16 => ?_⟩
    obtain ⟨H16, e16, k16, n16, s16, b16, pt16⟩ := put1 (o := .lst xs) b15 pt15 hc16
    rw [hxs, e16]; clear e16
    have l16 : H16 l = some (.lst (ws.map V.int)) := s16 _ _ (s15 _ _ l14)
    have t16 : Same H11 H16 := fun c o e => s16 _ _ (s15 _ _ (s14 _ _ (s13 _ _ (s12 _ _ e))))
    refine ⟨c16, _, rfl, .inl ⟨SqL.of k16, fun c17 hc17 => ?_⟩⟩
    obtain ⟨H17, e17, k17, n17, s17, b17, pt17⟩ := put1 (o := .tup xs) b16 pt16 hc17
    rw [e17]; clear e17
    refine ⟨(by show 2 ≤ sizeLine; decide), fun c18 hc18 => ?_⟩
    obtain ⟨H18, e18, k18, n18, s18, b18, pt18⟩ := put1 (o := .lst [.ref c11, .ref c17]) b17 pt17 hc18
    rw [show upd H17 c18 _ = H18 from e18]; clear e18
    have x11 := s18 _ _ (s17 _ _ (t16 _ _ k11))
    have x17 := s18 _ _ k17
    have xl : xs.length ≤ 61 := by
      rw [← hxs, List.length_append, List.length_append, List.length_take, List.length_drop, List.length_map]
      show _ + 1 + _ ≤ _
      omega
    have xo : ∀ x ∈ xs, Od1 H18 p x := fun x hx => by
      rw [← hxs] at hx
      rcases List.mem_append.mp hx with hx | hx
      · rcases List.mem_append.mp hx with hx | hx
        · obtain ⟨y, hy, rfl⟩ := List.mem_map.mp (List.mem_of_mem_take hx)
          have := wr y hy
          exact od_int (by omega)
        · rw [List.mem_singleton.mp hx]
          exact o6.mono (sBut fun c o e => s18 _ _ (s17 _ _ (t16 _ _ (t11 _ _ e))))
      · obtain ⟨y, hy, rfl⟩ := List.mem_map.mp (List.mem_of_mem_drop hx)
        have := wr y hy
        exact od_int (by omega)
    have xb : ws60 xs = false := hxs ▸ ws60_bad od.2
    have fin : ∀ a : Addr, a ≠ p → (H18 a = some (.lst xs) ∨ H18 a = some (.tup xs)) → Q (.ref a) H18 := fun a na ha =>
      q (.ref a) (some xs) H18 (.inr ⟨xs, rfl, a, rfl, na, ha, xl, xo⟩) xb pt18 b18
    refine ⟨_, rfl, _, _, rfl, rfl, (by show (0 : Int) < 2; decide), ?_⟩
    have w2 : wy % 2 = 0 ∨ wy % 2 = 1 := by omega
    rcases w2 with e | e
    · exact ⟨c18, _, _, _, rfl, rfl, SqL.of k18, (by rw [e]; rfl), fin c11 n11 (.inl x11)⟩
    · exact ⟨c18, _, _, _, rfl, rfl, SqL.of k18, (by rw [e]; rfl), fin c17 n17 (.inr x17)⟩
  · have c5 : 5 ≤ wy := by
      by_cases z : wy < 5
      · exact absurd (decide_eq_true z) c
      · omega
    refine ⟨(by show 0 ≤ sizeLine; decide), fun c2 hc2 => ?_⟩
    obtain ⟨H2, e2, k2, n2, s2, b2, pt2⟩ := put1 (o := .lst []) b1 pt1 hc2
    rw [e2]; clear e2
    refine ⟨(by show 0 ≤ sizeLine; decide), fun c3 hc3 => ?_⟩
    obtain ⟨H3, e3, k3, n3, s3, b3, pt3⟩ := put1 (o := .tup []) b2 pt2 hc3
    rw [e3]; clear e3
    refine ⟨(by show 1 ≤ sizeLine; decide), fun c4 hc4 => ?_⟩
    obtain ⟨H4, e4, k4, n4, s4, b4, pt4⟩ := put1 (o := .lst [.int 1]) b3 pt3 hc4
    rw [e4]; clear e4
    refine ⟨c4, 61, _, rfl, rfl, k4, by decide, by decide, (by show 1 * 61 ≤ sizeLine; decide), fun c5 hc5 => ?_⟩
    obtain ⟨ys, hys⟩ : ∃ ys, (List.replicate (61 : Int).toNat [V.int 1]).flatten = ys := ⟨_, rfl⟩
    have yl : ys.length = 61 := by rw [← hys]; rfl
    have yo : ∀ y ∈ ys, y = .int 1 := by
      intro y hy
      rw [← hys] at hy
      obtain ⟨l1, h1, h2⟩ := List.mem_flatten.mp hy
      rw [List.eq_of_mem_replicate h1] at h2
      exact List.mem_singleton.mp h2
    obtain ⟨H5, e5, k5, n5, s5, b5, pt5⟩ := put1 (o := .lst ys) b4 pt4 hc5
    rw [hys, e5]; clear e5 hys
    refine fun c6 hc6 => ⟨upd_same, _, rfl, ?_⟩
    obtain ⟨H6, e6, k6, n6, s6, b6, pt6⟩ : ∃ H', upd (upd H5 c6 (.dK [])) c6 (.dK [(Sum.inl 1, .int 1)]) = H' ∧ H' c6 = some (.dK [(Sum.inl 1, .int 1)]) ∧ c6 ≠ p ∧ Same H5 H' ∧ But p H H' ∧ PotB H' p := by
      have n6 := pt5.ne hc6
      have s6 : Same H5 (upd (upd H5 c6 (.dK [])) c6 (.dK [(Sum.inl 1, .int 1)])) := fun a o e => by
        rw [upd_ne (ne_of_none e hc6), upd_ne (ne_of_none e hc6)]; exact e
      exact ⟨_, rfl, upd_same, Ne.symm n6, s6, b5.trans (sBut s6), pt5.same s6⟩
    rw [e6]; clear e6
    refine ⟨(by show 5 ≤ sizeLine; decide), fun c7 hc7 => ?_⟩
    obtain ⟨H7, e7, k7, n7, s7, b7, pt7⟩ := put1 (o := .lst [.ref c2, .ref c3, .ref c5, .str "12", .ref c6]) b6 pt6 hc7
    rw [show upd H6 c7 _ = H7 from e7]; clear e7
    have x2 := s7 _ _ (s6 _ _ (s5 _ _ (s4 _ _ (s3 _ _ k2))))
    have x3 := s7 _ _ (s6 _ _ (s5 _ _ (s4 _ _ k3)))
    have x5 := s7 _ _ (s6 _ _ k5)
    have x6 := s7 _ _ k6
    refine ⟨_, rfl, _, _, rfl, rfl, ?_⟩
    have w2 : wy - 5 = 0 ∨ wy - 5 = 1 ∨ wy - 5 = 2 ∨ wy - 5 = 3 ∨ wy - 5 = 4 := by omega
    have go : ∀ (v : V) (o : Option (List V)), atI [.ref c2, .ref c3, .ref c5, .str "12", .ref c6] (wy - 5) = some v → Hnd K H7 p v o → wok o = false → rIxL K (.ref c7) (.int (wy - 5)) H7 Q := fun v o hv hn ho =>
      ⟨c7, _, _, _, rfl, rfl, SqL.of k7, hv, q v o H7 hn ho pt7 b7⟩
    rcases w2 with e | e | e | e | e
    · exact go (.ref c2) (some []) (by rw [e]; rfl) (.inr ⟨[], rfl, c2, rfl, n2, .inl x2, by decide, fun x hx => by simp at hx⟩) rfl
    · exact go (.ref c3) (some []) (by rw [e]; rfl) (.inr ⟨[], rfl, c3, rfl, n3, .inr x3, by decide, fun x hx => by simp at hx⟩) rfl
    · refine go (.ref c5) (some ys) (by rw [e]; rfl) (.inr ⟨ys, rfl, c5, rfl, n5, .inl x5, by omega, fun x hx => ?_⟩) ?_
      · rw [yo x hx]; exact od_int (by decide)
      · show ws60 ys = false
        unfold ws60
        rw [decide_eq_false (show ¬ ys.length ≤ 60 by omega)]
        simp
    · exact go (.str "12") none (by rw [e]; rfl) (.inl ⟨rfl, .inr (.inr (.inr (.inr (.inl rfl)))), _, Ty.str, by decide, by decide⟩) rfl
    · exact go (.ref c6) none (by rw [e]; rfl) (.inl ⟨rfl, od_ref n6 (.inr (.inr (.inr x6))), _, Ty.dK x6, by decide, by decide⟩) rfl
end
section
variable {P : Program} {w : World} {K : PySem.W.Frag} {mg : Str → Option Value} {base : Heap}
structure Kc (K : PySem.W.Frag) (mg : Str → Option Value) (c x0 x1 x2 x3 x4 x5 x6 x7 x8 x9 x10 x11 x12 : Addr) (b0 b1 b2 : Bool) : Prop where
  m0 : mg "NoBlade" = some (.ref x0)
  m1 : mg "NoWeights" = some (.ref x1)
  m2 : mg "NoNumber" = some (.ref x2)
  m3 : mg "NoKind" = some (.ref x3)
  m4 : mg "NoKinds" = some (.ref x4)
  m5 : mg "NoLaying" = some (.ref x5)
  m6 : mg "NoLying" = some (.ref x6)
  m7 : mg "NoPlate" = some (.ref x7)
  m8 : mg "NoTable" = some (.ref x8)
  m9 : mg "NoTelling" = some (.ref x9)
  m10 : mg "NoText" = some (.ref x10)
  m11 : mg "NoTree" = some (.ref x11)
  m12 : mg "TooLarge" = some (.ref x12)
  mv : mg "ValueError" = none
  k0 : PySem.W.kitOne K (.ref c) (.ref x0) = some b0
  k1 : PySem.W.kitOne K (.ref c) (.ref x1) = some b1
  k2 : PySem.W.kitOne K (.ref c) (.ref x2) = some b2
  k3 : PySem.W.kitOne K (.ref c) (.ref x3) = some false
  k4 : PySem.W.kitOne K (.ref c) (.ref x4) = some false
  k5 : PySem.W.kitOne K (.ref c) (.ref x5) = some false
  k6 : PySem.W.kitOne K (.ref c) (.ref x6) = some false
  k7 : PySem.W.kitOne K (.ref c) (.ref x7) = some false
  k8 : PySem.W.kitOne K (.ref c) (.ref x8) = some false
  k9 : PySem.W.kitOne K (.ref c) (.ref x9) = some false
  k10 : PySem.W.kitOne K (.ref c) (.ref x10) = some false
  k11 : PySem.W.kitOne K (.ref c) (.ref x11) = some false
  k12 : PySem.W.kitOne K (.ref c) (.ref x12) = some false
  kv : PySem.W.kitOne K (.ref c) (.type "ValueError") = some true
def bs14 (b0 b1 b2 : Bool) : List Bool := [b0, b1, b2, false, false, false, false, false, false, false, false, false, false, true]
def ks14 (bs : List Bool) (n : Nat) : List V := ((List.range n).filter fun j => bs.getD j false).map fun (j : Nat) => V.int (j : Int)
def spKds (c : Addr) (bs : List Bool) : Sp := fun vs H Q _ => ∃ a, vs = [.ref a] ∧ H a = some (.ext (IsA a (.ref c))) ∧ ∀ l H', H l = none → H' l = some (.lst (ks14 bs 14)) → Same H H' → Q (.ref l) H'
theorem ks14_step (bs : List Bool) (i : Nat) : ks14 bs (i + 1) = ks14 bs i ++ (if bs.getD i false = true then [V.int (i : Int)] else []) := by
  unfold ks14
  rw [List.range_succ, List.filter_append, List.map_append]
  rw [List.filter_cons, List.filter_nil]
  cases e : bs.getD i false
  · rfl
  · rfl
theorem ks14_len (bs : List Bool) (i : Nat) : (ks14 bs i).length ≤ i := by
  unfold ks14
  rw [List.length_map]
  exact Nat.le_trans (List.length_filter_le _ _) (by rw [List.length_range]; exact Nat.le_refl _)
theorem at14 {b0 b1 b2 : Bool} {i : Nat} (h : i < 14) : atI [V.bl b0, .bl b1, .bl b2, .bl false, .bl false, .bl false, .bl false, .bl false, .bl false, .bl false, .bl false, .bl false, .bl false, .bl true] (0 + (i : Int)) = some (.bl ((bs14 b0 b1 b2).getD i false)) := by
  rw [Int.zero_add]
  refine atI_nat ?_
  have : [V.bl b0, .bl b1, .bl b2, .bl false, .bl false, .bl false, .bl false, .bl false, .bl false, .bl false, .bl false, .bl false, .bl false, .bl true] = (bs14 b0 b1 b2).map V.bl := rfl
  rw [this, List.getElem?_map, List.getD_eq_getElem?_getD, List.getElem?_eq_getElem (show i < (bs14 b0 b1 b2).length from h)]
  rfl
theorem bootVE : bootBuiltins "ValueError" = some (.type "ValueError") := by decide +kernel
theorem scKinds : FnScope ["_law_error", "_law_some"] ["_law_error"] (defScope sKinds) := ⟨rfl, rfl, rfl, by decide +kernel, rfl, by decide +kernel, by decide +kernel⟩
theorem ok_kinds {f c x0 x1 x2 x3 x4 x5 x6 x7 x8 x9 x10 x11 x12 : Addr} {b0 b1 b2 : Bool} {fd : FuncData} (F : Fun K "_law_kinds" "_law_kinds" sKinds f fd) (B : Blt mg) (F0 : ExK K c) (Z : Kc K mg c x0 x1 x2 x3 x4 x5 x6 x7 x8 x9 x10 x11 x12 b0 b1 b2) :
    FnQ P w K mg base 1 f fd ["_law_error"] (spKds c (bs14 b0 b1 b2)) := by
  refine fnQ_of F scKinds (fun vs H Q E h => ?_) (fun cdv A outer s H vs Q E hr hqh h => ?_)
  · obtain ⟨a, rfl, _⟩ := h
    rfl
  obtain ⟨a, rfl, ha, q⟩ := h
  have nd := scKinds.nd
  refine ⟨_, ((@pss_cons _ _ _ _ _ (@ps_set _ _ 1 _ _ _ _ nd rfl (Or.inr rfl) (@pe_lst _ _ _ _ (@pa_cons _ _ _ _ _ (@pe_callB _ _ _ _ _ _ _ _ _ (call_isinstX F0) rfl B.isi PyProof.Rows.boot_isinstance (@pa_cons _ _ _ _ _ (pv 0) (@pa_cons _ _ _ _ _ (pe_glob (v := .ref x0) rfl Z.m0 rfl) pa_nil rfl) rfl) (by decide) (by decide) rfl rfl) (@pa_cons _ _ _ _ _ (@pe_callB _ _ _ _ _ _ _ _ _ (call_isinstX F0) rfl B.isi PyProof.Rows.boot_isinstance (@pa_cons _ _ _ _ _ (pv 0) (@pa_cons _ _ _ _ _ (pe_glob (v := .ref x1) rfl Z.m1 rfl) pa_nil rfl) rfl) (by decide) (by decide) rfl rfl) (@pa_cons _ _ _ _ _ (@pe_callB _ _ _ _ _ _ _ _ _ (call_isinstX F0) rfl B.isi PyProof.Rows.boot_isinstance (@pa_cons _ _ _ _ _ (pv 0) (@pa_cons _ _ _ _ _ (pe_glob (v := .ref x2) rfl Z.m2 rfl) pa_nil rfl) rfl) (by decide) (by decide) rfl rfl) pa_nil rfl) rfl) rfl)) rfl (Or.inl rfl)) (@pss_cons _ _ _ _ _ (@ps_set _ _ 1 _ _ _ _ nd rfl (Or.inr rfl) (@pe_op _ _ _ _ _ _ _ _ op_cat (pv 1) (@pe_lst _ _ _ _ (@pa_cons _ _ _ _ _ (@pe_callB _ _ _ _ _ _ _ _ _ (call_isinstX F0) rfl B.isi PyProof.Rows.boot_isinstance (@pa_cons _ _ _ _ _ (pv 0) (@pa_cons _ _ _ _ _ (pe_glob (v := .ref x3) rfl Z.m3 rfl) pa_nil rfl) rfl) (by decide) (by decide) rfl rfl) (@pa_cons _ _ _ _ _ (@pe_callB _ _ _ _ _ _ _ _ _ (call_isinstX F0) rfl B.isi PyProof.Rows.boot_isinstance (@pa_cons _ _ _ _ _ (pv 0) (@pa_cons _ _ _ _ _ (pe_glob (v := .ref x4) rfl Z.m4 rfl) pa_nil rfl) rfl) (by decide) (by decide) rfl rfl) (@pa_cons _ _ _ _ _ (@pe_callB _ _ _ _ _ _ _ _ _ (call_isinstX F0) rfl B.isi PyProof.Rows.boot_isinstance (@pa_cons _ _ _ _ _ (pv 0) (@pa_cons _ _ _ _ _ (pe_glob (v := .ref x5) rfl Z.m5 rfl) pa_nil rfl) rfl) (by decide) (by decide) rfl rfl) pa_nil rfl) rfl) rfl))) rfl (Or.inl rfl)) (@pss_cons _ _ _ _ _ (@ps_set _ _ 1 _ _ _ _ nd rfl (Or.inr rfl) (@pe_op _ _ _ _ _ _ _ _ op_cat (pv 1) (@pe_lst _ _ _ _ (@pa_cons _ _ _ _ _ (@pe_callB _ _ _ _ _ _ _ _ _ (call_isinstX F0) rfl B.isi PyProof.Rows.boot_isinstance (@pa_cons _ _ _ _ _ (pv 0) (@pa_cons _ _ _ _ _ (pe_glob (v := .ref x6) rfl Z.m6 rfl) pa_nil rfl) rfl) (by decide) (by decide) rfl rfl) (@pa_cons _ _ _ _ _ (@pe_callB _ _ _ _ _ _ _ _ _ (call_isinstX F0) rfl B.isi PyProof.Rows.boot_isinstance (@pa_cons _ _ _ _ _ (pv 0) (@pa_cons _ _ _ _ _ (pe_glob (v := .ref x7) rfl Z.m7 rfl) pa_nil rfl) rfl) (by decide) (by decide) rfl rfl) (@pa_cons _ _ _ _ _ (@pe_callB _ _ _ _ _ _ _ _ _ (call_isinstX F0) rfl B.isi PyProof.Rows.boot_isinstance (@pa_cons _ _ _ _ _ (pv 0) (@pa_cons _ _ _ _ _ (pe_glob (v := .ref x8) rfl Z.m8 rfl) pa_nil rfl) rfl) (by decide) (by decide) rfl rfl) pa_nil rfl) rfl) rfl))) rfl (Or.inl rfl)) (@pss_cons _ _ _ _ _ (@ps_set _ _ 1 _ _ _ _ nd rfl (Or.inr rfl) (@pe_op _ _ _ _ _ _ _ _ op_cat (pv 1) (@pe_lst _ _ _ _ (@pa_cons _ _ _ _ _ (@pe_callB _ _ _ _ _ _ _ _ _ (call_isinstX F0) rfl B.isi PyProof.Rows.boot_isinstance (@pa_cons _ _ _ _ _ (pv 0) (@pa_cons _ _ _ _ _ (pe_glob (v := .ref x9) rfl Z.m9 rfl) pa_nil rfl) rfl) (by decide) (by decide) rfl rfl) (@pa_cons _ _ _ _ _ (@pe_callB _ _ _ _ _ _ _ _ _ (call_isinstX F0) rfl B.isi PyProof.Rows.boot_isinstance (@pa_cons _ _ _ _ _ (pv 0) (@pa_cons _ _ _ _ _ (pe_glob (v := .ref x10) rfl Z.m10 rfl) pa_nil rfl) rfl) (by decide) (by decide) rfl rfl) (@pa_cons _ _ _ _ _ (@pe_callB _ _ _ _ _ _ _ _ _ (call_isinstX F0) rfl B.isi PyProof.Rows.boot_isinstance (@pa_cons _ _ _ _ _ (pv 0) (@pa_cons _ _ _ _ _ (pe_glob (v := .ref x11) rfl Z.m11 rfl) pa_nil rfl) rfl) (by decide) (by decide) rfl rfl) pa_nil rfl) rfl) rfl))) rfl (Or.inl rfl)) (@pss_cons _ _ _ _ _ (@ps_set _ _ 1 _ _ _ _ nd rfl (Or.inr rfl) (@pe_op _ _ _ _ _ _ _ _ op_cat (pv 1) (@pe_lst _ _ _ _ (@pa_cons _ _ _ _ _ (@pe_callB _ _ _ _ _ _ _ _ _ (call_isinstX F0) rfl B.isi PyProof.Rows.boot_isinstance (@pa_cons _ _ _ _ _ (pv 0) (@pa_cons _ _ _ _ _ (pe_glob (v := .ref x12) rfl Z.m12 rfl) pa_nil rfl) rfl) (by decide) (by decide) rfl rfl) (@pa_cons _ _ _ _ _ (@pe_callB _ _ _ _ _ _ _ _ _ (call_isinstX F0) rfl B.isi PyProof.Rows.boot_isinstance (@pa_cons _ _ _ _ _ (pv 0) (@pa_cons _ _ _ _ _ (pe_bltn (v := .ty "ValueError") rfl Z.mv bootVE rfl) pa_nil rfl) rfl) (by decide) (by decide) rfl rfl) pa_nil rfl) rfl))) rfl (Or.inl rfl)) (@pss_one _ _ _ (@ps_ret _ _ _ _ (pe_compH (own := ["_law_k"]) (cs := ["_law_some"]) (cap := [1]) rfl B.range (@pa_cons _ _ _ _ _ pe_int pa_nil rfl) (compOk_of (sc := defScope sKinds) (N := ["_law_error", "_law_some"]) rfl rfl (by decide +kernel)) (fun _ _ _ _ _ => pg_name (i := 0) (by show List.Nodup (["_law_k", "_law_some"] : List Str) ; decide +kernel) rfl (Or.inl rfl) (Or.inr rfl)) (fun _ _ _ _ _ => (pifs_one (@pt_val _ _ _ (pe_ix (r := rIxL K) ix_list (pv 1) (pv 0) (fun _ _ => rfl)) (by intro _; rfl)))) (fun _ _ _ _ _ => (pv 0))))))))))), ?_⟩
  refine ⟨_, rfl, a, _, _, _, rfl, ha, rfl, Z.k0, _, rfl, a, _, _, _, rfl, ha, rfl, Z.k1, _, rfl, a, _, _, _, rfl, ha, rfl, Z.k2, (by show 3 ≤ sizeLine; decide), fun c1 hc1 => ?_⟩
  have s1 : Same H (upd H c1 (.lst ([.bl b0, .bl b1, .bl b2]))) := Same.new hc1
  have k1 : (upd H c1 (.lst ([.bl b0, .bl b1, .bl b2]))) c1 = some (.lst [.bl b0, .bl b1, .bl b2]) := upd_same
  generalize hH : upd H c1 _ = H1 at s1 k1 ⊢
  clear hH
  have i1 := s1 _ _ ha
  refine ⟨_, rfl, _, rfl, a, _, _, _, rfl, i1, rfl, Z.k3, _, rfl, a, _, _, _, rfl, i1, rfl, Z.k4, _, rfl, a, _, _, _, rfl, i1, rfl, Z.k5, (by show 3 ≤ sizeLine; decide), fun c2 hc2 => ?_⟩
  have p1 := Same.new (o := .lst [.bl false, .bl false, .bl false]) hc2 _ _ k1
  have s2 : Same H (upd H1 c2 (.lst ([.bl false, .bl false, .bl false]))) := (s1).trans (Same.new hc2)
  have k2 : (upd H1 c2 (.lst ([.bl false, .bl false, .bl false]))) c2 = some (.lst [.bl false, .bl false, .bl false]) := upd_same
  generalize hH : upd H1 c2 _ = H2 at s2 k2 p1 ⊢
  clear hH
  refine ⟨c1, c2, _, _, rfl, rfl, p1, k2, (by show 6 ≤ sizeLine; decide), fun c3 hc3 => ?_⟩
  have s3 : Same H (upd H2 c3 (.lst ([.bl b0, .bl b1, .bl b2] ++ [.bl false, .bl false, .bl false]))) := (s2).trans (Same.new hc3)
  have k3 : (upd H2 c3 (.lst ([.bl b0, .bl b1, .bl b2] ++ [.bl false, .bl false, .bl false]))) c3 = some (.lst [.bl b0, .bl b1, .bl b2, .bl false, .bl false, .bl false]) := upd_same
  generalize hH : upd H2 c3 _ = H3 at s3 k3 ⊢
  clear hH
  have i3 := s3 _ _ ha
  refine ⟨_, rfl, _, rfl, a, _, _, _, rfl, i3, rfl, Z.k6, _, rfl, a, _, _, _, rfl, i3, rfl, Z.k7, _, rfl, a, _, _, _, rfl, i3, rfl, Z.k8, (by show 3 ≤ sizeLine; decide), fun c4 hc4 => ?_⟩
  have p3 := Same.new (o := .lst [.bl false, .bl false, .bl false]) hc4 _ _ k3
  have s4 : Same H (upd H3 c4 (.lst ([.bl false, .bl false, .bl false]))) := (s3).trans (Same.new hc4)
  have k4 : (upd H3 c4 (.lst ([.bl false, .bl false, .bl false]))) c4 = some (.lst [.bl false, .bl false, .bl false]) := upd_same
  generalize hH : upd H3 c4 _ = H4 at s4 k4 p3 ⊢
  clear hH
  refine ⟨c3, c4, _, _, rfl, rfl, p3, k4, (by show 9 ≤ sizeLine; decide), fun c5 hc5 => ?_⟩
  have s5 : Same H (upd H4 c5 (.lst ([.bl b0, .bl b1, .bl b2, .bl false, .bl false, .bl false] ++ [.bl false, .bl false, .bl false]))) := (s4).trans (Same.new hc5)
  have k5 : (upd H4 c5 (.lst ([.bl b0, .bl b1, .bl b2, .bl false, .bl false, .bl false] ++ [.bl false, .bl false, .bl false]))) c5 = some (.lst [.bl b0, .bl b1, .bl b2, .bl false, .bl false, .bl false, .bl false, .bl false, .bl false]) := upd_same
  generalize hH : upd H4 c5 _ = H5 at s5 k5 ⊢
  clear hH
  have i5 := s5 _ _ ha
  refine ⟨_, rfl, _, rfl, a, _, _, _, rfl, i5, rfl, Z.k9, _, rfl, a, _, _, _, rfl, i5, rfl, Z.k10, _, rfl, a, _, _, _, rfl, i5, rfl, Z.k11, (by show 3 ≤ sizeLine; decide), fun c6 hc6 => ?_⟩
  have p5 := Same.new (o := .lst [.bl false, .bl false, .bl false]) hc6 _ _ k5
  have s6 : Same H (upd H5 c6 (.lst ([.bl false, .bl false, .bl false]))) := (s5).trans (Same.new hc6)
  have k6 : (upd H5 c6 (.lst ([.bl false, .bl false, .bl false]))) c6 = some (.lst [.bl false, .bl false, .bl false]) := upd_same
  generalize hH : upd H5 c6 _ = H6 at s6 k6 p5 ⊢
  clear hH
  refine ⟨c5, c6, _, _, rfl, rfl, p5, k6, (by show 12 ≤ sizeLine; decide), fun c7 hc7 => ?_⟩
  have s7 : Same H (upd H6 c7 (.lst ([.bl b0, .bl b1, .bl b2, .bl false, .bl false, .bl false, .bl false, .bl false, .bl false] ++ [.bl false, .bl false, .bl false]))) := (s6).trans (Same.new hc7)
  have k7 : (upd H6 c7 (.lst ([.bl b0, .bl b1, .bl b2, .bl false, .bl false, .bl false, .bl false, .bl false, .bl false] ++ [.bl false, .bl false, .bl false]))) c7 = some (.lst [.bl b0, .bl b1, .bl b2, .bl false, .bl false, .bl false, .bl false, .bl false, .bl false, .bl false, .bl false, .bl false]) := upd_same
  generalize hH : upd H6 c7 _ = H7 at s7 k7 ⊢
  clear hH
  have i7 := s7 _ _ ha
  refine ⟨_, rfl, _, rfl, a, _, _, _, rfl, i7, rfl, Z.k12, _, rfl, a, _, _, _, rfl, i7, rfl, Z.kv, (by show 2 ≤ sizeLine; decide), fun c8 hc8 => ?_⟩
  have p7 := Same.new (o := .lst [.bl false, .bl true]) hc8 _ _ k7
  have s8 : Same H (upd H7 c8 (.lst ([.bl false, .bl true]))) := (s7).trans (Same.new hc8)
  have k8 : (upd H7 c8 (.lst ([.bl false, .bl true]))) c8 = some (.lst [.bl false, .bl true]) := upd_same
  generalize hH : upd H7 c8 _ = H8 at s8 k8 p7 ⊢
  clear hH
  refine ⟨c7, c8, _, _, rfl, rfl, p7, k8, (by show 14 ≤ sizeLine; decide), fun c9 hc9 => ?_⟩
  have s9 : Same H (upd H8 c9 (.lst ([.bl b0, .bl b1, .bl b2, .bl false, .bl false, .bl false, .bl false, .bl false, .bl false, .bl false, .bl false, .bl false] ++ [.bl false, .bl true]))) := (s8).trans (Same.new hc9)
  have k9 : (upd H8 c9 (.lst ([.bl b0, .bl b1, .bl b2, .bl false, .bl false, .bl false, .bl false, .bl false, .bl false, .bl false, .bl false, .bl false] ++ [.bl false, .bl true]))) c9 = some (.lst [.bl b0, .bl b1, .bl b2, .bl false, .bl false, .bl false, .bl false, .bl false, .bl false, .bl false, .bl false, .bl false, .bl false, .bl true]) := upd_same
  generalize hH : upd H8 c9 _ = H9 at s9 k9 ⊢
  clear hH
  obtain ⟨ea, ce, hh, he⟩ := hqh
  have he9 := s9 _ _ he
  refine ⟨14, rfl, by decide, by decide, fun i m ys H' => H' = H9 ∧ i ≤ 14 ∧ m = 14 - i ∧ ys = ks14 (bs14 b0 b1 b2) i, ⟨14, rfl, by decide, rfl, rfl⟩, ?_, ?_⟩
  · rintro i m ys _ ⟨rfl, _⟩
    exact ⟨ea, ce, hh, he9⟩
  · rintro i m ys _ ⟨rfl, hi, rfl, rfl⟩
    have kl := ks14_len (bs14 b0 b1 b2) i
    have sz : (100 : Nat) < sizeLine := by decide
    by_cases h14 : i = 14
    · subst h14
      exact .inl ⟨Nat.le_refl _, by omega, fun l hl => q l _ (s9.free hl) upd_same (s9.trans (Same.new hl))⟩
    · refine .inr ⟨(show i < 14 by omega), by omega, ?_⟩
      rintro x _ ⟨rfl, rfl⟩
      refine ⟨leS.set rfl, _, rfl, _, rfl, c9, _, _, _, rfl, rfl, SqL.of k9, at14 (by omega), _, rfl, ?_⟩
      have st := ks14_step (bs14 b0 b1 b2) i
      cases e : (bs14 b0 b1 b2).getD i false with
      | true =>
        dsimp only
        rw [if_pos rfl]
        rw [e, if_pos rfl] at st
        refine ⟨_, rfl, 14 - (i + 1), by omega, rfl, by omega, rfl, ?_⟩
        rw [st, Int.zero_add]
      | false =>
        dsimp only
        rw [if_neg Bool.false_ne_true]
        rw [e, if_neg Bool.false_ne_true, List.append_nil] at st
        exact ⟨14 - (i + 1), by omega, rfl, by omega, rfl, st.symm⟩
end
section
variable {P : Program} {w : World} {K : PySem.W.Frag} {mg : Str → Option Value} {base : Heap}
theorem ws60_ints {ws : List Int} (h0 : 1 ≤ ws.length) (h1 : ws.length ≤ 60) (h : ∀ x ∈ ws, 0 ≤ x) : ws60 (ws.map V.int) = true := by
  unfold ws60
  rw [List.length_map, decide_eq_true h0, decide_eq_true h1, Bool.true_and, Bool.true_and, List.all_eq_true]
  intro y hy
  obtain ⟨x, hx, rfl⟩ := List.mem_map.mp hy
  exact decide_eq_true (h x hx)
theorem whole_int {v : V} {n : Int} (h : whole v n = true) : ∃ i, v = .int i ∧ n ≤ i := by
  cases v with
  | int i => exact ⟨i, rfl, of_decide_eq_true h⟩
  | _ => cases h
theorem all_ints : ∀ xs : List V, xs.all (fun y => whole y 0) = true → ∃ ws : List Int, xs = ws.map V.int ∧ ∀ x ∈ ws, 0 ≤ x
  | [], _ => ⟨[], rfl, fun x hx => by simp at hx⟩
  | v :: xs, h => by
    rw [List.all_cons, Bool.and_eq_true] at h
    obtain ⟨i, rfl, hi⟩ := whole_int h.1
    obtain ⟨ws, rfl, hw⟩ := all_ints xs h.2
    refine ⟨i :: ws, rfl, fun x hx => ?_⟩
    rcases List.mem_cons.mp hx with rfl | hx
    · exact hi
    · exact hw x hx
theorem ws60_true {xs : List V} (h : ws60 xs = true) : 1 ≤ xs.length ∧ xs.length ≤ 60 ∧ ∃ ws : List Int, xs = ws.map V.int ∧ ∀ x ∈ ws, 0 ≤ x := by
  unfold ws60 at h
  rw [Bool.and_eq_true, Bool.and_eq_true] at h
  exact ⟨of_decide_eq_true h.1.1, of_decide_eq_true h.1.2, all_ints xs h.2⟩
def spLoadX (K : PySem.W.Frag) (NB NW NN : Addr) : Sp := fun vs H Q E => ∃ (bv wv sv : V) (p : Addr) (o : Option (List V)), vs = [bv, wv, sv] ∧ (∃ T, Ty K H bv T) ∧ Hnd K H p wv o ∧ (∃ T, Ty K H sv T) ∧
  ((whole bv 0 = false ∧ E (.ref NB) none H) ∨ (whole bv 0 = true ∧ wok o = false ∧ ∀ H', Same H H' → E (.ref NW) none H')
  ∨ (∃ xs, o = some xs ∧ whole bv 0 = true ∧ ws60 xs = true ∧ (whole sv 1 = false ∨ ∃ i : Int, sv = .int i ∧ 1 ≤ i ∧ (xs.length : Int) < i) ∧ ∀ H', Same H H' → E (.ref NN) none H')
  ∨ (∃ xs i, o = some xs ∧ whole bv 0 = true ∧ ws60 xs = true ∧ sv = .int i ∧ 1 ≤ i ∧ i ≤ (xs.length : Int) ∧ ∀ (t l : Addr) (L : Int) (ns : List V) (H' : Hp), H t = none → H' t = some (.tup [.int L, .ref l]) → H' l = some (.lst ns) → Same H H' → Q (.ref t) H'))
theorem scloadX : FnScope ["blade", "weights", "side", "loads", "steps", "reach", "load", "length"] ["blade", "weights", "side"] (defScope sLoadOf) := ⟨rfl, rfl, rfl, by decide +kernel, rfl, by decide +kernel, by decide +kernel⟩
theorem ok_loadX {f NB NW NN : Addr} {fd : FuncData} (F : Fun K "load_of" "load_of" sLoadOf f fd) (B : Blt mg) (mB : mg "NoBlade" = some (.ref NB)) (mW : mg "NoWeights" = some (.ref NW)) (mN : mg "NoNumber" = some (.ref NN)) (eB : ExcC K NB) (eW : ExcC K NW) (eN : ExcC K NN) (DW : Dn P w K mg base "is_whole" ["thing", "least"] 1 (spWhole K)) (DI : Dn P w K mg base "is_weights" ["thing"] 2 (spIsW K)) (DB : Dn P w K mg base "best_length" ["blade", "weights", "loads", "side"] 1 (spBest K)) (DL : Dn P w K mg base "lengths_by_steps" ["blade", "steps", "side"] 1 spLens) : FnOk P w K mg base (CXx P w) 3 f fd ["blade", "weights", "side"] (spLoadX K NB NW NN) := by
  refine F.okX scloadX (fun vs H Q E h => ?_) (fun cdv A outer s H vs Q E hr h => ?_)
  · obtain ⟨bv, wv, sv, p, o, rfl, _⟩ := h
    rfl
  obtain ⟨bv, wv, sv, p, o, rfl, ⟨Tb, tb⟩, hn, ⟨Ts, ts⟩, h⟩ := h
  have nd := scloadX.nd
  have hr1 := hr.mono (show 1 ≤ 2 by decide)
  refine ⟨_, (@pss_cons _ _ _ _ _ (@ps_if _ _ _ _ _ _ _ _ (@pt_not _ _ _ _ (@pt_val _ _ _ (@pe_cD _ _ _ _ _ _ _ _ _ _ DW hr1 rfl (@pa_cons _ _ _ _ _ (pv 0) (@pa_cons _ _ _ _ _ pe_int pa_nil rfl) rfl) (by decide) rfl rfl) (by intro _; rfl))) (@pss_one _ _ _ (ps_raise (R := fun c H => E c none H) rfl rfl mB eB (@pa_cons _ _ _ _ _ pe_str pa_nil rfl) raise_ends)) pss_nil) (@pss_cons _ _ _ _ _ (@ps_if _ _ _ _ _ _ _ _ (@pt_not _ _ _ _ (@pt_val _ _ _ (@pe_cD _ _ _ _ _ _ _ _ _ _ DI hr rfl (@pa_cons _ _ _ _ _ (pv 1) pa_nil rfl) (by decide) rfl rfl) (by intro _; rfl))) (@pss_one _ _ _ (ps_raise (R := fun c H => E c none H) rfl rfl mW eW (@pa_cons _ _ _ _ _ pe_str pa_nil rfl) raise_ends)) pss_nil) (@pss_cons _ _ _ _ _ (@ps_if _ _ _ _ _ _ _ _ (PW.pt (pw_or (@pt_not _ _ _ _ (@pt_val _ _ _ (@pe_cD _ _ _ _ _ _ _ _ _ _ DW hr1 rfl (@pa_cons _ _ _ _ _ (pv 2) (@pa_cons _ _ _ _ _ pe_int pa_nil rfl) rfl) (by decide) rfl rfl) (by intro _; rfl))) (pw_or1 (@pt_cmpR _ _ _ _ _ _ _ _ op_gt (pv 2) (@pe_callB _ _ _ _ _ _ _ _ _ call_len_seq rfl B.len PySem.boot_len (@pa_cons _ _ _ _ _ (pv 1) pa_nil rfl) (by decide) (by decide) rfl rfl) (nomark _))))) (@pss_one _ _ _ (ps_raise (R := fun c H => E c none H) rfl rfl mN eN (@pa_cons _ _ _ _ _ pe_str pa_nil rfl) raise_ends)) pss_nil) (@pss_cons _ _ _ _ _ (@ps_set _ _ 3 _ _ _ _ nd rfl (Or.inl rfl) (@pe_lst _ _ _ _ (@pa_cons _ _ _ _ _ pe_int pa_nil rfl)) rfl (Or.inl rfl)) (@pss_cons _ _ _ _ _ (@ps_set _ _ 4 _ _ _ _ nd rfl (Or.inl rfl) (@pe_lst _ _ _ _ (@pa_cons _ _ _ _ _ pe_int pa_nil rfl)) rfl (Or.inl rfl)) (@pss_cons _ _ _ _ _ (@ps_for _ _ _ _ _ _ _ _ PassesOwn.leaving rfl (pi_range2 rfl B.range (@pa_cons _ _ _ _ _ pe_int (@pa_cons _ _ _ _ _ (@pe_op _ _ _ _ _ _ _ _ op_add (pv 2) pe_int) pa_nil rfl) rfl)) (pg_name (i := 5) nd rfl (Or.inl rfl)) (@pss_cons _ _ _ _ _ (@ps_asg _ _ _ _ _ _ (@pe_cD _ _ _ _ _ _ _ _ _ _ DB hr1 rfl (@pa_cons _ _ _ _ _ (pv 0) (@pa_cons _ _ _ _ _ (pv 1) (@pa_cons _ _ _ _ _ (pv 3) (@pa_cons _ _ _ _ _ (pv 5) pa_nil rfl) rfl) rfl) rfl) (by decide) rfl rfl) (pg_tup rfl (pgs_cons (pg_name (i := 6) nd rfl (Or.inl rfl)) (pgs_cons (pg_name (i := 7) nd rfl (Or.inl rfl)) pgs_nil))) rfl rfl rfl) (@pss_cons _ _ _ _ _ (@ps_expr _ _ _ _ (@pe_bm _ _ _ _ _ _ _ _ _ _ _ _ PySem.F.plainAttrs_list PySem.F.slot_list_append PySem.F.type_list_append mt_append (pv 3) (@pa_cons _ _ _ _ _ (pv 6) pa_nil rfl) rfl rfl rfl rfl rfl) rfl) (@pss_one _ _ _ (@ps_expr _ _ _ _ (@pe_bm _ _ _ _ _ _ _ _ _ _ _ _ PySem.F.plainAttrs_list PySem.F.slot_list_append PySem.F.type_list_append mt_append (pv 4) (@pa_cons _ _ _ _ _ (pv 7) pa_nil rfl) rfl rfl rfl rfl rfl) rfl)))) (by intro _; rfl)) (@pss_one _ _ _ (@ps_ret _ _ _ _ (@pe_tup _ _ _ _ _ (@pa_cons _ _ _ _ _ (@pe_ix _ _ _ _ _ _ _ ix_list (pv 3) (pv 2) (fun _ _ => rfl)) (@pa_cons _ _ _ _ _ (@pe_cD _ _ _ _ _ _ _ _ _ _ DL hr1 rfl (@pa_cons _ _ _ _ _ (pv 0) (@pa_cons _ _ _ _ _ (pv 4) (@pa_cons _ _ _ _ _ (pv 2) pa_nil rfl) rfl) rfl) (by decide) rfl rfl) pa_nil rfl) rfl)))))))))), ?_⟩
  have sz : (100 : Nat) < sizeLine := by decide
  refine ⟨_, rfl, bv, Tb, 0, rfl, tb, _, rfl, ?_⟩
  rcases h with ⟨wb, he⟩ | h
  · rw [wb]
    exact iteT ⟨(by show 1 ≤ sizeLine; decide), he⟩
  obtain ⟨wb, h2⟩ : whole bv 0 = true ∧ ((wok o = false ∧ ∀ H', Same H H' → E (.ref NW) none H')
      ∨ (∃ xs, o = some xs ∧ ws60 xs = true ∧ (whole sv 1 = false ∨ ∃ i : Int, sv = .int i ∧ 1 ≤ i ∧ (xs.length : Int) < i) ∧ ∀ H', Same H H' → E (.ref NN) none H')
      ∨ (∃ xs i, o = some xs ∧ ws60 xs = true ∧ sv = .int i ∧ 1 ≤ i ∧ i ≤ (xs.length : Int) ∧ ∀ (t l : Addr) (L : Int) (ns : List V) (H' : Hp), H t = none → H' t = some (.tup [.int L, .ref l]) → H' l = some (.lst ns) → Same H H' → Q (.ref t) H')) := by
    rcases h with ⟨a, h⟩ | ⟨xs, e, a, h⟩ | ⟨xs, i, e, a, h⟩
    · exact ⟨a, .inl h⟩
    · exact ⟨a, .inr (.inl ⟨xs, e, h⟩)⟩
    · exact ⟨a, .inr (.inr ⟨xs, i, e, h⟩)⟩
  clear h
  have h := h2
  clear h2
  rw [wb]
  refine iteF ?_
  obtain ⟨b, rfl, b0⟩ := whole_int wb
  rcases hn with ⟨rfl, od, T, ty, nt1, nt2⟩ | ⟨xs, rfl, a, rfl, na, hx, xl, xo⟩
  · rcases h with ⟨_, he⟩ | ⟨xs, e, _⟩ | ⟨xs, i, e, _⟩
    · exact ⟨_, rfl, wv, T, rfl, ty, .inl ⟨nt1, nt2, fun H1 s1 => ⟨_, rfl, iteT ⟨(by show 1 ≤ sizeLine; decide), he H1 s1⟩⟩⟩⟩
    · cases e
    · cases e
  obtain ⟨T, ty⟩ : ∃ T, Ty K H (.ref a) T := by
    rcases hx with z | z
    · exact ⟨_, Ty.lst z⟩
    · exact ⟨_, Ty.tup z⟩
  refine ⟨_, rfl, .ref a, T, rfl, ty, .inr ⟨a, xs, rfl, hx, fun y hy => (xo y hy).ty, fun H1 s1 => ⟨_, rfl, ?_⟩⟩⟩
  rcases h with ⟨wf, he⟩ | h
  · rw [show ws60 xs = false from wf]
    exact iteT ⟨(by show 1 ≤ sizeLine; decide), he H1 s1⟩
  obtain ⟨wt, h2⟩ : ws60 xs = true ∧ (((whole sv 1 = false ∨ ∃ i : Int, sv = .int i ∧ 1 ≤ i ∧ (xs.length : Int) < i) ∧ ∀ H', Same H H' → E (.ref NN) none H')
      ∨ (∃ i : Int, sv = .int i ∧ 1 ≤ i ∧ i ≤ (xs.length : Int) ∧ ∀ (t l : Addr) (L : Int) (ns : List V) (H' : Hp), H t = none → H' t = some (.tup [.int L, .ref l]) → H' l = some (.lst ns) → Same H H' → Q (.ref t) H')) := by
    rcases h with ⟨ys, e, a, h⟩ | ⟨ys, i, e, a, h⟩
    · cases e; exact ⟨a, .inl h⟩
    · cases e; exact ⟨a, .inr ⟨i, h⟩⟩
  clear h
  have h := h2
  clear h2
  rw [wt]
  refine iteF ?_
  have hx1 : H1 a = some (.lst xs) ∨ H1 a = some (.tup xs) := hx.imp (s1 _ _) (s1 _ _)
  have sq : SqL K H1 a xs ∨ SqT K H1 a xs := hx1.imp (fun z => SqL.of z) fun z => SqT.of z
  refine ⟨_, rfl, sv, Ts, 1, rfl, Ty.same s1 ts, _, rfl, ?_⟩
  rcases h with ⟨wf | ⟨i, rfl, i1, il⟩, he⟩ | ⟨i, rfl, i1, il, q⟩
  · rw [wf]
    exact iteT (iteT ⟨(by show 1 ≤ sizeLine; decide), he H1 s1⟩)
  · rw [show whole (.int i) 1 = true from decide_eq_true i1]
    refine iteF ⟨_, rfl, _, rfl, a, _, rfl, sq, _, _, rfl, rfl, _, rfl, ?_⟩
    rw [decide_eq_true il]
    exact iteT ⟨(by show 1 ≤ sizeLine; decide), he H1 s1⟩
  rw [show whole (.int i) 1 = true from decide_eq_true i1]
  refine iteF ⟨_, rfl, _, rfl, a, _, rfl, sq, _, _, rfl, rfl, _, rfl, ?_⟩
  rw [decide_eq_false (show ¬ (xs.length : Int) < i by omega)]
  refine iteF ?_
  obtain ⟨n, rfl⟩ : ∃ n : Nat, i = (n : Int) := ⟨i.toNat, by omega⟩
  obtain ⟨x1, x60, ws, rfl, wnn⟩ := ws60_true wt
  rw [List.length_map] at il x60 x1
  have hw1 : RowI H1 a ws := hx1
  have n1 : 1 ≤ n := by omega
  have n2 : n ≤ ws.length := by omega
  have m60 := x60
  refine ⟨(by show 1 ≤ sizeLine; decide), fun lo hlo => ?_⟩
  refine ⟨(by show 1 ≤ sizeLine; decide), fun st hst => ?_⟩
  have nls : st ≠ lo := fun z => by rw [z, upd_same] at hst; cases hst
  have hst1 : H1 st = none := by rw [upd_ne nls] at hst; exact hst
  have s2 : Same H1 (upd (upd H1 lo (.lst [.int 0])) st (.lst [.int 0])) := (Same.new hlo).trans (Same.new hst)
  have l2 : (upd (upd H1 lo (.lst [.int 0])) st (.lst [.int 0])) lo = some (.lst [.int 0]) := by rw [upd_ne (Ne.symm nls), upd_same]
  have t2 : (upd (upd H1 lo (.lst [.int 0])) st (.lst [.int 0])) st = some (.lst [.int 0]) := upd_same
  generalize upd (upd H1 lo (.lst [.int 0])) st (.lst [.int 0]) = H2 at s2 l2 t2 ⊢
  refine ⟨_, rfl, _, _, rfl, rfl, _, _, rfl, ⟨by decide, by decide, by omega, by omega⟩, ?_⟩
  have en : ((n : Int) + 1 - 1).toNat = n := by omega
  rw [en]
  refine for_range (lo := 1) (n := n) (fun i σ H' => ∃ v5 v6 v7, σ = [some (.int b), some (.ref a), some (.int n), some (.ref lo), some (.ref st), v5, v6, v7] ∧ H' lo = some (.lst ((tab b ws i).1.map V.int)) ∧ H' st = some (.lst ((tab b ws i).2.map V.int)) ∧ Same H1 H') ⟨none, none, none, rfl, l2, t2, s2⟩ ?_ ?_
  · rintro i σ H3 hi ⟨v5, v6, v7, rfl, l3, t3, s3⟩
    have er : (1 + (i : Int)) = ((i + 1 : Nat) : Int) := by omega
    have tl := tab_len b ws i
    refine ⟨_, rfl, _, rfl, _, rfl, _, rfl, b, a, lo, ws, (tab b ws i).1, i + 1, (by rw [er]; rfl), b0, hw1.same s3, l3, tl.1, by omega, by omega, by omega, fun t H4 ht ht4 s4 => ?_⟩
    refine ⟨t, _, rfl, SqT.of ht4, rfl, _, _, rfl, _, _, rfl, rfl, ?_⟩
    have l4 := s4 _ _ l3
    have t4 := s4 _ _ t3
    refine ⟨_, rfl, .inl ⟨rfl, _, SqL.of l4⟩, _, rfl, lo, _, _, rfl, rfl, l4, (by rw [List.length_map, tl.1]; omega), ?_⟩
    refine ⟨_, rfl, .inl ⟨rfl, _, SqL.of (by rw [upd_ne nls]; exact t4)⟩, _, rfl, st, _, _, rfl, rfl, (by rw [upd_ne nls]; exact t4), (by rw [List.length_map, tl.2]; omega), ⟨_, _, _, rfl, ?_, ?_, ?_⟩⟩
    · rw [upd_ne (Ne.symm nls), upd_same]
      simp only [tab, List.map_append, List.map_cons, List.map_nil]
      rfl
    · rw [upd_same]
      simp only [tab, List.map_append, List.map_cons, List.map_nil]
      rfl
    · intro c o e
      rw [upd_ne (fun z => by rw [z, hst1] at e; cases e), upd_ne (fun z => by rw [z, hlo] at e; cases e)]
      exact s4 _ _ (s3 _ _ e)
  · rintro σ H3 ⟨v5, v6, v7, rfl, l3, t3, s3⟩
    have tl := tab_len b ws n
    refine ⟨_, rfl, _, rfl, lo, _, _, _, rfl, rfl, SqL.of l3, at_row (by omega) (by omega), _, rfl, _, rfl, _, rfl, b, st, (tab b ws n).2, n, rfl, b0, t3, by omega, by omega, fun l ns H4 hl pm pw e4 s4 => ⟨(by show 2 ≤ sizeLine; decide), fun t ht => ?_⟩⟩
    have s14 := s1.trans (s3.trans s4)
    have nlt : l ≠ t := ne_of_none e4 ht
    exact q t l _ _ _ (s14.free ht) upd_same (by rw [upd_ne nlt]; exact e4) (s14.trans (Same.new ht))
end
section
variable {P : Program} {w : World} {K : PySem.W.Frag} {mg : Str → Option Value} {base : Heap}
/-- which refusal is due, if any -/
inductive Due (bv : V) (o : Option (List V)) (sv : V) : Option Int → Prop
  | b : whole bv 0 = false → Due bv o sv (some 0)
  | w : whole bv 0 = true → wok o = false → Due bv o sv (some 1)
  | s {xs : List V} : o = some xs → whole bv 0 = true → ws60 xs = true → (whole sv 1 = false ∨ ∃ i : Int, sv = .int i ∧ 1 ≤ i ∧ (xs.length : Int) < i) → Due bv o sv (some 2)
  | ok {xs : List V} {i : Int} : o = some xs → whole bv 0 = true → ws60 xs = true → sv = .int i → 1 ≤ i → i ≤ (xs.length : Int) → Due bv o sv none
def spTl (K : PySem.W.Frag) : Sp := fun vs H Q _ => ∃ (bv wv sv : V) (p : Addr) (o : Option (List V)) (r : Option Int), vs = [bv, wv, sv] ∧ (∃ T, Ty K H bv T) ∧ Hnd K H p wv o ∧ (∃ T, Ty K H sv T) ∧ Due bv o sv r ∧
  (∀ k, r = some k → ∀ (l : Addr) (H' : Hp), H l = none → H' l = some (.lst [.int k, .int 13]) → Same H H' → Q (.ref l) H') ∧ (r = none → ∀ H', Same H H' → Q (.bl true) H')
theorem scTold : FnScope ["_law_blade", "_law_weights", "_law_side", "_law_found", "_law_error"] ["_law_blade", "_law_weights", "_law_side"] (defScope sTold) := ⟨rfl, rfl, rfl, by decide +kernel, rfl, by decide +kernel, by decide +kernel⟩
theorem ok_told {f NB NW NN CE : Addr} {fd : FuncData} (F : Fun K "_law_told" "_law_told" sTold f fd) (B : Blt mg) (DX : DnX P w K mg base "load_of" ["blade", "weights", "side"] 3 (spLoadX K NB NW NN))
    (DQ : DnQ P w K mg base "_law_kinds" ["_law_error"] 1 (fun vs H Q E => spKds NB (bs14 true false false) vs H Q E ∨ (spKds NW (bs14 false true false) vs H Q E ∨ spKds NN (bs14 false false true) vs H Q E))) (mp : mg "PlateError" = some (.ref CE))
    (x1 : PySem.W.exmOne K (.ref NB) (.ref CE) = some true) (x2 : PySem.W.exmOne K (.ref NW) (.ref CE) = some true) (x3 : PySem.W.exmOne K (.ref NN) (.ref CE) = some true) :
    FnOk P w K mg base CX0 4 f fd ["_law_blade", "_law_weights", "_law_side"] (spTl K) := by
  refine F.ok scTold (fun vs H Q E h => ?_) (fun cdv A outer s H vs Q E hr h => ?_)
  · obtain ⟨bv, wv, sv, p, o, r, rfl, _⟩ := h
    rfl
  obtain ⟨bv, wv, sv, p, o, r, rfl, tb, hn, ts, du, q1, q2⟩ := h
  have nd := scTold.nd
  have hr1 := hr.mono (show 1 ≤ 3 by decide)
  refine ⟨_, pss_cons (ps_tryB (j := 3) (i := 4) rfl rfl rfl (pex_cD DX hr rfl (pa_cons (pv 0) (pa_cons (pv 1) (pa_cons (pv 2) pa_nil)))) nd rfl rfl rfl rfl rfl mp (fun ea => pss_one (ps_ret (pe_cQ DQ (hr1.h _) rfl (pa_cons (pv 4) pa_nil))))) (pss_one (ps_ret (pe_and (pe_callB call_isinst rfl B.isi PyProof.Rows.boot_isinstance (pa_cons (pv 3) (pa_cons (pe_bltn (v := .ty "tuple") rfl B.tuple PyProof.Rows.boot_tuple rfl) pa_nil))) (pe_and (pe_cmpR op_eq (pe_callB call_len_seq rfl B.len PySem.boot_len (pa_cons (pv 3) pa_nil)) pe_int (nomark _)) (pe_one (pe_callB call_isinst rfl B.isi PyProof.Rows.boot_isinstance (pa_cons (pe_ix ix_tup (pv 3) pe_int (fun _ _ => rfl)) (pa_cons (pe_bltn (v := .ty "list") rfl B.list PyProof.Rows.boot_list rfl) pa_nil)))))))), ?_⟩
  refine ⟨_, rfl, _, rfl, _, rfl, bv, wv, sv, p, o, rfl, tb, hn, ts, ?_⟩
  have fin : ∀ {c : Addr} {k : Int} {H1 : Hp} {ea : Addr}, r = some k → Same H H1 → H1 ea = none → ∀ (l : Addr) (H' : Hp), (upd H1 ea (.ext (IsA ea (.ref c)))) l = none → H' l = some (.lst [.int k, .int 13]) → Same (upd H1 ea (.ext (IsA ea (.ref c)))) H' → Q (.ref l) H' :=
    fun {c k H1 ea} e s1 hea l H' hl l' s' => by
      have s3 := s1.trans (Same.new hea (o := .ext (IsA ea (.ref c))))
      exact q1 k e l H' (s3.free hl) l' (s3.trans s')
  cases du with
  | b wb =>
    refine .inl ⟨wb, x1, fun ea hea => ?_⟩
    exact ⟨_, rfl, ⟨ea, _, rfl, upd_same⟩, .inl ⟨ea, rfl, upd_same, fin rfl (Same.refl _) hea⟩⟩
  | w wb wf =>
    refine .inr (.inl ⟨wb, wf, fun H1 s1 => ⟨x2, fun ea hea => ?_⟩⟩)
    exact ⟨_, rfl, ⟨ea, _, rfl, upd_same⟩, .inr (.inl ⟨ea, rfl, upd_same, fin rfl s1 hea⟩)⟩
  | s e wb wt hs =>
    refine .inr (.inr (.inl ⟨_, e, wb, wt, hs, fun H1 s1 => ⟨x3, fun ea hea => ?_⟩⟩))
    exact ⟨_, rfl, ⟨ea, _, rfl, upd_same⟩, .inr (.inr ⟨ea, rfl, upd_same, fin rfl s1 hea⟩)⟩
  | ok e wb wt es i1 il =>
    refine .inr (.inr (.inr ⟨_, _, e, wb, wt, es, i1, il, fun t l L ns H' ht ht' hl' s' => ?_⟩))
    refine ⟨_, rfl, .ref t, _, _, _, _, rfl, (Ty.tup ht' (K := K)).2, rfl, kit_tuple "tuple" (by simp [tyNames]), _, rfl, iteT ?_⟩
    refine ⟨_, rfl, t, _, rfl, .inr (SqT.of ht'), rfl, _, rfl, iteT ?_⟩
    exact ⟨_, rfl, t, _, _, _, rfl, rfl, SqT.of ht', rfl, .ref l, _, _, _, _, rfl, (Ty.lst hl' (K := K)).2, rfl, kit_list "list" (by simp [tyNames]), q2 rfl H' s'⟩
end
section
variable {P : Program} {w : World} {K : PySem.W.Frag} {mg : Str → Option Value} {base : Heap}
theorem seqCut {t u : TS} {D : Ends} {σ : St} {H : Hp} (J : St → Hp → Prop) (h1 : ∀ R : St → Hp → Prop, (∀ σ' H', J σ' H' → R σ' H') → t { D with nx := R } σ H) (h2 : ∀ σ' H', J σ' H' → u D σ' H') : tSeq t u D σ H := h1 _ h2
theorem Hnd.but {H H' : Hp} {p : Addr} {v : V} {o : Option (List V)} (b : But p H H') (h : Hnd K H p v o) : Hnd K H' p v o := by
  rcases h with ⟨e, od, T, ty, n1, n2⟩ | ⟨xs, e, r⟩
  · refine .inl ⟨e, od.mono b, ?_⟩
    rcases od with rfl | ⟨c, rfl⟩ | ⟨i, rfl, _⟩ | rfl | rfl | ⟨a, rfl, n, h | h | h | h⟩
    · exact ⟨_, Ty.non, by decide, by decide⟩
    · exact ⟨_, Ty.bl, by decide, by decide⟩
    · exact ⟨_, Ty.int, by decide, by decide⟩
    · exact ⟨_, Ty.str, by decide, by decide⟩
    · exact ⟨_, Ty.str, by decide, by decide⟩
    · have := ty_row ty (.inl h); simp [n1, n2] at this
    · have := ty_row ty (.inr h); simp [n1, n2] at this
    · exact ⟨_, Ty.dK (b _ _ n h), by decide, by decide⟩
    · exact ⟨_, Ty.dK (b _ _ n h), by decide, by decide⟩
  · exact .inr ⟨xs, e, r.mono b⟩
def DueV (H : Hp) (p : Addr) (dv : V) (r : Option Int) : Prop := (r = none ∧ dv = .bl true) ∨ ∃ k d, r = some k ∧ dv = .ref d ∧ d ≠ p ∧ H d = some (.lst [.int k, .int 13])
theorem DueV.but {H H' : Hp} {p : Addr} {v : V} {r : Option Int} (b : But p H H') (h : DueV H p v r) : DueV H' p v r := h.imp id fun ⟨k, d, a, c, n, e⟩ => ⟨k, d, a, c, n, b _ _ n e⟩
def JR (K : PySem.W.Frag) (p l : Addr) (ws : List Int) (bd : Int) (H : Hp) (n : Nat) (σ : St) (H' : Hp) : Prop := ∃ (bv sv wv dv : V) (o : Option (List V)) (r : Option Int), σ = [some (.ref p), some (.ref l), some (.int bd), some bv, some sv, some wv, some dv, none, none] ∧
  H' l = some (.lst (ws.map V.int)) ∧ Od1 H' p bv ∧ Od1 H' p sv ∧ Hnd K H' p wv o ∧ Due bv o sv r ∧ DueV H' p dv r ∧ PotB H' p ∧ But p H H' ∧ (n ≤ 2 → whole bv 0 = true) ∧ (n ≤ 1 → o = some (ws.map V.int))
def spRight : Sp := fun vs H Q _ => ∃ (p : Addr), vs = [.ref p] ∧ PotB H p ∧ ∀ H', But p H H' → Q (.bl true) H'
def spLaw (K : PySem.W.Frag) : Sp := fun vs H Q _ => ∃ (a : Addr) (ns : List Int), vs = [.ref a] ∧ SqL K H a (ns.map V.int) ∧ ns.length ≤ 63 ∧ ∀ H', Q (.bl true) H'
theorem scright : FnScope ["_law_pot_here", "_law_weights", "_law_bad", "_law_blade", "_law_side", "_law_handed", "_law_due", "_law_kept", "_law_k"] ["_law_pot_here"] (defScope sRight) := ⟨rfl, rfl, rfl, by decide +kernel, rfl, by decide +kernel, by decide +kernel⟩
theorem ok_right {f : Addr} {fd : FuncData} (F : Fun K "_law_right" "_law_right" sRight f fd) (B : Blt mg) (SM : SysIn K) (DD : Dn P w K mg base "_law_draw" ["_law_pot_here", "_law_many"] 1 spDrawB) (DS : Dn P w K mg base "_law_bad_side" ["_law_pot_here", "_law_many"] 3 spBadSide) (DWs : Dn P w K mg base "_law_bad_weights" ["_law_pot_here", "_law_weights"] 3 (spBadW K)) (DBl : Dn P w K mg base "_law_bad_blade" ["_law_pot_here"] 3 spBadBlade) (DT : Dn P w K mg base "_law_told" ["_law_blade", "_law_weights", "_law_side"] 4 (spTl K)) : FnOk P w K mg base CX0 5 f fd ["_law_pot_here"] (spRight) := by
  refine F.ok scright (fun vs H Q E h => ?_) (fun cdv A outer s H vs Q E hr h => ?_)
  · obtain ⟨p, rfl, _⟩ := h
    rfl
  obtain ⟨p, rfl, pt, q⟩ := h
  have nd := scright.nd
  have hr1 := hr.mono (show 1 ≤ 4 by decide)
  have hr3 := hr.mono (show 3 ≤ 4 by decide)
  have hu := hr.units
  have hg := hr.gd
  have hu6 := hr.units66
  refine ⟨_, (@pss_cons _ _ _ _ _ (ps_comp (i := 1) (own := ["_law_k"]) (cs := ["_law_pot_here"]) (cap := [0]) rfl nd rfl rfl rfl (pi_range1 rfl B.range (@pa_cons _ _ _ _ _ (@pe_op _ _ _ _ _ _ _ _ op_add pe_int (@pe_cD _ _ _ _ _ _ _ _ _ _ DD hr1 rfl (@pa_cons _ _ _ _ _ (pv 0) (@pa_cons _ _ _ _ _ pe_int pa_nil rfl) rfl) (by decide) rfl rfl)) pa_nil rfl)) (compOk_of (sc := defScope sRight) (N := ["_law_pot_here", "_law_weights", "_law_bad", "_law_blade", "_law_side", "_law_handed", "_law_due", "_law_kept", "_law_k"]) rfl rfl (by decide +kernel)) (fun _ _ _ _ _ => pg_name (i := 0) (by show List.Nodup (["_law_k", "_law_pot_here"] : List Str) ; decide +kernel) rfl (Or.inl rfl) (Or.inr rfl)) (fun _ _ _ _ _ => pifs_nil) (fun _ _ _ _ _ => (@pe_cD _ _ _ _ _ _ _ _ _ _ DD hr1 rfl (@pa_cons _ _ _ _ _ (pv 1) (@pa_cons _ _ _ _ _ pe_int pa_nil rfl) rfl) (by decide) rfl rfl))) (@pss_cons _ _ _ _ _ (@ps_set _ _ 2 _ _ _ _ nd rfl (Or.inl rfl) (@pe_cD _ _ _ _ _ _ _ _ _ _ DD hr1 rfl (@pa_cons _ _ _ _ _ (pv 0) (@pa_cons _ _ _ _ _ pe_int pa_nil rfl) rfl) (by decide) rfl rfl) rfl (Or.inl rfl)) (@pss_cons _ _ _ _ _ (@ps_set _ _ 3 _ _ _ _ nd rfl (Or.inl rfl) (@pe_cD _ _ _ _ _ _ _ _ _ _ DD hr1 rfl (@pa_cons _ _ _ _ _ (pv 0) (@pa_cons _ _ _ _ _ pe_int pa_nil rfl) rfl) (by decide) rfl rfl) rfl (Or.inl rfl)) (@pss_cons _ _ _ _ _ (@ps_set _ _ 4 _ _ _ _ nd rfl (Or.inl rfl) (@pe_op _ _ _ _ _ _ _ _ op_add pe_int (@pe_cD _ _ _ _ _ _ _ _ _ _ DD hr1 rfl (@pa_cons _ _ _ _ _ (pv 0) (@pa_cons _ _ _ _ _ (@pe_callB _ _ _ _ _ _ _ _ _ call_len_seq rfl B.len PySem.boot_len (@pa_cons _ _ _ _ _ (pv 1) pa_nil rfl) (by decide) (by decide) rfl rfl) pa_nil rfl) rfl) (by decide) rfl rfl)) rfl (Or.inl rfl)) (@pss_cons _ _ _ _ _ (@ps_set _ _ 5 _ _ _ _ nd rfl (Or.inl rfl) (@pe_ix _ _ _ _ _ _ _ ix_list (@pe_lst _ _ _ _ (@pa_cons _ _ _ _ _ (@pe_callTy _ _ _ _ _ _ _ _ _ call_list_of rfl B.list PyProof.Rows.boot_list (@pa_cons _ _ _ _ _ (pv 1) pa_nil rfl) (by decide) (by decide) rfl rfl) (@pa_cons _ _ _ _ _ (@pe_callTy _ _ _ _ _ _ _ _ _ call_tuple_of rfl B.tuple PyProof.Rows.boot_tuple (@pa_cons _ _ _ _ _ (pv 1) pa_nil rfl) (by decide) (by decide) rfl rfl) pa_nil rfl) rfl)) (@pe_cD _ _ _ _ _ _ _ _ _ _ DD hr1 rfl (@pa_cons _ _ _ _ _ (pv 0) (@pa_cons _ _ _ _ _ pe_int pa_nil rfl) rfl) (by decide) rfl rfl) (fun _ _ => rfl)) rfl (Or.inl rfl)) (@pss_cons _ _ _ _ _ (@ps_set _ _ 6 _ _ _ _ nd rfl (Or.inl rfl) pe_bl rfl (Or.inl rfl)) (@pss_cons _ _ _ _ _ (@ps_if _ _ _ _ _ _ _ _ (@pt_cmpR _ _ _ _ _ _ _ _ op_eq (@pe_op _ _ _ _ _ _ _ _ op_mod (@pe_op _ _ _ _ _ _ _ _ op_fdivB (pv 2) pe_int) pe_int) pe_int (nomark _)) (@pss_cons _ _ _ _ _ (@ps_set _ _ 4 _ _ _ _ nd rfl (Or.inl rfl) (@pe_cD _ _ _ _ _ _ _ _ _ _ DS hr3 rfl (@pa_cons _ _ _ _ _ (pv 0) (@pa_cons _ _ _ _ _ (@pe_callB _ _ _ _ _ _ _ _ _ call_len_seq rfl B.len PySem.boot_len (@pa_cons _ _ _ _ _ (pv 1) pa_nil rfl) (by decide) (by decide) rfl rfl) pa_nil rfl) rfl) (by decide) rfl rfl) rfl (Or.inl rfl)) (@pss_one _ _ _ (@ps_set _ _ 6 _ _ _ _ nd rfl (Or.inl rfl) (@pe_lst _ _ _ _ (@pa_cons _ _ _ _ _ pe_int (@pa_cons _ _ _ _ _ pe_int pa_nil rfl) rfl)) rfl (Or.inl rfl)))) pss_nil) (@pss_cons _ _ _ _ _ (@ps_if _ _ _ _ _ _ _ _ (@pt_cmpR _ _ _ _ _ _ _ _ op_eq (@pe_op _ _ _ _ _ _ _ _ op_mod (@pe_op _ _ _ _ _ _ _ _ op_fdivB (pv 2) pe_int) pe_int) pe_int (nomark _)) (@pss_cons _ _ _ _ _ (@ps_set _ _ 5 _ _ _ _ nd rfl (Or.inl rfl) (@pe_cD _ _ _ _ _ _ _ _ _ _ DWs hr3 rfl (@pa_cons _ _ _ _ _ (pv 0) (@pa_cons _ _ _ _ _ (pv 1) pa_nil rfl) rfl) (by decide) rfl rfl) rfl (Or.inl rfl)) (@pss_one _ _ _ (@ps_set _ _ 6 _ _ _ _ nd rfl (Or.inl rfl) (@pe_lst _ _ _ _ (@pa_cons _ _ _ _ _ pe_int (@pa_cons _ _ _ _ _ pe_int pa_nil rfl) rfl)) rfl (Or.inl rfl)))) pss_nil) (@pss_cons _ _ _ _ _ (@ps_if _ _ _ _ _ _ _ _ (@pt_cmpR _ _ _ _ _ _ _ _ op_eq (@pe_op _ _ _ _ _ _ _ _ op_mod (pv 2) pe_int) pe_int (nomark _)) (@pss_cons _ _ _ _ _ (@ps_set _ _ 3 _ _ _ _ nd rfl (Or.inl rfl) (@pe_cD _ _ _ _ _ _ _ _ _ _ DBl hr3 rfl (@pa_cons _ _ _ _ _ (pv 0) pa_nil rfl) (by decide) rfl rfl) rfl (Or.inl rfl)) (@pss_one _ _ _ (@ps_set _ _ 6 _ _ _ _ nd rfl (Or.inl rfl) (@pe_lst _ _ _ _ (@pa_cons _ _ _ _ _ pe_int (@pa_cons _ _ _ _ _ pe_int pa_nil rfl) rfl)) rfl (Or.inl rfl)))) pss_nil) (@pss_cons _ _ _ _ _ (@ps_set _ _ 7 _ _ _ _ nd rfl (Or.inl rfl) (@pe_callB _ _ _ _ _ _ _ _ _ (call_reprD SM hg hu6) rfl B.repr PyProof.Rows.boot_repr (@pa_cons _ _ _ _ _ (@pe_lst _ _ _ _ (@pa_cons _ _ _ _ _ (pv 3) (@pa_cons _ _ _ _ _ (pv 5) (@pa_cons _ _ _ _ _ (pv 4) pa_nil rfl) rfl) rfl)) pa_nil rfl) (by decide) (by decide) rfl rfl) rfl (Or.inl rfl)) (@pss_cons _ _ _ _ _ (@ps_for _ _ _ _ _ _ _ _ PassesOwn.never rfl (pi_range1 rfl B.range (@pa_cons _ _ _ _ _ pe_int pa_nil rfl)) (pg_name (i := 8) nd rfl (Or.inl rfl)) (@pss_one _ _ _ (@ps_if _ _ _ _ _ _ _ _ (@pt_cmpR _ _ _ _ _ _ _ _ (op_neD hu) (@pe_cD _ _ _ _ _ _ _ _ _ _ DT hr rfl (@pa_cons _ _ _ _ _ (pv 3) (@pa_cons _ _ _ _ _ (pv 5) (@pa_cons _ _ _ _ _ (pv 4) pa_nil rfl) rfl) rfl) (by decide) rfl rfl) (pv 6) (nomark _)) (@pss_one _ _ _ (@ps_ret _ _ _ _ pe_bl)) pss_nil)) (by intro _; rfl)) (@pss_one _ _ _ (@ps_ret _ _ _ _ (@pe_cmpR _ _ _ _ _ _ _ _ op_eq (@pe_callB _ _ _ _ _ _ _ _ _ (call_reprD SM hg hu6) rfl B.repr PyProof.Rows.boot_repr (@pa_cons _ _ _ _ _ (@pe_lst _ _ _ _ (@pa_cons _ _ _ _ _ (pv 3) (@pa_cons _ _ _ _ _ (pv 5) (@pa_cons _ _ _ _ _ (pv 4) pa_nil rfl) rfl) rfl)) pa_nil rfl) (by decide) (by decide) rfl rfl) (pv 7) (nomark _))))))))))))))), ?_⟩
  have sz : (1000 : Nat) < sizeLine := by decide
  have e60 : (1000 : Int) ≤ 10 ^ 60 := by decide
  refine ⟨_, rfl, p, 8, rfl, pt, by decide, by decide, fun r H1 r0 r1 pt1 b1 => ⟨_, _, rfl, rfl, _, rfl, by omega, by omega, fun i m ys H' => i ≤ (1 + r).toNat ∧ m = (1 + r).toNat - i ∧ (∃ ws : List Int, ys = ws.map V.int ∧ ws.length = i ∧ ∀ x ∈ ws, 0 ≤ x ∧ x < 9) ∧ PotB H' p ∧ But p H H', ⟨_, by omega, rfl, ⟨[], rfl, rfl, by simp⟩, pt1, b1⟩, ?_⟩⟩
  rintro i m ys Hc ⟨hi, rfl, ⟨ws, rfl, wl, wr⟩, ptc, bc⟩
  by_cases hn : i < (1 + r).toNat
  · refine .inr ⟨hn, by rw [List.length_map]; omega, ?_⟩
    rintro x _ ⟨rfl, rfl⟩
    refine ⟨leS.set rfl, tYes_ite ⟨_, rfl, p, 9, rfl, ptc, by decide, by decide, fun y Hd y0 y1 ptd bd => ⟨(1 + r).toNat - (i + 1), by omega, by omega, rfl, ⟨ws ++ [y], by rw [List.map_append]; rfl, by rw [List.length_append, wl]; rfl, fun x hx => ?_⟩, ptd, bc.trans bd⟩⟩⟩
    rcases List.mem_append.mp hx with hx | hx
    · exact wr x hx
    · rw [List.mem_singleton.mp hx]; exact ⟨y0, y1⟩
  refine .inl ⟨(show (1 + r).toNat ≤ i by omega), by rw [List.length_map]; omega, fun l hl => ?_⟩
  have w1 : 1 ≤ ws.length := by omega
  have w8 : ws.length ≤ 8 := by omega
  obtain ⟨H2, e2, k2, n2, s2, b2, pt2⟩ := put1 (o := .lst (ws.map V.int)) bc ptc hl
  rw [e2]; clear e2
  refine ⟨_, rfl, p, 8, rfl, pt2, by decide, by decide, fun bd H3 bd0 bd1 pt3 b3 => ?_⟩
  refine ⟨_, rfl, p, 4, rfl, pt3, by decide, by decide, fun b H4 b0 b9 pt4 b4 => ?_⟩
  have l4 := b4 _ _ n2 (b3 _ _ n2 k2)
  refine ⟨_, rfl, _, rfl, l, _, rfl, .inl (SqL.of l4), p, _, rfl, pt4, (by rw [List.length_map]; omega), (by rw [List.length_map]; omega), fun sd H5 sd0 sd1 pt5 b5 => ⟨_, _, rfl, rfl, ?_⟩⟩
  rw [List.length_map] at sd1
  have l5 := b5 _ _ n2 l4
  have b5' := ((b2.trans b3).trans b4).trans b5
  refine ⟨_, rfl, l, _, rfl, .inl (SqL.of l5), fun c6 hc6 => ?_⟩
  obtain ⟨H6, e6, k6, n6, s6, b6, pt6⟩ := put1 (o := .lst (ws.map V.int)) b5' pt5 hc6
  rw [e6]; clear e6
  refine ⟨_, rfl, l, _, rfl, .inl ⟨SqL.of (s6 _ _ l5), fun c7 hc7 => ?_⟩⟩
  obtain ⟨H7, e7, k7, n7, s7, b7, pt7⟩ := put1 (o := .tup (ws.map V.int)) b6 pt6 hc7
  rw [e7]; clear e7
  refine ⟨(by show 2 ≤ sizeLine; decide), fun c8 hc8 => ?_⟩
  obtain ⟨H8, e8, k8, n8, s8, b8, pt8⟩ := put1 (o := .lst [.ref c6, .ref c7]) b7 pt7 hc8
  rw [show upd H7 c8 _ = H8 from e8]; clear e8
  refine ⟨_, rfl, p, 2, rfl, pt8, by decide, by decide, fun y H9 y0 y1 pt9 b9' => ?_⟩
  have l9 := b9' _ _ n2 (s8 _ _ (s7 _ _ (s6 _ _ l5)))
  have wo : ∀ x ∈ ws.map V.int, Od1 H9 p x := fun x hx => by
    obtain ⟨z, hz, rfl⟩ := List.mem_map.mp hx
    have := wr z hz
    exact od_int (by omega)
  have wt : ws60 (ws.map V.int) = true := ws60_ints w1 (by omega) fun x hx => (wr x hx).1
  obtain ⟨c, hv, hrow⟩ : ∃ c : Addr, atI [V.ref c6, V.ref c7] y = some (.ref c) ∧ Row2 H9 p (.ref c) (ws.map V.int) := by
    have : y = 0 ∨ y = 1 := by omega
    rcases this with e | e
    · subst e; exact ⟨c6, rfl, c6, rfl, n6, .inl (b9' _ _ n6 (s8 _ _ (s7 _ _ k6))), by rw [List.length_map]; omega, wo⟩
    · subst e; exact ⟨c7, rfl, c7, rfl, n7, .inr (b9' _ _ n7 (s8 _ _ k7)), by rw [List.length_map]; omega, wo⟩
  refine ⟨c8, _, _, _, rfl, rfl, SqL.of (b9' _ _ n8 k8), hv, ?_⟩
  have bA := b8.trans b9'
  have j0 : JR K p l ws bd H 0 [some (.ref p), some (.ref l), some (.int bd), some (.int b), some (.int (1 + sd)), some (.ref c), some (.bl true), none, none] H9 :=
    ⟨_, _, _, _, some (ws.map V.int), none, rfl, l9, od_int (by omega), od_int (by omega), .inr ⟨_, rfl, hrow⟩, .ok rfl (decide_eq_true b0) wt rfl (by omega) (by rw [List.length_map]; omega), .inl ⟨rfl, rfl⟩, pt9, bA, fun _ => decide_eq_true b0, fun _ => rfl⟩
  clear hv hrow wo bA l9 pt9 b9' k8 n8 s8 b8 pt8 hc8 k7 n7 s7 b7 pt7 hc7 k6 n6 s6 b6 pt6 hc6 b5' l5 l4 b5 b4 b3 pt5 pt4 pt3
  refine seqCut (fun σ' H' => σ' = [some (.ref p), some (.ref l), some (.int bd), some (.int b), some (.int (1 + sd)), some (.ref c), none, none, none] ∧ H' = H9) (fun R hR => hR _ _ ⟨rfl, rfl⟩) ?_
  rintro _ _ ⟨rfl, rfl⟩
  refine seqCut (JR K p l ws bd H 0) (fun R hR => hR _ _ j0) ?_
  rintro _ H0 ⟨bv, sv, wv, dv, o, rr, rfl, lH, ob, os, hn', du, dd, ptH, bH, wb, wo⟩
  refine seqCut (JR K p l ws bd H 1) (fun R hR => ?_) ?_
  · refine ⟨_, rfl, _, _, rfl, rfl, ⟨by decide, by decide⟩, _, _, rfl, rfl, (by show (0 : Int) < 2; decide), rfl, _, rfl, ?_⟩
    refine ite2 (fun cc => ?_) (fun cc => ?_)
    · refine ⟨_, rfl, _, rfl, l, _, rfl, .inl (SqL.of lH), p, _, rfl, (by rw [List.length_map]; omega), (by rw [List.length_map]; omega), ptH, fun v H' od hb pt' b' => ?_⟩
      refine ⟨(by show 2 ≤ sizeLine; decide), fun c' hc' => ?_⟩
      obtain ⟨H'', e'', k'', n'', s'', b'', pt''⟩ := put1 (o := .lst [.int 2, .int 13]) (bH.trans b') pt' hc'
      have bb := b'.trans (sBut s'')
      rw [e'']; clear e''
      obtain rfl := wo (by decide)
      refine hR _ _ ⟨bv, v, wv, .ref c', some (ws.map V.int), some 2, rfl, bb _ _ n2 lH, ob.mono bb, od.mono (sBut s''), hn'.but bb, .s rfl (wb (by decide)) wt ?_, .inr ⟨2, c', rfl, rfl, n'', k''⟩, pt'', b'', fun _ => wb (by decide), fun _ => rfl⟩
      rcases hb with hb | ⟨i, rfl, hb⟩
      · exact .inl hb
      · exact .inr ⟨i, rfl, by rw [List.length_map] at hb; omega, hb⟩
    · exact hR _ _ ⟨bv, sv, wv, dv, o, rr, rfl, lH, ob, os, hn', du, dd, ptH, bH, fun z => wb (by omega), fun z => wo (by omega)⟩
  clear j0
  rintro _ H0 ⟨bv, sv, wv, dv, o, rr, rfl, lH, ob, os, hn', du, dd, ptH, bH, wb, wo⟩
  refine seqCut (JR K p l ws bd H 2) (fun R hR => ?_) ?_
  · refine ⟨_, rfl, _, _, rfl, rfl, ⟨by decide, by decide⟩, _, _, rfl, rfl, (by show (0 : Int) < 2; decide), rfl, _, rfl, ?_⟩
    refine ite2 (fun cc => ?_) (fun cc => ?_)
    · refine ⟨_, rfl, _, rfl, p, l, ws, rfl, n2, lH, w1, w8, wr, ptH, fun v o' H' hnd ho pt' b' => ?_⟩
      refine ⟨(by show 2 ≤ sizeLine; decide), fun c' hc' => ?_⟩
      obtain ⟨H'', e'', k'', n'', s'', b'', pt''⟩ := put1 (o := .lst [.int 1, .int 13]) (bH.trans b') pt' hc'
      have bb := b'.trans (sBut s'')
      rw [e'']; clear e''
      exact hR _ _ ⟨bv, sv, v, .ref c', o', some 1, rfl, bb _ _ n2 lH, ob.mono bb, os.mono bb, hnd.but (sBut s''), .w (wb (by decide)) ho, .inr ⟨1, c', rfl, rfl, n'', k''⟩, pt'', b'', fun _ => wb (by decide), fun z => absurd z (by decide)⟩
    · exact hR _ _ ⟨bv, sv, wv, dv, o, rr, rfl, lH, ob, os, hn', du, dd, ptH, bH, fun z => wb (by omega), fun z => wo (by omega)⟩
  rintro _ H0 ⟨bv, sv, wv, dv, o, rr, rfl, lH, ob, os, hn', du, dd, ptH, bH, wb, wo⟩
  refine seqCut (JR K p l ws bd H 3) (fun R hR => ?_) ?_
  · refine ⟨_, rfl, _, _, rfl, rfl, (by show (0 : Int) < 2; decide), rfl, _, rfl, ?_⟩
    refine ite2 (fun cc => ?_) (fun cc => ?_)
    · refine ⟨_, rfl, p, rfl, ptH, fun v H' od hb pt' b' => ?_⟩
      refine ⟨(by show 2 ≤ sizeLine; decide), fun c' hc' => ?_⟩
      obtain ⟨H'', e'', k'', n'', s'', b'', pt''⟩ := put1 (o := .lst [.int 0, .int 13]) (bH.trans b') pt' hc'
      have bb := b'.trans (sBut s'')
      rw [e'']; clear e''
      exact hR _ _ ⟨v, sv, wv, .ref c', o, some 0, rfl, bb _ _ n2 lH, od.mono (sBut s''), os.mono bb, hn'.but bb, .b hb, .inr ⟨0, c', rfl, rfl, n'', k''⟩, pt'', b'', fun z => absurd z (by decide), fun z => absurd z (by decide)⟩
    · exact hR _ _ ⟨bv, sv, wv, dv, o, rr, rfl, lH, ob, os, hn', du, dd, ptH, bH, fun z => wb (by omega), fun z => wo (by omega)⟩
  rintro _ H0 ⟨bv, sv, wv, dv, o, rr, rfl, lH, ob, os, hn', du, dd, ptH, bH, _, _⟩
  obtain ⟨d1, D1⟩ := ob.dat (K := K)
  obtain ⟨d2, D2⟩ := hn'.dat
  obtain ⟨d3, D3⟩ := os.dat (K := K)
  obtain ⟨A1, A2, A3, A4⟩ := dat3 D1 D2 D3
  refine ⟨_, rfl, _, rfl, _, rfl, (by show 3 ≤ sizeLine; decide), fun c1 hc1 => ⟨c1, _, rfl, A1 _ c1 (Same.new hc1) upd_same, A2, A3, A4, ?_⟩⟩
  have s1 : Same H0 (upd H0 c1 (.lst [bv, wv, sv])) := Same.new hc1
  generalize upd H0 c1 (.lst [bv, wv, sv]) = H1' at s1 ⊢
  refine ⟨_, rfl, by decide, by decide, ?_⟩
  refine for_range (lo := 0) (n := 2) (fun i σ H' => ∃ v8, σ = [some (.ref p), some (.ref l), some (.int bd), some bv, some sv, some wv, some dv, some (.str (PyData.list [d1, d2, d3]).shown), v8] ∧ Same H0 H') ⟨none, rfl, s1⟩ ?_ ?_
  · rintro i σ Ha hi ⟨v8, rfl, sa⟩
    refine ⟨_, rfl, _, rfl, _, rfl, bv, wv, sv, p, o, rr, rfl, (ob.mono (sBut sa)).ty, hn'.mono sa, (os.mono (sBut sa)).ty, du, fun k ek lt H' hl hl' s' => ?_, fun er H' s' => ?_⟩
    · have dd' := dd.but (sBut (sa.trans s'))
      rcases dd' with ⟨e, _⟩ | ⟨k', d, e, rfl, nd', hd⟩
      · rw [ek] at e; cases e
      · rw [ek] at e
        cases e
        refine ⟨_, rfl, dI [k, 13], dI [k, 13], .lst (SqL.of hl') (datI [k, 13]), .lst (SqL.of hd) (datI [k, 13]), shapedI _, shapedI _, _, rfl, ?_⟩
        rw [eqvI]
        exact iteF ⟨_, rfl, sa.trans s'⟩
    · rcases dd with ⟨_, rfl⟩ | ⟨k', d, e, _⟩
      · refine ⟨_, rfl, .bool true, .bool true, .bl true, .bl true, by decide, by decide, _, rfl, ?_⟩
        rw [show PyData.eqv (.bool true) (.bool true) = true by decide]
        exact iteF ⟨_, rfl, sa.trans s'⟩
      · rw [er] at e; cases e
  · rintro σ Ha ⟨v8, rfl, sa⟩
    refine ⟨_, rfl, _, rfl, _, rfl, (by show 3 ≤ sizeLine; decide), fun c2 hc2 => ⟨c2, _, rfl, A1 _ c2 (sa.trans (Same.new hc2)) upd_same, A2, A3, A4, _, rfl, rfl, ?_⟩⟩
    rw [decide_eq_true (rfl : V.str (PyData.list [d1, d2, d3]).shown = V.str (PyData.list [d1, d2, d3]).shown)]
    exact q _ (bH.trans (sBut (sa.trans (Same.new hc2))))
theorem sclaw : FnScope ["_law_script", "_law_k"] ["_law_script"] (defScope sLaw) := ⟨rfl, rfl, rfl, by decide +kernel, rfl, by decide +kernel, by decide +kernel⟩
theorem ok_law {f : Addr} {fd : FuncData} (F : Fun K "law" "law" sLaw f fd) (B : Blt mg) (DC : Dn P w K mg base "_law_cell" ["_law_script", "_law_k"] 1 (spCell K)) (DPo : Dn P w K mg base "_law_pot" ["_law_cell_here"] 1 spPotB) (DRi : Dn P w K mg base "_law_right" ["_law_pot_here"] 5 spRight) : FnOk P w K mg base CX0 6 f fd ["_law_script"] (spLaw K) := by
  refine F.ok sclaw (fun vs H Q E h => ?_) (fun cdv A outer s H vs Q E hr h => ?_)
  · obtain ⟨a, ns, rfl, _⟩ := h
    rfl
  obtain ⟨a, ns, rfl, hS, h63, q⟩ := h
  have nd := sclaw.nd
  have hr1 := hr.mono (show 1 ≤ 5 by decide)
  refine ⟨_, (@pss_cons _ _ _ _ _ (@ps_for _ _ _ _ _ _ _ _ PassesOwn.never rfl (pi_range1 rfl B.range (@pa_cons _ _ _ _ _ (@pe_op _ _ _ _ _ _ _ _ op_add (@pe_callB _ _ _ _ _ _ _ _ _ (call_min2 rfl) rfl B.min PyProof.Rows.boot_min (@pa_cons _ _ _ _ _ (@pe_callB _ _ _ _ _ _ _ _ _ call_len_seq rfl B.len PySem.boot_len (@pa_cons _ _ _ _ _ (pv 0) pa_nil rfl) (by decide) (by decide) rfl rfl) (@pa_cons _ _ _ _ _ pe_int pa_nil rfl) rfl) (by decide) (by decide) rfl rfl) pe_int) pa_nil rfl)) (pg_name (i := 1) nd rfl (Or.inl rfl)) (@pss_one _ _ _ (@ps_if _ _ _ _ _ _ _ _ (@pt_not _ _ _ _ (@pt_val _ _ _ (@pe_cD _ _ _ _ _ _ _ _ _ _ DRi hr rfl (@pa_cons _ _ _ _ _ (@pe_cD _ _ _ _ _ _ _ _ _ _ DPo hr1 rfl (@pa_cons _ _ _ _ _ (@pe_cD _ _ _ _ _ _ _ _ _ _ DC hr1 rfl (@pa_cons _ _ _ _ _ (pv 0) (@pa_cons _ _ _ _ _ (pv 1) pa_nil rfl) rfl) (by decide) rfl rfl) pa_nil rfl) (by decide) rfl rfl) pa_nil rfl) (by decide) rfl rfl) (by intro _; rfl))) (@pss_one _ _ _ (@ps_ret _ _ _ _ pe_bl)) pss_nil)) (by intro _; rfl)) (@pss_one _ _ _ (@ps_ret _ _ _ _ pe_bl))), ?_⟩
  have ln : (ns.map V.int).length = ns.length := List.length_map _
  refine ⟨_, rfl, a, _, rfl, .inl hS, _, _, rfl, _, _, rfl, rfl, _, rfl, ?_, ?_, ?_⟩
  · rw [ln]; split <;> omega
  · rw [ln]; split <;> omega
  generalize hn : (Int.toNat _) = n
  refine for_range (n := n) (fun i σ H' => ∃ v1, σ = [some (.ref a), v1] ∧ Same H H') ⟨_, rfl, Same.refl _⟩ ?_ ?_
  · rintro i σ Ha hi ⟨v1, rfl, sa⟩
    refine ⟨_, rfl, _, rfl, a, ns, _, rfl, sa.seq hS, by omega, fun c => ⟨c, rfl, fun p Hb hp ptb sb => ⟨p, rfl, ptb, fun Hc bc => ⟨_, rfl, iteF ?_⟩⟩⟩⟩
    exact ⟨_, rfl, sa.trans (But.same ((Pc.Same.but sb).trans bc) hp)⟩
  · rintro σ Ha ⟨v1, rfl, sa⟩
    exact q _
end
theorem len1 {α : Type} {us : List α} (h : us.length = 1) : ∃ a, us = [a] := by
  match us, h with
  | [a], _ => exact ⟨a, rfl⟩
theorem len2 {α : Type} {us : List α} (h : us.length = 2) : ∃ a b, us = [a, b] := by
  match us, h with
  | [a, b], _ => exact ⟨a, b, rfl⟩
theorem len3 {α : Type} {us : List α} (h : us.length = 3) : ∃ a b c, us = [a, b, c] := by
  match us, h with
  | [a, b, c], _ => exact ⟨a, b, c, rfl⟩
theorem len4 {α : Type} {us : List α} (h : us.length = 4) : ∃ a b c d, us = [a, b, c, d] := by
  match us, h with
  | [a, b, c, d], _ => exact ⟨a, b, c, d, rfl⟩
theorem len5 {α : Type} {us : List α} (h : us.length = 5) : ∃ a b c d e, us = [a, b, c, d, e] := by
  match us, h with
  | [a, b, c, d, e], _ => exact ⟨a, b, c, d, e, rfl⟩
theorem all_mk {l : PySem.W.OpenLaw} {w : World} {K : PySem.W.Frag} {h : Heap} {mg : Str → Option Value} {fa f0 f1 f2 f3 f4 f5 f6 f7 f8 f9 f10 f11 f12 f13 f14 f15 f16 xPlateError xNoBlade xNoWeights xNoNumber xNoKind xNoKinds xNoLaying xNoLying xNoPlate xNoTable xNoTelling xNoText xNoTree xTooLarge : Addr} (X : K.In h) (G : h.Ns mainGlobals mg) (hfa : mg "law" = some (.ref fa))
    {od0 an0 : Option Addr} {sl0 : Array (Option Value)} {oc0 kV0 dc0 pm0 cd0 ct0 : Value} {od1 an1 : Option Addr} {sl1 : Array (Option Value)} {oc1 kV1 dc1 pm1 cd1 ct1 : Value} {od2 an2 : Option Addr} {sl2 : Array (Option Value)} {oc2 kV2 dc2 pm2 cd2 ct2 : Value} {od3 an3 : Option Addr} {sl3 : Array (Option Value)} {oc3 kV3 dc3 pm3 cd3 ct3 : Value} {od4 an4 : Option Addr} {sl4 : Array (Option Value)} {oc4 kV4 dc4 pm4 cd4 ct4 : Value} {od5 an5 : Option Addr} {sl5 : Array (Option Value)} {oc5 kV5 dc5 pm5 cd5 ct5 : Value} {od6 an6 : Option Addr} {sl6 : Array (Option Value)} {oc6 kV6 dc6 pm6 cd6 ct6 : Value} {od7 an7 : Option Addr} {sl7 : Array (Option Value)} {oc7 kV7 dc7 pm7 cd7 ct7 : Value} {od8 an8 : Option Addr} {sl8 : Array (Option Value)} {oc8 kV8 dc8 pm8 cd8 ct8 : Value} {od9 an9 : Option Addr} {sl9 : Array (Option Value)} {oc9 kV9 dc9 pm9 cd9 ct9 : Value} {od10 an10 : Option Addr} {sl10 : Array (Option Value)} {oc10 kV10 dc10 pm10 cd10 ct10 : Value} {od11 an11 : Option Addr} {sl11 : Array (Option Value)} {oc11 kV11 dc11 pm11 cd11 ct11 : Value} {od12 an12 : Option Addr} {sl12 : Array (Option Value)} {oc12 kV12 dc12 pm12 cd12 ct12 : Value} {od13 an13 : Option Addr} {sl13 : Array (Option Value)} {oc13 kV13 dc13 pm13 cd13 ct13 : Value} {od14 an14 : Option Addr} {sl14 : Array (Option Value)} {oc14 kV14 dc14 pm14 cd14 ct14 : Value} {od15 an15 : Option Addr} {sl15 : Array (Option Value)} {oc15 kV15 dc15 pm15 cd15 ct15 : Value} {od16 an16 : Option Addr} {sl16 : Array (Option Value)} {oc16 kV16 dc16 pm16 cd16 ct16 : Value} {tc0 : Tok}
    (a0 : PySem.W.nsIn K mainGlobals "is_whole" = some (some (.ref f0)))
    (l0 : K.lookup f0 = some ⟨oc0, od0, .func (PySem.W.fnOf "is_whole" "is_whole" (defArgs sWhole) (defBody sWhole) (defScope sWhole) .none kV0 dc0 pm0 an0 cd0 ct0), sl0⟩)
    (c0 : PySem.W.codeIn K cd0 "is_whole" = true)
    (k0 : PySem.W.keepIn K (.ref f0) = true)
    (a1 : PySem.W.nsIn K mainGlobals "is_row" = some (some (.ref f1)))
    (l1 : K.lookup f1 = some ⟨oc1, od1, .func (PySem.W.fnOf "is_row" "is_row" (defArgs sRow) (defBody sRow) (defScope sRow) .none kV1 dc1 pm1 an1 cd1 ct1), sl1⟩)
    (c1 : PySem.W.codeIn K cd1 "is_row" = true)
    (k1 : PySem.W.keepIn K (.ref f1) = true)
    (a2 : PySem.W.nsIn K mainGlobals "is_weights" = some (some (.ref f2)))
    (l2 : K.lookup f2 = some ⟨oc2, od2, .func (PySem.W.fnOf "is_weights" "is_weights" (defArgs sIsWeights) (defBody sIsWeights) (defScope sIsWeights) .none kV2 dc2 pm2 an2 cd2 ct2), sl2⟩)
    (c2 : PySem.W.codeIn K cd2 "is_weights" = true)
    (k2 : PySem.W.keepIn K (.ref f2) = true)
    (a3 : PySem.W.nsIn K mainGlobals "best_length" = some (some (.ref f3)))
    (l3 : K.lookup f3 = some ⟨oc3, od3, .func (PySem.W.fnOf "best_length" "best_length" (defArgs sBestLength) (defBody sBestLength) (defScope sBestLength) .none kV3 dc3 pm3 an3 cd3 ct3), sl3⟩)
    (c3 : PySem.W.codeIn K cd3 "best_length" = true)
    (k3 : PySem.W.keepIn K (.ref f3) = true)
    (a4 : PySem.W.nsIn K mainGlobals "lengths_by_steps" = some (some (.ref f4)))
    (l4 : K.lookup f4 = some ⟨oc4, od4, .func (PySem.W.fnOf "lengths_by_steps" "lengths_by_steps" (defArgs sLengthsBySteps) (defBody sLengthsBySteps) (defScope sLengthsBySteps) .none kV4 dc4 pm4 an4 cd4 ct4), sl4⟩)
    (c4 : PySem.W.codeIn K cd4 "lengths_by_steps" = true)
    (k4 : PySem.W.keepIn K (.ref f4) = true)
    (a5 : PySem.W.nsIn K mainGlobals "load_of" = some (some (.ref f5)))
    (l5 : K.lookup f5 = some ⟨oc5, od5, .func (PySem.W.fnOf "load_of" "load_of" (defArgs sLoadOf) (defBody sLoadOf) (defScope sLoadOf) .none kV5 dc5 pm5 an5 cd5 ct5), sl5⟩)
    (c5 : PySem.W.codeIn K cd5 "load_of" = true)
    (k5 : PySem.W.keepIn K (.ref f5) = true)
    (a6 : PySem.W.nsIn K mainGlobals "_law_cell" = some (some (.ref f6)))
    (l6 : K.lookup f6 = some ⟨oc6, od6, .func (PySem.W.fnOf "_law_cell" "_law_cell" (defArgs sCell) (defBody sCell) (defScope sCell) .none kV6 dc6 pm6 an6 cd6 ct6), sl6⟩)
    (c6 : PySem.W.codeIn K cd6 "_law_cell" = true)
    (k6 : PySem.W.keepIn K (.ref f6) = true)
    (a7 : PySem.W.nsIn K mainGlobals "_law_pot" = some (some (.ref f7)))
    (l7 : K.lookup f7 = some ⟨oc7, od7, .func (PySem.W.fnOf "_law_pot" "_law_pot" (defArgs sPot) (defBody sPot) (defScope sPot) .none kV7 dc7 pm7 an7 cd7 ct7), sl7⟩)
    (c7 : PySem.W.codeIn K cd7 "_law_pot" = true)
    (k7 : PySem.W.keepIn K (.ref f7) = true)
    (a8 : PySem.W.nsIn K mainGlobals "_law_draw" = some (some (.ref f8)))
    (l8 : K.lookup f8 = some ⟨oc8, od8, .func (PySem.W.fnOf "_law_draw" "_law_draw" (defArgs sDraw) (defBody sDraw) (defScope sDraw) .none kV8 dc8 pm8 an8 cd8 ct8), sl8⟩)
    (c8 : PySem.W.codeIn K cd8 "_law_draw" = true)
    (k8 : PySem.W.keepIn K (.ref f8) = true)
    (a9 : PySem.W.nsIn K mainGlobals "_law_great" = some (some (.ref f9)))
    (l9 : K.lookup f9 = some ⟨oc9, od9, .func (PySem.W.fnOf "_law_great" "_law_great" (defArgs sGreat) (defBody sGreat) (defScope sGreat) .none kV9 dc9 pm9 an9 cd9 ct9), sl9⟩)
    (c9 : PySem.W.codeIn K cd9 "_law_great" = true)
    (k9 : PySem.W.keepIn K (.ref f9) = true)
    (a10 : PySem.W.nsIn K mainGlobals "_law_bad_blade" = some (some (.ref f10)))
    (l10 : K.lookup f10 = some ⟨oc10, od10, .func (PySem.W.fnOf "_law_bad_blade" "_law_bad_blade" (defArgs sBadBlade) (defBody sBadBlade) (defScope sBadBlade) .none kV10 dc10 pm10 an10 cd10 ct10), sl10⟩)
    (c10 : PySem.W.codeIn K cd10 "_law_bad_blade" = true)
    (k10 : PySem.W.keepIn K (.ref f10) = true)
    (a11 : PySem.W.nsIn K mainGlobals "_law_bad_side" = some (some (.ref f11)))
    (l11 : K.lookup f11 = some ⟨oc11, od11, .func (PySem.W.fnOf "_law_bad_side" "_law_bad_side" (defArgs sBadSide) (defBody sBadSide) (defScope sBadSide) .none kV11 dc11 pm11 an11 cd11 ct11), sl11⟩)
    (c11 : PySem.W.codeIn K cd11 "_law_bad_side" = true)
    (k11 : PySem.W.keepIn K (.ref f11) = true)
    (a12 : PySem.W.nsIn K mainGlobals "_law_bad_weights" = some (some (.ref f12)))
    (l12 : K.lookup f12 = some ⟨oc12, od12, .func (PySem.W.fnOf "_law_bad_weights" "_law_bad_weights" (defArgs sBadWeights) (defBody sBadWeights) (defScope sBadWeights) .none kV12 dc12 pm12 an12 cd12 ct12), sl12⟩)
    (c12 : PySem.W.codeIn K cd12 "_law_bad_weights" = true)
    (k12 : PySem.W.keepIn K (.ref f12) = true)
    (a13 : PySem.W.nsIn K mainGlobals "_law_kinds" = some (some (.ref f13)))
    (l13 : K.lookup f13 = some ⟨oc13, od13, .func (PySem.W.fnOf "_law_kinds" "_law_kinds" (defArgs sKinds) (defBody sKinds) (defScope sKinds) .none kV13 dc13 pm13 an13 cd13 ct13), sl13⟩)
    (c13 : PySem.W.codeIn K cd13 "_law_kinds" = true)
    (k13 : PySem.W.keepIn K (.ref f13) = true)
    (a14 : PySem.W.nsIn K mainGlobals "_law_told" = some (some (.ref f14)))
    (l14 : K.lookup f14 = some ⟨oc14, od14, .func (PySem.W.fnOf "_law_told" "_law_told" (defArgs sTold) (defBody sTold) (defScope sTold) .none kV14 dc14 pm14 an14 cd14 ct14), sl14⟩)
    (c14 : PySem.W.codeIn K cd14 "_law_told" = true)
    (k14 : PySem.W.keepIn K (.ref f14) = true)
    (a15 : PySem.W.nsIn K mainGlobals "_law_right" = some (some (.ref f15)))
    (l15 : K.lookup f15 = some ⟨oc15, od15, .func (PySem.W.fnOf "_law_right" "_law_right" (defArgs sRight) (defBody sRight) (defScope sRight) .none kV15 dc15 pm15 an15 cd15 ct15), sl15⟩)
    (c15 : PySem.W.codeIn K cd15 "_law_right" = true)
    (k15 : PySem.W.keepIn K (.ref f15) = true)
    (a16 : PySem.W.nsIn K mainGlobals "law" = some (some (.ref f16)))
    (l16 : K.lookup f16 = some ⟨oc16, od16, .func (PySem.W.fnOf "law" "law" (defArgs sLaw) (defBody sLaw) (defScope sLaw) .none kV16 dc16 pm16 an16 cd16 ct16), sl16⟩)
    (c16 : PySem.W.codeIn K cd16 "law" = true)
    (k16 : PySem.W.keepIn K (.ref f16) = true)
    (ePlateError : PySem.W.nsIn K mainGlobals "PlateError" = some (some (.ref xPlateError)))
    (eNoBlade : PySem.W.nsIn K mainGlobals "NoBlade" = some (some (.ref xNoBlade)))
    (eNoWeights : PySem.W.nsIn K mainGlobals "NoWeights" = some (some (.ref xNoWeights)))
    (eNoNumber : PySem.W.nsIn K mainGlobals "NoNumber" = some (some (.ref xNoNumber)))
    (eNoKind : PySem.W.nsIn K mainGlobals "NoKind" = some (some (.ref xNoKind)))
    (eNoKinds : PySem.W.nsIn K mainGlobals "NoKinds" = some (some (.ref xNoKinds)))
    (eNoLaying : PySem.W.nsIn K mainGlobals "NoLaying" = some (some (.ref xNoLaying)))
    (eNoLying : PySem.W.nsIn K mainGlobals "NoLying" = some (some (.ref xNoLying)))
    (eNoPlate : PySem.W.nsIn K mainGlobals "NoPlate" = some (some (.ref xNoPlate)))
    (eNoTable : PySem.W.nsIn K mainGlobals "NoTable" = some (some (.ref xNoTable)))
    (eNoTelling : PySem.W.nsIn K mainGlobals "NoTelling" = some (some (.ref xNoTelling)))
    (eNoText : PySem.W.nsIn K mainGlobals "NoText" = some (some (.ref xNoText)))
    (eNoTree : PySem.W.nsIn K mainGlobals "NoTree" = some (some (.ref xNoTree)))
    (eTooLarge : PySem.W.nsIn K mainGlobals "TooLarge" = some (some (.ref xTooLarge)))
    (sysm : (K.lookup sysModules).map (·.cls) = some (.type "dict"))
    (cPlateError : PySem.W.excIn K xPlateError L2.bmVE "ValueError.__new__" = true)
    (cNoBlade : PySem.W.excIn K xNoBlade L2.bmVE "ValueError.__new__" = true)
    (cNoWeights : PySem.W.excIn K xNoWeights L2.bmVE "ValueError.__new__" = true)
    (cNoNumber : PySem.W.excIn K xNoNumber L2.bmVE "ValueError.__new__" = true)
    (cNoKind : PySem.W.excIn K xNoKind L2.bmVE "ValueError.__new__" = true)
    (cNoKinds : PySem.W.excIn K xNoKinds L2.bmVE "ValueError.__new__" = true)
    (cNoLaying : PySem.W.excIn K xNoLaying L2.bmVE "ValueError.__new__" = true)
    (cNoLying : PySem.W.excIn K xNoLying L2.bmVE "ValueError.__new__" = true)
    (cNoPlate : PySem.W.excIn K xNoPlate L2.bmVE "ValueError.__new__" = true)
    (cNoTable : PySem.W.excIn K xNoTable L2.bmVE "ValueError.__new__" = true)
    (cNoTelling : PySem.W.excIn K xNoTelling L2.bmVE "ValueError.__new__" = true)
    (cNoText : PySem.W.excIn K xNoText L2.bmVE "ValueError.__new__" = true)
    (cNoTree : PySem.W.excIn K xNoTree L2.bmVE "ValueError.__new__" = true)
    (cTooLarge : PySem.W.excIn K xTooLarge L2.bmVE "ValueError.__new__" = true)
    (sNoBladePlateError : PySem.W.subIn K (.ref xNoBlade) (.ref xPlateError) = some true)
    (sNoBladeNoBlade : PySem.W.subIn K (.ref xNoBlade) (.ref xNoBlade) = some true)
    (sNoBladeNoWeights : PySem.W.subIn K (.ref xNoBlade) (.ref xNoWeights) = some false)
    (sNoBladeNoNumber : PySem.W.subIn K (.ref xNoBlade) (.ref xNoNumber) = some false)
    (sNoBladeNoKind : PySem.W.subIn K (.ref xNoBlade) (.ref xNoKind) = some false)
    (sNoBladeNoKinds : PySem.W.subIn K (.ref xNoBlade) (.ref xNoKinds) = some false)
    (sNoBladeNoLaying : PySem.W.subIn K (.ref xNoBlade) (.ref xNoLaying) = some false)
    (sNoBladeNoLying : PySem.W.subIn K (.ref xNoBlade) (.ref xNoLying) = some false)
    (sNoBladeNoPlate : PySem.W.subIn K (.ref xNoBlade) (.ref xNoPlate) = some false)
    (sNoBladeNoTable : PySem.W.subIn K (.ref xNoBlade) (.ref xNoTable) = some false)
    (sNoBladeNoTelling : PySem.W.subIn K (.ref xNoBlade) (.ref xNoTelling) = some false)
    (sNoBladeNoText : PySem.W.subIn K (.ref xNoBlade) (.ref xNoText) = some false)
    (sNoBladeNoTree : PySem.W.subIn K (.ref xNoBlade) (.ref xNoTree) = some false)
    (sNoBladeTooLarge : PySem.W.subIn K (.ref xNoBlade) (.ref xTooLarge) = some false)
    (vNoBlade : PySem.W.subIn K (.ref xNoBlade) (.type "ValueError") = some true)
    (kaNoBlade : PySem.W.findIn K (.ref xNoBlade) "__class__" = some (some (.builtin "object.__class__")))
    (kbNoBlade : PySem.W.findIn K (.ref xNoBlade) "__getattribute__" = some (some (.builtin "BaseException.__getattribute__")))
    (kcNoBlade : PySem.W.findIn K (.ref xNoBlade) "__getattr__" = some none)
    (kdNoBlade : PySem.W.subIn K (.ref xNoBlade) (.type "BaseException") = some true)
    (keNoBlade : PySem.W.subIn K (.ref xNoBlade) (.type "object") = some true)
    (sNoWeightsPlateError : PySem.W.subIn K (.ref xNoWeights) (.ref xPlateError) = some true)
    (sNoWeightsNoBlade : PySem.W.subIn K (.ref xNoWeights) (.ref xNoBlade) = some false)
    (sNoWeightsNoWeights : PySem.W.subIn K (.ref xNoWeights) (.ref xNoWeights) = some true)
    (sNoWeightsNoNumber : PySem.W.subIn K (.ref xNoWeights) (.ref xNoNumber) = some false)
    (sNoWeightsNoKind : PySem.W.subIn K (.ref xNoWeights) (.ref xNoKind) = some false)
    (sNoWeightsNoKinds : PySem.W.subIn K (.ref xNoWeights) (.ref xNoKinds) = some false)
    (sNoWeightsNoLaying : PySem.W.subIn K (.ref xNoWeights) (.ref xNoLaying) = some false)
    (sNoWeightsNoLying : PySem.W.subIn K (.ref xNoWeights) (.ref xNoLying) = some false)
    (sNoWeightsNoPlate : PySem.W.subIn K (.ref xNoWeights) (.ref xNoPlate) = some false)
    (sNoWeightsNoTable : PySem.W.subIn K (.ref xNoWeights) (.ref xNoTable) = some false)
    (sNoWeightsNoTelling : PySem.W.subIn K (.ref xNoWeights) (.ref xNoTelling) = some false)
    (sNoWeightsNoText : PySem.W.subIn K (.ref xNoWeights) (.ref xNoText) = some false)
    (sNoWeightsNoTree : PySem.W.subIn K (.ref xNoWeights) (.ref xNoTree) = some false)
    (sNoWeightsTooLarge : PySem.W.subIn K (.ref xNoWeights) (.ref xTooLarge) = some false)
    (vNoWeights : PySem.W.subIn K (.ref xNoWeights) (.type "ValueError") = some true)
    (kaNoWeights : PySem.W.findIn K (.ref xNoWeights) "__class__" = some (some (.builtin "object.__class__")))
    (kbNoWeights : PySem.W.findIn K (.ref xNoWeights) "__getattribute__" = some (some (.builtin "BaseException.__getattribute__")))
    (kcNoWeights : PySem.W.findIn K (.ref xNoWeights) "__getattr__" = some none)
    (kdNoWeights : PySem.W.subIn K (.ref xNoWeights) (.type "BaseException") = some true)
    (keNoWeights : PySem.W.subIn K (.ref xNoWeights) (.type "object") = some true)
    (sNoNumberPlateError : PySem.W.subIn K (.ref xNoNumber) (.ref xPlateError) = some true)
    (sNoNumberNoBlade : PySem.W.subIn K (.ref xNoNumber) (.ref xNoBlade) = some false)
    (sNoNumberNoWeights : PySem.W.subIn K (.ref xNoNumber) (.ref xNoWeights) = some false)
    (sNoNumberNoNumber : PySem.W.subIn K (.ref xNoNumber) (.ref xNoNumber) = some true)
    (sNoNumberNoKind : PySem.W.subIn K (.ref xNoNumber) (.ref xNoKind) = some false)
    (sNoNumberNoKinds : PySem.W.subIn K (.ref xNoNumber) (.ref xNoKinds) = some false)
    (sNoNumberNoLaying : PySem.W.subIn K (.ref xNoNumber) (.ref xNoLaying) = some false)
    (sNoNumberNoLying : PySem.W.subIn K (.ref xNoNumber) (.ref xNoLying) = some false)
    (sNoNumberNoPlate : PySem.W.subIn K (.ref xNoNumber) (.ref xNoPlate) = some false)
    (sNoNumberNoTable : PySem.W.subIn K (.ref xNoNumber) (.ref xNoTable) = some false)
    (sNoNumberNoTelling : PySem.W.subIn K (.ref xNoNumber) (.ref xNoTelling) = some false)
    (sNoNumberNoText : PySem.W.subIn K (.ref xNoNumber) (.ref xNoText) = some false)
    (sNoNumberNoTree : PySem.W.subIn K (.ref xNoNumber) (.ref xNoTree) = some false)
    (sNoNumberTooLarge : PySem.W.subIn K (.ref xNoNumber) (.ref xTooLarge) = some false)
    (vNoNumber : PySem.W.subIn K (.ref xNoNumber) (.type "ValueError") = some true)
    (kaNoNumber : PySem.W.findIn K (.ref xNoNumber) "__class__" = some (some (.builtin "object.__class__")))
    (kbNoNumber : PySem.W.findIn K (.ref xNoNumber) "__getattribute__" = some (some (.builtin "BaseException.__getattribute__")))
    (kcNoNumber : PySem.W.findIn K (.ref xNoNumber) "__getattr__" = some none)
    (kdNoNumber : PySem.W.subIn K (.ref xNoNumber) (.type "BaseException") = some true)
    (keNoNumber : PySem.W.subIn K (.ref xNoNumber) (.type "object") = some true)
    (bPlateError : PySem.W.subIn K (.ref xPlateError) (.type "BaseException") = some true)
    (z0 : PySem.W.nsIn K mainGlobals "isinstance" = some none)
    (z1 : PySem.W.nsIn K mainGlobals "int" = some none)
    (z2 : PySem.W.nsIn K mainGlobals "bool" = some none)
    (z3 : PySem.W.nsIn K mainGlobals "list" = some none)
    (z4 : PySem.W.nsIn K mainGlobals "tuple" = some none)
    (z5 : PySem.W.nsIn K mainGlobals "len" = some none)
    (z6 : PySem.W.nsIn K mainGlobals "range" = some none)
    (z7 : PySem.W.nsIn K mainGlobals "max" = some none)
    (z8 : PySem.W.nsIn K mainGlobals "min" = some none)
    (z9 : PySem.W.nsIn K mainGlobals "abs" = some none)
    (z10 : PySem.W.nsIn K mainGlobals "divmod" = some none)
    (z11 : PySem.W.nsIn K mainGlobals "sum" = some none)
    (z12 : PySem.W.nsIn K mainGlobals "sorted" = some none)
    (z13 : PySem.W.nsIn K mainGlobals "all" = some none)
    (z14 : PySem.W.nsIn K mainGlobals "repr" = some none)
    (z15 : PySem.W.nsIn K mainGlobals "ValueError" = some none)
    (uc0 : PySem.W.nsIn K mainGlobals "MOST_WEIGHTS" = some (some (.int 60 tc0))) :
    ∃ fd : FuncData, (∀ (s : Shared) (v : Value), BindsTo s fd ⟨[v], []⟩ [("_law_script", v)]) ∧ ∀ base : Heap, K.In base → base.Ns mainGlobals mg → FnOk l.prog w K mg base CX0 6 fa fd ["_law_script"] (spLaw K) := by
  have e := hfa.symm.trans (PySem.W.mg_of X G a16)
  cases e
  have F0 := fun_mk (st := sWhole) l0 c0 k0
  have b0 := F0.binds (ps := ["thing", "least"]) fun _ _ _ _ _ _ us hl => by obtain ⟨_, _, rfl⟩ := len2 hl; rfl
  have F1 := fun_mk (st := sRow) l1 c1 k1
  have b1 := F1.binds (ps := ["thing"]) fun _ _ _ _ _ _ us hl => by obtain ⟨_, rfl⟩ := len1 hl; rfl
  have F2 := fun_mk (st := sIsWeights) l2 c2 k2
  have b2 := F2.binds (ps := ["thing"]) fun _ _ _ _ _ _ us hl => by obtain ⟨_, rfl⟩ := len1 hl; rfl
  have F3 := fun_mk (st := sBestLength) l3 c3 k3
  have b3 := F3.binds (ps := ["blade", "weights", "loads", "side"]) fun _ _ _ _ _ _ us hl => by obtain ⟨_, _, _, _, rfl⟩ := len4 hl; rfl
  have F4 := fun_mk (st := sLengthsBySteps) l4 c4 k4
  have b4 := F4.binds (ps := ["blade", "steps", "side"]) fun _ _ _ _ _ _ us hl => by obtain ⟨_, _, _, rfl⟩ := len3 hl; rfl
  have F5 := fun_mk (st := sLoadOf) l5 c5 k5
  have b5 := F5.binds (ps := ["blade", "weights", "side"]) fun _ _ _ _ _ _ us hl => by obtain ⟨_, _, _, rfl⟩ := len3 hl; rfl
  have F6 := fun_mk (st := sCell) l6 c6 k6
  have b6 := F6.binds (ps := ["_law_script", "_law_k"]) fun _ _ _ _ _ _ us hl => by obtain ⟨_, _, rfl⟩ := len2 hl; rfl
  have F7 := fun_mk (st := sPot) l7 c7 k7
  have b7 := F7.binds (ps := ["_law_cell_here"]) fun _ _ _ _ _ _ us hl => by obtain ⟨_, rfl⟩ := len1 hl; rfl
  have F8 := fun_mk (st := sDraw) l8 c8 k8
  have b8 := F8.binds (ps := ["_law_pot_here", "_law_many"]) fun _ _ _ _ _ _ us hl => by obtain ⟨_, _, rfl⟩ := len2 hl; rfl
  have F9 := fun_mk (st := sGreat) l9 c9 k9
  have b9 := F9.binds (ps := ["_law_pot_here"]) fun _ _ _ _ _ _ us hl => by obtain ⟨_, rfl⟩ := len1 hl; rfl
  have F10 := fun_mk (st := sBadBlade) l10 c10 k10
  have b10 := F10.binds (ps := ["_law_pot_here"]) fun _ _ _ _ _ _ us hl => by obtain ⟨_, rfl⟩ := len1 hl; rfl
  have F11 := fun_mk (st := sBadSide) l11 c11 k11
  have b11 := F11.binds (ps := ["_law_pot_here", "_law_many"]) fun _ _ _ _ _ _ us hl => by obtain ⟨_, _, rfl⟩ := len2 hl; rfl
  have F12 := fun_mk (st := sBadWeights) l12 c12 k12
  have b12 := F12.binds (ps := ["_law_pot_here", "_law_weights"]) fun _ _ _ _ _ _ us hl => by obtain ⟨_, _, rfl⟩ := len2 hl; rfl
  have F13 := fun_mk (st := sKinds) l13 c13 k13
  have b13 := F13.binds (ps := ["_law_error"]) fun _ _ _ _ _ _ us hl => by obtain ⟨_, rfl⟩ := len1 hl; rfl
  have F14 := fun_mk (st := sTold) l14 c14 k14
  have b14 := F14.binds (ps := ["_law_blade", "_law_weights", "_law_side"]) fun _ _ _ _ _ _ us hl => by obtain ⟨_, _, _, rfl⟩ := len3 hl; rfl
  have F15 := fun_mk (st := sRight) l15 c15 k15
  have b15 := F15.binds (ps := ["_law_pot_here"]) fun _ _ _ _ _ _ us hl => by obtain ⟨_, rfl⟩ := len1 hl; rfl
  have F16 := fun_mk (st := sLaw) l16 c16 k16
  have b16 := F16.binds (ps := ["_law_script"]) fun _ _ _ _ _ _ us hl => by obtain ⟨_, rfl⟩ := len1 hl; rfl
  have y0 := PySem.W.mg_none_of X G z0
  have y1 := PySem.W.mg_none_of X G z1
  have y2 := PySem.W.mg_none_of X G z2
  have y3 := PySem.W.mg_none_of X G z3
  have y4 := PySem.W.mg_none_of X G z4
  have y5 := PySem.W.mg_none_of X G z5
  have y6 := PySem.W.mg_none_of X G z6
  have y7 := PySem.W.mg_none_of X G z7
  have y8 := PySem.W.mg_none_of X G z8
  have y9 := PySem.W.mg_none_of X G z9
  have y10 := PySem.W.mg_none_of X G z10
  have y11 := PySem.W.mg_none_of X G z11
  have y12 := PySem.W.mg_none_of X G z12
  have y13 := PySem.W.mg_none_of X G z13
  have y14 := PySem.W.mg_none_of X G z14
  have y15 := PySem.W.mg_none_of X G z15
  have gPlateError := PySem.W.mg_of X G ePlateError
  have gNoBlade := PySem.W.mg_of X G eNoBlade
  have gNoWeights := PySem.W.mg_of X G eNoWeights
  have gNoNumber := PySem.W.mg_of X G eNoNumber
  have gNoKind := PySem.W.mg_of X G eNoKind
  have gNoKinds := PySem.W.mg_of X G eNoKinds
  have gNoLaying := PySem.W.mg_of X G eNoLaying
  have gNoLying := PySem.W.mg_of X G eNoLying
  have gNoPlate := PySem.W.mg_of X G eNoPlate
  have gNoTable := PySem.W.mg_of X G eNoTable
  have gNoTelling := PySem.W.mg_of X G eNoTelling
  have gNoText := PySem.W.mg_of X G eNoText
  have gNoTree := PySem.W.mg_of X G eNoTree
  have gTooLarge := PySem.W.mg_of X G eTooLarge
  have u0 := PySem.W.mg_of X G uc0
  have q0 := PySem.W.mg_of X G a0
  have q1 := PySem.W.mg_of X G a1
  have q2 := PySem.W.mg_of X G a2
  have q3 := PySem.W.mg_of X G a3
  have q4 := PySem.W.mg_of X G a4
  have q5 := PySem.W.mg_of X G a5
  have q6 := PySem.W.mg_of X G a6
  have q7 := PySem.W.mg_of X G a7
  have q8 := PySem.W.mg_of X G a8
  have q9 := PySem.W.mg_of X G a9
  have q10 := PySem.W.mg_of X G a10
  have q11 := PySem.W.mg_of X G a11
  have q12 := PySem.W.mg_of X G a12
  have q13 := PySem.W.mg_of X G a13
  have q14 := PySem.W.mg_of X G a14
  have q15 := PySem.W.mg_of X G a15
  have q16 := PySem.W.mg_of X G a16
  refine ⟨PySem.W.fnOf "law" "law" (defArgs sLaw) (defBody sLaw) (defScope sLaw) .none kV16 dc16 pm16 an16 cd16 ct16, fun s v => .of_eq rfl, fun base _ _ => ?_⟩
  have B : Blt mg := ⟨y0, y1, y2, y3, y4, y5, y6, y7, y8, y9, y10, y11, y12, y13, y14⟩
  have SM : L2.SysIn K := by
    cases e : K.lookup sysModules with
    | none => rw [e] at sysm; cases sysm
    | some o => rw [e] at sysm; exact ⟨o, e, Option.some.inj sysm⟩
  have D0 : Dn l.prog w K mg base "is_whole" ["thing", "least"] 1 (spWhole K) := ⟨_, _, ok_whole F0 B, b0, k0, q0⟩
  have D1 : Dn l.prog w K mg base "is_row" ["thing"] 1 (spRow K) := ⟨_, _, ok_row F1 B, b1, k1, q1⟩
  have D2 : Dn l.prog w K mg base "is_weights" ["thing"] 2 (spIsW K) := ⟨_, _, ok_isw F2 B ⟨_, u0⟩ D0 D1, b2, k2, q2⟩
  have D3 : Dn l.prog w K mg base "best_length" ["blade", "weights", "loads", "side"] 1 (spBest K) := ⟨_, _, ok_best F3 B, b3, k3, q3⟩
  have D4 : Dn l.prog w K mg base "lengths_by_steps" ["blade", "steps", "side"] 1 (spLens) := ⟨_, _, ok_lens F4 B, b4, k4, q4⟩
  have D5 : L2.DnX l.prog w K mg base "load_of" ["blade", "weights", "side"] 3 (spLoadX K xNoBlade xNoWeights xNoNumber) := ⟨_, _, ok_loadX F5 B gNoBlade gNoWeights gNoNumber cNoBlade cNoWeights cNoNumber D0 D2 D3 D4, b5, k5, q5⟩
  have D6 : Dn l.prog w K mg base "_law_cell" ["_law_script", "_law_k"] 1 (spCell K) := ⟨_, _, ok_cell F6 B, b6, k6, q6⟩
  have D7 : Dn l.prog w K mg base "_law_pot" ["_law_cell_here"] 1 (spPotB) := ⟨_, _, ok_pot F7 B, b7, k7, q7⟩
  have D8 : Dn l.prog w K mg base "_law_draw" ["_law_pot_here", "_law_many"] 1 (spDrawB) := ⟨_, _, ok_draw F8 B, b8, k8, q8⟩
  have D9 : Dn l.prog w K mg base "_law_great" ["_law_pot_here"] 2 (spGreat) := ⟨_, _, ok_great F9 D8, b9, k9, q9⟩
  have D10 : Dn l.prog w K mg base "_law_bad_blade" ["_law_pot_here"] 3 (spBadBlade) := ⟨_, _, ok_badblade F10 B D8 D9, b10, k10, q10⟩
  have D11 : Dn l.prog w K mg base "_law_bad_side" ["_law_pot_here", "_law_many"] 3 (spBadSide) := ⟨_, _, ok_badside F11 B D8 D9, b11, k11, q11⟩
  have D12 : Dn l.prog w K mg base "_law_bad_weights" ["_law_pot_here", "_law_weights"] 3 (spBadW K) := ⟨_, _, ok_badweights F12 B D8 D9, b12, k12, q12⟩
  have XNoBlade : ExK K xNoBlade := ⟨kaNoBlade, kbNoBlade, kcNoBlade, kdNoBlade, keNoBlade, (exc_cls cNoBlade).1⟩
  have ZNoBlade : Kc K mg xNoBlade xNoBlade xNoWeights xNoNumber xNoKind xNoKinds xNoLaying xNoLying xNoPlate xNoTable xNoTelling xNoText xNoTree xTooLarge true false false := ⟨gNoBlade, gNoWeights, gNoNumber, gNoKind, gNoKinds, gNoLaying, gNoLying, gNoPlate, gNoTable, gNoTelling, gNoText, gNoTree, gTooLarge, y15, kit_self, (kit_no sNoBladeNoBlade cNoWeights sNoBladeNoWeights), (kit_no sNoBladeNoBlade cNoNumber sNoBladeNoNumber), (kit_no sNoBladeNoBlade cNoKind sNoBladeNoKind), (kit_no sNoBladeNoBlade cNoKinds sNoBladeNoKinds), (kit_no sNoBladeNoBlade cNoLaying sNoBladeNoLaying), (kit_no sNoBladeNoBlade cNoLying sNoBladeNoLying), (kit_no sNoBladeNoBlade cNoPlate sNoBladeNoPlate), (kit_no sNoBladeNoBlade cNoTable sNoBladeNoTable), (kit_no sNoBladeNoBlade cNoTelling sNoBladeNoTelling), (kit_no sNoBladeNoBlade cNoText sNoBladeNoText), (kit_no sNoBladeNoBlade cNoTree sNoBladeNoTree), (kit_no sNoBladeNoBlade cTooLarge sNoBladeTooLarge), kit_VE vNoBlade⟩
  have WNoBlade : L2.FnQ l.prog w K mg base 1 f13 _ ["_law_error"] (spKds xNoBlade (bs14 true false false)) := ok_kinds F13 B XNoBlade ZNoBlade
  have XNoWeights : ExK K xNoWeights := ⟨kaNoWeights, kbNoWeights, kcNoWeights, kdNoWeights, keNoWeights, (exc_cls cNoWeights).1⟩
  have ZNoWeights : Kc K mg xNoWeights xNoBlade xNoWeights xNoNumber xNoKind xNoKinds xNoLaying xNoLying xNoPlate xNoTable xNoTelling xNoText xNoTree xTooLarge false true false := ⟨gNoBlade, gNoWeights, gNoNumber, gNoKind, gNoKinds, gNoLaying, gNoLying, gNoPlate, gNoTable, gNoTelling, gNoText, gNoTree, gTooLarge, y15, (kit_no sNoWeightsNoWeights cNoBlade sNoWeightsNoBlade), kit_self, (kit_no sNoWeightsNoWeights cNoNumber sNoWeightsNoNumber), (kit_no sNoWeightsNoWeights cNoKind sNoWeightsNoKind), (kit_no sNoWeightsNoWeights cNoKinds sNoWeightsNoKinds), (kit_no sNoWeightsNoWeights cNoLaying sNoWeightsNoLaying), (kit_no sNoWeightsNoWeights cNoLying sNoWeightsNoLying), (kit_no sNoWeightsNoWeights cNoPlate sNoWeightsNoPlate), (kit_no sNoWeightsNoWeights cNoTable sNoWeightsNoTable), (kit_no sNoWeightsNoWeights cNoTelling sNoWeightsNoTelling), (kit_no sNoWeightsNoWeights cNoText sNoWeightsNoText), (kit_no sNoWeightsNoWeights cNoTree sNoWeightsNoTree), (kit_no sNoWeightsNoWeights cTooLarge sNoWeightsTooLarge), kit_VE vNoWeights⟩
  have WNoWeights : L2.FnQ l.prog w K mg base 1 f13 _ ["_law_error"] (spKds xNoWeights (bs14 false true false)) := ok_kinds F13 B XNoWeights ZNoWeights
  have XNoNumber : ExK K xNoNumber := ⟨kaNoNumber, kbNoNumber, kcNoNumber, kdNoNumber, keNoNumber, (exc_cls cNoNumber).1⟩
  have ZNoNumber : Kc K mg xNoNumber xNoBlade xNoWeights xNoNumber xNoKind xNoKinds xNoLaying xNoLying xNoPlate xNoTable xNoTelling xNoText xNoTree xTooLarge false false true := ⟨gNoBlade, gNoWeights, gNoNumber, gNoKind, gNoKinds, gNoLaying, gNoLying, gNoPlate, gNoTable, gNoTelling, gNoText, gNoTree, gTooLarge, y15, (kit_no sNoNumberNoNumber cNoBlade sNoNumberNoBlade), (kit_no sNoNumberNoNumber cNoWeights sNoNumberNoWeights), kit_self, (kit_no sNoNumberNoNumber cNoKind sNoNumberNoKind), (kit_no sNoNumberNoNumber cNoKinds sNoNumberNoKinds), (kit_no sNoNumberNoNumber cNoLaying sNoNumberNoLaying), (kit_no sNoNumberNoNumber cNoLying sNoNumberNoLying), (kit_no sNoNumberNoNumber cNoPlate sNoNumberNoPlate), (kit_no sNoNumberNoNumber cNoTable sNoNumberNoTable), (kit_no sNoNumberNoNumber cNoTelling sNoNumberNoTelling), (kit_no sNoNumberNoNumber cNoText sNoNumberNoText), (kit_no sNoNumberNoNumber cNoTree sNoNumberNoTree), (kit_no sNoNumberNoNumber cTooLarge sNoNumberTooLarge), kit_VE vNoNumber⟩
  have WNoNumber : L2.FnQ l.prog w K mg base 1 f13 _ ["_law_error"] (spKds xNoNumber (bs14 false false true)) := ok_kinds F13 B XNoNumber ZNoNumber
  have D13 : L2.DnQ l.prog w K mg base "_law_kinds" ["_law_error"] 1 (fun vs H Q E => spKds xNoBlade (bs14 true false false) vs H Q E ∨ (spKds xNoWeights (bs14 false true false) vs H Q E ∨ spKds xNoNumber (bs14 false false true) vs H Q E)) :=
    ⟨_, _, L2.FnQ.or WNoBlade (L2.FnQ.or WNoWeights WNoNumber), b13, k13, q13⟩
  have D14 : Dn l.prog w K mg base "_law_told" ["_law_blade", "_law_weights", "_law_side"] 4 (spTl K) := ⟨_, _, ok_told F14 B D5 D13 gPlateError (exm_of cPlateError bPlateError sNoBladePlateError) (exm_of cPlateError bPlateError sNoWeightsPlateError) (exm_of cPlateError bPlateError sNoNumberPlateError), b14, k14, q14⟩
  have D15 : Dn l.prog w K mg base "_law_right" ["_law_pot_here"] 5 (spRight) := ⟨_, _, ok_right F15 B SM D8 D11 D12 D10 D14, b15, k15, q15⟩
  exact ok_law F16 B D6 D7 D15
theorem walk {l : PySem.W.OpenLaw} {q : Program} {loose : List Str} {XP : (Str → Option Value) → Heap → Prop} {YP : World → Heap → Prop} {d : DefRec} {K : Params → PySem.W.Frag} (hn : l.most = some 63) (hdf : d.params.defaults = [])
    (hY : ∀ (w : World) (h : Heap), YP w h → (K w.params).In h)
    (F : ∀ (w : World) (mg : Str → Option Value) (fa : Addr) (h : Heap), (K w.params).In h → h.Ns mainGlobals mg → mg d.name = some (.ref fa) →
      ∃ fd : FuncData, (∀ (s : Shared) (u : Value), BindsTo s fd ⟨[u], []⟩ [("_law_script", u)]) ∧ ∀ base : Heap, (K w.params).In base → base.Ns mainGlobals mg → FnOk l.prog w (K w.params) mg base CX0 6 fa fd ["_law_script"] (spLaw (K w.params))) :
    PySem.W.WalkO q loose XP YP l.row.toRowW d [] (fun f vs => PySem.call f vs) :=
  L2.walk_of (n := 63) (k := 6) (x := "_law_script") (CX := fun _ => CX0) (sp := fun w => spLaw (K w.params)) hn (by decide) hdf ⟨rfl, by decide, by decide, rfl⟩ hY F (fun _ _ a ns hl _ hS => ⟨a, ns, rfl, hS, hl, fun _ => rfl⟩) fun _ _ _ _ _ z => z
end Pc

namespace Pc
open PySem L2
section
open PySem.W
noncomputable def kE (P : Params) (n : Str) (t : Nat) (v : Value) : DictEntry := ⟨PyData.keyHash P n, .str n t, v⟩
noncomputable def kO3 (P : Params) : Obj := ⟨(.type "dict"), none, (.dict #[kE P "__name__" 165 (.str "law_platecuts_k62_loads_refused" 482), kE P "__doc__" 166 .none, kE P "__package__" 167 .none, kE P "__loader__" 168 (.builtin "__main__.__loader__#opaque"), kE P "__spec__" 169 .none, kE P "__annotations__" 170 (.ref 6), kE P "__builtins__" 171 (.ref 4), kE P "__file__" 173 (.str "/claim/cut.py" 172), kE P "__cached__" 174 .none, kE P "PlateError" 206 (.ref 24), kE P "NoBlade" 222 (.ref 37), kE P "NoKinds" 238 (.ref 49), kE P "NoKind" 254 (.ref 61), kE P "NoLying" 270 (.ref 73), kE P "NoText" 286 (.ref 85), kE P "NoPlate" 302 (.ref 97), kE P "NoTree" 318 (.ref 109), kE P "NoLaying" 334 (.ref 121), kE P "TooLarge" 350 (.ref 133), kE P "NoTable" 366 (.ref 145), kE P "NoNumber" 382 (.ref 157), kE P "NoWeights" 398 (.ref 169), kE P "NoTelling" 414 (.ref 181), kE P "is_whole" 424 (.ref 190), kE P "is_row" 431 (.ref 197), kE P "MOST_WEIGHTS" 435 (.int (60) 434), kE P "is_weights" 441 (.ref 202), kE P "best_length" 456 (.ref 209), kE P "lengths_by_steps" 467 (.ref 216), kE P "load_of" 481 (.ref 223), kE P "_law_cell" 491 (.ref 230), kE P "_law_pot" 498 (.ref 237), kE P "_law_draw" 507 (.ref 244), kE P "_law_great" 514 (.ref 251), kE P "_law_bad_blade" 522 (.ref 258), kE P "_law_bad_side" 531 (.ref 265), kE P "_law_bad_weights" 542 (.ref 272), kE P "_law_kinds" 548 (.ref 277), kE P "_law_told" 559 (.ref 284), kE P "_law_right" 565 (.ref 289), kE P "law" 573 (.ref 296)] 41), #[]⟩
noncomputable def kO23 (P : Params) : Obj := ⟨(.type "dict"), none, (.dict #[kE P "__module__" 196 (.str "platecuts.errors" 187), kE P "__firstlineno__" 200 (.int (2) 199), kE P "__static_attributes__" 201 (.ref 22), kE P "__weakref__" 203 (.ref 25), kE P "__doc__" 204 .none] 3), #[]⟩
noncomputable def kO24 (P : Params) : Obj := ⟨(.type "type"), none, (.cls ⟨"PlateError", [(.type "ValueError")], [(.ref 24), (.type "ValueError"), (.type "Exception"), (.type "BaseException"), (.type "object")], 23, "PlateError", true, [], [(.ref 37), (.ref 49), (.ref 61), (.ref 73), (.ref 85), (.ref 97), (.ref 109), (.ref 121), (.ref 133), (.ref 145), (.ref 157), (.ref 169), (.ref 181)], false, none, false⟩), #[(some (.ref 15)), none, (some (.str "PlateError" 189)), (some (.str "PlateError" 197)), (some (.builtin "ValueError.__new__")), (some (.bool true))]⟩
noncomputable def kO36 (P : Params) : Obj := ⟨(.type "dict"), none, (.dict #[kE P "__module__" 214 (.str "platecuts.errors" 187), kE P "__firstlineno__" 218 (.int (4) 217), kE P "__static_attributes__" 219 (.ref 35), kE P "__doc__" 220 .none] 2), #[]⟩
noncomputable def kO37 (P : Params) : Obj := ⟨(.type "type"), none, (.cls ⟨"NoBlade", [(.ref 24)], [(.ref 37), (.ref 24), (.type "ValueError"), (.type "Exception"), (.type "BaseException"), (.type "object")], 36, "NoBlade", true, [], [], false, none, false⟩), #[(some (.ref 28)), none, (some (.str "NoBlade" 207)), (some (.str "NoBlade" 215)), (some (.builtin "ValueError.__new__")), (some (.bool true))]⟩
noncomputable def kO48 (P : Params) : Obj := ⟨(.type "dict"), none, (.dict #[kE P "__module__" 230 (.str "platecuts.errors" 187), kE P "__firstlineno__" 234 (.int (6) 233), kE P "__static_attributes__" 235 (.ref 47), kE P "__doc__" 236 .none] 2), #[]⟩
noncomputable def kO49 (P : Params) : Obj := ⟨(.type "type"), none, (.cls ⟨"NoKinds", [(.ref 24)], [(.ref 49), (.ref 24), (.type "ValueError"), (.type "Exception"), (.type "BaseException"), (.type "object")], 48, "NoKinds", true, [], [], false, none, false⟩), #[(some (.ref 40)), none, (some (.str "NoKinds" 223)), (some (.str "NoKinds" 231)), (some (.builtin "ValueError.__new__")), (some (.bool true))]⟩
noncomputable def kO60 (P : Params) : Obj := ⟨(.type "dict"), none, (.dict #[kE P "__module__" 246 (.str "platecuts.errors" 187), kE P "__firstlineno__" 250 (.int (8) 249), kE P "__static_attributes__" 251 (.ref 59), kE P "__doc__" 252 .none] 2), #[]⟩
noncomputable def kO61 (P : Params) : Obj := ⟨(.type "type"), none, (.cls ⟨"NoKind", [(.ref 24)], [(.ref 61), (.ref 24), (.type "ValueError"), (.type "Exception"), (.type "BaseException"), (.type "object")], 60, "NoKind", true, [], [], false, none, false⟩), #[(some (.ref 52)), none, (some (.str "NoKind" 239)), (some (.str "NoKind" 247)), (some (.builtin "ValueError.__new__")), (some (.bool true))]⟩
noncomputable def kO72 (P : Params) : Obj := ⟨(.type "dict"), none, (.dict #[kE P "__module__" 262 (.str "platecuts.errors" 187), kE P "__firstlineno__" 266 (.int (10) 265), kE P "__static_attributes__" 267 (.ref 71), kE P "__doc__" 268 .none] 2), #[]⟩
noncomputable def kO73 (P : Params) : Obj := ⟨(.type "type"), none, (.cls ⟨"NoLying", [(.ref 24)], [(.ref 73), (.ref 24), (.type "ValueError"), (.type "Exception"), (.type "BaseException"), (.type "object")], 72, "NoLying", true, [], [], false, none, false⟩), #[(some (.ref 64)), none, (some (.str "NoLying" 255)), (some (.str "NoLying" 263)), (some (.builtin "ValueError.__new__")), (some (.bool true))]⟩
noncomputable def kO84 (P : Params) : Obj := ⟨(.type "dict"), none, (.dict #[kE P "__module__" 278 (.str "platecuts.errors" 187), kE P "__firstlineno__" 282 (.int (12) 281), kE P "__static_attributes__" 283 (.ref 83), kE P "__doc__" 284 .none] 2), #[]⟩
noncomputable def kO85 (P : Params) : Obj := ⟨(.type "type"), none, (.cls ⟨"NoText", [(.ref 24)], [(.ref 85), (.ref 24), (.type "ValueError"), (.type "Exception"), (.type "BaseException"), (.type "object")], 84, "NoText", true, [], [], false, none, false⟩), #[(some (.ref 76)), none, (some (.str "NoText" 271)), (some (.str "NoText" 279)), (some (.builtin "ValueError.__new__")), (some (.bool true))]⟩
noncomputable def kO96 (P : Params) : Obj := ⟨(.type "dict"), none, (.dict #[kE P "__module__" 294 (.str "platecuts.errors" 187), kE P "__firstlineno__" 298 (.int (14) 297), kE P "__static_attributes__" 299 (.ref 95), kE P "__doc__" 300 .none] 2), #[]⟩
noncomputable def kO97 (P : Params) : Obj := ⟨(.type "type"), none, (.cls ⟨"NoPlate", [(.ref 24)], [(.ref 97), (.ref 24), (.type "ValueError"), (.type "Exception"), (.type "BaseException"), (.type "object")], 96, "NoPlate", true, [], [], false, none, false⟩), #[(some (.ref 88)), none, (some (.str "NoPlate" 287)), (some (.str "NoPlate" 295)), (some (.builtin "ValueError.__new__")), (some (.bool true))]⟩
noncomputable def kO108 (P : Params) : Obj := ⟨(.type "dict"), none, (.dict #[kE P "__module__" 310 (.str "platecuts.errors" 187), kE P "__firstlineno__" 314 (.int (16) 313), kE P "__static_attributes__" 315 (.ref 107), kE P "__doc__" 316 .none] 2), #[]⟩
noncomputable def kO109 (P : Params) : Obj := ⟨(.type "type"), none, (.cls ⟨"NoTree", [(.ref 24)], [(.ref 109), (.ref 24), (.type "ValueError"), (.type "Exception"), (.type "BaseException"), (.type "object")], 108, "NoTree", true, [], [], false, none, false⟩), #[(some (.ref 100)), none, (some (.str "NoTree" 303)), (some (.str "NoTree" 311)), (some (.builtin "ValueError.__new__")), (some (.bool true))]⟩
noncomputable def kO120 (P : Params) : Obj := ⟨(.type "dict"), none, (.dict #[kE P "__module__" 326 (.str "platecuts.errors" 187), kE P "__firstlineno__" 330 (.int (18) 329), kE P "__static_attributes__" 331 (.ref 119), kE P "__doc__" 332 .none] 2), #[]⟩
noncomputable def kO121 (P : Params) : Obj := ⟨(.type "type"), none, (.cls ⟨"NoLaying", [(.ref 24)], [(.ref 121), (.ref 24), (.type "ValueError"), (.type "Exception"), (.type "BaseException"), (.type "object")], 120, "NoLaying", true, [], [], false, none, false⟩), #[(some (.ref 112)), none, (some (.str "NoLaying" 319)), (some (.str "NoLaying" 327)), (some (.builtin "ValueError.__new__")), (some (.bool true))]⟩
noncomputable def kO132 (P : Params) : Obj := ⟨(.type "dict"), none, (.dict #[kE P "__module__" 342 (.str "platecuts.errors" 187), kE P "__firstlineno__" 346 (.int (20) 345), kE P "__static_attributes__" 347 (.ref 131), kE P "__doc__" 348 .none] 2), #[]⟩
noncomputable def kO133 (P : Params) : Obj := ⟨(.type "type"), none, (.cls ⟨"TooLarge", [(.ref 24)], [(.ref 133), (.ref 24), (.type "ValueError"), (.type "Exception"), (.type "BaseException"), (.type "object")], 132, "TooLarge", true, [], [], false, none, false⟩), #[(some (.ref 124)), none, (some (.str "TooLarge" 335)), (some (.str "TooLarge" 343)), (some (.builtin "ValueError.__new__")), (some (.bool true))]⟩
noncomputable def kO144 (P : Params) : Obj := ⟨(.type "dict"), none, (.dict #[kE P "__module__" 358 (.str "platecuts.errors" 187), kE P "__firstlineno__" 362 (.int (22) 361), kE P "__static_attributes__" 363 (.ref 143), kE P "__doc__" 364 .none] 2), #[]⟩
noncomputable def kO145 (P : Params) : Obj := ⟨(.type "type"), none, (.cls ⟨"NoTable", [(.ref 24)], [(.ref 145), (.ref 24), (.type "ValueError"), (.type "Exception"), (.type "BaseException"), (.type "object")], 144, "NoTable", true, [], [], false, none, false⟩), #[(some (.ref 136)), none, (some (.str "NoTable" 351)), (some (.str "NoTable" 359)), (some (.builtin "ValueError.__new__")), (some (.bool true))]⟩
noncomputable def kO156 (P : Params) : Obj := ⟨(.type "dict"), none, (.dict #[kE P "__module__" 374 (.str "platecuts.errors" 187), kE P "__firstlineno__" 378 (.int (24) 377), kE P "__static_attributes__" 379 (.ref 155), kE P "__doc__" 380 .none] 2), #[]⟩
noncomputable def kO157 (P : Params) : Obj := ⟨(.type "type"), none, (.cls ⟨"NoNumber", [(.ref 24)], [(.ref 157), (.ref 24), (.type "ValueError"), (.type "Exception"), (.type "BaseException"), (.type "object")], 156, "NoNumber", true, [], [], false, none, false⟩), #[(some (.ref 148)), none, (some (.str "NoNumber" 367)), (some (.str "NoNumber" 375)), (some (.builtin "ValueError.__new__")), (some (.bool true))]⟩
noncomputable def kO168 (P : Params) : Obj := ⟨(.type "dict"), none, (.dict #[kE P "__module__" 390 (.str "platecuts.errors" 187), kE P "__firstlineno__" 394 (.int (26) 393), kE P "__static_attributes__" 395 (.ref 167), kE P "__doc__" 396 .none] 2), #[]⟩
noncomputable def kO169 (P : Params) : Obj := ⟨(.type "type"), none, (.cls ⟨"NoWeights", [(.ref 24)], [(.ref 169), (.ref 24), (.type "ValueError"), (.type "Exception"), (.type "BaseException"), (.type "object")], 168, "NoWeights", true, [], [], false, none, false⟩), #[(some (.ref 160)), none, (some (.str "NoWeights" 383)), (some (.str "NoWeights" 391)), (some (.builtin "ValueError.__new__")), (some (.bool true))]⟩
noncomputable def kO180 (P : Params) : Obj := ⟨(.type "dict"), none, (.dict #[kE P "__module__" 406 (.str "platecuts.errors" 187), kE P "__firstlineno__" 410 (.int (28) 409), kE P "__static_attributes__" 411 (.ref 179), kE P "__doc__" 412 .none] 2), #[]⟩
noncomputable def kO181 (P : Params) : Obj := ⟨(.type "type"), none, (.cls ⟨"NoTelling", [(.ref 24)], [(.ref 181), (.ref 24), (.type "ValueError"), (.type "Exception"), (.type "BaseException"), (.type "object")], 180, "NoTelling", true, [], [], false, none, false⟩), #[(some (.ref 172)), none, (some (.str "NoTelling" 399)), (some (.str "NoTelling" 407)), (some (.builtin "ValueError.__new__")), (some (.bool true))]⟩
noncomputable def kO189 (P : Params) : Obj := ⟨(.type "code"), none, (.fields #[(.str "is_whole" 417), (.str "is_whole" 418), (.str "/claim/cut.py" 419), (.int (31) 0), (.int (2) 0), (.int (0) 0), (.int (0) 0), (.int (3) 0), (.ref 184), (.bool true), (.int (181) 0), (.ref 185), .none, (.ref 186), (.ref 187), (.ref 188), (.int (422) 0), (.int (31) 0), (.str "/claim/cut.py" 423)]), #[]⟩
noncomputable def kO190 (P : Params) : Obj := ⟨(.type "function"), none, (.func (fnOf "is_whole" "is_whole" (defArgs sWhole) (defBody sWhole) (defScope sWhole) .none .none .none (.str "platecuts.checks" 415) none (.ref 189) .none)), #[]⟩
noncomputable def kO196 (P : Params) : Obj := ⟨(.type "code"), none, (.fields #[(.str "is_row" 425), (.str "is_row" 426), (.str "/claim/cut.py" 427), (.int (33) 0), (.int (1) 0), (.int (0) 0), (.int (0) 0), (.int (3) 0), (.ref 191), (.bool true), (.int (181) 0), (.ref 192), .none, (.ref 193), (.ref 194), (.ref 195), (.int (429) 0), (.int (33) 0), (.str "/claim/cut.py" 430)]), #[]⟩
noncomputable def kO197 (P : Params) : Obj := ⟨(.type "function"), none, (.func (fnOf "is_row" "is_row" (defArgs sRow) (defBody sRow) (defScope sRow) .none .none .none (.str "platecuts.checks" 415) none (.ref 196) .none)), #[]⟩
noncomputable def kO201 (P : Params) : Obj := ⟨(.type "code"), none, (.fields #[(.str "is_weights" 436), (.str "is_weights" 437), (.str "/claim/cut.py" 438), (.int (37) 0), (.int (1) 0), (.int (0) 0), (.int (0) 0), (.int (3) 0), (.ref 198), (.bool true), (.int (181) 0), (.ref 199), .none, .none, .none, (.ref 200), (.int (439) 0), (.int (37) 0), (.str "/claim/cut.py" 440)]), #[]⟩
noncomputable def kO202 (P : Params) : Obj := ⟨(.type "function"), none, (.func (fnOf "is_weights" "is_weights" (defArgs sIsWeights) (defBody sIsWeights) (defScope sIsWeights) .none .none .none (.str "platecuts.loads" 432) none (.ref 201) .none)), #[]⟩
noncomputable def kO208 (P : Params) : Obj := ⟨(.type "code"), none, (.fields #[(.str "best_length" 442), (.str "best_length" 443), (.str "/claim/cut.py" 444), (.int (41) 0), (.int (4) 0), (.int (0) 0), (.int (0) 0), (.int (3) 0), (.ref 203), (.bool true), (.int (181) 0), (.ref 204), .none, (.ref 205), (.ref 206), (.ref 207), (.int (454) 0), (.int (41) 0), (.str "/claim/cut.py" 455)]), #[]⟩
noncomputable def kO209 (P : Params) : Obj := ⟨(.type "function"), none, (.func (fnOf "best_length" "best_length" (defArgs sBestLength) (defBody sBestLength) (defScope sBestLength) .none .none .none (.str "platecuts.loads" 432) none (.ref 208) .none)), #[]⟩
noncomputable def kO215 (P : Params) : Obj := ⟨(.type "code"), none, (.fields #[(.str "lengths_by_steps" 457), (.str "lengths_by_steps" 458), (.str "/claim/cut.py" 459), (.int (49) 0), (.int (3) 0), (.int (0) 0), (.int (0) 0), (.int (3) 0), (.ref 210), (.bool true), (.int (181) 0), (.ref 211), .none, (.ref 212), (.ref 213), (.ref 214), (.int (465) 0), (.int (49) 0), (.str "/claim/cut.py" 466)]), #[]⟩
noncomputable def kO216 (P : Params) : Obj := ⟨(.type "function"), none, (.func (fnOf "lengths_by_steps" "lengths_by_steps" (defArgs sLengthsBySteps) (defBody sLengthsBySteps) (defScope sLengthsBySteps) .none .none .none (.str "platecuts.loads" 432) none (.ref 215) .none)), #[]⟩
noncomputable def kO222 (P : Params) : Obj := ⟨(.type "code"), none, (.fields #[(.str "load_of" 468), (.str "load_of" 469), (.str "/claim/cut.py" 470), (.int (56) 0), (.int (3) 0), (.int (0) 0), (.int (0) 0), (.int (3) 0), (.ref 217), (.bool true), (.int (181) 0), (.ref 218), .none, (.ref 219), (.ref 220), (.ref 221), (.int (479) 0), (.int (56) 0), (.str "/claim/cut.py" 480)]), #[]⟩
noncomputable def kO223 (P : Params) : Obj := ⟨(.type "function"), none, (.func (fnOf "load_of" "load_of" (defArgs sLoadOf) (defBody sLoadOf) (defScope sLoadOf) .none .none .none (.str "platecuts.loads" 432) none (.ref 222) .none)), #[]⟩
noncomputable def kO229 (P : Params) : Obj := ⟨(.type "code"), none, (.fields #[(.str "_law_cell" 484), (.str "_law_cell" 485), (.str "/claim/cut.py" 486), (.int (71) 0), (.int (2) 0), (.int (0) 0), (.int (0) 0), (.int (3) 0), (.ref 224), (.bool true), (.int (181) 0), (.ref 225), .none, (.ref 226), (.ref 227), (.ref 228), (.int (489) 0), (.int (71) 0), (.str "/claim/cut.py" 490)]), #[]⟩
noncomputable def kO230 (P : Params) : Obj := ⟨(.type "function"), none, (.func (fnOf "_law_cell" "_law_cell" (defArgs sCell) (defBody sCell) (defScope sCell) .none .none .none (.str "law_platecuts_k62_loads_refused" 482) none (.ref 229) .none)), #[]⟩
noncomputable def kO236 (P : Params) : Obj := ⟨(.type "code"), none, (.fields #[(.str "_law_pot" 492), (.str "_law_pot" 493), (.str "/claim/cut.py" 494), (.int (75) 0), (.int (1) 0), (.int (0) 0), (.int (0) 0), (.int (3) 0), (.ref 231), (.bool true), (.int (181) 0), (.ref 232), .none, (.ref 233), (.ref 234), (.ref 235), (.int (496) 0), (.int (75) 0), (.str "/claim/cut.py" 497)]), #[]⟩
noncomputable def kO237 (P : Params) : Obj := ⟨(.type "function"), none, (.func (fnOf "_law_pot" "_law_pot" (defArgs sPot) (defBody sPot) (defScope sPot) .none .none .none (.str "law_platecuts_k62_loads_refused" 482) none (.ref 236) .none)), #[]⟩
noncomputable def kO243 (P : Params) : Obj := ⟨(.type "code"), none, (.fields #[(.str "_law_draw" 499), (.str "_law_draw" 500), (.str "/claim/cut.py" 501), (.int (77) 0), (.int (2) 0), (.int (0) 0), (.int (0) 0), (.int (3) 0), (.ref 238), (.bool true), (.int (181) 0), (.ref 239), .none, (.ref 240), (.ref 241), (.ref 242), (.int (505) 0), (.int (77) 0), (.str "/claim/cut.py" 506)]), #[]⟩
noncomputable def kO244 (P : Params) : Obj := ⟨(.type "function"), none, (.func (fnOf "_law_draw" "_law_draw" (defArgs sDraw) (defBody sDraw) (defScope sDraw) .none .none .none (.str "law_platecuts_k62_loads_refused" 482) none (.ref 243) .none)), #[]⟩
noncomputable def kO250 (P : Params) : Obj := ⟨(.type "code"), none, (.fields #[(.str "_law_great" 508), (.str "_law_great" 509), (.str "/claim/cut.py" 510), (.int (83) 0), (.int (1) 0), (.int (0) 0), (.int (0) 0), (.int (3) 0), (.ref 245), (.bool true), (.int (181) 0), (.ref 246), .none, (.ref 247), (.ref 248), (.ref 249), (.int (512) 0), (.int (83) 0), (.str "/claim/cut.py" 513)]), #[]⟩
noncomputable def kO251 (P : Params) : Obj := ⟨(.type "function"), none, (.func (fnOf "_law_great" "_law_great" (defArgs sGreat) (defBody sGreat) (defScope sGreat) .none .none .none (.str "law_platecuts_k62_loads_refused" 482) none (.ref 250) .none)), #[]⟩
noncomputable def kO257 (P : Params) : Obj := ⟨(.type "code"), none, (.fields #[(.str "_law_bad_blade" 515), (.str "_law_bad_blade" 516), (.str "/claim/cut.py" 517), (.int (85) 0), (.int (1) 0), (.int (0) 0), (.int (0) 0), (.int (3) 0), (.ref 252), (.bool true), (.int (181) 0), (.ref 253), .none, (.ref 254), (.ref 255), (.ref 256), (.int (520) 0), (.int (85) 0), (.str "/claim/cut.py" 521)]), #[]⟩
noncomputable def kO258 (P : Params) : Obj := ⟨(.type "function"), none, (.func (fnOf "_law_bad_blade" "_law_bad_blade" (defArgs sBadBlade) (defBody sBadBlade) (defScope sBadBlade) .none .none .none (.str "law_platecuts_k62_loads_refused" 482) none (.ref 257) .none)), #[]⟩
noncomputable def kO264 (P : Params) : Obj := ⟨(.type "code"), none, (.fields #[(.str "_law_bad_side" 523), (.str "_law_bad_side" 524), (.str "/claim/cut.py" 525), (.int (88) 0), (.int (2) 0), (.int (0) 0), (.int (0) 0), (.int (3) 0), (.ref 259), (.bool true), (.int (181) 0), (.ref 260), .none, (.ref 261), (.ref 262), (.ref 263), (.int (529) 0), (.int (88) 0), (.str "/claim/cut.py" 530)]), #[]⟩
noncomputable def kO265 (P : Params) : Obj := ⟨(.type "function"), none, (.func (fnOf "_law_bad_side" "_law_bad_side" (defArgs sBadSide) (defBody sBadSide) (defScope sBadSide) .none .none .none (.str "law_platecuts_k62_loads_refused" 482) none (.ref 264) .none)), #[]⟩
noncomputable def kO271 (P : Params) : Obj := ⟨(.type "code"), none, (.fields #[(.str "_law_bad_weights" 532), (.str "_law_bad_weights" 533), (.str "/claim/cut.py" 534), (.int (91) 0), (.int (2) 0), (.int (0) 0), (.int (0) 0), (.int (3) 0), (.ref 266), (.bool true), (.int (181) 0), (.ref 267), .none, (.ref 268), (.ref 269), (.ref 270), (.int (540) 0), (.int (91) 0), (.str "/claim/cut.py" 541)]), #[]⟩
noncomputable def kO272 (P : Params) : Obj := ⟨(.type "function"), none, (.func (fnOf "_law_bad_weights" "_law_bad_weights" (defArgs sBadWeights) (defBody sBadWeights) (defScope sBadWeights) .none .none .none (.str "law_platecuts_k62_loads_refused" 482) none (.ref 271) .none)), #[]⟩
noncomputable def kO276 (P : Params) : Obj := ⟨(.type "code"), none, (.fields #[(.str "_law_kinds" 543), (.str "_law_kinds" 544), (.str "/claim/cut.py" 545), (.int (98) 0), (.int (1) 0), (.int (0) 0), (.int (0) 0), (.int (3) 0), (.ref 273), (.bool true), (.int (181) 0), (.ref 274), .none, .none, .none, (.ref 275), (.int (546) 0), (.int (98) 0), (.str "/claim/cut.py" 547)]), #[]⟩
noncomputable def kO277 (P : Params) : Obj := ⟨(.type "function"), none, (.func (fnOf "_law_kinds" "_law_kinds" (defArgs sKinds) (defBody sKinds) (defScope sKinds) .none .none .none (.str "law_platecuts_k62_loads_refused" 482) none (.ref 276) .none)), #[]⟩
noncomputable def kO283 (P : Params) : Obj := ⟨(.type "code"), none, (.fields #[(.str "_law_told" 549), (.str "_law_told" 550), (.str "/claim/cut.py" 551), (.int (105) 0), (.int (3) 0), (.int (0) 0), (.int (0) 0), (.int (3) 0), (.ref 278), (.bool true), (.int (181) 0), (.ref 279), .none, (.ref 280), (.ref 281), (.ref 282), (.int (557) 0), (.int (105) 0), (.str "/claim/cut.py" 558)]), #[]⟩
noncomputable def kO284 (P : Params) : Obj := ⟨(.type "function"), none, (.func (fnOf "_law_told" "_law_told" (defArgs sTold) (defBody sTold) (defScope sTold) .none .none .none (.str "law_platecuts_k62_loads_refused" 482) none (.ref 283) .none)), #[]⟩
noncomputable def kO288 (P : Params) : Obj := ⟨(.type "code"), none, (.fields #[(.str "_law_right" 560), (.str "_law_right" 561), (.str "/claim/cut.py" 562), (.int (111) 0), (.int (1) 0), (.int (0) 0), (.int (0) 0), (.int (3) 0), (.ref 285), (.bool true), (.int (181) 0), (.ref 286), .none, .none, .none, (.ref 287), (.int (563) 0), (.int (111) 0), (.str "/claim/cut.py" 564)]), #[]⟩
noncomputable def kO289 (P : Params) : Obj := ⟨(.type "function"), none, (.func (fnOf "_law_right" "_law_right" (defArgs sRight) (defBody sRight) (defScope sRight) .none .none .none (.str "law_platecuts_k62_loads_refused" 482) none (.ref 288) .none)), #[]⟩
noncomputable def kO295 (P : Params) : Obj := ⟨(.type "code"), none, (.fields #[(.str "law" 566), (.str "law" 567), (.str "/claim/cut.py" 568), (.int (132) 0), (.int (1) 0), (.int (0) 0), (.int (0) 0), (.int (3) 0), (.ref 290), (.bool true), (.int (181) 0), (.ref 291), .none, (.ref 292), (.ref 293), (.ref 294), (.int (571) 0), (.int (132) 0), (.str "/claim/cut.py" 572)]), #[]⟩
noncomputable def kO296 (P : Params) : Obj := ⟨(.type "function"), none, (.func (fnOf "law" "law" (defArgs sLaw) (defBody sLaw) (defScope sLaw) .none .none .none (.str "law_platecuts_k62_loads_refused" 482) none (.ref 295) .none)), #[]⟩
noncomputable def kK : Params → Frag := fun P => (nat_lit 1, boot_o_1 P) :: (nat_lit 3, kO3 P) :: (nat_lit 23, kO23 P) :: (nat_lit 24, kO24 P) :: (nat_lit 36, kO36 P) :: (nat_lit 37, kO37 P) :: (nat_lit 48, kO48 P) :: (nat_lit 49, kO49 P) :: (nat_lit 60, kO60 P) :: (nat_lit 61, kO61 P) :: (nat_lit 72, kO72 P) :: (nat_lit 73, kO73 P) :: (nat_lit 84, kO84 P) :: (nat_lit 85, kO85 P) :: (nat_lit 96, kO96 P) :: (nat_lit 97, kO97 P) :: (nat_lit 108, kO108 P) :: (nat_lit 109, kO109 P) :: (nat_lit 120, kO120 P) :: (nat_lit 121, kO121 P) :: (nat_lit 132, kO132 P) :: (nat_lit 133, kO133 P) :: (nat_lit 144, kO144 P) :: (nat_lit 145, kO145 P) :: (nat_lit 156, kO156 P) :: (nat_lit 157, kO157 P) :: (nat_lit 168, kO168 P) :: (nat_lit 169, kO169 P) :: (nat_lit 180, kO180 P) :: (nat_lit 181, kO181 P) :: (nat_lit 189, kO189 P) :: (nat_lit 190, kO190 P) :: (nat_lit 196, kO196 P) :: (nat_lit 197, kO197 P) :: (nat_lit 201, kO201 P) :: (nat_lit 202, kO202 P) :: (nat_lit 208, kO208 P) :: (nat_lit 209, kO209 P) :: (nat_lit 215, kO215 P) :: (nat_lit 216, kO216 P) :: (nat_lit 222, kO222 P) :: (nat_lit 223, kO223 P) :: (nat_lit 229, kO229 P) :: (nat_lit 230, kO230 P) :: (nat_lit 236, kO236 P) :: (nat_lit 237, kO237 P) :: (nat_lit 243, kO243 P) :: (nat_lit 244, kO244 P) :: (nat_lit 250, kO250 P) :: (nat_lit 251, kO251 P) :: (nat_lit 257, kO257 P) :: (nat_lit 258, kO258 P) :: (nat_lit 264, kO264 P) :: (nat_lit 265, kO265 P) :: (nat_lit 271, kO271 P) :: (nat_lit 272, kO272 P) :: (nat_lit 276, kO276 P) :: (nat_lit 277, kO277 P) :: (nat_lit 283, kO283 P) :: (nat_lit 284, kO284 P) :: (nat_lit 288, kO288 P) :: (nat_lit 289, kO289 P) :: (nat_lit 295, kO295 P) :: (nat_lit 296, kO296 P) :: []
end
end Pc
set_option maxHeartbeats 0
lay_quick PySem.Challenge.pw_platecuts_k62_loads_refused
namespace Hd
open PySem PySem.W
noncomputable def S0 : Str := ⟨⟨[95, 95, 110, 97, 109, 101, 95, 95]⟩⟩
noncomputable def S2 : Str := ⟨⟨[95, 95, 100, 111, 99, 95, 95]⟩⟩
noncomputable def S3 : Str := ⟨⟨[95, 95, 112, 97, 99, 107, 97, 103, 101, 95, 95]⟩⟩
noncomputable def S4 : Str := ⟨⟨[95, 95, 108, 111, 97, 100, 101, 114, 95, 95]⟩⟩
noncomputable def S5 : Str := ⟨⟨[95, 95, 115, 112, 101, 99, 95, 95]⟩⟩
noncomputable def S160 : Str := ⟨⟨[95, 95, 109, 97, 105, 110, 95, 95]⟩⟩
noncomputable def S161 : Str := ⟨⟨[95, 95, 97, 110, 110, 111, 116, 97, 116, 105, 111, 110, 115, 95, 95]⟩⟩
noncomputable def S162 : Str := ⟨⟨[95, 95, 98, 117, 105, 108, 116, 105, 110, 115, 95, 95]⟩⟩
noncomputable def S163 : Str := ⟨⟨[95, 95, 102, 105, 108, 101, 95, 95]⟩⟩
noncomputable def S164 : Str := ⟨⟨[47, 99, 108, 97, 105, 109, 47, 99, 117, 116, 46, 112, 121]⟩⟩
noncomputable def S165 : Str := ⟨⟨[95, 95, 99, 97, 99, 104, 101, 100, 95, 95]⟩⟩
noncomputable def S166 : Str := ⟨⟨[60, 109, 111, 100, 117, 108, 101, 62]⟩⟩
noncomputable def S167 : Str := ⟨⟨[112, 108, 97, 116, 101, 99, 117, 116, 115, 46, 101, 114, 114, 111, 114, 115]⟩⟩
noncomputable def S168 : Str := ⟨⟨[80, 108, 97, 116, 101, 69, 114, 114, 111, 114]⟩⟩
noncomputable def S169 : Str := ⟨⟨[78, 111, 66, 108, 97, 100, 101]⟩⟩
noncomputable def S170 : Str := ⟨⟨[78, 111, 75, 105, 110, 100, 115]⟩⟩
noncomputable def S171 : Str := ⟨⟨[78, 111, 75, 105, 110, 100]⟩⟩
noncomputable def S172 : Str := ⟨⟨[78, 111, 76, 121, 105, 110, 103]⟩⟩
noncomputable def S173 : Str := ⟨⟨[78, 111, 84, 101, 120, 116]⟩⟩
noncomputable def S174 : Str := ⟨⟨[78, 111, 80, 108, 97, 116, 101]⟩⟩
noncomputable def S175 : Str := ⟨⟨[78, 111, 84, 114, 101, 101]⟩⟩
noncomputable def S176 : Str := ⟨⟨[78, 111, 76, 97, 121, 105, 110, 103]⟩⟩
noncomputable def S177 : Str := ⟨⟨[95, 95, 109, 111, 100, 117, 108, 101, 95, 95]⟩⟩
noncomputable def S178 : Str := ⟨⟨[95, 95, 113, 117, 97, 108, 110, 97, 109, 101, 95, 95]⟩⟩
noncomputable def S179 : Str := ⟨⟨[95, 95, 102, 105, 114, 115, 116, 108, 105, 110, 101, 110, 111, 95, 95]⟩⟩
noncomputable def S180 : Str := ⟨⟨[95, 95, 115, 116, 97, 116, 105, 99, 95, 97, 116, 116, 114, 105, 98, 117, 116, 101, 115, 95, 95]⟩⟩
noncomputable def S181 : Str := ⟨⟨[95, 95, 119, 101, 97, 107, 114, 101, 102, 95, 95]⟩⟩
noncomputable def S182 : Str := ⟨⟨[108, 97, 119, 95, 112, 108, 97, 116, 101, 99, 117, 116, 115, 95, 107, 54, 50, 95, 108, 111, 97, 100, 115, 95, 114, 101, 102, 117, 115, 101, 100]⟩⟩
noncomputable def S183 : Str := ⟨⟨[84, 111, 111, 76, 97, 114, 103, 101]⟩⟩
noncomputable def S184 : Str := ⟨⟨[78, 111, 84, 97, 98, 108, 101]⟩⟩
noncomputable def S185 : Str := ⟨⟨[78, 111, 78, 117, 109, 98, 101, 114]⟩⟩
noncomputable def S186 : Str := ⟨⟨[78, 111, 87, 101, 105, 103, 104, 116, 115]⟩⟩
noncomputable def S187 : Str := ⟨⟨[78, 111, 84, 101, 108, 108, 105, 110, 103]⟩⟩
noncomputable def S188 : Str := ⟨⟨[105, 115, 95, 119, 104, 111, 108, 101]⟩⟩
noncomputable def S189 : Str := ⟨⟨[105, 115, 95, 114, 111, 119]⟩⟩
noncomputable def S190 : Str := ⟨⟨[77, 79, 83, 84, 95, 87, 69, 73, 71, 72, 84, 83]⟩⟩
noncomputable def S191 : Str := ⟨⟨[105, 115, 95, 119, 101, 105, 103, 104, 116, 115]⟩⟩
noncomputable def S192 : Str := ⟨⟨[98, 101, 115, 116, 95, 108, 101, 110, 103, 116, 104]⟩⟩
noncomputable def S193 : Str := ⟨⟨[108, 101, 110, 103, 116, 104, 115, 95, 98, 121, 95, 115, 116, 101, 112, 115]⟩⟩
noncomputable def S194 : Str := ⟨⟨[108, 111, 97, 100, 95, 111, 102]⟩⟩
noncomputable def S195 : Str := ⟨⟨[95, 108, 97, 119, 95, 99, 101, 108, 108]⟩⟩
noncomputable def S196 : Str := ⟨⟨[95, 108, 97, 119, 95, 112, 111, 116]⟩⟩
noncomputable def S197 : Str := ⟨⟨[95, 108, 97, 119, 95, 100, 114, 97, 119]⟩⟩
noncomputable def S198 : Str := ⟨⟨[95, 108, 97, 119, 95, 103, 114, 101, 97, 116]⟩⟩
noncomputable def S199 : Str := ⟨⟨[95, 108, 97, 119, 95, 98, 97, 100, 95, 98, 108, 97, 100, 101]⟩⟩
noncomputable def S200 : Str := ⟨⟨[95, 108, 97, 119, 95, 98, 97, 100, 95, 115, 105, 100, 101]⟩⟩
noncomputable def S201 : Str := ⟨⟨[95, 108, 97, 119, 95, 98, 97, 100, 95, 119, 101, 105, 103, 104, 116, 115]⟩⟩
noncomputable def S202 : Str := ⟨⟨[95, 108, 97, 119, 95, 107, 105, 110, 100, 115]⟩⟩
noncomputable def S203 : Str := ⟨⟨[95, 108, 97, 119, 95, 116, 111, 108, 100]⟩⟩
noncomputable def S204 : Str := ⟨⟨[95, 108, 97, 119, 95, 114, 105, 103, 104, 116]⟩⟩
noncomputable def S205 : Str := ⟨⟨[108, 97, 119]⟩⟩
noncomputable def S206 : Str := ⟨⟨[116, 104, 105, 110, 103]⟩⟩
noncomputable def S207 : Str := ⟨⟨[108, 101, 97, 115, 116]⟩⟩
noncomputable def S208 : Str := ⟨⟨[112, 108, 97, 116, 101, 99, 117, 116, 115, 46, 99, 104, 101, 99, 107, 115]⟩⟩
noncomputable def S209 : Str := ⟨⟨[112, 108, 97, 116, 101, 99, 117, 116, 115, 46, 108, 111, 97, 100, 115]⟩⟩
noncomputable def S210 : Str := ⟨⟨[98, 108, 97, 100, 101]⟩⟩
noncomputable def S211 : Str := ⟨⟨[119, 101, 105, 103, 104, 116, 115]⟩⟩
noncomputable def S212 : Str := ⟨⟨[108, 111, 97, 100, 115]⟩⟩
noncomputable def S213 : Str := ⟨⟨[115, 105, 100, 101]⟩⟩
noncomputable def S214 : Str := ⟨⟨[108, 111, 97, 100]⟩⟩
noncomputable def S215 : Str := ⟨⟨[108, 101, 110, 103, 116, 104]⟩⟩
noncomputable def S216 : Str := ⟨⟨[102, 105, 114, 115, 116]⟩⟩
noncomputable def S217 : Str := ⟨⟨[98, 101, 104, 105, 110, 100]⟩⟩
noncomputable def S218 : Str := ⟨⟨[116, 111, 103, 101, 116, 104, 101, 114]⟩⟩
noncomputable def S219 : Str := ⟨⟨[115, 116, 101, 112, 115]⟩⟩
noncomputable def S220 : Str := ⟨⟨[108, 101, 110, 103, 116, 104, 115]⟩⟩
noncomputable def S221 : Str := ⟨⟨[114, 101, 97, 99, 104]⟩⟩
noncomputable def S222 : Str := ⟨⟨[95, 108, 97, 119, 95, 115, 99, 114, 105, 112, 116]⟩⟩
noncomputable def S223 : Str := ⟨⟨[95, 108, 97, 119, 95, 107]⟩⟩
noncomputable def S224 : Str := ⟨⟨[95, 108, 97, 119, 95, 99, 101, 108, 108, 95, 104, 101, 114, 101]⟩⟩
noncomputable def S225 : Str := ⟨⟨[95, 108, 97, 119, 95, 112, 111, 116, 95, 104, 101, 114, 101]⟩⟩
noncomputable def S226 : Str := ⟨⟨[95, 108, 97, 119, 95, 109, 97, 110, 121]⟩⟩
noncomputable def S227 : Str := ⟨⟨[95, 108, 97, 119, 95, 100, 105, 103, 105, 116]⟩⟩
noncomputable def S228 : Str := ⟨⟨[95, 108, 97, 119, 95, 115, 111, 109, 101]⟩⟩
noncomputable def S229 : Str := ⟨⟨[95, 108, 97, 119, 95, 119, 101, 105, 103, 104, 116, 115]⟩⟩
noncomputable def S230 : Str := ⟨⟨[95, 108, 97, 119, 95, 119, 97, 121]⟩⟩
noncomputable def S231 : Str := ⟨⟨[95, 108, 97, 119, 95, 98, 97, 100]⟩⟩
noncomputable def S232 : Str := ⟨⟨[95, 108, 97, 119, 95, 97, 116]⟩⟩
noncomputable def S233 : Str := ⟨⟨[95, 108, 97, 119, 95, 98, 108, 97, 100, 101]⟩⟩
noncomputable def S234 : Str := ⟨⟨[95, 108, 97, 119, 95, 115, 105, 100, 101]⟩⟩
noncomputable def S235 : Str := ⟨⟨[95, 108, 97, 119, 95, 102, 111, 117, 110, 100]⟩⟩
noncomputable def S236 : Str := ⟨⟨[95, 108, 97, 119, 95, 101, 114, 114, 111, 114]⟩⟩
noncomputable abbrev HK : Hook := kHook Pc.kK [nat_lit 1, nat_lit 3, nat_lit 23, nat_lit 24, nat_lit 36, nat_lit 37, nat_lit 48, nat_lit 49, nat_lit 60, nat_lit 61, nat_lit 72, nat_lit 73, nat_lit 84, nat_lit 85, nat_lit 96, nat_lit 97, nat_lit 108, nat_lit 109, nat_lit 120, nat_lit 121, nat_lit 132, nat_lit 133, nat_lit 144, nat_lit 145, nat_lit 156, nat_lit 157, nat_lit 168, nat_lit 169, nat_lit 180, nat_lit 181, nat_lit 189, nat_lit 190, nat_lit 196, nat_lit 197, nat_lit 201, nat_lit 202, nat_lit 208, nat_lit 209, nat_lit 215, nat_lit 216, nat_lit 222, nat_lit 223, nat_lit 229, nat_lit 230, nat_lit 236, nat_lit 237, nat_lit 243, nat_lit 244, nat_lit 250, nat_lit 251, nat_lit 257, nat_lit 258, nat_lit 264, nat_lit 265, nat_lit 271, nat_lit 272, nat_lit 276, nat_lit 277, nat_lit 283, nat_lit 284, nat_lit 288, nat_lit 289, nat_lit 295, nat_lit 296] (fun _ => by kernel_rfl)
noncomputable abbrev pt : Program := PySem.W.Fast.tw1844096089790890492
theorem pt_eq : PySem.Challenge.pw_platecuts_k62_loads_refused = pt := PySem.W.Fast.te1844096089790890492
noncomputable def tp (i : Nat) : Stmt := pt.main.body.getD i (.Pass ⟨0, 0, 0, 0⟩)
noncomputable abbrev f (o : Params → Obj) (l r : Params → BT) : Params → BT := fun P => .node (o P) (l P) (r P)
noncomputable abbrev z : Params → BT := fun _ => .nil
noncomputable abbrev e (P : Params) (n : Str) (t : Nat) (v : Value) : DictEntry := ⟨PyData.keyHash P n, .str n t, v⟩
noncomputable abbrev m0 : Nat := nat_lit 11
noncomputable abbrev an : Option Value := (some (.ref 6))
noncomputable abbrev en : Env := { scope := pt.main.scope, locals := mainNs, globals := mainNs, cells := [], code := (.ref 13), frame := some 14 }
noncomputable abbrev cE : Code := .body (behindTheImports pt) en
noncomputable abbrev qP : Pos := ⟨0, 0, 0, 0⟩
noncomputable abbrev B : List Frame := [topFrame qP]
noncomputable abbrev L0 : String := PySem.W.SL.s14018661285674007319x4
noncomputable abbrev L1 : String := PySem.W.SL.s11665532747177232413x24
noncomputable abbrev L2 : String := PySem.W.SL.s15183661809925369436x15
noncomputable abbrev L3 : String := PySem.W.SL.s13915890719876406383x10
noncomputable abbrev L4 : String := PySem.W.SL.s13459172003223722735x3
noncomputable abbrev L5 : String := PySem.W.SL.s10557405761357834076x3
noncomputable abbrev L6 : String := PySem.W.SL.s4233737765568776869x3
noncomputable abbrev L7 : String := PySem.W.SL.s2508922471967985374x5
noncomputable abbrev L8 : String := PySem.W.SL.s15574269061696679450x3
noncomputable abbrev L9 : String := PySem.W.SL.s6016482663378992977x10
noncomputable abbrev L10 : String := PySem.W.SL.s5596568736180474577x8
noncomputable abbrev L11 : String := PySem.W.SL.s2839554839881490554x3
noncomputable abbrev L12 : String := PySem.W.SL.s725004073602090463x7
noncomputable abbrev L13 : String := PySem.W.SL.s9436932552931045734x7
noncomputable abbrev L14 : String := PySem.W.SL.s2754603736356183583x3
noncomputable abbrev L15 : String := PySem.W.SL.s15185746759980889043x6
noncomputable abbrev L16 : String := PySem.W.SL.s8192189862530294059x4
noncomputable abbrev L17 : String := PySem.W.SL.s7038307821325472102x4
noncomputable abbrev L18 : String := PySem.W.SL.s5662562618415449548x6
noncomputable abbrev L19 : String := PySem.W.SL.s15281542589158584767x7
noncomputable abbrev L20 : String := PySem.W.SL.s17651547275483570877x7
noncomputable abbrev L21 : String := PySem.W.SL.s4036449017235975746x7
noncomputable abbrev L22 : String := PySem.W.SL.s8879979712987360175x4
noncomputable abbrev L23 : String := PySem.W.SL.s1801250619170735830x3
noncomputable abbrev L24 : String := PySem.W.SL.s17659931425627118568x2
noncomputable abbrev L25 : String := PySem.W.SL.s6063217899685152688x5
noncomputable abbrev L26 : String := PySem.W.SL.s8008927332132565319x10
noncomputable abbrev L27 : String := PySem.W.SL.s3544116645089599534x10
noncomputable abbrev L28 : String := PySem.W.SL.s13761710972054866084x4
noncomputable abbrev L29 : String := PySem.W.SL.s12896375587409280029x5
noncomputable abbrev L30 : String := PySem.W.SL.s13014049009108672802x3
noncomputable abbrev L31 : String := PySem.W.SL.s13935586738268321596x6
noncomputable abbrev L32 : String := PySem.W.SL.s8200498257699607233x3
noncomputable abbrev L33 : String := PySem.W.SL.s14114244577727609259x3
noncomputable abbrev L34 : String := PySem.W.SL.s1499430450269397089x4
noncomputable abbrev L35 : String := PySem.W.SL.s8755793994789770505x5
noncomputable abbrev L36 : String := PySem.W.SL.s15725212667919936108x3
noncomputable abbrev L37 : String := PySem.W.SL.s15791221867095933363x3
noncomputable abbrev L38 : String := PySem.W.SL.s81309575031448614x3
noncomputable abbrev L39 : String := PySem.W.SL.s8069831620301644142x5
noncomputable abbrev L40 : String := PySem.W.SL.s10061844253413749634x4
noncomputable abbrev L41 : String := PySem.W.SL.s9496514870978017513x5
noncomputable abbrev L42 : String := PySem.W.SL.s8899691144933366716x7
noncomputable abbrev L43 : String := PySem.W.SL.s15201008993051130160x6
noncomputable abbrev L44 : String := PySem.W.SL.s741896355592496720x3
noncomputable abbrev L45 : String := PySem.W.SL.s17925004256654032244x4
noncomputable abbrev L46 : String := PySem.W.SL.s11695548795398191787x4
noncomputable abbrev L47 : String := PySem.W.SL.s4156966113859768872x10
noncomputable abbrev L48 : String := PySem.W.SL.s9501651726347032510x9
noncomputable abbrev L49 : String := PySem.W.SL.s15722918466584999320x5
noncomputable abbrev L50 : String := PySem.W.SL.s591115383303110208x11
noncomputable abbrev L51 : String := PySem.W.SL.s15721156781594690315x7
noncomputable abbrev L52 : String := PySem.W.SL.s14340494229221121180x9
noncomputable abbrev L53 : String := PySem.W.SL.s13429844117177748173x6
noncomputable abbrev L54 : String := PySem.W.SL.s16463266125957815391x5
noncomputable abbrev L55 : String := PySem.W.SL.s4922535414793169389x9
noncomputable abbrev L56 : String := PySem.W.SL.s8101838861749082086x8
noncomputable abbrev L57 : String := PySem.W.SL.s7066276694103001551x3
noncomputable abbrev L58 : String := PySem.W.SL.s9222952809800978799x4
noncomputable abbrev L59 : String := PySem.W.SL.s462964344163437139x3
noncomputable abbrev L60 : String := PySem.W.SL.s2742458400755230247x6
noncomputable abbrev L61 : String := PySem.W.SL.s1438033511350832697x5
noncomputable abbrev L62 : String := PySem.W.SL.s14365286008749172514x8
noncomputable abbrev L63 : String := PySem.W.SL.s3642769012341782148x3
noncomputable abbrev L64 : String := PySem.W.SL.s4674234679698826739x5
noncomputable abbrev L65 : String := PySem.W.SL.s16656946322747308186x12
noncomputable abbrev L66 : String := PySem.W.SL.s10796804682411823810x3
noncomputable abbrev L67 : String := PySem.W.SL.s4290257624100764138x5
noncomputable abbrev L68 : String := PySem.W.SL.s2766695959194262286x5
noncomputable abbrev L69 : String := PySem.W.SL.s17162191345867700912x4
noncomputable abbrev L70 : String := PySem.W.SL.s14339709457334898076x3
noncomputable abbrev L71 : String := PySem.W.SL.s4278001404047624695x13
noncomputable abbrev L72 : String := PySem.W.SL.s6585700554429387442x18
noncomputable abbrev L73 : String := PySem.W.SL.s5946037652744460706x9
noncomputable abbrev L74 : String := PySem.W.SL.s7410770068591931388x13
noncomputable abbrev L75 : String := PySem.W.SL.s11817881795495490833x17
noncomputable abbrev L76 : String := PySem.W.SL.s15679963881808890155x10
noncomputable abbrev L77 : String := PySem.W.SL.s3871700062485845797x15
noncomputable abbrev L78 : String := PySem.W.SL.s7689518266570723881x14
noncomputable abbrev L79 : String := PySem.W.SL.s9001593270443806431x14
noncomputable abbrev L80 : String := PySem.W.SL.s6882542574934516792x11
noncomputable abbrev L81 : String := PySem.W.SL.s14403400214490484960x8
noncomputable abbrev L82 : String := PySem.W.SL.s14457978657717015782x11
noncomputable abbrev L83 : String := PySem.W.SL.s1753610191782819921x11
noncomputable abbrev L84 : String := PySem.W.SL.s14119380538032626715x11
noncomputable abbrev L85 : String := PySem.W.SL.s11437920000406562045x9
noncomputable abbrev L86 : String := PySem.W.SL.s10852414792293593619x7
noncomputable abbrev L87 : String := PySem.W.SL.s14816307405966870543x14
noncomputable abbrev L88 : String := PySem.W.SL.s8682627914449686677x12
noncomputable abbrev L89 : String := PySem.W.SL.s4428170145600203450x18
noncomputable abbrev L90 : String := PySem.W.SL.s5991306692159431302x13
noncomputable abbrev L91 : String := PySem.W.SL.s16067994140765818257x11
noncomputable abbrev L92 : String := PySem.W.SL.s2327743974964600596x11
noncomputable abbrev L93 : String := PySem.W.SL.s2804747833354056582x9
noncomputable abbrev L94 : String := PySem.W.SL.s6070975301684473832x10
noncomputable abbrev L95 : String := PySem.W.SL.s14270485950484850486x7
noncomputable abbrev L96 : String := PySem.W.SL.s12041534306414923332x18
noncomputable abbrev L97 : String := PySem.W.SL.s2531307568338490285x13
noncomputable abbrev L98 : String := PySem.W.SL.s631175304937289666x17
noncomputable abbrev L99 : String := PySem.W.SL.s5144983644357021410x12
noncomputable abbrev L100 : String := PySem.W.SL.s18039099521571816885x18
noncomputable abbrev L101 : String := PySem.W.SL.s6011586214260557989x15
noncomputable abbrev L102 : String := PySem.W.SL.s5430567037509283100x13
noncomputable abbrev L103 : String := PySem.W.SL.s8117915138073963741x13
noncomputable abbrev L104 : String := PySem.W.SL.s3423317712779056401x25
noncomputable abbrev L105 : String := PySem.W.SL.s2007317383269046180x15
noncomputable abbrev L106 : String := PySem.W.SL.s17481586968713580700x14
noncomputable abbrev L107 : String := PySem.W.SL.s2450899226349176912x13
noncomputable abbrev L108 : String := PySem.W.SL.s16626165730633575011x14
noncomputable abbrev L109 : String := PySem.W.SL.s14288496050688921416x11
noncomputable abbrev L110 : String := PySem.W.SL.s5735081916595925998x15
noncomputable abbrev L111 : String := PySem.W.SL.s3865607918536308442x17
noncomputable abbrev L112 : String := PySem.W.SL.s13337502604062700212x15
noncomputable abbrev L113 : String := PySem.W.SL.s13114017843053701147x15
noncomputable abbrev L114 : String := PySem.W.SL.s17467278006356818441x17
noncomputable abbrev L115 : String := PySem.W.SL.s17722149559621369488x16
noncomputable abbrev L116 : String := PySem.W.SL.s7855274175708717672x17
noncomputable abbrev L117 : String := PySem.W.SL.s13351283678309829046x18
noncomputable abbrev L118 : String := PySem.W.SL.s6668348653404991179x15
noncomputable abbrev L119 : String := PySem.W.SL.s12913350958174193794x18
noncomputable abbrev L120 : String := PySem.W.SL.s16115879512475548326x12
noncomputable abbrev L121 : String := PySem.W.SL.s15920661018069861047x16
noncomputable abbrev L122 : String := PySem.W.SL.s10779130036587390575x21
noncomputable abbrev L123 : String := PySem.W.SL.s7801419657504700863x10
noncomputable abbrev L124 : String := PySem.W.SL.s1688129525768580628x8
noncomputable abbrev L125 : String := PySem.W.SL.s1031832959479892071x19
noncomputable abbrev L126 : String := PySem.W.SL.s8991790508128307865x19
noncomputable abbrev L127 : String := PySem.W.SL.s14539662485746970245x23
noncomputable abbrev L128 : String := PySem.W.SL.s11643622729373238714x14
noncomputable abbrev L129 : String := PySem.W.SL.s3386828779285465597x17
noncomputable abbrev L130 : String := PySem.W.SL.s13042696260734638735x12
noncomputable abbrev L131 : String := PySem.W.SL.s18239426817015966623x15
noncomputable abbrev L132 : String := PySem.W.SL.s1270395311379034370x22
noncomputable abbrev L133 : String := PySem.W.SL.s10696252587037064777x22
noncomputable abbrev L134 : String := PySem.W.SL.s7852717498200857586x20
noncomputable abbrev L135 : String := PySem.W.SL.s6377248116197321094x8
noncomputable abbrev L136 : String := PySem.W.SL.s3834378056692298002x18
noncomputable abbrev L137 : String := PySem.W.SL.s17586630440231065808x18
noncomputable abbrev L138 : String := PySem.W.SL.s15234114252648025395x21
noncomputable abbrev L139 : String := PySem.W.SL.s8496462677383758984x14
noncomputable abbrev L140 : String := PySem.W.SL.s16789243406116112673x4
noncomputable abbrev L141 : String := PySem.W.SL.s14400166428656793546x20
noncomputable abbrev L142 : String := PySem.W.SL.s5857708277339239366x20
noncomputable abbrev L143 : String := PySem.W.SL.s7804999707787243718x20
noncomputable abbrev L144 : String := PySem.W.SL.s7097527257260152453x26
noncomputable abbrev L145 : String := PySem.W.SL.s6658869562736209489x6
noncomputable abbrev L146 : String := PySem.W.SL.s5856160107412720595x4
noncomputable abbrev L147 : String := PySem.W.SL.s658472552662922059x5
noncomputable abbrev sZ (w : World) (os : OsState) : Shared := ⟨boot_heap w.params, Array.mk [], boot_drawn, boot_toks, os⟩
noncomputable def o11 (P : Params) : Obj := ⟨(.type L68), none, (.seq #[] 0), #[]⟩
noncomputable def o12 (P : Params) : Obj := ⟨.none, none, (.fields #[]), #[]⟩
noncomputable def o13 (P : Params) : Obj := ⟨(.type L146), none, (.fields #[(.str S166 182), (.str S166 183), (.str S164 184), (.int (1) 0), (.int (0) 0), (.int (0) 0), (.int (0) 0), (.int (0) 0), (.ref 11), (.bool false), (.int (181) 0), (.ref 12), .none, .none, .none, .none, (.int (185) 0), (.int (1) 0), (.str S164 186)]), #[]⟩
noncomputable def o14 (P : Params) : Obj := ⟨(.type L147), none, .plain, #[(some (.ref 13)), (some (.ref 3)), (some (.ref 3)), none, (some (.str S160 164)), none, (some (.ref 0))]⟩
noncomputable def hA (P : Params) : Heap := ⟨⟨[boot_o_0 P, boot_o_1 P, boot_o_2 P, boot_o_3 P, boot_o_4 P, boot_o_5 P, boot_o_6 P, boot_o_7 P, boot_o_8 P, boot_o_9 P, boot_o_10 P, o11 P, o12 P, o13 P, o14 P]⟩, { }⟩
noncomputable abbrev sA (w : World) (os : OsState) : Shared := ⟨hA w.params, (Array.mk []), ⟨0, 0, 0, 0⟩, 187, os⟩
noncomputable abbrev pA : Pos := ⟨0, 0, 0, 0⟩
theorem pre (w : World) : (fun os => topGo treeTable pt w m0 an 12 (sZ w os) (topStub pt)) = fun os => some (sA w os, (⟨denote treeTable cE, cE, pA, B⟩ : Thread)) := by
  rw [PySem.W.Fast.te15667345088766844465, PySem.W.Fast.te14364793385576792824, PySem.W.Fast.te11892475500146522536]; kernel_rfl
noncomputable def tB : Params → BT := (f boot_o_0 (f boot_o_1 (f boot_o_3 (f boot_o_7 z z) (f o11 z z)) (f boot_o_5 (f boot_o_9 z z) (f o13 z z))) (f boot_o_2 (f boot_o_4 (f boot_o_8 z z) (f o12 z z)) (f boot_o_6 (f boot_o_10 z z) (f o14 z z))))
noncomputable abbrev sB (w : World) (os : OsState) : SharedT := ⟨tB w.params, 15, { }, (Array.mk []), ⟨0, 0, 0, 0⟩, 187, os⟩
noncomputable abbrev pB : Pos := ⟨0, 0, 0, 0⟩
theorem blk (w : World) : (fun os => segRun treeTable pt w m0 an 1 1 (sA w os) ⟨(blockStart (behindTheImports pt) en).wrap (fun _ => doneF .next) deadEnd id id, cE, pA, B⟩) = fun os => some (.next, (sB w os).abs, cE, pB) := by
  rw [PySem.W.Fast.te14374325043358763698, PySem.W.Fast.te14364793385576792824, PySem.W.Fast.te1066825118222455980]; kernel_rfl
noncomputable def o3v1 (P : Params) : Obj := ⟨(.type L0), none, (.dict #[e P S0 165 (.str S167 187), e P S2 166 .none, e P S3 167 .none, e P S4 168 (.builtin L144), e P S5 169 .none, e P S161 170 (.ref 6), e P S162 171 (.ref 4), e P S163 173 (.str S164 172), e P S165 174 .none, e P S168 206 (.ref 24), e P S169 222 (.ref 37), e P S170 238 (.ref 49), e P S171 254 (.ref 61), e P S172 270 (.ref 73), e P S173 286 (.ref 85), e P S174 302 (.ref 97), e P S175 318 (.ref 109), e P S176 334 (.ref 121)] 18), #[]⟩
noncomputable def o12v1 (P : Params) : Obj := ⟨.none, none, (.fields #[(.int (2) 0), (.int (0) 0), (.ref 20), (.int (4) 0), (.int (0) 0), (.ref 33), (.int (6) 0), (.int (0) 0), (.ref 45), (.int (8) 0), (.int (0) 0), (.ref 57), (.int (10) 0), (.int (0) 0), (.ref 69), (.int (12) 0), (.int (0) 0), (.ref 81), (.int (14) 0), (.int (0) 0), (.ref 93), (.int (16) 0), (.int (0) 0), (.ref 105), (.int (18) 0), (.int (0) 0), (.ref 117)]), #[]⟩
noncomputable def o15 (P : Params) : Obj := ⟨(.type L68), none, (.seq #[(.type L94)] 0), #[]⟩
noncomputable abbrev L148 : String := PySem.W.SL.s11030030927630378310x26
noncomputable abbrev L149 : String := PySem.W.SL.s10062305145149207511x16
noncomputable def o16 (P : Params) : Obj := ⟨(.type L148), none, (.fields #[(.builtin L149), (.type L69)]), #[]⟩
noncomputable def o17 (P : Params) : Obj := ⟨(.type L0), none, (.dict #[e P S177 196 (.str S167 187), e P S178 198 (.str S168 197), e P S179 200 (.int (2) 199), e P S180 201 (.ref 22)] 4), #[]⟩
noncomputable def o18 (P : Params) : Obj := ⟨(.type L68), none, (.seq #[] 0), #[]⟩
noncomputable def o19 (P : Params) : Obj := ⟨.none, none, (.fields #[]), #[]⟩
noncomputable def o20 (P : Params) : Obj := ⟨(.type L146), none, (.fields #[(.str S168 191), (.str S168 192), (.str S164 193), (.int (2) 0), (.int (0) 0), (.int (0) 0), (.int (0) 0), (.int (0) 0), (.ref 18), (.bool false), (.int (181) 0), (.ref 19), .none, .none, .none, .none, (.int (194) 0), (.int (2) 0), (.str S164 195)]), #[]⟩
noncomputable def o21 (P : Params) : Obj := ⟨(.type L147), none, .plain, #[(some (.ref 20)), (some (.ref 3)), (some (.ref 17)), none, (some (.str S167 187)), none, (some (.ref 0))]⟩
noncomputable def o22 (P : Params) : Obj := ⟨(.type L68), none, (.seq #[] 0), #[]⟩
noncomputable def o23 (P : Params) : Obj := ⟨(.type L0), none, (.dict #[e P S177 196 (.str S167 187), e P S179 200 (.int (2) 199), e P S180 201 (.ref 22), e P S181 203 (.ref 25), e P S2 204 .none] 3), #[]⟩
noncomputable abbrev L150 : String := PySem.W.SL.s4209523147560561109x18
noncomputable def o24 (P : Params) : Obj := ⟨(.type L69), none, (.cls ⟨S168, [(.type L94)], [(.ref 24), (.type L94), (.type L73), (.type L71), (.type L60)], 23, S168, true, [], [(.ref 37), (.ref 49), (.ref 61), (.ref 73), (.ref 85), (.ref 97), (.ref 109), (.ref 121)], false, none, false⟩), #[(some (.ref 15)), none, (some (.str S168 189)), (some (.str S168 197)), (some (.builtin L150)), (some (.bool true))]⟩
noncomputable abbrev L151 : String := PySem.W.SL.s14755015743595814543x17
noncomputable abbrev L152 : String := PySem.W.SL.s10220274742760427390x26
noncomputable def o25 (P : Params) : Obj := ⟨(.type L151), none, (.fields #[(.str S181 202), (.ref 24), (.builtin L152), .none]), #[]⟩
noncomputable def o26 (P : Params) : Obj := ⟨(.type L67), none, (.fields #[(.ref 24), (.ref 24), (.ref 24)]), #[]⟩
noncomputable abbrev L153 : String := PySem.W.SL.s4860613602091757760x24
noncomputable def o27 (P : Params) : Obj := ⟨(.type L148), none, (.fields #[(.builtin L153), (.ref 24)]), #[]⟩
noncomputable def o28 (P : Params) : Obj := ⟨(.type L68), none, (.seq #[(.ref 24)] 0), #[]⟩
noncomputable def o29 (P : Params) : Obj := ⟨(.type L148), none, (.fields #[(.builtin L149), (.type L69)]), #[]⟩
noncomputable def o30 (P : Params) : Obj := ⟨(.type L0), none, (.dict #[e P S177 214 (.str S167 187), e P S178 216 (.str S169 215), e P S179 218 (.int (4) 217), e P S180 219 (.ref 35)] 4), #[]⟩
noncomputable def o31 (P : Params) : Obj := ⟨(.type L68), none, (.seq #[] 0), #[]⟩
noncomputable def o32 (P : Params) : Obj := ⟨.none, none, (.fields #[]), #[]⟩
noncomputable def o33 (P : Params) : Obj := ⟨(.type L146), none, (.fields #[(.str S169 209), (.str S169 210), (.str S164 211), (.int (4) 0), (.int (0) 0), (.int (0) 0), (.int (0) 0), (.int (0) 0), (.ref 31), (.bool false), (.int (181) 0), (.ref 32), .none, .none, .none, .none, (.int (212) 0), (.int (4) 0), (.str S164 213)]), #[]⟩
noncomputable def o34 (P : Params) : Obj := ⟨(.type L147), none, .plain, #[(some (.ref 33)), (some (.ref 3)), (some (.ref 30)), none, (some (.str S167 187)), none, (some (.ref 0))]⟩
noncomputable def o35 (P : Params) : Obj := ⟨(.type L68), none, (.seq #[] 0), #[]⟩
noncomputable def o36 (P : Params) : Obj := ⟨(.type L0), none, (.dict #[e P S177 214 (.str S167 187), e P S179 218 (.int (4) 217), e P S180 219 (.ref 35), e P S2 220 .none] 2), #[]⟩
noncomputable def o37 (P : Params) : Obj := ⟨(.type L69), none, (.cls ⟨S169, [(.ref 24)], [(.ref 37), (.ref 24), (.type L94), (.type L73), (.type L71), (.type L60)], 36, S169, true, [], [], false, none, false⟩), #[(some (.ref 28)), none, (some (.str S169 207)), (some (.str S169 215)), (some (.builtin L150)), (some (.bool true))]⟩
noncomputable def o38 (P : Params) : Obj := ⟨(.type L67), none, (.fields #[(.ref 37), (.ref 37), (.ref 37)]), #[]⟩
noncomputable def o39 (P : Params) : Obj := ⟨(.type L148), none, (.fields #[(.builtin L153), (.ref 37)]), #[]⟩
noncomputable def o40 (P : Params) : Obj := ⟨(.type L68), none, (.seq #[(.ref 24)] 0), #[]⟩
noncomputable def o41 (P : Params) : Obj := ⟨(.type L148), none, (.fields #[(.builtin L149), (.type L69)]), #[]⟩
noncomputable def o42 (P : Params) : Obj := ⟨(.type L0), none, (.dict #[e P S177 230 (.str S167 187), e P S178 232 (.str S170 231), e P S179 234 (.int (6) 233), e P S180 235 (.ref 47)] 4), #[]⟩
noncomputable def o43 (P : Params) : Obj := ⟨(.type L68), none, (.seq #[] 0), #[]⟩
noncomputable def o44 (P : Params) : Obj := ⟨.none, none, (.fields #[]), #[]⟩
noncomputable def o45 (P : Params) : Obj := ⟨(.type L146), none, (.fields #[(.str S170 225), (.str S170 226), (.str S164 227), (.int (6) 0), (.int (0) 0), (.int (0) 0), (.int (0) 0), (.int (0) 0), (.ref 43), (.bool false), (.int (181) 0), (.ref 44), .none, .none, .none, .none, (.int (228) 0), (.int (6) 0), (.str S164 229)]), #[]⟩
noncomputable def o46 (P : Params) : Obj := ⟨(.type L147), none, .plain, #[(some (.ref 45)), (some (.ref 3)), (some (.ref 42)), none, (some (.str S167 187)), none, (some (.ref 0))]⟩
noncomputable def o47 (P : Params) : Obj := ⟨(.type L68), none, (.seq #[] 0), #[]⟩
noncomputable def o48 (P : Params) : Obj := ⟨(.type L0), none, (.dict #[e P S177 230 (.str S167 187), e P S179 234 (.int (6) 233), e P S180 235 (.ref 47), e P S2 236 .none] 2), #[]⟩
noncomputable def o49 (P : Params) : Obj := ⟨(.type L69), none, (.cls ⟨S170, [(.ref 24)], [(.ref 49), (.ref 24), (.type L94), (.type L73), (.type L71), (.type L60)], 48, S170, true, [], [], false, none, false⟩), #[(some (.ref 40)), none, (some (.str S170 223)), (some (.str S170 231)), (some (.builtin L150)), (some (.bool true))]⟩
noncomputable def o50 (P : Params) : Obj := ⟨(.type L67), none, (.fields #[(.ref 49), (.ref 49), (.ref 49)]), #[]⟩
noncomputable def o51 (P : Params) : Obj := ⟨(.type L148), none, (.fields #[(.builtin L153), (.ref 49)]), #[]⟩
noncomputable def o52 (P : Params) : Obj := ⟨(.type L68), none, (.seq #[(.ref 24)] 0), #[]⟩
noncomputable def o53 (P : Params) : Obj := ⟨(.type L148), none, (.fields #[(.builtin L149), (.type L69)]), #[]⟩
noncomputable def o54 (P : Params) : Obj := ⟨(.type L0), none, (.dict #[e P S177 246 (.str S167 187), e P S178 248 (.str S171 247), e P S179 250 (.int (8) 249), e P S180 251 (.ref 59)] 4), #[]⟩
noncomputable def o55 (P : Params) : Obj := ⟨(.type L68), none, (.seq #[] 0), #[]⟩
noncomputable def o56 (P : Params) : Obj := ⟨.none, none, (.fields #[]), #[]⟩
noncomputable def o57 (P : Params) : Obj := ⟨(.type L146), none, (.fields #[(.str S171 241), (.str S171 242), (.str S164 243), (.int (8) 0), (.int (0) 0), (.int (0) 0), (.int (0) 0), (.int (0) 0), (.ref 55), (.bool false), (.int (181) 0), (.ref 56), .none, .none, .none, .none, (.int (244) 0), (.int (8) 0), (.str S164 245)]), #[]⟩
noncomputable def o58 (P : Params) : Obj := ⟨(.type L147), none, .plain, #[(some (.ref 57)), (some (.ref 3)), (some (.ref 54)), none, (some (.str S167 187)), none, (some (.ref 0))]⟩
noncomputable def o59 (P : Params) : Obj := ⟨(.type L68), none, (.seq #[] 0), #[]⟩
noncomputable def o60 (P : Params) : Obj := ⟨(.type L0), none, (.dict #[e P S177 246 (.str S167 187), e P S179 250 (.int (8) 249), e P S180 251 (.ref 59), e P S2 252 .none] 2), #[]⟩
noncomputable def o61 (P : Params) : Obj := ⟨(.type L69), none, (.cls ⟨S171, [(.ref 24)], [(.ref 61), (.ref 24), (.type L94), (.type L73), (.type L71), (.type L60)], 60, S171, true, [], [], false, none, false⟩), #[(some (.ref 52)), none, (some (.str S171 239)), (some (.str S171 247)), (some (.builtin L150)), (some (.bool true))]⟩
noncomputable def o62 (P : Params) : Obj := ⟨(.type L67), none, (.fields #[(.ref 61), (.ref 61), (.ref 61)]), #[]⟩
noncomputable def o63 (P : Params) : Obj := ⟨(.type L148), none, (.fields #[(.builtin L153), (.ref 61)]), #[]⟩
noncomputable def o64 (P : Params) : Obj := ⟨(.type L68), none, (.seq #[(.ref 24)] 0), #[]⟩
noncomputable def o65 (P : Params) : Obj := ⟨(.type L148), none, (.fields #[(.builtin L149), (.type L69)]), #[]⟩
noncomputable def o66 (P : Params) : Obj := ⟨(.type L0), none, (.dict #[e P S177 262 (.str S167 187), e P S178 264 (.str S172 263), e P S179 266 (.int (10) 265), e P S180 267 (.ref 71)] 4), #[]⟩
noncomputable def o67 (P : Params) : Obj := ⟨(.type L68), none, (.seq #[] 0), #[]⟩
noncomputable def o68 (P : Params) : Obj := ⟨.none, none, (.fields #[]), #[]⟩
noncomputable def o69 (P : Params) : Obj := ⟨(.type L146), none, (.fields #[(.str S172 257), (.str S172 258), (.str S164 259), (.int (10) 0), (.int (0) 0), (.int (0) 0), (.int (0) 0), (.int (0) 0), (.ref 67), (.bool false), (.int (181) 0), (.ref 68), .none, .none, .none, .none, (.int (260) 0), (.int (10) 0), (.str S164 261)]), #[]⟩
noncomputable def o70 (P : Params) : Obj := ⟨(.type L147), none, .plain, #[(some (.ref 69)), (some (.ref 3)), (some (.ref 66)), none, (some (.str S167 187)), none, (some (.ref 0))]⟩
noncomputable def o71 (P : Params) : Obj := ⟨(.type L68), none, (.seq #[] 0), #[]⟩
noncomputable def o72 (P : Params) : Obj := ⟨(.type L0), none, (.dict #[e P S177 262 (.str S167 187), e P S179 266 (.int (10) 265), e P S180 267 (.ref 71), e P S2 268 .none] 2), #[]⟩
noncomputable def o73 (P : Params) : Obj := ⟨(.type L69), none, (.cls ⟨S172, [(.ref 24)], [(.ref 73), (.ref 24), (.type L94), (.type L73), (.type L71), (.type L60)], 72, S172, true, [], [], false, none, false⟩), #[(some (.ref 64)), none, (some (.str S172 255)), (some (.str S172 263)), (some (.builtin L150)), (some (.bool true))]⟩
noncomputable def o74 (P : Params) : Obj := ⟨(.type L67), none, (.fields #[(.ref 73), (.ref 73), (.ref 73)]), #[]⟩
noncomputable def o75 (P : Params) : Obj := ⟨(.type L148), none, (.fields #[(.builtin L153), (.ref 73)]), #[]⟩
noncomputable def o76 (P : Params) : Obj := ⟨(.type L68), none, (.seq #[(.ref 24)] 0), #[]⟩
noncomputable def o77 (P : Params) : Obj := ⟨(.type L148), none, (.fields #[(.builtin L149), (.type L69)]), #[]⟩
noncomputable def o78 (P : Params) : Obj := ⟨(.type L0), none, (.dict #[e P S177 278 (.str S167 187), e P S178 280 (.str S173 279), e P S179 282 (.int (12) 281), e P S180 283 (.ref 83)] 4), #[]⟩
noncomputable def o79 (P : Params) : Obj := ⟨(.type L68), none, (.seq #[] 0), #[]⟩
noncomputable def o80 (P : Params) : Obj := ⟨.none, none, (.fields #[]), #[]⟩
noncomputable def o81 (P : Params) : Obj := ⟨(.type L146), none, (.fields #[(.str S173 273), (.str S173 274), (.str S164 275), (.int (12) 0), (.int (0) 0), (.int (0) 0), (.int (0) 0), (.int (0) 0), (.ref 79), (.bool false), (.int (181) 0), (.ref 80), .none, .none, .none, .none, (.int (276) 0), (.int (12) 0), (.str S164 277)]), #[]⟩
noncomputable def o82 (P : Params) : Obj := ⟨(.type L147), none, .plain, #[(some (.ref 81)), (some (.ref 3)), (some (.ref 78)), none, (some (.str S167 187)), none, (some (.ref 0))]⟩
noncomputable def o83 (P : Params) : Obj := ⟨(.type L68), none, (.seq #[] 0), #[]⟩
noncomputable def o84 (P : Params) : Obj := ⟨(.type L0), none, (.dict #[e P S177 278 (.str S167 187), e P S179 282 (.int (12) 281), e P S180 283 (.ref 83), e P S2 284 .none] 2), #[]⟩
noncomputable def o85 (P : Params) : Obj := ⟨(.type L69), none, (.cls ⟨S173, [(.ref 24)], [(.ref 85), (.ref 24), (.type L94), (.type L73), (.type L71), (.type L60)], 84, S173, true, [], [], false, none, false⟩), #[(some (.ref 76)), none, (some (.str S173 271)), (some (.str S173 279)), (some (.builtin L150)), (some (.bool true))]⟩
noncomputable def o86 (P : Params) : Obj := ⟨(.type L67), none, (.fields #[(.ref 85), (.ref 85), (.ref 85)]), #[]⟩
noncomputable def o87 (P : Params) : Obj := ⟨(.type L148), none, (.fields #[(.builtin L153), (.ref 85)]), #[]⟩
noncomputable def o88 (P : Params) : Obj := ⟨(.type L68), none, (.seq #[(.ref 24)] 0), #[]⟩
noncomputable def o89 (P : Params) : Obj := ⟨(.type L148), none, (.fields #[(.builtin L149), (.type L69)]), #[]⟩
noncomputable def o90 (P : Params) : Obj := ⟨(.type L0), none, (.dict #[e P S177 294 (.str S167 187), e P S178 296 (.str S174 295), e P S179 298 (.int (14) 297), e P S180 299 (.ref 95)] 4), #[]⟩
noncomputable def o91 (P : Params) : Obj := ⟨(.type L68), none, (.seq #[] 0), #[]⟩
noncomputable def o92 (P : Params) : Obj := ⟨.none, none, (.fields #[]), #[]⟩
noncomputable def o93 (P : Params) : Obj := ⟨(.type L146), none, (.fields #[(.str S174 289), (.str S174 290), (.str S164 291), (.int (14) 0), (.int (0) 0), (.int (0) 0), (.int (0) 0), (.int (0) 0), (.ref 91), (.bool false), (.int (181) 0), (.ref 92), .none, .none, .none, .none, (.int (292) 0), (.int (14) 0), (.str S164 293)]), #[]⟩
noncomputable def o94 (P : Params) : Obj := ⟨(.type L147), none, .plain, #[(some (.ref 93)), (some (.ref 3)), (some (.ref 90)), none, (some (.str S167 187)), none, (some (.ref 0))]⟩
noncomputable def o95 (P : Params) : Obj := ⟨(.type L68), none, (.seq #[] 0), #[]⟩
noncomputable def o96 (P : Params) : Obj := ⟨(.type L0), none, (.dict #[e P S177 294 (.str S167 187), e P S179 298 (.int (14) 297), e P S180 299 (.ref 95), e P S2 300 .none] 2), #[]⟩
noncomputable def o97 (P : Params) : Obj := ⟨(.type L69), none, (.cls ⟨S174, [(.ref 24)], [(.ref 97), (.ref 24), (.type L94), (.type L73), (.type L71), (.type L60)], 96, S174, true, [], [], false, none, false⟩), #[(some (.ref 88)), none, (some (.str S174 287)), (some (.str S174 295)), (some (.builtin L150)), (some (.bool true))]⟩
noncomputable def o98 (P : Params) : Obj := ⟨(.type L67), none, (.fields #[(.ref 97), (.ref 97), (.ref 97)]), #[]⟩
noncomputable def o99 (P : Params) : Obj := ⟨(.type L148), none, (.fields #[(.builtin L153), (.ref 97)]), #[]⟩
noncomputable def o100 (P : Params) : Obj := ⟨(.type L68), none, (.seq #[(.ref 24)] 0), #[]⟩
noncomputable def o101 (P : Params) : Obj := ⟨(.type L148), none, (.fields #[(.builtin L149), (.type L69)]), #[]⟩
noncomputable def o102 (P : Params) : Obj := ⟨(.type L0), none, (.dict #[e P S177 310 (.str S167 187), e P S178 312 (.str S175 311), e P S179 314 (.int (16) 313), e P S180 315 (.ref 107)] 4), #[]⟩
noncomputable def o103 (P : Params) : Obj := ⟨(.type L68), none, (.seq #[] 0), #[]⟩
noncomputable def o104 (P : Params) : Obj := ⟨.none, none, (.fields #[]), #[]⟩
noncomputable def o105 (P : Params) : Obj := ⟨(.type L146), none, (.fields #[(.str S175 305), (.str S175 306), (.str S164 307), (.int (16) 0), (.int (0) 0), (.int (0) 0), (.int (0) 0), (.int (0) 0), (.ref 103), (.bool false), (.int (181) 0), (.ref 104), .none, .none, .none, .none, (.int (308) 0), (.int (16) 0), (.str S164 309)]), #[]⟩
noncomputable def o106 (P : Params) : Obj := ⟨(.type L147), none, .plain, #[(some (.ref 105)), (some (.ref 3)), (some (.ref 102)), none, (some (.str S167 187)), none, (some (.ref 0))]⟩
noncomputable def o107 (P : Params) : Obj := ⟨(.type L68), none, (.seq #[] 0), #[]⟩
noncomputable def o108 (P : Params) : Obj := ⟨(.type L0), none, (.dict #[e P S177 310 (.str S167 187), e P S179 314 (.int (16) 313), e P S180 315 (.ref 107), e P S2 316 .none] 2), #[]⟩
noncomputable def o109 (P : Params) : Obj := ⟨(.type L69), none, (.cls ⟨S175, [(.ref 24)], [(.ref 109), (.ref 24), (.type L94), (.type L73), (.type L71), (.type L60)], 108, S175, true, [], [], false, none, false⟩), #[(some (.ref 100)), none, (some (.str S175 303)), (some (.str S175 311)), (some (.builtin L150)), (some (.bool true))]⟩
noncomputable def o110 (P : Params) : Obj := ⟨(.type L67), none, (.fields #[(.ref 109), (.ref 109), (.ref 109)]), #[]⟩
noncomputable def o111 (P : Params) : Obj := ⟨(.type L148), none, (.fields #[(.builtin L153), (.ref 109)]), #[]⟩
noncomputable def o112 (P : Params) : Obj := ⟨(.type L68), none, (.seq #[(.ref 24)] 0), #[]⟩
noncomputable def o113 (P : Params) : Obj := ⟨(.type L148), none, (.fields #[(.builtin L149), (.type L69)]), #[]⟩
noncomputable def o114 (P : Params) : Obj := ⟨(.type L0), none, (.dict #[e P S177 326 (.str S167 187), e P S178 328 (.str S176 327), e P S179 330 (.int (18) 329), e P S180 331 (.ref 119)] 4), #[]⟩
noncomputable def o115 (P : Params) : Obj := ⟨(.type L68), none, (.seq #[] 0), #[]⟩
noncomputable def o116 (P : Params) : Obj := ⟨.none, none, (.fields #[]), #[]⟩
noncomputable def o117 (P : Params) : Obj := ⟨(.type L146), none, (.fields #[(.str S176 321), (.str S176 322), (.str S164 323), (.int (18) 0), (.int (0) 0), (.int (0) 0), (.int (0) 0), (.int (0) 0), (.ref 115), (.bool false), (.int (181) 0), (.ref 116), .none, .none, .none, .none, (.int (324) 0), (.int (18) 0), (.str S164 325)]), #[]⟩
noncomputable def o118 (P : Params) : Obj := ⟨(.type L147), none, .plain, #[(some (.ref 117)), (some (.ref 3)), (some (.ref 114)), none, (some (.str S167 187)), none, (some (.ref 0))]⟩
noncomputable def o119 (P : Params) : Obj := ⟨(.type L68), none, (.seq #[] 0), #[]⟩
noncomputable def o120 (P : Params) : Obj := ⟨(.type L0), none, (.dict #[e P S177 326 (.str S167 187), e P S179 330 (.int (18) 329), e P S180 331 (.ref 119), e P S2 332 .none] 2), #[]⟩
noncomputable def o121 (P : Params) : Obj := ⟨(.type L69), none, (.cls ⟨S176, [(.ref 24)], [(.ref 121), (.ref 24), (.type L94), (.type L73), (.type L71), (.type L60)], 120, S176, true, [], [], false, none, false⟩), #[(some (.ref 112)), none, (some (.str S176 319)), (some (.str S176 327)), (some (.builtin L150)), (some (.bool true))]⟩
noncomputable def o122 (P : Params) : Obj := ⟨(.type L67), none, (.fields #[(.ref 121), (.ref 121), (.ref 121)]), #[]⟩
noncomputable def o123 (P : Params) : Obj := ⟨(.type L148), none, (.fields #[(.builtin L153), (.ref 121)]), #[]⟩
noncomputable def t0 : Params → BT := (f boot_o_0 (f boot_o_1 (f o3v1 (f boot_o_7 (f o15 (f o31 (f o63 z z) (f o95 z z)) (f o47 (f o79 z z) (f o111 z z))) (f o23 (f o39 (f o71 z z) (f o103 z z)) (f o55 (f o87 z z) (f o119 z z)))) (f o11 (f o19 (f o35 (f o67 z z) (f o99 z z)) (f o51 (f o83 z z) (f o115 z z))) (f o27 (f o43 (f o75 z z) (f o107 z z)) (f o59 (f o91 z z) (f o123 z z))))) (f boot_o_5 (f boot_o_9 (f o17 (f o33 (f o65 z z) (f o97 z z)) (f o49 (f o81 z z) (f o113 z z))) (f o25 (f o41 (f o73 z z) (f o105 z z)) (f o57 (f o89 z z) (f o121 z z)))) (f o13 (f o21 (f o37 (f o69 z z) (f o101 z z)) (f o53 (f o85 z z) (f o117 z z))) (f o29 (f o45 (f o77 z z) (f o109 z z)) (f o61 (f o93 z z) z))))) (f boot_o_2 (f boot_o_4 (f boot_o_8 (f o16 (f o32 (f o64 z z) (f o96 z z)) (f o48 (f o80 z z) (f o112 z z))) (f o24 (f o40 (f o72 z z) (f o104 z z)) (f o56 (f o88 z z) (f o120 z z)))) (f o12v1 (f o20 (f o36 (f o68 z z) (f o100 z z)) (f o52 (f o84 z z) (f o116 z z))) (f o28 (f o44 (f o76 z z) (f o108 z z)) (f o60 (f o92 z z) z)))) (f boot_o_6 (f boot_o_10 (f o18 (f o34 (f o66 z z) (f o98 z z)) (f o50 (f o82 z z) (f o114 z z))) (f o26 (f o42 (f o74 z z) (f o106 z z)) (f o58 (f o90 z z) (f o122 z z)))) (f o14 (f o22 (f o38 (f o70 z z) (f o102 z z)) (f o54 (f o86 z z) (f o118 z z))) (f o30 (f o46 (f o78 z z) (f o110 z z)) (f o62 (f o94 z z) z))))))
noncomputable abbrev s0 (w : World) (os : OsState) : SharedT := ⟨t0 w.params, 124, { }, (Array.mk []), ⟨0, 0, 0, 0⟩, 335, os⟩
noncomputable abbrev p0 : Pos := ⟨18, 0, 19, 8⟩
noncomputable abbrev st0 : List Stmt := (pt.main.body.drop 0).take 10
theorem q0 (w : World) : (fun os => segRunT treeTable pt w m0 an 1 1900 (sB w os) ⟨(execs st0 en).wrap doneF deadEnd id id, cE, pB, B⟩) = fun os => some (.next, s0 w os, cE, p0) := by
  rw [PySem.W.Fast.te10110043849684766642, PySem.W.Fast.te14364793385576792824, PySem.W.Fast.te12563942051412417395]; kernel_rfl
noncomputable def o3v2 (P : Params) : Obj := ⟨(.type L0), none, (.dict #[e P S0 165 (.str S182 482), e P S2 166 .none, e P S3 167 .none, e P S4 168 (.builtin L144), e P S5 169 .none, e P S161 170 (.ref 6), e P S162 171 (.ref 4), e P S163 173 (.str S164 172), e P S165 174 .none, e P S168 206 (.ref 24), e P S169 222 (.ref 37), e P S170 238 (.ref 49), e P S171 254 (.ref 61), e P S172 270 (.ref 73), e P S173 286 (.ref 85), e P S174 302 (.ref 97), e P S175 318 (.ref 109), e P S176 334 (.ref 121), e P S183 350 (.ref 133), e P S184 366 (.ref 145), e P S185 382 (.ref 157), e P S186 398 (.ref 169), e P S187 414 (.ref 181), e P S188 424 (.ref 190), e P S189 431 (.ref 197), e P S190 435 (.int (60) 434), e P S191 441 (.ref 202), e P S192 456 (.ref 209), e P S193 467 (.ref 216), e P S194 481 (.ref 223), e P S195 491 (.ref 230), e P S196 498 (.ref 237), e P S197 507 (.ref 244), e P S198 514 (.ref 251), e P S199 522 (.ref 258), e P S200 531 (.ref 265), e P S201 542 (.ref 272), e P S202 548 (.ref 277), e P S203 559 (.ref 284), e P S204 565 (.ref 289), e P S205 573 (.ref 296)] 41), #[]⟩
noncomputable def o12v2 (P : Params) : Obj := ⟨.none, none, (.fields #[(.int (2) 0), (.int (0) 0), (.ref 20), (.int (4) 0), (.int (0) 0), (.ref 33), (.int (6) 0), (.int (0) 0), (.ref 45), (.int (8) 0), (.int (0) 0), (.ref 57), (.int (10) 0), (.int (0) 0), (.ref 69), (.int (12) 0), (.int (0) 0), (.ref 81), (.int (14) 0), (.int (0) 0), (.ref 93), (.int (16) 0), (.int (0) 0), (.ref 105), (.int (18) 0), (.int (0) 0), (.ref 117), (.int (20) 0), (.int (0) 0), (.ref 129), (.int (22) 0), (.int (0) 0), (.ref 141), (.int (24) 0), (.int (0) 0), (.ref 153), (.int (26) 0), (.int (0) 0), (.ref 165), (.int (28) 0), (.int (0) 0), (.ref 177), (.int (31) 0), (.int (0) 0), (.ref 189), (.int (33) 0), (.int (0) 0), (.ref 196), (.int (37) 0), (.int (0) 0), (.ref 201), (.int (41) 0), (.int (0) 0), (.ref 208), (.int (49) 0), (.int (0) 0), (.ref 215), (.int (56) 0), (.int (0) 0), (.ref 222), (.int (71) 0), (.int (0) 0), (.ref 229), (.int (75) 0), (.int (0) 0), (.ref 236), (.int (77) 0), (.int (0) 0), (.ref 243), (.int (83) 0), (.int (0) 0), (.ref 250), (.int (85) 0), (.int (0) 0), (.ref 257), (.int (88) 0), (.int (0) 0), (.ref 264), (.int (91) 0), (.int (0) 0), (.ref 271), (.int (98) 0), (.int (0) 0), (.ref 276), (.int (105) 0), (.int (0) 0), (.ref 283), (.int (111) 0), (.int (0) 0), (.ref 288), (.int (132) 0), (.int (0) 0), (.ref 295)]), #[]⟩
noncomputable def o24v1 (P : Params) : Obj := ⟨(.type L69), none, (.cls ⟨S168, [(.type L94)], [(.ref 24), (.type L94), (.type L73), (.type L71), (.type L60)], 23, S168, true, [], [(.ref 37), (.ref 49), (.ref 61), (.ref 73), (.ref 85), (.ref 97), (.ref 109), (.ref 121), (.ref 133), (.ref 145), (.ref 157), (.ref 169), (.ref 181)], false, none, false⟩), #[(some (.ref 15)), none, (some (.str S168 189)), (some (.str S168 197)), (some (.builtin L150)), (some (.bool true))]⟩
noncomputable def o124 (P : Params) : Obj := ⟨(.type L68), none, (.seq #[(.ref 24)] 0), #[]⟩
noncomputable def o125 (P : Params) : Obj := ⟨(.type L148), none, (.fields #[(.builtin L149), (.type L69)]), #[]⟩
noncomputable def o126 (P : Params) : Obj := ⟨(.type L0), none, (.dict #[e P S177 342 (.str S167 187), e P S178 344 (.str S183 343), e P S179 346 (.int (20) 345), e P S180 347 (.ref 131)] 4), #[]⟩
noncomputable def o127 (P : Params) : Obj := ⟨(.type L68), none, (.seq #[] 0), #[]⟩
noncomputable def o128 (P : Params) : Obj := ⟨.none, none, (.fields #[]), #[]⟩
noncomputable def o129 (P : Params) : Obj := ⟨(.type L146), none, (.fields #[(.str S183 337), (.str S183 338), (.str S164 339), (.int (20) 0), (.int (0) 0), (.int (0) 0), (.int (0) 0), (.int (0) 0), (.ref 127), (.bool false), (.int (181) 0), (.ref 128), .none, .none, .none, .none, (.int (340) 0), (.int (20) 0), (.str S164 341)]), #[]⟩
noncomputable def o130 (P : Params) : Obj := ⟨(.type L147), none, .plain, #[(some (.ref 129)), (some (.ref 3)), (some (.ref 126)), none, (some (.str S167 187)), none, (some (.ref 0))]⟩
noncomputable def o131 (P : Params) : Obj := ⟨(.type L68), none, (.seq #[] 0), #[]⟩
noncomputable def o132 (P : Params) : Obj := ⟨(.type L0), none, (.dict #[e P S177 342 (.str S167 187), e P S179 346 (.int (20) 345), e P S180 347 (.ref 131), e P S2 348 .none] 2), #[]⟩
noncomputable def o133 (P : Params) : Obj := ⟨(.type L69), none, (.cls ⟨S183, [(.ref 24)], [(.ref 133), (.ref 24), (.type L94), (.type L73), (.type L71), (.type L60)], 132, S183, true, [], [], false, none, false⟩), #[(some (.ref 124)), none, (some (.str S183 335)), (some (.str S183 343)), (some (.builtin L150)), (some (.bool true))]⟩
noncomputable def o134 (P : Params) : Obj := ⟨(.type L67), none, (.fields #[(.ref 133), (.ref 133), (.ref 133)]), #[]⟩
noncomputable def o135 (P : Params) : Obj := ⟨(.type L148), none, (.fields #[(.builtin L153), (.ref 133)]), #[]⟩
noncomputable def o136 (P : Params) : Obj := ⟨(.type L68), none, (.seq #[(.ref 24)] 0), #[]⟩
noncomputable def o137 (P : Params) : Obj := ⟨(.type L148), none, (.fields #[(.builtin L149), (.type L69)]), #[]⟩
noncomputable def o138 (P : Params) : Obj := ⟨(.type L0), none, (.dict #[e P S177 358 (.str S167 187), e P S178 360 (.str S184 359), e P S179 362 (.int (22) 361), e P S180 363 (.ref 143)] 4), #[]⟩
noncomputable def o139 (P : Params) : Obj := ⟨(.type L68), none, (.seq #[] 0), #[]⟩
noncomputable def o140 (P : Params) : Obj := ⟨.none, none, (.fields #[]), #[]⟩
noncomputable def o141 (P : Params) : Obj := ⟨(.type L146), none, (.fields #[(.str S184 353), (.str S184 354), (.str S164 355), (.int (22) 0), (.int (0) 0), (.int (0) 0), (.int (0) 0), (.int (0) 0), (.ref 139), (.bool false), (.int (181) 0), (.ref 140), .none, .none, .none, .none, (.int (356) 0), (.int (22) 0), (.str S164 357)]), #[]⟩
noncomputable def o142 (P : Params) : Obj := ⟨(.type L147), none, .plain, #[(some (.ref 141)), (some (.ref 3)), (some (.ref 138)), none, (some (.str S167 187)), none, (some (.ref 0))]⟩
noncomputable def o143 (P : Params) : Obj := ⟨(.type L68), none, (.seq #[] 0), #[]⟩
noncomputable def o144 (P : Params) : Obj := ⟨(.type L0), none, (.dict #[e P S177 358 (.str S167 187), e P S179 362 (.int (22) 361), e P S180 363 (.ref 143), e P S2 364 .none] 2), #[]⟩
noncomputable def o145 (P : Params) : Obj := ⟨(.type L69), none, (.cls ⟨S184, [(.ref 24)], [(.ref 145), (.ref 24), (.type L94), (.type L73), (.type L71), (.type L60)], 144, S184, true, [], [], false, none, false⟩), #[(some (.ref 136)), none, (some (.str S184 351)), (some (.str S184 359)), (some (.builtin L150)), (some (.bool true))]⟩
noncomputable def o146 (P : Params) : Obj := ⟨(.type L67), none, (.fields #[(.ref 145), (.ref 145), (.ref 145)]), #[]⟩
noncomputable def o147 (P : Params) : Obj := ⟨(.type L148), none, (.fields #[(.builtin L153), (.ref 145)]), #[]⟩
noncomputable def o148 (P : Params) : Obj := ⟨(.type L68), none, (.seq #[(.ref 24)] 0), #[]⟩
noncomputable def o149 (P : Params) : Obj := ⟨(.type L148), none, (.fields #[(.builtin L149), (.type L69)]), #[]⟩
noncomputable def o150 (P : Params) : Obj := ⟨(.type L0), none, (.dict #[e P S177 374 (.str S167 187), e P S178 376 (.str S185 375), e P S179 378 (.int (24) 377), e P S180 379 (.ref 155)] 4), #[]⟩
noncomputable def o151 (P : Params) : Obj := ⟨(.type L68), none, (.seq #[] 0), #[]⟩
noncomputable def o152 (P : Params) : Obj := ⟨.none, none, (.fields #[]), #[]⟩
noncomputable def o153 (P : Params) : Obj := ⟨(.type L146), none, (.fields #[(.str S185 369), (.str S185 370), (.str S164 371), (.int (24) 0), (.int (0) 0), (.int (0) 0), (.int (0) 0), (.int (0) 0), (.ref 151), (.bool false), (.int (181) 0), (.ref 152), .none, .none, .none, .none, (.int (372) 0), (.int (24) 0), (.str S164 373)]), #[]⟩
noncomputable def o154 (P : Params) : Obj := ⟨(.type L147), none, .plain, #[(some (.ref 153)), (some (.ref 3)), (some (.ref 150)), none, (some (.str S167 187)), none, (some (.ref 0))]⟩
noncomputable def o155 (P : Params) : Obj := ⟨(.type L68), none, (.seq #[] 0), #[]⟩
noncomputable def o156 (P : Params) : Obj := ⟨(.type L0), none, (.dict #[e P S177 374 (.str S167 187), e P S179 378 (.int (24) 377), e P S180 379 (.ref 155), e P S2 380 .none] 2), #[]⟩
noncomputable def o157 (P : Params) : Obj := ⟨(.type L69), none, (.cls ⟨S185, [(.ref 24)], [(.ref 157), (.ref 24), (.type L94), (.type L73), (.type L71), (.type L60)], 156, S185, true, [], [], false, none, false⟩), #[(some (.ref 148)), none, (some (.str S185 367)), (some (.str S185 375)), (some (.builtin L150)), (some (.bool true))]⟩
noncomputable def o158 (P : Params) : Obj := ⟨(.type L67), none, (.fields #[(.ref 157), (.ref 157), (.ref 157)]), #[]⟩
noncomputable def o159 (P : Params) : Obj := ⟨(.type L148), none, (.fields #[(.builtin L153), (.ref 157)]), #[]⟩
noncomputable def o160 (P : Params) : Obj := ⟨(.type L68), none, (.seq #[(.ref 24)] 0), #[]⟩
noncomputable def o161 (P : Params) : Obj := ⟨(.type L148), none, (.fields #[(.builtin L149), (.type L69)]), #[]⟩
noncomputable def o162 (P : Params) : Obj := ⟨(.type L0), none, (.dict #[e P S177 390 (.str S167 187), e P S178 392 (.str S186 391), e P S179 394 (.int (26) 393), e P S180 395 (.ref 167)] 4), #[]⟩
noncomputable def o163 (P : Params) : Obj := ⟨(.type L68), none, (.seq #[] 0), #[]⟩
noncomputable def o164 (P : Params) : Obj := ⟨.none, none, (.fields #[]), #[]⟩
noncomputable def o165 (P : Params) : Obj := ⟨(.type L146), none, (.fields #[(.str S186 385), (.str S186 386), (.str S164 387), (.int (26) 0), (.int (0) 0), (.int (0) 0), (.int (0) 0), (.int (0) 0), (.ref 163), (.bool false), (.int (181) 0), (.ref 164), .none, .none, .none, .none, (.int (388) 0), (.int (26) 0), (.str S164 389)]), #[]⟩
noncomputable def o166 (P : Params) : Obj := ⟨(.type L147), none, .plain, #[(some (.ref 165)), (some (.ref 3)), (some (.ref 162)), none, (some (.str S167 187)), none, (some (.ref 0))]⟩
noncomputable def o167 (P : Params) : Obj := ⟨(.type L68), none, (.seq #[] 0), #[]⟩
noncomputable def o168 (P : Params) : Obj := ⟨(.type L0), none, (.dict #[e P S177 390 (.str S167 187), e P S179 394 (.int (26) 393), e P S180 395 (.ref 167), e P S2 396 .none] 2), #[]⟩
noncomputable def o169 (P : Params) : Obj := ⟨(.type L69), none, (.cls ⟨S186, [(.ref 24)], [(.ref 169), (.ref 24), (.type L94), (.type L73), (.type L71), (.type L60)], 168, S186, true, [], [], false, none, false⟩), #[(some (.ref 160)), none, (some (.str S186 383)), (some (.str S186 391)), (some (.builtin L150)), (some (.bool true))]⟩
noncomputable def o170 (P : Params) : Obj := ⟨(.type L67), none, (.fields #[(.ref 169), (.ref 169), (.ref 169)]), #[]⟩
noncomputable def o171 (P : Params) : Obj := ⟨(.type L148), none, (.fields #[(.builtin L153), (.ref 169)]), #[]⟩
noncomputable def o172 (P : Params) : Obj := ⟨(.type L68), none, (.seq #[(.ref 24)] 0), #[]⟩
noncomputable def o173 (P : Params) : Obj := ⟨(.type L148), none, (.fields #[(.builtin L149), (.type L69)]), #[]⟩
noncomputable def o174 (P : Params) : Obj := ⟨(.type L0), none, (.dict #[e P S177 406 (.str S167 187), e P S178 408 (.str S187 407), e P S179 410 (.int (28) 409), e P S180 411 (.ref 179)] 4), #[]⟩
noncomputable def o175 (P : Params) : Obj := ⟨(.type L68), none, (.seq #[] 0), #[]⟩
noncomputable def o176 (P : Params) : Obj := ⟨.none, none, (.fields #[]), #[]⟩
noncomputable def o177 (P : Params) : Obj := ⟨(.type L146), none, (.fields #[(.str S187 401), (.str S187 402), (.str S164 403), (.int (28) 0), (.int (0) 0), (.int (0) 0), (.int (0) 0), (.int (0) 0), (.ref 175), (.bool false), (.int (181) 0), (.ref 176), .none, .none, .none, .none, (.int (404) 0), (.int (28) 0), (.str S164 405)]), #[]⟩
noncomputable def o178 (P : Params) : Obj := ⟨(.type L147), none, .plain, #[(some (.ref 177)), (some (.ref 3)), (some (.ref 174)), none, (some (.str S167 187)), none, (some (.ref 0))]⟩
noncomputable def o179 (P : Params) : Obj := ⟨(.type L68), none, (.seq #[] 0), #[]⟩
noncomputable def o180 (P : Params) : Obj := ⟨(.type L0), none, (.dict #[e P S177 406 (.str S167 187), e P S179 410 (.int (28) 409), e P S180 411 (.ref 179), e P S2 412 .none] 2), #[]⟩
noncomputable def o181 (P : Params) : Obj := ⟨(.type L69), none, (.cls ⟨S187, [(.ref 24)], [(.ref 181), (.ref 24), (.type L94), (.type L73), (.type L71), (.type L60)], 180, S187, true, [], [], false, none, false⟩), #[(some (.ref 172)), none, (some (.str S187 399)), (some (.str S187 407)), (some (.builtin L150)), (some (.bool true))]⟩
noncomputable def o182 (P : Params) : Obj := ⟨(.type L67), none, (.fields #[(.ref 181), (.ref 181), (.ref 181)]), #[]⟩
noncomputable def o183 (P : Params) : Obj := ⟨(.type L148), none, (.fields #[(.builtin L153), (.ref 181)]), #[]⟩
noncomputable def o184 (P : Params) : Obj := ⟨(.type L68), none, (.seq #[] 0), #[]⟩
noncomputable def o185 (P : Params) : Obj := ⟨.none, none, (.fields #[]), #[]⟩
noncomputable def o186 (P : Params) : Obj := ⟨(.type L68), none, (.seq #[(.str S206 420), (.str S207 421)] 0), #[]⟩
noncomputable def o187 (P : Params) : Obj := ⟨(.type L68), none, (.seq #[] 0), #[]⟩
noncomputable def o188 (P : Params) : Obj := ⟨.none, none, (.func ⟨S188, S188, L2.defArgs (tp 16), (.stmts (L2.defBody (tp 16))), L2.defScope (tp 16), 0, [], .none, .none, .none, .none, none, .none, .none, 0⟩), #[]⟩
noncomputable def o189 (P : Params) : Obj := ⟨(.type L146), none, (.fields #[(.str S188 417), (.str S188 418), (.str S164 419), (.int (31) 0), (.int (2) 0), (.int (0) 0), (.int (0) 0), (.int (3) 0), (.ref 184), (.bool true), (.int (181) 0), (.ref 185), .none, (.ref 186), (.ref 187), (.ref 188), (.int (422) 0), (.int (31) 0), (.str S164 423)]), #[]⟩
noncomputable abbrev L154 : String := PySem.W.SL.s7174869446012820540x8
noncomputable def o190 (P : Params) : Obj := ⟨(.type L154), none, (.func ⟨S188, S188, L2.defArgs (tp 16), (.stmts (L2.defBody (tp 16))), L2.defScope (tp 16), 3, [], .none, .none, .none, (.str S208 415), none, (.ref 189), .none, 0⟩), #[]⟩
noncomputable def o191 (P : Params) : Obj := ⟨(.type L68), none, (.seq #[] 0), #[]⟩
noncomputable def o192 (P : Params) : Obj := ⟨.none, none, (.fields #[]), #[]⟩
noncomputable def o193 (P : Params) : Obj := ⟨(.type L68), none, (.seq #[(.str S206 428)] 0), #[]⟩
noncomputable def o194 (P : Params) : Obj := ⟨(.type L68), none, (.seq #[] 0), #[]⟩
noncomputable def o195 (P : Params) : Obj := ⟨.none, none, (.func ⟨S189, S189, L2.defArgs (tp 17), (.stmts (L2.defBody (tp 17))), L2.defScope (tp 17), 0, [], .none, .none, .none, .none, none, .none, .none, 0⟩), #[]⟩
noncomputable def o196 (P : Params) : Obj := ⟨(.type L146), none, (.fields #[(.str S189 425), (.str S189 426), (.str S164 427), (.int (33) 0), (.int (1) 0), (.int (0) 0), (.int (0) 0), (.int (3) 0), (.ref 191), (.bool true), (.int (181) 0), (.ref 192), .none, (.ref 193), (.ref 194), (.ref 195), (.int (429) 0), (.int (33) 0), (.str S164 430)]), #[]⟩
noncomputable def o197 (P : Params) : Obj := ⟨(.type L154), none, (.func ⟨S189, S189, L2.defArgs (tp 17), (.stmts (L2.defBody (tp 17))), L2.defScope (tp 17), 3, [], .none, .none, .none, (.str S208 415), none, (.ref 196), .none, 0⟩), #[]⟩
noncomputable def o198 (P : Params) : Obj := ⟨(.type L68), none, (.seq #[] 0), #[]⟩
noncomputable def o199 (P : Params) : Obj := ⟨.none, none, (.fields #[]), #[]⟩
noncomputable def o200 (P : Params) : Obj := ⟨.none, none, (.func ⟨S191, S191, L2.defArgs (tp 20), (.stmts (L2.defBody (tp 20))), L2.defScope (tp 20), 0, [], .none, .none, .none, .none, none, .none, .none, 0⟩), #[]⟩
noncomputable def o201 (P : Params) : Obj := ⟨(.type L146), none, (.fields #[(.str S191 436), (.str S191 437), (.str S164 438), (.int (37) 0), (.int (1) 0), (.int (0) 0), (.int (0) 0), (.int (3) 0), (.ref 198), (.bool true), (.int (181) 0), (.ref 199), .none, .none, .none, (.ref 200), (.int (439) 0), (.int (37) 0), (.str S164 440)]), #[]⟩
noncomputable def o202 (P : Params) : Obj := ⟨(.type L154), none, (.func ⟨S191, S191, L2.defArgs (tp 20), (.stmts (L2.defBody (tp 20))), L2.defScope (tp 20), 3, [], .none, .none, .none, (.str S209 432), none, (.ref 201), .none, 0⟩), #[]⟩
noncomputable def o203 (P : Params) : Obj := ⟨(.type L68), none, (.seq #[] 0), #[]⟩
noncomputable def o204 (P : Params) : Obj := ⟨.none, none, (.fields #[]), #[]⟩
noncomputable def o205 (P : Params) : Obj := ⟨(.type L68), none, (.seq #[(.str S210 445), (.str S211 446), (.str S212 447), (.str S213 448), (.str S214 449), (.str S215 450), (.str S216 451), (.str S217 452), (.str S218 453)] 0), #[]⟩
noncomputable def o206 (P : Params) : Obj := ⟨(.type L68), none, (.seq #[] 0), #[]⟩
noncomputable def o207 (P : Params) : Obj := ⟨.none, none, (.func ⟨S192, S192, L2.defArgs (tp 21), (.stmts (L2.defBody (tp 21))), L2.defScope (tp 21), 0, [], .none, .none, .none, .none, none, .none, .none, 0⟩), #[]⟩
noncomputable def o208 (P : Params) : Obj := ⟨(.type L146), none, (.fields #[(.str S192 442), (.str S192 443), (.str S164 444), (.int (41) 0), (.int (4) 0), (.int (0) 0), (.int (0) 0), (.int (3) 0), (.ref 203), (.bool true), (.int (181) 0), (.ref 204), .none, (.ref 205), (.ref 206), (.ref 207), (.int (454) 0), (.int (41) 0), (.str S164 455)]), #[]⟩
noncomputable def o209 (P : Params) : Obj := ⟨(.type L154), none, (.func ⟨S192, S192, L2.defArgs (tp 21), (.stmts (L2.defBody (tp 21))), L2.defScope (tp 21), 3, [], .none, .none, .none, (.str S209 432), none, (.ref 208), .none, 0⟩), #[]⟩
noncomputable def o210 (P : Params) : Obj := ⟨(.type L68), none, (.seq #[] 0), #[]⟩
noncomputable def o211 (P : Params) : Obj := ⟨.none, none, (.fields #[]), #[]⟩
noncomputable def o212 (P : Params) : Obj := ⟨(.type L68), none, (.seq #[(.str S210 460), (.str S219 461), (.str S213 462), (.str S220 463), (.str S215 464)] 0), #[]⟩
noncomputable def o213 (P : Params) : Obj := ⟨(.type L68), none, (.seq #[] 0), #[]⟩
noncomputable def o214 (P : Params) : Obj := ⟨.none, none, (.func ⟨S193, S193, L2.defArgs (tp 22), (.stmts (L2.defBody (tp 22))), L2.defScope (tp 22), 0, [], .none, .none, .none, .none, none, .none, .none, 0⟩), #[]⟩
noncomputable def o215 (P : Params) : Obj := ⟨(.type L146), none, (.fields #[(.str S193 457), (.str S193 458), (.str S164 459), (.int (49) 0), (.int (3) 0), (.int (0) 0), (.int (0) 0), (.int (3) 0), (.ref 210), (.bool true), (.int (181) 0), (.ref 211), .none, (.ref 212), (.ref 213), (.ref 214), (.int (465) 0), (.int (49) 0), (.str S164 466)]), #[]⟩
noncomputable def o216 (P : Params) : Obj := ⟨(.type L154), none, (.func ⟨S193, S193, L2.defArgs (tp 22), (.stmts (L2.defBody (tp 22))), L2.defScope (tp 22), 3, [], .none, .none, .none, (.str S209 432), none, (.ref 215), .none, 0⟩), #[]⟩
noncomputable def o217 (P : Params) : Obj := ⟨(.type L68), none, (.seq #[] 0), #[]⟩
noncomputable def o218 (P : Params) : Obj := ⟨.none, none, (.fields #[]), #[]⟩
noncomputable def o219 (P : Params) : Obj := ⟨(.type L68), none, (.seq #[(.str S210 471), (.str S211 472), (.str S213 473), (.str S212 474), (.str S219 475), (.str S221 476), (.str S214 477), (.str S215 478)] 0), #[]⟩
noncomputable def o220 (P : Params) : Obj := ⟨(.type L68), none, (.seq #[] 0), #[]⟩
noncomputable def o221 (P : Params) : Obj := ⟨.none, none, (.func ⟨S194, S194, L2.defArgs (tp 23), (.stmts (L2.defBody (tp 23))), L2.defScope (tp 23), 0, [], .none, .none, .none, .none, none, .none, .none, 0⟩), #[]⟩
noncomputable def o222 (P : Params) : Obj := ⟨(.type L146), none, (.fields #[(.str S194 468), (.str S194 469), (.str S164 470), (.int (56) 0), (.int (3) 0), (.int (0) 0), (.int (0) 0), (.int (3) 0), (.ref 217), (.bool true), (.int (181) 0), (.ref 218), .none, (.ref 219), (.ref 220), (.ref 221), (.int (479) 0), (.int (56) 0), (.str S164 480)]), #[]⟩
noncomputable def o223 (P : Params) : Obj := ⟨(.type L154), none, (.func ⟨S194, S194, L2.defArgs (tp 23), (.stmts (L2.defBody (tp 23))), L2.defScope (tp 23), 3, [], .none, .none, .none, (.str S209 432), none, (.ref 222), .none, 0⟩), #[]⟩
noncomputable def o224 (P : Params) : Obj := ⟨(.type L68), none, (.seq #[] 0), #[]⟩
noncomputable def o225 (P : Params) : Obj := ⟨.none, none, (.fields #[]), #[]⟩
noncomputable def o226 (P : Params) : Obj := ⟨(.type L68), none, (.seq #[(.str S222 487), (.str S223 488)] 0), #[]⟩
noncomputable def o227 (P : Params) : Obj := ⟨(.type L68), none, (.seq #[] 0), #[]⟩
noncomputable def o228 (P : Params) : Obj := ⟨.none, none, (.func ⟨S195, S195, L2.defArgs (tp 25), (.stmts (L2.defBody (tp 25))), L2.defScope (tp 25), 0, [], .none, .none, .none, .none, none, .none, .none, 0⟩), #[]⟩
noncomputable def o229 (P : Params) : Obj := ⟨(.type L146), none, (.fields #[(.str S195 484), (.str S195 485), (.str S164 486), (.int (71) 0), (.int (2) 0), (.int (0) 0), (.int (0) 0), (.int (3) 0), (.ref 224), (.bool true), (.int (181) 0), (.ref 225), .none, (.ref 226), (.ref 227), (.ref 228), (.int (489) 0), (.int (71) 0), (.str S164 490)]), #[]⟩
noncomputable def o230 (P : Params) : Obj := ⟨(.type L154), none, (.func ⟨S195, S195, L2.defArgs (tp 25), (.stmts (L2.defBody (tp 25))), L2.defScope (tp 25), 3, [], .none, .none, .none, (.str S182 482), none, (.ref 229), .none, 0⟩), #[]⟩
noncomputable def o231 (P : Params) : Obj := ⟨(.type L68), none, (.seq #[] 0), #[]⟩
noncomputable def o232 (P : Params) : Obj := ⟨.none, none, (.fields #[]), #[]⟩
noncomputable def o233 (P : Params) : Obj := ⟨(.type L68), none, (.seq #[(.str S224 495)] 0), #[]⟩
noncomputable def o234 (P : Params) : Obj := ⟨(.type L68), none, (.seq #[] 0), #[]⟩
noncomputable def o235 (P : Params) : Obj := ⟨.none, none, (.func ⟨S196, S196, L2.defArgs (tp 26), (.stmts (L2.defBody (tp 26))), L2.defScope (tp 26), 0, [], .none, .none, .none, .none, none, .none, .none, 0⟩), #[]⟩
noncomputable def o236 (P : Params) : Obj := ⟨(.type L146), none, (.fields #[(.str S196 492), (.str S196 493), (.str S164 494), (.int (75) 0), (.int (1) 0), (.int (0) 0), (.int (0) 0), (.int (3) 0), (.ref 231), (.bool true), (.int (181) 0), (.ref 232), .none, (.ref 233), (.ref 234), (.ref 235), (.int (496) 0), (.int (75) 0), (.str S164 497)]), #[]⟩
noncomputable def o237 (P : Params) : Obj := ⟨(.type L154), none, (.func ⟨S196, S196, L2.defArgs (tp 26), (.stmts (L2.defBody (tp 26))), L2.defScope (tp 26), 3, [], .none, .none, .none, (.str S182 482), none, (.ref 236), .none, 0⟩), #[]⟩
noncomputable def o238 (P : Params) : Obj := ⟨(.type L68), none, (.seq #[] 0), #[]⟩
noncomputable def o239 (P : Params) : Obj := ⟨.none, none, (.fields #[]), #[]⟩
noncomputable def o240 (P : Params) : Obj := ⟨(.type L68), none, (.seq #[(.str S225 502), (.str S226 503), (.str S227 504)] 0), #[]⟩
noncomputable def o241 (P : Params) : Obj := ⟨(.type L68), none, (.seq #[] 0), #[]⟩
noncomputable def o242 (P : Params) : Obj := ⟨.none, none, (.func ⟨S197, S197, L2.defArgs (tp 27), (.stmts (L2.defBody (tp 27))), L2.defScope (tp 27), 0, [], .none, .none, .none, .none, none, .none, .none, 0⟩), #[]⟩
noncomputable def o243 (P : Params) : Obj := ⟨(.type L146), none, (.fields #[(.str S197 499), (.str S197 500), (.str S164 501), (.int (77) 0), (.int (2) 0), (.int (0) 0), (.int (0) 0), (.int (3) 0), (.ref 238), (.bool true), (.int (181) 0), (.ref 239), .none, (.ref 240), (.ref 241), (.ref 242), (.int (505) 0), (.int (77) 0), (.str S164 506)]), #[]⟩
noncomputable def o244 (P : Params) : Obj := ⟨(.type L154), none, (.func ⟨S197, S197, L2.defArgs (tp 27), (.stmts (L2.defBody (tp 27))), L2.defScope (tp 27), 3, [], .none, .none, .none, (.str S182 482), none, (.ref 243), .none, 0⟩), #[]⟩
noncomputable def o245 (P : Params) : Obj := ⟨(.type L68), none, (.seq #[] 0), #[]⟩
noncomputable def o246 (P : Params) : Obj := ⟨.none, none, (.fields #[]), #[]⟩
noncomputable def o247 (P : Params) : Obj := ⟨(.type L68), none, (.seq #[(.str S225 511)] 0), #[]⟩
noncomputable def o248 (P : Params) : Obj := ⟨(.type L68), none, (.seq #[] 0), #[]⟩
noncomputable def o249 (P : Params) : Obj := ⟨.none, none, (.func ⟨S198, S198, L2.defArgs (tp 28), (.stmts (L2.defBody (tp 28))), L2.defScope (tp 28), 0, [], .none, .none, .none, .none, none, .none, .none, 0⟩), #[]⟩
noncomputable def o250 (P : Params) : Obj := ⟨(.type L146), none, (.fields #[(.str S198 508), (.str S198 509), (.str S164 510), (.int (83) 0), (.int (1) 0), (.int (0) 0), (.int (0) 0), (.int (3) 0), (.ref 245), (.bool true), (.int (181) 0), (.ref 246), .none, (.ref 247), (.ref 248), (.ref 249), (.int (512) 0), (.int (83) 0), (.str S164 513)]), #[]⟩
noncomputable def o251 (P : Params) : Obj := ⟨(.type L154), none, (.func ⟨S198, S198, L2.defArgs (tp 28), (.stmts (L2.defBody (tp 28))), L2.defScope (tp 28), 3, [], .none, .none, .none, (.str S182 482), none, (.ref 250), .none, 0⟩), #[]⟩
noncomputable def o252 (P : Params) : Obj := ⟨(.type L68), none, (.seq #[] 0), #[]⟩
noncomputable def o253 (P : Params) : Obj := ⟨.none, none, (.fields #[]), #[]⟩
noncomputable def o254 (P : Params) : Obj := ⟨(.type L68), none, (.seq #[(.str S225 518), (.str S228 519)] 0), #[]⟩
noncomputable def o255 (P : Params) : Obj := ⟨(.type L68), none, (.seq #[] 0), #[]⟩
noncomputable def o256 (P : Params) : Obj := ⟨.none, none, (.func ⟨S199, S199, L2.defArgs (tp 29), (.stmts (L2.defBody (tp 29))), L2.defScope (tp 29), 0, [], .none, .none, .none, .none, none, .none, .none, 0⟩), #[]⟩
noncomputable def o257 (P : Params) : Obj := ⟨(.type L146), none, (.fields #[(.str S199 515), (.str S199 516), (.str S164 517), (.int (85) 0), (.int (1) 0), (.int (0) 0), (.int (0) 0), (.int (3) 0), (.ref 252), (.bool true), (.int (181) 0), (.ref 253), .none, (.ref 254), (.ref 255), (.ref 256), (.int (520) 0), (.int (85) 0), (.str S164 521)]), #[]⟩
noncomputable def o258 (P : Params) : Obj := ⟨(.type L154), none, (.func ⟨S199, S199, L2.defArgs (tp 29), (.stmts (L2.defBody (tp 29))), L2.defScope (tp 29), 3, [], .none, .none, .none, (.str S182 482), none, (.ref 257), .none, 0⟩), #[]⟩
noncomputable def o259 (P : Params) : Obj := ⟨(.type L68), none, (.seq #[] 0), #[]⟩
noncomputable def o260 (P : Params) : Obj := ⟨.none, none, (.fields #[]), #[]⟩
noncomputable def o261 (P : Params) : Obj := ⟨(.type L68), none, (.seq #[(.str S225 526), (.str S226 527), (.str S228 528)] 0), #[]⟩
noncomputable def o262 (P : Params) : Obj := ⟨(.type L68), none, (.seq #[] 0), #[]⟩
noncomputable def o263 (P : Params) : Obj := ⟨.none, none, (.func ⟨S200, S200, L2.defArgs (tp 30), (.stmts (L2.defBody (tp 30))), L2.defScope (tp 30), 0, [], .none, .none, .none, .none, none, .none, .none, 0⟩), #[]⟩
noncomputable def o264 (P : Params) : Obj := ⟨(.type L146), none, (.fields #[(.str S200 523), (.str S200 524), (.str S164 525), (.int (88) 0), (.int (2) 0), (.int (0) 0), (.int (0) 0), (.int (3) 0), (.ref 259), (.bool true), (.int (181) 0), (.ref 260), .none, (.ref 261), (.ref 262), (.ref 263), (.int (529) 0), (.int (88) 0), (.str S164 530)]), #[]⟩
noncomputable def o265 (P : Params) : Obj := ⟨(.type L154), none, (.func ⟨S200, S200, L2.defArgs (tp 30), (.stmts (L2.defBody (tp 30))), L2.defScope (tp 30), 3, [], .none, .none, .none, (.str S182 482), none, (.ref 264), .none, 0⟩), #[]⟩
noncomputable def o266 (P : Params) : Obj := ⟨(.type L68), none, (.seq #[] 0), #[]⟩
noncomputable def o267 (P : Params) : Obj := ⟨.none, none, (.fields #[]), #[]⟩
noncomputable def o268 (P : Params) : Obj := ⟨(.type L68), none, (.seq #[(.str S225 535), (.str S229 536), (.str S230 537), (.str S231 538), (.str S232 539)] 0), #[]⟩
noncomputable def o269 (P : Params) : Obj := ⟨(.type L68), none, (.seq #[] 0), #[]⟩
noncomputable def o270 (P : Params) : Obj := ⟨.none, none, (.func ⟨S201, S201, L2.defArgs (tp 31), (.stmts (L2.defBody (tp 31))), L2.defScope (tp 31), 0, [], .none, .none, .none, .none, none, .none, .none, 0⟩), #[]⟩
noncomputable def o271 (P : Params) : Obj := ⟨(.type L146), none, (.fields #[(.str S201 532), (.str S201 533), (.str S164 534), (.int (91) 0), (.int (2) 0), (.int (0) 0), (.int (0) 0), (.int (3) 0), (.ref 266), (.bool true), (.int (181) 0), (.ref 267), .none, (.ref 268), (.ref 269), (.ref 270), (.int (540) 0), (.int (91) 0), (.str S164 541)]), #[]⟩
noncomputable def o272 (P : Params) : Obj := ⟨(.type L154), none, (.func ⟨S201, S201, L2.defArgs (tp 31), (.stmts (L2.defBody (tp 31))), L2.defScope (tp 31), 3, [], .none, .none, .none, (.str S182 482), none, (.ref 271), .none, 0⟩), #[]⟩
noncomputable def o273 (P : Params) : Obj := ⟨(.type L68), none, (.seq #[] 0), #[]⟩
noncomputable def o274 (P : Params) : Obj := ⟨.none, none, (.fields #[]), #[]⟩
noncomputable def o275 (P : Params) : Obj := ⟨.none, none, (.func ⟨S202, S202, L2.defArgs (tp 32), (.stmts (L2.defBody (tp 32))), L2.defScope (tp 32), 0, [], .none, .none, .none, .none, none, .none, .none, 0⟩), #[]⟩
noncomputable def o276 (P : Params) : Obj := ⟨(.type L146), none, (.fields #[(.str S202 543), (.str S202 544), (.str S164 545), (.int (98) 0), (.int (1) 0), (.int (0) 0), (.int (0) 0), (.int (3) 0), (.ref 273), (.bool true), (.int (181) 0), (.ref 274), .none, .none, .none, (.ref 275), (.int (546) 0), (.int (98) 0), (.str S164 547)]), #[]⟩
noncomputable def o277 (P : Params) : Obj := ⟨(.type L154), none, (.func ⟨S202, S202, L2.defArgs (tp 32), (.stmts (L2.defBody (tp 32))), L2.defScope (tp 32), 3, [], .none, .none, .none, (.str S182 482), none, (.ref 276), .none, 0⟩), #[]⟩
noncomputable def o278 (P : Params) : Obj := ⟨(.type L68), none, (.seq #[] 0), #[]⟩
noncomputable def o279 (P : Params) : Obj := ⟨.none, none, (.fields #[]), #[]⟩
noncomputable def o280 (P : Params) : Obj := ⟨(.type L68), none, (.seq #[(.str S233 552), (.str S229 553), (.str S234 554), (.str S235 555), (.str S236 556)] 0), #[]⟩
noncomputable def o281 (P : Params) : Obj := ⟨(.type L68), none, (.seq #[] 0), #[]⟩
noncomputable def o282 (P : Params) : Obj := ⟨.none, none, (.func ⟨S203, S203, L2.defArgs (tp 33), (.stmts (L2.defBody (tp 33))), L2.defScope (tp 33), 0, [], .none, .none, .none, .none, none, .none, .none, 0⟩), #[]⟩
noncomputable def o283 (P : Params) : Obj := ⟨(.type L146), none, (.fields #[(.str S203 549), (.str S203 550), (.str S164 551), (.int (105) 0), (.int (3) 0), (.int (0) 0), (.int (0) 0), (.int (3) 0), (.ref 278), (.bool true), (.int (181) 0), (.ref 279), .none, (.ref 280), (.ref 281), (.ref 282), (.int (557) 0), (.int (105) 0), (.str S164 558)]), #[]⟩
noncomputable def o284 (P : Params) : Obj := ⟨(.type L154), none, (.func ⟨S203, S203, L2.defArgs (tp 33), (.stmts (L2.defBody (tp 33))), L2.defScope (tp 33), 3, [], .none, .none, .none, (.str S182 482), none, (.ref 283), .none, 0⟩), #[]⟩
noncomputable def o285 (P : Params) : Obj := ⟨(.type L68), none, (.seq #[] 0), #[]⟩
noncomputable def o286 (P : Params) : Obj := ⟨.none, none, (.fields #[]), #[]⟩
noncomputable def o287 (P : Params) : Obj := ⟨.none, none, (.func ⟨S204, S204, L2.defArgs (tp 34), (.stmts (L2.defBody (tp 34))), L2.defScope (tp 34), 0, [], .none, .none, .none, .none, none, .none, .none, 0⟩), #[]⟩
noncomputable def o288 (P : Params) : Obj := ⟨(.type L146), none, (.fields #[(.str S204 560), (.str S204 561), (.str S164 562), (.int (111) 0), (.int (1) 0), (.int (0) 0), (.int (0) 0), (.int (3) 0), (.ref 285), (.bool true), (.int (181) 0), (.ref 286), .none, .none, .none, (.ref 287), (.int (563) 0), (.int (111) 0), (.str S164 564)]), #[]⟩
noncomputable def o289 (P : Params) : Obj := ⟨(.type L154), none, (.func ⟨S204, S204, L2.defArgs (tp 34), (.stmts (L2.defBody (tp 34))), L2.defScope (tp 34), 3, [], .none, .none, .none, (.str S182 482), none, (.ref 288), .none, 0⟩), #[]⟩
noncomputable def o290 (P : Params) : Obj := ⟨(.type L68), none, (.seq #[] 0), #[]⟩
noncomputable def o291 (P : Params) : Obj := ⟨.none, none, (.fields #[]), #[]⟩
noncomputable def o292 (P : Params) : Obj := ⟨(.type L68), none, (.seq #[(.str S222 569), (.str S223 570)] 0), #[]⟩
noncomputable def o293 (P : Params) : Obj := ⟨(.type L68), none, (.seq #[] 0), #[]⟩
noncomputable def o294 (P : Params) : Obj := ⟨.none, none, (.func ⟨S205, S205, L2.defArgs (tp 35), (.stmts (L2.defBody (tp 35))), L2.defScope (tp 35), 0, [], .none, .none, .none, .none, none, .none, .none, 0⟩), #[]⟩
noncomputable def o295 (P : Params) : Obj := ⟨(.type L146), none, (.fields #[(.str S205 566), (.str S205 567), (.str S164 568), (.int (132) 0), (.int (1) 0), (.int (0) 0), (.int (0) 0), (.int (3) 0), (.ref 290), (.bool true), (.int (181) 0), (.ref 291), .none, (.ref 292), (.ref 293), (.ref 294), (.int (571) 0), (.int (132) 0), (.str S164 572)]), #[]⟩
noncomputable def o296 (P : Params) : Obj := ⟨(.type L154), none, (.func ⟨S205, S205, L2.defArgs (tp 35), (.stmts (L2.defBody (tp 35))), L2.defScope (tp 35), 3, [], .none, .none, .none, (.str S182 482), none, (.ref 295), .none, 0⟩), #[]⟩
noncomputable def t1 : Params → BT := (f boot_o_0 (f boot_o_1 (f o3v2 (f boot_o_7 (f o15 (f o31 (f o63 (f o127 (f o255 z z) z) (f o191 z z)) (f o95 (f o159 (f o287 z z) z) (f o223 z z))) (f o47 (f o79 (f o143 (f o271 z z) z) (f o207 z z)) (f o111 (f o175 z z) (f o239 z z)))) (f o23 (f o39 (f o71 (f o135 (f o263 z z) z) (f o199 z z)) (f o103 (f o167 (f o295 z z) z) (f o231 z z))) (f o55 (f o87 (f o151 (f o279 z z) z) (f o215 z z)) (f o119 (f o183 z z) (f o247 z z))))) (f o11 (f o19 (f o35 (f o67 (f o131 (f o259 z z) z) (f o195 z z)) (f o99 (f o163 (f o291 z z) z) (f o227 z z))) (f o51 (f o83 (f o147 (f o275 z z) z) (f o211 z z)) (f o115 (f o179 z z) (f o243 z z)))) (f o27 (f o43 (f o75 (f o139 (f o267 z z) z) (f o203 z z)) (f o107 (f o171 z z) (f o235 z z))) (f o59 (f o91 (f o155 (f o283 z z) z) (f o219 z z)) (f o123 (f o187 z z) (f o251 z z)))))) (f boot_o_5 (f boot_o_9 (f o17 (f o33 (f o65 (f o129 (f o257 z z) z) (f o193 z z)) (f o97 (f o161 (f o289 z z) z) (f o225 z z))) (f o49 (f o81 (f o145 (f o273 z z) z) (f o209 z z)) (f o113 (f o177 z z) (f o241 z z)))) (f o25 (f o41 (f o73 (f o137 (f o265 z z) z) (f o201 z z)) (f o105 (f o169 z z) (f o233 z z))) (f o57 (f o89 (f o153 (f o281 z z) z) (f o217 z z)) (f o121 (f o185 z z) (f o249 z z))))) (f o13 (f o21 (f o37 (f o69 (f o133 (f o261 z z) z) (f o197 z z)) (f o101 (f o165 (f o293 z z) z) (f o229 z z))) (f o53 (f o85 (f o149 (f o277 z z) z) (f o213 z z)) (f o117 (f o181 z z) (f o245 z z)))) (f o29 (f o45 (f o77 (f o141 (f o269 z z) z) (f o205 z z)) (f o109 (f o173 z z) (f o237 z z))) (f o61 (f o93 (f o157 (f o285 z z) z) (f o221 z z)) (f o125 (f o189 z z) (f o253 z z))))))) (f boot_o_2 (f boot_o_4 (f boot_o_8 (f o16 (f o32 (f o64 (f o128 (f o256 z z) z) (f o192 z z)) (f o96 (f o160 (f o288 z z) z) (f o224 z z))) (f o48 (f o80 (f o144 (f o272 z z) z) (f o208 z z)) (f o112 (f o176 z z) (f o240 z z)))) (f o24v1 (f o40 (f o72 (f o136 (f o264 z z) z) (f o200 z z)) (f o104 (f o168 (f o296 z z) z) (f o232 z z))) (f o56 (f o88 (f o152 (f o280 z z) z) (f o216 z z)) (f o120 (f o184 z z) (f o248 z z))))) (f o12v2 (f o20 (f o36 (f o68 (f o132 (f o260 z z) z) (f o196 z z)) (f o100 (f o164 (f o292 z z) z) (f o228 z z))) (f o52 (f o84 (f o148 (f o276 z z) z) (f o212 z z)) (f o116 (f o180 z z) (f o244 z z)))) (f o28 (f o44 (f o76 (f o140 (f o268 z z) z) (f o204 z z)) (f o108 (f o172 z z) (f o236 z z))) (f o60 (f o92 (f o156 (f o284 z z) z) (f o220 z z)) (f o124 (f o188 z z) (f o252 z z)))))) (f boot_o_6 (f boot_o_10 (f o18 (f o34 (f o66 (f o130 (f o258 z z) z) (f o194 z z)) (f o98 (f o162 (f o290 z z) z) (f o226 z z))) (f o50 (f o82 (f o146 (f o274 z z) z) (f o210 z z)) (f o114 (f o178 z z) (f o242 z z)))) (f o26 (f o42 (f o74 (f o138 (f o266 z z) z) (f o202 z z)) (f o106 (f o170 z z) (f o234 z z))) (f o58 (f o90 (f o154 (f o282 z z) z) (f o218 z z)) (f o122 (f o186 z z) (f o250 z z))))) (f o14 (f o22 (f o38 (f o70 (f o134 (f o262 z z) z) (f o198 z z)) (f o102 (f o166 (f o294 z z) z) (f o230 z z))) (f o54 (f o86 (f o150 (f o278 z z) z) (f o214 z z)) (f o118 (f o182 z z) (f o246 z z)))) (f o30 (f o46 (f o78 (f o142 (f o270 z z) z) (f o206 z z)) (f o110 (f o174 z z) (f o238 z z))) (f o62 (f o94 (f o158 (f o286 z z) z) (f o222 z z)) (f o126 (f o190 z z) (f o254 z z))))))))
noncomputable abbrev s1 (w : World) (os : OsState) : SharedT := ⟨t1 w.params, 297, { }, (Array.mk []), ⟨0, 0, 0, 0⟩, 574, os⟩
noncomputable abbrev p1 : Pos := ⟨132, 0, 136, 15⟩
noncomputable abbrev st1 : List Stmt := (pt.main.body.drop 10).take 26
theorem q1 (w : World) : (fun os => segRunT treeTable pt w m0 an 1 1621 (s0 w os) ⟨(execs st1 en).wrap doneF deadEnd id id, cE, p0, B⟩) = fun os => some (.next, s1 w os, cE, p1) := by
  rw [PySem.W.Fast.te10110043849684766642, PySem.W.Fast.te14364793385576792824, PySem.W.Fast.te12563942051412417395]; kernel_rfl
noncomputable def hF (P : Params) : Heap := ⟨⟨[boot_o_0 P, boot_o_1 P, boot_o_2 P, o3v2 P, boot_o_4 P, boot_o_5 P, boot_o_6 P, boot_o_7 P, boot_o_8 P, boot_o_9 P, boot_o_10 P, o11 P, o12v2 P, o13 P, o14 P, o15 P, o16 P, o17 P, o18 P, o19 P, o20 P, o21 P, o22 P, o23 P, o24v1 P, o25 P, o26 P, o27 P, o28 P, o29 P, o30 P, o31 P, o32 P, o33 P, o34 P, o35 P, o36 P, o37 P, o38 P, o39 P, o40 P, o41 P, o42 P, o43 P, o44 P, o45 P, o46 P, o47 P, o48 P, o49 P, o50 P, o51 P, o52 P, o53 P, o54 P, o55 P, o56 P, o57 P, o58 P, o59 P, o60 P, o61 P, o62 P, o63 P, o64 P, o65 P, o66 P, o67 P, o68 P, o69 P, o70 P, o71 P, o72 P, o73 P, o74 P, o75 P, o76 P, o77 P, o78 P, o79 P, o80 P, o81 P, o82 P, o83 P, o84 P, o85 P, o86 P, o87 P, o88 P, o89 P, o90 P, o91 P, o92 P, o93 P, o94 P, o95 P, o96 P, o97 P, o98 P, o99 P, o100 P, o101 P, o102 P, o103 P, o104 P, o105 P, o106 P, o107 P, o108 P, o109 P, o110 P, o111 P, o112 P, o113 P, o114 P, o115 P, o116 P, o117 P, o118 P, o119 P, o120 P, o121 P, o122 P, o123 P, o124 P, o125 P, o126 P, o127 P, o128 P, o129 P, o130 P, o131 P, o132 P, o133 P, o134 P, o135 P, o136 P, o137 P, o138 P, o139 P, o140 P, o141 P, o142 P, o143 P, o144 P, o145 P, o146 P, o147 P, o148 P, o149 P, o150 P, o151 P, o152 P, o153 P, o154 P, o155 P, o156 P, o157 P, o158 P, o159 P, o160 P, o161 P, o162 P, o163 P, o164 P, o165 P, o166 P, o167 P, o168 P, o169 P, o170 P, o171 P, o172 P, o173 P, o174 P, o175 P, o176 P, o177 P, o178 P, o179 P, o180 P, o181 P, o182 P, o183 P, o184 P, o185 P, o186 P, o187 P, o188 P, o189 P, o190 P, o191 P, o192 P, o193 P, o194 P, o195 P, o196 P, o197 P, o198 P, o199 P, o200 P, o201 P, o202 P, o203 P, o204 P, o205 P, o206 P, o207 P, o208 P, o209 P, o210 P, o211 P, o212 P, o213 P, o214 P, o215 P, o216 P, o217 P, o218 P, o219 P, o220 P, o221 P, o222 P, o223 P, o224 P, o225 P, o226 P, o227 P, o228 P, o229 P, o230 P, o231 P, o232 P, o233 P, o234 P, o235 P, o236 P, o237 P, o238 P, o239 P, o240 P, o241 P, o242 P, o243 P, o244 P, o245 P, o246 P, o247 P, o248 P, o249 P, o250 P, o251 P, o252 P, o253 P, o254 P, o255 P, o256 P, o257 P, o258 P, o259 P, o260 P, o261 P, o262 P, o263 P, o264 P, o265 P, o266 P, o267 P, o268 P, o269 P, o270 P, o271 P, o272 P, o273 P, o274 P, o275 P, o276 P, o277 P, o278 P, o279 P, o280 P, o281 P, o282 P, o283 P, o284 P, o285 P, o286 P, o287 P, o288 P, o289 P, o290 P, o291 P, o292 P, o293 P, o294 P, o295 P, o296 P]⟩, { }⟩
noncomputable abbrev sF (w : World) (os : OsState) : Shared := ⟨hF w.params, (Array.mk []), ⟨0, 0, 0, 0⟩, 574, os⟩
theorem fin (w : World) : (fun os => topRun treeTable pt w m0 an 2 (s1 w os).abs ⟨doneF .next, cE, p1, B⟩) = fun os => some (sF w os) := by
  rw [PySem.W.Fast.te14082659384304107361, PySem.W.Fast.te14364793385576792824]; kernel_rfl
theorem body_eq : behindTheImports pt = st0 ++ (st1 ++ ([])) := by kernel_rfl
noncomputable abbrev MM : Nat := 12 + (1 + (1900 + (1621 + 2)))
theorem run_eq (w : World) (os : OsState) : topRun treeTable pt w m0 an MM (sZ w os) (topStub pt) = some (sF w os) :=
  go_top (congrFun (pre w) os) (piece_block (congrFun (blk w) os) (body_eq ▸ (piece_app (l := st0) (segRun_of (congrFun (q0 w) os)) (piece_app (l := st1) (segRun_of (congrFun (q1 w) os)) (piece_nil (congrFun (fin w) os))))))
noncomputable def loose : List Str := [S168, S169, S170, S171, S172, S173, S174, S175, S176, S183, S184, S185, S186, S187, S188, S189, S190, S191, S192, S193, S194, S195, S196, S197, S198, S199, S200, S201, S202, S203, S204]
noncomputable abbrev NN : Nat := 7164
noncomputable abbrev q : Program := view pt [35]
noncomputable abbrev Xt : Shared → Bool := fun s => xlAt q [] s && recOk [] s
theorem size (w : World) : ((boot_heap w.params).isNs mainGlobals && (Array.mk [] : Array GenState).size == 0, (boot_heap w.params).objs.size, (boot_heap w.params).nsMap mainGlobals "__annotations__") = (true, m0, an) := by
  rw [PySem.W.Fast.te8920871248978507458]; kernel_rfl
theorem looks (w : World) : (fun os => ((staticsOk (importedModules pt.main.body) (boot_heap w.params) (hF w.params) && namesBound pt (hF w.params) && gensDone (sF w os) && laidKept (boot_heap w.params) (hF w.params)), openSeen q loose (importedModules pt.main.body) Xt true (sF w os), HK.obs (sF w os))) = fun _ => (true, openGood q loose, HK.val w) := by
  rw [PySem.W.Fast.te4187177175401517315, PySem.W.Fast.te5923862056798008813]; kernel_rfl
theorem left : LeftO pt q loose Xt HK.obs HK.val NN true := LeftO.of_pieces (boot_open (by kernel_rfl) (by decide) (fun s => rfl)) size run_eq (by decide) looks
end Hd

open PySem PySem.W PyProof.Rows
set_option maxRecDepth 100000 in
set_option maxHeartbeats 0 in
theorem PySem.Challenge.cw_platecuts_k62_loads_refused_holds : PySem.Challenge.rw_platecuts_k62_loads_refused.Holds := by
  w_on; o_law
  refine holds_open (q := view PySem.Challenge.pw_platecuts_k62_loads_refused [35]) (loose := Hd.loose) (Xt := fun s => xlAt (view PySem.Challenge.pw_platecuts_k62_loads_refused [35]) [] s && recOk [] s) (XP := XL (view PySem.Challenge.pw_platecuts_k62_loads_refused [35]) []) (Yf := Hook.obs Hd.HK) (Ya := Hook.val Hd.HK) (YP := InK Pc.kK) (N := Hd.NN) ?hl (Hook.of Hd.HK) (Hook.keeps Hd.HK) (fun s e => xl_of s (Bool.and_eq_true_iff.mp e).1) XL.keeps (by rfl) (by rfl) (by rfl) (fun s e => recFacts_of (Bool.and_eq_true_iff.mp e).2) (by rfl) (by first | assumption | decide +kernel) (by decide +kernel) ⟨rfl, rfl, rfl, rfl, rfl, by decide +kernel⟩ ?hw ?hc
  case hl => exact Hd.pt_eq ▸ Hd.left
  case hw => w_witness2
  k_fill
  refine Pc.walk (l := PySem.Challenge.rw_platecuts_k62_loads_refused) rfl rfl (fun w h Y => Y) ?F
  case F =>
    intro w mg fa h KX G hmg
    refine' Pc.all_mk KX G hmg ?a0 ?l0 ?c0 ?k0 ?a1 ?l1 ?c1 ?k1 ?a2 ?l2 ?c2 ?k2 ?a3 ?l3 ?c3 ?k3 ?a4 ?l4 ?c4 ?k4 ?a5 ?l5 ?c5 ?k5 ?a6 ?l6 ?c6 ?k6 ?a7 ?l7 ?c7 ?k7 ?a8 ?l8 ?c8 ?k8 ?a9 ?l9 ?c9 ?k9 ?a10 ?l10 ?c10 ?k10 ?a11 ?l11 ?c11 ?k11 ?a12 ?l12 ?c12 ?k12 ?a13 ?l13 ?c13 ?k13 ?a14 ?l14 ?c14 ?k14 ?a15 ?l15 ?c15 ?k15 ?a16 ?l16 ?c16 ?k16 ?ePlateError ?eNoBlade ?eNoWeights ?eNoNumber ?eNoKind ?eNoKinds ?eNoLaying ?eNoLying ?eNoPlate ?eNoTable ?eNoTelling ?eNoText ?eNoTree ?eTooLarge ?sysm ?cPlateError ?cNoBlade ?cNoWeights ?cNoNumber ?cNoKind ?cNoKinds ?cNoLaying ?cNoLying ?cNoPlate ?cNoTable ?cNoTelling ?cNoText ?cNoTree ?cTooLarge ?sNoBladePlateError ?sNoBladeNoBlade ?sNoBladeNoWeights ?sNoBladeNoNumber ?sNoBladeNoKind ?sNoBladeNoKinds ?sNoBladeNoLaying ?sNoBladeNoLying ?sNoBladeNoPlate ?sNoBladeNoTable ?sNoBladeNoTelling ?sNoBladeNoText ?sNoBladeNoTree ?sNoBladeTooLarge ?vNoBlade ?kaNoBlade ?kbNoBlade ?kcNoBlade ?kdNoBlade ?keNoBlade ?sNoWeightsPlateError ?sNoWeightsNoBlade ?sNoWeightsNoWeights ?sNoWeightsNoNumber ?sNoWeightsNoKind ?sNoWeightsNoKinds ?sNoWeightsNoLaying ?sNoWeightsNoLying ?sNoWeightsNoPlate ?sNoWeightsNoTable ?sNoWeightsNoTelling ?sNoWeightsNoText ?sNoWeightsNoTree ?sNoWeightsTooLarge ?vNoWeights ?kaNoWeights ?kbNoWeights ?kcNoWeights ?kdNoWeights ?keNoWeights ?sNoNumberPlateError ?sNoNumberNoBlade ?sNoNumberNoWeights ?sNoNumberNoNumber ?sNoNumberNoKind ?sNoNumberNoKinds ?sNoNumberNoLaying ?sNoNumberNoLying ?sNoNumberNoPlate ?sNoNumberNoTable ?sNoNumberNoTelling ?sNoNumberNoText ?sNoNumberNoTree ?sNoNumberTooLarge ?vNoNumber ?kaNoNumber ?kbNoNumber ?kcNoNumber ?kdNoNumber ?keNoNumber ?bPlateError ?z0 ?z1 ?z2 ?z3 ?z4 ?z5 ?z6 ?z7 ?z8 ?z9 ?z10 ?z11 ?z12 ?z13 ?z14 ?z15 ?uc0
    (case a0 => k_is)
    (case l0 => k_is)
    (case c0 => k_is)
    (case k0 => k_is)
    (case a1 => k_is)
    (case l1 => k_is)
    (case c1 => k_is)
    (case k1 => k_is)
    (case a2 => k_is)
    (case l2 => k_is)
    (case c2 => k_is)
    (case k2 => k_is)
    (case a3 => k_is)
    (case l3 => k_is)
    (case c3 => k_is)
    (case k3 => k_is)
    (case a4 => k_is)
    (case l4 => k_is)
    (case c4 => k_is)
    (case k4 => k_is)
    (case a5 => k_is)
    (case l5 => k_is)
    (case c5 => k_is)
    (case k5 => k_is)
    (case a6 => k_is)
    (case l6 => k_is)
    (case c6 => k_is)
    (case k6 => k_is)
    (case a7 => k_is)
    (case l7 => k_is)
    (case c7 => k_is)
    (case k7 => k_is)
    (case a8 => k_is)
    (case l8 => k_is)
    (case c8 => k_is)
    (case k8 => k_is)
    (case a9 => k_is)
    (case l9 => k_is)
    (case c9 => k_is)
    (case k9 => k_is)
    (case a10 => k_is)
    (case l10 => k_is)
    (case c10 => k_is)
    (case k10 => k_is)
    (case a11 => k_is)
    (case l11 => k_is)
    (case c11 => k_is)
    (case k11 => k_is)
    (case a12 => k_is)
    (case l12 => k_is)
    (case c12 => k_is)
    (case k12 => k_is)
    (case a13 => k_is)
    (case l13 => k_is)
    (case c13 => k_is)
    (case k13 => k_is)
    (case a14 => k_is)
    (case l14 => k_is)
    (case c14 => k_is)
    (case k14 => k_is)
    (case a15 => k_is)
    (case l15 => k_is)
    (case c15 => k_is)
    (case k15 => k_is)
    (case a16 => k_is)
    (case l16 => k_is)
    (case c16 => k_is)
    (case k16 => k_is)
    (case ePlateError => k_is)
    (case eNoBlade => k_is)
    (case eNoWeights => k_is)
    (case eNoNumber => k_is)
    (case eNoKind => k_is)
    (case eNoKinds => k_is)
    (case eNoLaying => k_is)
    (case eNoLying => k_is)
    (case eNoPlate => k_is)
    (case eNoTable => k_is)
    (case eNoTelling => k_is)
    (case eNoText => k_is)
    (case eNoTree => k_is)
    (case eTooLarge => k_is)
    (case sysm => kernel_rfl)
    (case cPlateError => k_exc)
    (case cNoBlade => k_exc)
    (case cNoWeights => k_exc)
    (case cNoNumber => k_exc)
    (case cNoKind => k_exc)
    (case cNoKinds => k_exc)
    (case cNoLaying => k_exc)
    (case cNoLying => k_exc)
    (case cNoPlate => k_exc)
    (case cNoTable => k_exc)
    (case cNoTelling => k_exc)
    (case cNoText => k_exc)
    (case cNoTree => k_exc)
    (case cTooLarge => k_exc)
    (case sNoBladePlateError => k_is)
    (case sNoBladeNoBlade => k_is)
    (case sNoBladeNoWeights => k_is)
    (case sNoBladeNoNumber => k_is)
    (case sNoBladeNoKind => k_is)
    (case sNoBladeNoKinds => k_is)
    (case sNoBladeNoLaying => k_is)
    (case sNoBladeNoLying => k_is)
    (case sNoBladeNoPlate => k_is)
    (case sNoBladeNoTable => k_is)
    (case sNoBladeNoTelling => k_is)
    (case sNoBladeNoText => k_is)
    (case sNoBladeNoTree => k_is)
    (case sNoBladeTooLarge => k_is)
    (case vNoBlade => k_is)
    (case kaNoBlade => k_is)
    (case kbNoBlade => k_is)
    (case kcNoBlade => k_is)
    (case kdNoBlade => k_is)
    (case keNoBlade => k_is)
    (case sNoWeightsPlateError => k_is)
    (case sNoWeightsNoBlade => k_is)
    (case sNoWeightsNoWeights => k_is)
    (case sNoWeightsNoNumber => k_is)
    (case sNoWeightsNoKind => k_is)
    (case sNoWeightsNoKinds => k_is)
    (case sNoWeightsNoLaying => k_is)
    (case sNoWeightsNoLying => k_is)
    (case sNoWeightsNoPlate => k_is)
    (case sNoWeightsNoTable => k_is)
    (case sNoWeightsNoTelling => k_is)
    (case sNoWeightsNoText => k_is)
    (case sNoWeightsNoTree => k_is)
    (case sNoWeightsTooLarge => k_is)
    (case vNoWeights => k_is)
    (case kaNoWeights => k_is)
    (case kbNoWeights => k_is)
    (case kcNoWeights => k_is)
    (case kdNoWeights => k_is)
    (case keNoWeights => k_is)
    (case sNoNumberPlateError => k_is)
    (case sNoNumberNoBlade => k_is)
    (case sNoNumberNoWeights => k_is)
    (case sNoNumberNoNumber => k_is)
    (case sNoNumberNoKind => k_is)
    (case sNoNumberNoKinds => k_is)
    (case sNoNumberNoLaying => k_is)
    (case sNoNumberNoLying => k_is)
    (case sNoNumberNoPlate => k_is)
    (case sNoNumberNoTable => k_is)
    (case sNoNumberNoTelling => k_is)
    (case sNoNumberNoText => k_is)
    (case sNoNumberNoTree => k_is)
    (case sNoNumberTooLarge => k_is)
    (case vNoNumber => k_is)
    (case kaNoNumber => k_is)
    (case kbNoNumber => k_is)
    (case kcNoNumber => k_is)
    (case kdNoNumber => k_is)
    (case keNoNumber => k_is)
    (case bPlateError => k_is)
    (case z0 => k_is)
    (case z1 => k_is)
    (case z2 => k_is)
    (case z3 => k_is)
    (case z4 => k_is)
    (case z5 => k_is)
    (case z6 => k_is)
    (case z7 => k_is)
    (case z8 => k_is)
    (case z9 => k_is)
    (case z10 => k_is)
    (case z11 => k_is)
    (case z12 => k_is)
    (case z13 => k_is)
    (case z14 => k_is)
    (case z15 => k_is)
    (case uc0 => k_is)
