import PyProof.Rows.All
import Wide.All
import OpenK.AllK
import Wide.FinOn
import Lean
import PyProof.EqAt
import PyProof.EqKinds
import PyProof.TupleCall
import PyProof.FactsAll.range
import PyProof.ListNew
import PyProof.ZipIter
import PyProof.Rows.EqDataRows
import PyProof.Rows.CallKwBuiltin
import PySem.Challenge.RW_skybars_k09_refused
set_option Elab.async false
set_option linter.all false
set_option maxRecDepth 100000
/-! THE HAND LAYER, for ints, bools, texts, own classes, LISTS and tuples (index, slices, in, append, pop ..), calls, loops. Paste it whole ahead of your own text; what your proof does not reach may be deleted. -/
namespace L2
open PySem PySem.Spec PyProof.Rows

/-- a key: an int or a str -/
abbrev Key := Sum Int Str
def keyIs : Key → Value → Bool
  | .inl k, v => Value.isInt k v
  | .inr x, v => Value.isStrOf x v
def keyH (w : World) : Key → Int
  | .inl k => hashInt k
  | .inr x => hashStr w x
theorem keyIs_shape : ∀ {k : Key} {v : Value}, keyIs k v = true → (∃ i t, k = Sum.inl i ∧ v = Value.int i t) ∨ (∃ x t, k = Sum.inr x ∧ v = Value.str x t)
  | .inl i, v, h => by
    obtain ⟨t, e⟩ := Value.isInt_shape (k := i) (v := v) h
    exact .inl ⟨i, t, rfl, e⟩
  | .inr x, v, h => by
    obtain ⟨t, e⟩ := Value.isStrOf_shape (x := x) (v := v) h
    exact .inr ⟨x, t, rfl, e⟩
theorem key_ll (a b : Int) : decide ((Sum.inl a : Key) = Sum.inl b) = (a == b) := by
  by_cases e : a = b
  · subst e; simp
  · have h : ¬ (Sum.inl a : Key) = Sum.inl b := fun q => e (Sum.inl.inj q)
    rw [decide_eq_false h]
    exact (beq_eq_false_iff_ne.mpr e).symm
theorem key_rr (a b : Str) : decide ((Sum.inr a : Key) = Sum.inr b) = decide (a = b) := by
  by_cases e : a = b
  · subst e; simp
  · have h : ¬ (Sum.inr a : Key) = Sum.inr b := fun q => e (Sum.inr.inj q)
    rw [decide_eq_false h, decide_eq_false e]
theorem key_lr (a : Int) (b : Str) : decide ((Sum.inl a : Key) = Sum.inr b) = false := decide_eq_false (fun q => nomatch q)
theorem key_rl (a : Str) (b : Int) : decide ((Sum.inr a : Key) = Sum.inl b) = false := decide_eq_false (fun q => nomatch q)

def mixKind (prog : Program) (w : World) : PySem.KeyKind prog w Key where
  is := keyIs
  hash := keyH w
  inj := fun v a b ha hb => by
    rcases keyIs_shape ha with ⟨i, t, rfl, rfl⟩ | ⟨x, t, rfl, rfl⟩
    · rcases keyIs_shape hb with ⟨j, u, rfl, e⟩ | ⟨y, u, rfl, e⟩
      · injection e with e1 _; rw [e1]
      · exact nomatch e
    · rcases keyIs_shape hb with ⟨j, u, rfl, e⟩ | ⟨y, u, rfl, e⟩
      · exact nomatch e
      · injection e with e1 _; rw [e1]
  byValue := fun k v h => by
    rcases keyIs_shape h with ⟨i, t, rfl, rfl⟩ | ⟨x, t, rfl, rfl⟩ <;> rfl
  pyHash := fun hv h => by
    rcases keyIs_shape hv with ⟨i, t, rfl, rfl⟩ | ⟨x, t, rfl, rfl⟩
    · exact wpAny_pyHash_int h
    · exact wpAny_pyHash_str h
  eqBool := fun hu hv h => by
    rcases keyIs_shape hu with ⟨i, t, rfl, rfl⟩ | ⟨x, t, rfl, rfl⟩
    · rcases keyIs_shape hv with ⟨j, u, rfl, rfl⟩ | ⟨y, u, rfl, rfl⟩
      · rw [key_ll] at h; exact wpAny_eqBool_int h
      · rw [key_lr] at h; exact SeqAt.EqAt.int_str i t y u _ _ _ _ h
    · rcases keyIs_shape hv with ⟨j, u, rfl, rfl⟩ | ⟨y, u, rfl, rfl⟩
      · rw [key_rl] at h; exact SeqAt.EqAt.str_int x t j u _ _ _ _ h
      · rw [key_rr] at h; exact wpAny_eqBool_str h
  «strs» := fun k x t v h => by
    rcases keyIs_shape h with ⟨i, u, rfl, e⟩ | ⟨y, u, rfl, e⟩
    · exact nomatch e
    · injection e with e1 _
      subst e1
      cases v <;> rfl

end L2

namespace L2
open PySem PySem.Spec PyProof.Rows

/-- a value, without the heap -/
inductive V where
  | non | bl (b : Bool) | int (i : Int) | str (x : Str) | byt (b : Array UInt8) | flt (b : UInt64) | ref (a : Addr) | ty (n : String)
  deriving DecidableEq

def RelV : V → Value → Prop
  | .non, u => u = Value.none
  | .bl b, u => u = Value.bool b
  | .int i, u => ∃ t, u = Value.int i t
  | .str x, u => ∃ t, u = Value.str x t
  | .byt b, u => ∃ t, u = Value.bytes b t
  | .flt b, u => ∃ t, u = Value.float b t
  | .ref a, u => u = Value.ref a
  | .ty n, u => u = Value.type n

abbrev Vals : List V → List Value → Prop := Paired RelV
theorem Vals.length {xs : List V} {us : List Value} (r : Vals xs us) : xs.length = us.length := Paired.length r
theorem Vals.get : ∀ {xs : List V} {us : List Value} {i : Nat} {x : V}, Vals xs us → xs[i]? = some x → ∃ u, us[i]? = some u ∧ RelV x u
  | _, _, _, _, .nil, e => by simp at e
  | _, _, 0, _, .cons r _, e => by simp at e; subst e; exact ⟨_, rfl, r⟩
  | _, _, i + 1, x, .cons _ t, e => by
    obtain ⟨u, h1, h2⟩ := Vals.get (i := i) (x := x) t (by simpa using e)
    exact ⟨u, by simpa using h1, h2⟩
theorem Vals.set {x : V} {u : Value} (r : RelV x u) : ∀ {xs : List V} {us : List Value} (i : Nat), Vals xs us → Vals (xs.set i x) (us.set i u)
  | _, _, _, .nil => .nil
  | _, _, 0, .cons _ t => .cons r t
  | _, _, i + 1, .cons q t => .cons q (Vals.set r i t)
theorem Vals.append : ∀ {xs ys : List V} {us ws : List Value}, Vals xs us → Vals ys ws → Vals (xs ++ ys) (us ++ ws)
  | _, _, _, _, .nil, s => s
  | _, _, _, _, .cons r t, s => .cons r (Vals.append t s)
def RelO : Option V → Option Value → Prop
  | some v, some u => RelV v u
  | none, none => True
  | _, _ => False
def KV {κ : Type} : List (κ × V) → List (κ × Value) → Prop := Paired fun (p : κ × V) (q : κ × Value) => p.1 = q.1 ∧ RelV p.2 q.2

/-- a key of a dict (00_mix): an int or a text -/
def kV : Key → V
  | .inl i => .int i
  | .inr x => .str x

/-- what stands at a tracked address -/
inductive HO where
  /-- a list -/
  | lst (xs : List V)
  /-- a tuple (never changes) -/
  | tup (xs : List V)
  /-- a dict whose keys are ints and texts; one whose keys are tuples of ints and texts (the empty one is both) -/
  | dK (kvs : List (Key × V)) | dT (kvs : List (List Key × V))
  /-- a set of ints: its members, its size -/
  | set (S : Int → Bool) (n : Nat)
  /-- an instance of the class at C, its dict at dx, its attributes -/
  | ins (C dx : Addr) (fs : List (Str × V))
  /-- the dict of the instance at x -/
  | own (x : Addr)
  /-- the dict of an exception -/
  | xd (fs : List (Str × V))
  /-- a bound method, f of x -/
  | met (f x : Addr)
  /-- a range object lo, lo + 1, .. below hi -/
  | rng (lo hi : Int)
  /-- a thing that is known to the object (the script; a dict while a loop walks it): read, never written while it is so -/
  | frz (o : Obj) (u : HO)
  /-- a code object's table -/
  | tbl (ps : Array Value)
  /-- any other thing, by what is true of its one object (a def of one's own: SetO a S n := HO.ext fun h => ..) -/
  | ext (φ : Heap → Prop)

abbrev Hp := Addr → Option HO
def upd (H : Hp) (a : Addr) (o : HO) : Hp := fun b => if b = a then some o else H b
theorem upd_same {H : Hp} {a : Addr} {o : HO} : upd H a o a = some o := by unfold upd; rw [if_pos rfl]
theorem upd_ne {H : Hp} {a b : Addr} {o : HO} (h : b ≠ a) : upd H a o b = H b := by unfold upd; rw [if_neg h]
theorem upd_upd {H : Hp} {a : Addr} {o u : HO} : upd (upd H a o) a u = upd H a u := by
  funext b; unfold upd; split <;> rfl
/-- two objects of different content stand apart -/
theorem ne_of {H : Hp} {a b : Addr} {o u : HO} (h : H a = some o) (h' : H b = some u) (d : o ≠ u) : a ≠ b := by
  intro e; subst e; rw [h] at h'; exact d (Option.some.inj h')
theorem ne_of_none {H : Hp} {a b : Addr} {o : HO} (h : H a = some o) (h' : H b = none) : a ≠ b := by
  intro e; subst e; rw [h] at h'; cases h'

section
variable (P : Program) (w : World)
def ObjOk (H : Hp) (h : Heap) (a : Addr) : HO → Prop
  | .lst xs => xs.length ≤ sizeLine ∧ ∃ (its : List Value) (n : Nat), Vals xs its ∧ h.get? a = some { cls := .type "list", data := .seq its.toArray n }
  | .tup xs => xs.length ≤ sizeLine ∧ ∃ its : List Value, Vals xs its ∧ IsTup h a its.toArray
  | .dK kvs => kvs.length ≤ sizeLine ∧ (a == sysModules) = false ∧ ∃ vs, KV kvs vs ∧ h.DictOf (mixKind P w) a vs
  | .dT kvs => kvs.length ≤ sizeLine ∧ (a == sysModules) = false ∧ ∃ xs : List (List Key × Addr × Value),
      Paired (fun (p : List Key × V) (q : List Key × Addr × Value) => p.1 = q.1 ∧ H q.2.1 = some (.tup (p.1.map kV)) ∧ RelV p.2 q.2.2) kvs xs ∧
      ∃ o es ep, h.get? a = some o ∧ o.ExactDict ∧ o.data = .dict es ep ∧ es.toList = xs.map (entryOfKey (tupleKind (mixKind P w))) ∧ (xs.map (·.1)).Nodup
  | .set S n => h.SetOf (intKind P w) a S n
  | .ins C dx fs => H dx = some (.own a) ∧ fs.length ≤ 1000 ∧ dx ≠ a ∧ h.get? a = some (PySem.W.instObj C dx) ∧
      ∃ mA, h.Ns1 dx mA ∧ (∀ f, RelO (fs.lookup f) (mA f)) ∧ PySem.Within mA (fs.map (·.1))
  | .own _ => ∃ o, h.get? a = some o
  | .xd fs => ∃ mA, h.Ns1 a mA ∧ ∀ f, RelO (fs.lookup f) (mA f)
  | .rng lo hi => ∃ t u v, h.get? a = some { cls := .type "range", data := .fields #[.int lo t, .int hi u, .int 1 v] }
  | .frz o u => h.get? a = some o ∧ ObjOk H h a u
  | .tbl ps => h.get? a = some { cls := .none, data := .fields ps }
  | .met f x => h.get? a = some (PySem.W.methodObj (.ref f) (.ref x))
  | .ext φ => φ h ∧ (∃ o, h.get? a = some o) ∧ ∀ h1 h2 : Heap, φ h1 → (∀ o, h1.get? a = some o → h2.get? a = some o) → φ h2
/-- the abstract heap is held -/
def HOk (H : Hp) (h : Heap) : Prop := ∀ a o, H a = some o → ObjOk P w H h a o
end

section
variable {P : Program} {w : World} {H H' : Hp} {h h' : Heap} {a : Addr} {o : HO}
theorem ObjOk.lt (x : ObjOk P w H h a o) : a < h.objs.size := by
  cases o with
  | lst xs => obtain ⟨_, _, _, _, e⟩ := x; exact Heap.lt_size e
  | tup xs => obtain ⟨_, _, _, p⟩ := x; exact p.lt
  | dK kvs => obtain ⟨_, _, _, _, o, _, _, e, _⟩ := x; exact Heap.lt_size e
  | dT kvs => obtain ⟨_, _, _, _, o, _, _, e, _⟩ := x; exact Heap.lt_size e
  | set S n => obtain ⟨o, _, _, _, e, _⟩ := x; exact Heap.lt_size e
  | ins C dx fs => obtain ⟨_, _, _, e, _⟩ := x; exact Heap.lt_size e
  | own y => obtain ⟨_, e⟩ := x; exact Heap.lt_size e
  | xd fs => obtain ⟨_, ⟨_, _, _, e, _⟩, _⟩ := x; exact Heap.lt_size e
  | rng lo hi => obtain ⟨_, _, _, e⟩ := x; exact Heap.lt_size e
  | frz ob u => obtain ⟨e, _⟩ := x; exact Heap.lt_size e
  | tbl ps => exact Heap.lt_size (show h.get? a = some _ from x)
  | met f y => exact Heap.lt_size (show h.get? a = some _ from x)
  | ext φ => obtain ⟨_, ⟨_, e⟩, _⟩ := x; exact Heap.lt_size e
theorem Paired.mapP {α β : Type} {F G : α → β → Prop} : ∀ {l₁ : List α} {l₂ : List β}, Paired F l₁ l₂ → (∀ a b, F a b → G a b) → Paired G l₁ l₂
  | _, _, .nil, _ => .nil
  | _, _, .cons r t, f => .cons (f _ _ r) (Paired.mapP t f)
/-- what an object's description leans on: its own object, its own dict, the tuples -/
theorem ObjOk.stay (x : ObjOk P w H h a o) (k : ∀ b u, (b = a ∨ H b = some (.own a)) → h.get? b = some u → h'.get? b = some u)
    (ho : ∀ b, H b = some (.own a) → H' b = some (.own a)) (ht : ∀ b xs, H b = some (.tup xs) → H' b = some (.tup xs)) : ObjOk P w H' h' a o := by
  induction o with
  | lst xs => obtain ⟨z, its, n, r, e⟩ := x; exact ⟨z, its, n, r, k _ _ (.inl rfl) e⟩
  | tup xs => obtain ⟨z, its, r, ob, e, c⟩ := x; exact ⟨z, its, r, ob, k _ _ (.inl rfl) e, c⟩
  | dK kvs => obtain ⟨z, y, vs, r, ob, es, ep, e, c⟩ := x; exact ⟨z, y, vs, r, ob, es, ep, k _ _ (.inl rfl) e, c⟩
  | dT kvs =>
    obtain ⟨z, y, xs, r, ob, es, ep, e, c⟩ := x
    exact ⟨z, y, xs, Paired.mapP r fun p q z => ⟨z.1, ht _ _ z.2.1, z.2.2⟩, ob, es, ep, k _ _ (.inl rfl) e, c⟩
  | set S n => obtain ⟨ob, es, ep, t, e, c⟩ := x; exact ⟨ob, es, ep, t, k _ _ (.inl rfl) e, c⟩
  | ins C dx fs =>
    obtain ⟨d, z, ne, e, mA, ⟨od, es, ep, e2, c⟩, r⟩ := x
    exact ⟨ho _ d, z, ne, k _ _ (.inl rfl) e, mA, ⟨od, es, ep, k _ _ (.inr d) e2, c⟩, r⟩
  | own y => obtain ⟨ob, e⟩ := x; exact ⟨ob, k _ _ (.inl rfl) e⟩
  | xd fs => obtain ⟨mA, ⟨od, es, ep, e, c⟩, r⟩ := x; exact ⟨mA, ⟨od, es, ep, k _ _ (.inl rfl) e, c⟩, r⟩
  | rng lo hi => obtain ⟨t, u, v, e⟩ := x; exact ⟨t, u, v, k _ _ (.inl rfl) e⟩
  | frz ob u ih => obtain ⟨e, q⟩ := x; exact ⟨k _ _ (.inl rfl) e, ih q⟩
  | tbl ps =>
    have e : h.get? a = some { cls := .none, data := .fields ps } := x
    show h'.get? a = some { cls := .none, data := .fields ps }
    exact k a _ (.inl rfl) e
  | met f y =>
    have e : h.get? a = some (PySem.W.methodObj (.ref f) (.ref y)) := x
    show h'.get? a = some (PySem.W.methodObj (.ref f) (.ref y))
    exact k a _ (.inl rfl) e
  | ext φ => obtain ⟨p, ⟨o, e⟩, st⟩ := x; exact ⟨st _ _ p fun o q => k _ _ (.inl rfl) q, ⟨o, k _ _ (.inl rfl) e⟩, st⟩
theorem HOk.lt (x : HOk P w H h) (e : H a = some o) : a < h.objs.size := (x a o e).lt
theorem HOk.fresh (x : HOk P w H h) (e : h.objs.size ≤ a) : H a = none := by
  cases q : H a with
  | none => rfl
  | some u => exact absurd (Nat.lt_of_lt_of_le (x.lt q) e) (Nat.lt_irrefl _)
/-- every object of the heap is kept -/
theorem HOk.kept (x : HOk P w H h) (k : ∀ b u, h.get? b = some u → h'.get? b = some u) : HOk P w H h' := fun a o e =>
  (x a o e).stay (fun b u _ q => k b u q) (fun _ q => q) fun _ _ q => q
/-- a new object is laid and tracked -/
theorem HOk.laid (x : HOk P w H h) (k : ∀ b u, h.get? b = some u → h'.get? b = some u) (hp : h.objs.size ≤ a) (new : ObjOk P w (upd H a o) h' a o) : HOk P w (upd H a o) h' := fun b u e => by
  have hn := x.fresh hp
  by_cases hb : b = a
  · subst hb; rw [upd_same] at e; cases e; exact new
  · rw [upd_ne hb] at e
    exact (x b u e).stay (fun c v _ q => k c v q) (fun c q => by rw [upd_ne (ne_of_none q hn)]; exact q) fun c xs q => by rw [upd_ne (ne_of_none q hn)]; exact q
end

/-- what may be read as u: it is u, or a known u -/
def Rd (H : Hp) (a : Addr) (u : HO) : Prop := H a = some u ∨ ∃ o, H a = some (.frz o u)
theorem Rd.ok {P : Program} {w : World} {H : Hp} {h : Heap} {a : Addr} {u : HO} (r : Rd H a u) (x : HOk P w H h) : ObjOk P w H h a u := by
  rcases r with r | ⟨o, r⟩
  · exact x a u r
  · obtain ⟨_, q⟩ := x a _ r
    exact q
/-- what may be written -/
def Mut : Option HO → Prop
  | some (.lst _) => True
  | some (.dK _) => True
  | some (.dT _) => True
  | some (.set _ _) => True
  | some (.ins _ _ _) => True
  | some (.ext _) => True
  | _ => False
section
variable {P : Program} {w : World} {H : Hp} {h h' : Heap} {x e : Addr} {o' : HO}
/-- the object at e is changed: x itself, or the dict of the instance x -/
theorem HOk.write (ok : HOk P w H h) (mu : Mut (H x)) (he : e = x ∨ H e = some (.own x)) (k : ∀ b u, b ≠ e → h.get? b = some u → h'.get? b = some u) (heo : ∃ u, h'.get? e = some u)
    (new : ObjOk P w (upd H x o') h' x o') : HOk P w (upd H x o') h' := fun b u q => by
  have nown : ∀ c y, H c = some (.own y) → c ≠ x := fun c y r z => by subst z; rw [r] at mu; exact mu
  have ntup : ∀ c xs, H c = some (.tup xs) → c ≠ x := fun c xs r z => by subst z; rw [r] at mu; exact mu
  by_cases hb : b = x
  · subst hb; rw [upd_same] at q; cases q; exact new
  · rw [upd_ne hb] at q
    by_cases hbe : b = e
    · have q' : H b = some (.own x) := by
        rcases he with z | z
        · exact absurd (hbe.trans z) hb
        · rw [hbe]; exact z
      rw [q] at q'; cases q'
      obtain ⟨v, hv⟩ := heo
      exact ⟨v, by rw [hbe]; exact hv⟩
    · refine (ok b u q).stay (fun c v hc r => k c v ?_ r) (fun c r => by rw [upd_ne (nown c b r)]; exact r) fun c xs r => by rw [upd_ne (ntup c xs r)]; exact r
      rcases hc with rfl | hc
      · exact hbe
      · rintro rfl
        rcases he with z | z
        · exact nown c b hc z
        · rw [hc] at z; cases z; exact hb rfl
end

/-! ### kept unless tracked; of the frames at fs (the callers') the slots may change (an exception that passes writes there); of the records at ex (iterators) nothing is said -/
structure Un (fs ex : List Addr) (H H' : Hp) (h h' : Heap) : Prop where
  keep : ∀ b o, h.get? b = some o → H b = none → b ∉ fs → b ∉ ex → h'.get? b = some o
  slot : ∀ b o, h.get? b = some o → H b = none → b ∈ fs → b ∉ ex → ∃ sl, h'.get? b = some { o with slots := sl }
  free : ∀ b o, h.get? b = some o → H b = none → b ∉ ex → H' b = none
  there : ∀ b o, h.get? b = some o → b ∉ ex → ∃ o', h'.get? b = some o'
  tups : ∀ b xs, H b = some (.tup xs) → H' b = some (.tup xs)
  frzs : ∀ b o u, H b = some (.frz o u) → H' b = some (.frz o u)
  tbls : ∀ b ps, H b = some (.tbl ps) → ∃ more, H' b = some (.tbl (ps ++ more))
section
variable {fs fs' ex ex' : List Addr} {H H1 H2 : Hp} {h h1 h2 h' : Heap} {a x e : Addr} {o : HO}
theorem Un.any (u : Un fs ex H H1 h h1) {b : Addr} {ob : Obj} (q : h.get? b = some ob) (n : H b = none) (hx : b ∉ ex) : ∃ sl, h1.get? b = some { ob with slots := sl } := by
  by_cases hb : b ∈ fs
  · exact u.slot b ob q n hb hx
  · exact ⟨ob.slots, u.keep b ob q n hb hx⟩
theorem Un.kept (k : ∀ b u, h.get? b = some u → h'.get? b = some u) : Un fs ex H H h h' :=
  ⟨fun b ob q _ _ _ => k b ob q, fun b ob q _ _ _ => ⟨ob.slots, k b ob q⟩, fun _ _ _ n _ => n, fun b ob q _ => ⟨ob, k b ob q⟩, fun _ _ q => q, fun _ _ _ q => q, fun _ ps q => ⟨#[], by rw [q]; simp⟩⟩
theorem Un.refl : Un fs ex H H h h := Un.kept fun _ _ q => q
theorem Un.laid (k : ∀ b u, h.get? b = some u → h'.get? b = some u) (hp : h.objs.size ≤ a) (hn : H a = none) : Un fs ex H (upd H a o) h h' where
  keep := fun b u q _ _ _ => k b u q
  slot := fun b u q _ _ _ => ⟨u.slots, k b u q⟩
  free := fun b u q n _ => by rw [upd_ne (Nat.ne_of_lt (Nat.lt_of_lt_of_le (Heap.lt_size q) hp))]; exact n
  there := fun b u q _ => ⟨u, k b u q⟩
  tups := fun b xs q => by rw [upd_ne (ne_of_none q hn)]; exact q
  frzs := fun b u xs q => by rw [upd_ne (ne_of_none q hn)]; exact q
  tbls := fun b ps q => ⟨#[], by rw [upd_ne (ne_of_none q hn), q]; simp⟩
theorem Un.write (mu : Mut (H x)) (he : e = x ∨ H e = some (.own x)) (k : ∀ b u, b ≠ e → h.get? b = some u → h'.get? b = some u) (heo : ∃ u, h'.get? e = some u) : Un fs ex H (upd H x o) h h' := by
  have hx : ∀ b, H b = none → b ≠ x := fun b n z => by subst z; rw [n] at mu; exact mu
  have hb : ∀ b, H b = none → b ≠ e := fun b n z => by
    subst z
    rcases he with r | r
    · exact hx b n r
    · rw [n] at r; cases r
  have hm : ∀ b u, H b = some u → ¬ Mut (some u) → b ≠ x := fun b u q nm z => by subst z; rw [q] at mu; exact nm mu
  refine ⟨fun b u q n _ _ => k b u (hb b n) q, fun b u q n _ _ => ⟨u.slots, k b u (hb b n) q⟩, fun b u q n _ => by rw [upd_ne (hx b n)]; exact n, fun b u q _ => ?_,
    fun b xs q => by rw [upd_ne (hm b _ q fun z => z)]; exact q, fun b u xs q => by rw [upd_ne (hm b _ q fun z => z)]; exact q, fun b ps q => ⟨#[], by rw [upd_ne (hm b _ q fun z => z), q]; simp⟩⟩
  by_cases hbe : b = e
  · subst hbe; exact heo
  · exact ⟨u, k b u hbe q⟩
end

/-! ### the heap without what is tracked -/
def trk (h : Heap) (H : Hp) : List Addr := (List.range h.objs.size).filter fun a => (H a).isSome
def hidT (h : Heap) (H : Hp) : Heap := PySem.W.hideAll h (trk h H)
theorem hidT_size (h : Heap) (H : Hp) : (hidT h H).objs.size = h.objs.size := PySem.W.hideAll_size _ _
theorem hidT_get {h : Heap} {H : Hp} {b : Addr} {o : Obj} (e : h.get? b = some o) (n : H b = none) : (hidT h H).get? b = some o :=
  PySem.W.hideAll_get _ e fun hm => by
    have q : (H b).isSome = true := (List.mem_filter.mp hm).2
    rw [n] at q; simp at q
theorem of_hidT {h : Heap} {H : Hp} {b : Addr} {o : Obj} (e : (hidT h H).get? b = some o) : h.get? b = some o ∧ H b = none := by
  have e' : h.get? b = some o := PySem.W.of_hideAll (trk h H) e
  refine ⟨e', ?_⟩
  cases q : H b with
  | none => rfl
  | some x =>
    have hm : b ∈ trk h H := List.mem_filter.mpr ⟨List.mem_range.mpr (Heap.lt_size e'), by simp [q]⟩
    have z : (hidT h H).get? b = none := PySem.W.hideAll_none (trk h H) hm
    rw [z] at e; cases e

/-! ### OpenK's ledger, filled with every new object but one -/
end L2

namespace L2
open PySem PySem.Spec PyProof.Rows

/-- the module's facts, over the base: the heap at the law's entry without what is tracked there -/
structure Mod (K : PySem.W.Frag) (mg : Str → Option Value) (base : Heap) : Prop where
  kin : K.In base
  glob : base.Ns mainGlobals mg
  blt : ∃ mb, base.Ns builtinsNs mb ∧ ∀ x : Str, x ≠ "__name__" → mb x = bootBuiltins x
  nolimit : base.NoLimit

/-- the context: a def's body (or a comprehension's block) running. base: fixed through the whole law; s₀, H₀: the entry; outer: the frames whose slots others may change (a def's callers); stack: all frames that run;
   ex: iterators that were made ahead of the entry and are walked here (a comprehension's); fn: the names whose cells were made at the entry (a def: all; a comprehension's block: its own); calm: not within an except suite; pn: pins that every state bears; xe: what is wanted of an exception that leaves the code -/
structure Cx where
  prog : Program
  w : World
  K : PySem.W.Frag
  mg : Str → Option Value
  base : Heap
  A : Around
  N : List Str
  s₀ : Shared
  H₀ : Hp
  env : Env
  outer : List Env
  stack : List Env
  ex : List Addr
  fn : Str → Bool
  calm : Bool
  pn : List (Addr × Obj)
  xe : Value → Shared → Prop
/-- the callers' frames -/
def frs (l : List Env) : List Addr := l.filterMap (·.frame)
abbrev Cx.fs (X : Cx) : List Addr := frs X.outer

def Vis (sc : Scope) (x : Str) : Prop := sc.names.lookup x = some .local ∨ sc.names.lookup x = some .cell ∨ sc.names.lookup x = some .free
def Loc (sc : Scope) (x : Str) : Prop := sc.names.lookup x = some .local ∨ sc.names.lookup x = some .cell
def Look (env : Env) (h : Heap) (m : Str → Option Value) (x : Str) (u : Value) : Prop :=
  (env.kindOf x = some .local ∧ m x = some u) ∨ ((env.kindOf x = some .cell ∨ env.kindOf x = some .free) ∧ ∃ c, env.cells.lookup x = some c ∧ h.IsCell c (some u))

structure Cx.Ok (X : Cx) : Prop where
  mod : Mod X.K X.mg X.base
  kind : X.env.scope.kind = .function
  glob : X.env.globals = mainGlobals
  blt : X.env.builtins = builtinsNs
  above : X.s₀.heap.objs.size ≤ X.env.locals
  inj : ∀ x y c, X.env.cells.lookup x = some c → X.env.cells.lookup y = some c → x = y
  has : ∀ x, (X.env.kindOf x = some .cell ∨ X.env.kindOf x = some .free) → ∃ c, X.env.cells.lookup x = some c
  cab : ∀ x c, X.fn x = true → X.env.cells.lookup x = some c → X.s₀.heap.objs.size ≤ c
  hd : X.calm = true → X.A.handled = none
  frames : X.A.frames = some X.stack
  stk : X.stack = X.outer ∨ (X.stack = X.env :: X.outer ∧ X.env.frame = some X.env.locals)
  exf : ∀ b ∈ X.ex, b ≠ X.env.locals ∧ ∀ x c, X.env.cells.lookup x = some c → c ≠ b
  bs : ∀ b o, X.base.get? b = some o → X.s₀.heap.get? b = some o ∧ X.H₀ b = none
  bsz : X.base.objs.size ≤ X.s₀.heap.objs.size
  noex : ∀ b o, X.base.get? b = some o → b ∉ X.ex
  exfs : ∀ b ∈ X.ex, b ∉ X.fs
  funs : X.s₀.heap.FunFrames X.base X.outer
  frf : ∀ b ∈ X.fs, X.H₀ b = none

structure Inv (X : Cx) (pins : List (Addr × Obj)) (σ : List (Option V)) (H : Hp) (s : Shared) : Prop where
  ok : X.Ok
  os : s.os = X.s₀.os
  bare : AllBare s.gens
  base : Un X.fs X.ex X.H₀ H X.s₀.heap s.heap
  loc : ∃ m, s.heap.Ns X.env.locals m ∧ ∀ (i : Nat) (x : Str) (v : V), X.N[i]? = some x → σ[i]? = some (some v) → Vis X.env.scope x → ∃ u, RelV v u ∧ Look X.env s.heap m x u
  cell : ∀ x c, X.env.cells.lookup x = some c → ∃ v, s.heap.IsCell c v
  free : H X.env.locals = none
  freeC : ∀ x c, X.env.cells.lookup x = some c → H c = none
  pin : ∀ p ∈ X.pn ++ pins, s.heap.get? p.1 = some p.2 ∧ H p.1 = none ∧ p.1 ≠ X.env.locals ∧ p.1 ∉ X.fs ∧ ∀ v, p.2.data ≠ .cell v
  hok : HOk X.prog X.w H s.heap
  len : σ.length = X.N.length

section
variable {X : Cx} {pins : List (Addr × Obj)} {σ : List (Option V)} {H H' : Hp} {s : Shared} {h' : Heap}

theorem Cx.Ok.nofr (ok : X.Ok) {b : Addr} {o : Obj} (e : X.base.get? b = some o) : b ∉ X.fs := fun hb => by
  have := (ok.funs.mem hb).1
  rw [e] at this; cases this
theorem Inv.bs (I : Inv X pins σ H s) : ∀ b o, X.base.get? b = some o → s.heap.get? b = some o ∧ H b = none := fun b o e =>
  ⟨I.base.keep b o (I.ok.bs b o e).1 (I.ok.bs b o e).2 (I.ok.nofr e) (I.ok.noex b o e), I.base.free b o (I.ok.bs b o e).1 (I.ok.bs b o e).2 (I.ok.noex b o e)⟩
theorem Inv.bk (I : Inv X pins σ H s) : ∀ b o, X.base.get? b = some o → s.heap.get? b = some o := fun b o e => (I.bs b o e).1
theorem Inv.mod (I : Inv X pins σ H s) : Mod X.K X.mg X.base := I.ok.mod
theorem Inv.kIn (I : Inv X pins σ H s) : X.K.In s.heap := I.ok.mod.kin.keeps I.bk
theorem Inv.lt (I : Inv X pins σ H s) : X.env.locals < s.heap.objs.size := let ⟨_, hn, _⟩ := I.loc; hn.lt
theorem Inv.sz (I : Inv X pins σ H s) : X.s₀.heap.objs.size ≤ s.heap.objs.size := Nat.le_trans I.ok.above (Nat.le_of_lt I.lt)
theorem Inv.nofs (I : Inv X pins σ H s) {a : Addr} (h : s.heap.objs.size ≤ a) : a ∉ X.fs := fun hb => by
  obtain ⟨_, o, ho, _⟩ := I.ok.funs.mem hb
  exact absurd (Nat.lt_of_lt_of_le (Heap.lt_size ho) (Nat.le_trans I.sz h)) (Nat.lt_irrefl _)
theorem Inv.cne (I : Inv X pins σ H s) : ∀ x c, X.env.cells.lookup x = some c → c ≠ X.env.locals := fun x c e z => by
  obtain ⟨v, o, ho, hd⟩ := I.cell x c e
  obtain ⟨m, ⟨o', es, ep, ho', hd', _⟩, _⟩ := I.loc
  rw [z, ho'] at ho; cases ho; rw [hd'] at hd; cases hd
theorem Inv.funs (I : Inv X pins σ H s) : s.heap.FunFrames X.base X.outer := by
  have all : ∀ (l : List Env), (∀ b ∈ frs l, b ∈ X.fs) → X.s₀.heap.FunFrames X.base l → s.heap.FunFrames X.base l := by
    intro l
    induction l with
    | nil => intro _ _; trivial
    | cons env r ih =>
      intro hs hl
      obtain ⟨hk, ⟨L, o, hf, hn, ho, hd⟩, hr⟩ := hl
      have hL : L ∈ X.fs := hs L (by unfold frs; rw [List.filterMap_cons, hf]; exact List.mem_cons_self)
      obtain ⟨sl, e⟩ := I.base.slot L o ho (I.ok.frf L hL) hL fun z => I.ok.exfs L z hL
      exact ⟨hk, ⟨L, _, hf, hn, e, hd⟩, ih (fun b hb => hs b (by unfold frs; rw [List.filterMap_cons, hf]; exact List.mem_cons_of_mem _ hb)) hr⟩
  exact all X.outer (fun _ hb => hb) I.ok.funs

/-- the frames that run, for a call -/
theorem Inv.stack (I : Inv X pins σ H s) : s.heap.FunFrames X.base X.stack := by
  rcases I.ok.stk with e | ⟨e, hf⟩
  · rw [e]; exact I.funs
  · rw [e]
    obtain ⟨m, hn, _⟩ := I.loc
    refine .cons (by rw [I.ok.kind]; decide) hf hn ?_ I.funs
    exact Heap.get?_none_of_le (Nat.le_trans I.ok.bsz I.ok.above)
theorem Inv.stkSub (I : Inv X pins σ H s) : ∀ b ∈ frs X.stack, b ∈ X.env.locals :: X.fs := fun b hb => by
  rcases I.ok.stk with e | ⟨e, hf⟩
  · rw [e] at hb; exact List.mem_cons_of_mem _ hb
  · rw [e] at hb
    unfold frs at hb
    rw [List.filterMap_cons, hf] at hb
    exact hb
theorem Inv.stkFree (I : Inv X pins σ H s) : ∀ b ∈ frs X.stack, H b = none := fun b hb => by
  rcases List.mem_cons.mp (I.stkSub b hb) with e | hb
  · rw [e]; exact I.free
  · obtain ⟨_, o, ho, _⟩ := I.ok.funs.mem hb
    exact I.base.free b o ho (I.ok.frf b hb) fun z => I.ok.exfs b z hb

/-- THE STEP: the untracked objects but the frame and the records at ch are kept (the callers' frames up to slots), the frame's map is kept, the new abstract heap is held -/
theorem Inv.step {g' : Array GenState} {t' : Nat} {d' : Drawn} {ch : List Addr} (I : Inv X pins σ H s)
    (hch : ∀ b ∈ ch, (b ∈ X.ex ∨ X.s₀.heap.objs.size ≤ b) ∧ b ≠ X.env.locals ∧ (∀ x c, X.env.cells.lookup x = some c → c ≠ b) ∧ ∀ p ∈ X.pn ++ pins, p.1 ≠ b)
    (keep : ∀ b o, b ≠ X.env.locals → b ∉ X.fs → b ∉ ch → s.heap.get? b = some o → H b = none → h'.get? b = some o)
    (slot : ∀ b o, b ≠ X.env.locals → b ∈ X.fs → b ∉ ch → s.heap.get? b = some o → H b = none → ∃ sl, h'.get? b = some { o with slots := sl }) (free : ∀ b o, b ∉ ch → s.heap.get? b = some o → H b = none → H' b = none)
    (there : ∀ b o, b ∉ ch → s.heap.get? b = some o → ∃ o', h'.get? b = some o')
    (tups : ∀ b xs, H b = some (.tup xs) → H' b = some (.tup xs)) (frzs : ∀ b o u, H b = some (.frz o u) → H' b = some (.frz o u)) (tbls : ∀ b ps, H b = some (.tbl ps) → ∃ more, H' b = some (.tbl (ps ++ more)))
    (ns : ∀ m, s.heap.Ns X.env.locals m → h'.Ns X.env.locals m) (hok : HOk X.prog X.w H' h') (hg : AllBare g') :
    Inv X pins σ H' { s with heap := h', gens := g', drawn := d', toks := t' } := by
  have neL : ∀ b o, X.s₀.heap.get? b = some o → b ≠ X.env.locals := fun b o e => Nat.ne_of_lt (Nat.lt_of_lt_of_le (Heap.lt_size e) I.ok.above)
  have neC : ∀ b o, X.s₀.heap.get? b = some o → b ∉ X.ex → b ∉ ch := fun b o e hx hb => by
    rcases (hch b hb).1 with z | z
    · exact hx z
    · exact absurd (Nat.lt_of_lt_of_le (Heap.lt_size e) z) (Nat.lt_irrefl _)
  have cellK : ∀ x c, X.env.cells.lookup x = some c → ∀ v, s.heap.IsCell c v → h'.IsCell c v := fun x c e v ⟨o, ho, hd⟩ => by
    have nch : c ∉ ch := fun z => (hch c z).2.2.1 x c e rfl
    by_cases hc : c ∈ X.fs
    · obtain ⟨sl, q⟩ := slot c o (I.cne x c e) hc nch ho (I.freeC x c e)
      exact ⟨_, q, hd⟩
    · exact ⟨o, keep c o (I.cne x c e) hc nch ho (I.freeC x c e), hd⟩
  refine ⟨I.ok, I.os, hg, ⟨fun b o e n hb hx => ?_, fun b o e n hb hx => ?_, fun b o e n hx => ?_, fun b o e hx => ?_, fun b xs e => tups b xs (I.base.tups b xs e), fun b o xs e => frzs b o xs (I.base.frzs b o xs e), fun b ps e => ?_⟩, ?_, fun x c e => ?_, ?_, fun x c e => ?_, fun p hp => ?_, hok, I.len⟩
  · exact keep b o (neL b o e) hb (neC b o e hx) (I.base.keep b o e n hb hx) (I.base.free b o e n hx)
  · obtain ⟨sl, e1⟩ := I.base.slot b o e n hb hx
    obtain ⟨sl', e2⟩ := slot b _ (neL b o e) hb (neC b o e hx) e1 (I.base.free b o e n hx)
    exact ⟨sl', e2⟩
  · obtain ⟨o', e1⟩ := I.base.there b o e hx
    exact free b o' (neC b o e hx) e1 (I.base.free b o e n hx)
  · obtain ⟨o', e1⟩ := I.base.there b o e hx
    exact there b o' (neC b o e hx) e1
  · obtain ⟨m1, e1⟩ := I.base.tbls b ps e
    obtain ⟨m2, e2⟩ := tbls b _ e1
    exact ⟨m1 ++ m2, by rw [e2, Array.append_assoc]⟩
  · obtain ⟨m, hn, hl⟩ := I.loc
    refine ⟨m, ns m hn, fun i x v e1 e2 e3 => ?_⟩
    obtain ⟨u, r, l⟩ := hl i x v e1 e2 e3
    refine ⟨u, r, ?_⟩
    rcases l with l | ⟨k, c, e, z⟩
    · exact .inl l
    · exact .inr ⟨k, c, e, cellK x c e _ z⟩
  · obtain ⟨v, z⟩ := I.cell x c e
    exact ⟨v, cellK x c e v z⟩
  · obtain ⟨m, ⟨o, _, _, ho, _⟩, _⟩ := I.loc
    exact free _ o (fun z => (hch _ z).2.1 rfl) ho I.free
  · obtain ⟨v, o, ho, hd⟩ := I.cell x c e
    exact free c o (fun z => (hch c z).2.2.1 x c e rfl) ho (I.freeC x c e)
  · obtain ⟨e, n, ne, nf, d⟩ := I.pin p hp
    have nch : p.1 ∉ ch := fun z => (hch p.1 z).2.2.2 p hp rfl
    exact ⟨keep p.1 p.2 ne nf nch e n, free p.1 p.2 nch e n, ne, nf, d⟩
/-- .. where the frame's own object is kept too -/
theorem Inv.un {t' : Nat} (I : Inv X pins σ H s) (u : Un X.fs [] H H' s.heap h') (hok : HOk X.prog X.w H' h') : Inv X pins σ H' { s with heap := h', toks := t' } := by
  obtain ⟨m, ⟨o, es, ep, ho, r⟩, _⟩ := id I.loc
  obtain ⟨sl, hL⟩ := u.any ho I.free (by simp)
  exact I.step (g' := s.gens) (d' := s.drawn) (ch := []) (fun _ z => nomatch z) (fun b o _ hb _ e n => u.keep b o e n hb (by simp)) (fun b o _ hb _ e n => u.slot b o e n hb (by simp)) (fun b o _ e n => u.free b o e n (by simp)) (fun b o _ e => u.there b o e (by simp)) u.tups u.frzs u.tbls (fun m' hm => by
    obtain ⟨o', es', ep', ho', r'⟩ := hm
    rw [ho] at ho'; cases ho'
    exact ⟨_, es', ep', hL, r'⟩) hok I.bare
/-- behind a call (or a comprehension's block): the slots of this frame may have changed too, the records at ch may have turned -/
theorem Inv.call {g' : Array GenState} {t' : Nat} {d' : Drawn} {ch : List Addr} (I : Inv X pins σ H s) (u : Un (frs X.stack) ch H H' s.heap h') (hok : HOk X.prog X.w H' h') (hg : AllBare g')
    (hch : ∀ b ∈ ch, (b ∈ X.ex ∨ X.s₀.heap.objs.size ≤ b) ∧ b ≠ X.env.locals ∧ (∀ x c, X.env.cells.lookup x = some c → c ≠ b) ∧ ∀ p ∈ X.pn ++ pins, p.1 ≠ b) :
    Inv X pins σ H' { s with heap := h', gens := g', drawn := d', toks := t' } := by
  obtain ⟨m, ⟨o, es, ep, ho, r⟩, _⟩ := id I.loc
  obtain ⟨sl, hL⟩ := u.any ho I.free fun z => (hch _ z).2.1 rfl
  exact I.step (ch := ch) hch (fun b o hL hb hc e n => u.keep b o e n (fun z => (List.mem_cons.mp (I.stkSub b z)).elim hL hb) hc) (fun b o _ _ hc e n => u.any e n hc) (fun b o hc e n => u.free b o e n hc) (fun b o hc e => u.there b o e hc) u.tups u.frzs u.tbls (fun m' hm => by
    obtain ⟨o', es', ep', ho', r'⟩ := hm
    rw [ho] at ho'; cases ho'
    exact ⟨_, es', ep', hL, r'⟩) hok hg
/-- an untracked record of ours (an iterator) has turned -/
theorem Inv.turned {t' : Nat} {it : Addr} (I : Inv X pins σ H s) (k : ∀ b o, b ≠ it → s.heap.get? b = some o → h'.get? b = some o) (hn : H it = none) (hL : it ≠ X.env.locals)
    (h1 : it ∈ X.ex ∨ X.s₀.heap.objs.size ≤ it) (h2 : ∀ x c, X.env.cells.lookup x = some c → c ≠ it) (h3 : ∀ p ∈ X.pn ++ pins, p.1 ≠ it) : Inv X pins σ H { s with heap := h', toks := t' } := by
  have nit : ∀ b u, H b = some u → b ≠ it := fun b u e z => by rw [z, hn] at e; cases e
  refine I.step (g' := s.gens) (d' := s.drawn) (ch := [it]) (fun b hb => ?_) (fun b o _ _ hc e _ => k b o (fun z => hc (by simp [z])) e) (fun b o _ _ hc e _ => ⟨o.slots, k b o (fun z => hc (by simp [z])) e⟩) (fun _ _ _ _ n => n)
    (fun b o hc e => ⟨o, k b o (fun z => hc (by simp [z])) e⟩) (fun _ _ e => e) (fun _ _ _ e => e) (fun b ps e => ⟨#[], by rw [e]; simp⟩) (fun m hm => ?_) (fun b u e => ?_) I.bare
  · have e : b = it := by simpa using hb
    subst e
    exact ⟨h1, hL, h2, h3⟩
  · obtain ⟨o, es, ep, ho, r⟩ := hm
    exact ⟨o, es, ep, k _ o (Ne.symm hL) ho, r⟩
  · refine (I.hok b u e).stay (fun c v hc q => k c v ?_ q) (fun _ q => q) fun _ _ q => q
    rcases hc with z | z
    · rw [z]; exact nit b u e
    · exact nit c _ z
theorem Inv.tok (I : Inv X pins σ H s) (t : Nat) : Inv X pins σ H { s with toks := t } := I.un (h' := s.heap) (t' := t) Un.refl I.hok
/-- all objects kept -/
theorem Inv.kept {t' : Nat} (I : Inv X pins σ H s) (k : ∀ b u, s.heap.get? b = some u → h'.get? b = some u) : Inv X pins σ H { s with heap := h', toks := t' } := I.un (Un.kept k) (I.hok.kept k)
/-- a new object laid and tracked -/
theorem Inv.laid {a : Addr} {o : HO} {t' : Nat} (I : Inv X pins σ H s) (k : ∀ b u, s.heap.get? b = some u → h'.get? b = some u) (hp : s.heap.objs.size ≤ a) (new : ObjOk X.prog X.w (upd H a o) h' a o) :
    Inv X pins σ (upd H a o) { s with heap := h', toks := t' } := I.un (Un.laid k hp (I.hok.fresh hp)) (I.hok.laid k hp new)
/-- an object written -/
theorem Inv.write {x e : Addr} {o : HO} {t' : Nat} (I : Inv X pins σ H s) (mu : Mut (H x)) (he : e = x ∨ H e = some (.own x)) (k : ∀ b u, b ≠ e → s.heap.get? b = some u → h'.get? b = some u) (heo : ∃ u, h'.get? e = some u)
    (new : ObjOk X.prog X.w (upd H x o) h' x o) : Inv X pins σ (upd H x o) { s with heap := h', toks := t' } := I.un (Un.write mu he k heo) (I.hok.write mu he k heo new)
/-- forgetting slots, pins -/
theorem Inv.weak {σ' : List (Option V)} (I : Inv X pins σ H s) (hl : σ'.length = σ.length) (w : ∀ (i : Nat) v, σ'[i]? = some (some v) → σ[i]? = some (some v)) : Inv X pins σ' H s :=
  ⟨I.ok, I.os, I.bare, I.base, let ⟨m, hn, hl'⟩ := I.loc; ⟨m, hn, fun i x v e1 e2 e3 => hl' i x v e1 (w i v e2) e3⟩, I.cell, I.free, I.freeC, I.pin, I.hok, hl.trans I.len⟩
theorem Inv.pins_of {pins' : List (Addr × Obj)} (I : Inv X pins σ H s) (h : ∀ p ∈ pins', s.heap.get? p.1 = some p.2 ∧ H p.1 = none ∧ p.1 ≠ X.env.locals ∧ p.1 ∉ X.fs ∧ ∀ v, p.2.data ≠ .cell v) : Inv X pins' σ H s :=
  ⟨I.ok, I.os, I.bare, I.base, I.loc, I.cell, I.free, I.freeC, fun p hp => (List.mem_append.mp hp).elim (fun z => I.pin p (List.mem_append_left _ z)) (h p), I.hok, I.len⟩

theorem nodup_ix {N : List Str} (hN : N.Nodup) {i j : Nat} {x : Str} (a : N[i]? = some x) (b : N[j]? = some x) : i = j := by
  obtain ⟨h1, e1⟩ := List.getElem?_eq_some_iff.mp a
  obtain ⟨h2, e2⟩ := List.getElem?_eq_some_iff.mp b
  exact (List.getElem_inj hN).mp (e1.trans e2.symm)

/-- a name is stored; what changed -/
theorem store_ok2 {M : Model} {A : Around} {E : Value → Shared → Prop} {i : Nat} {x : Str} {v : V} {u : Value} {Q : Unit → Shared → Prop} (I : Inv X pins σ H s) (hN : X.N.Nodup) (hi : X.N[i]? = some x) (hx : Loc X.env.scope x) (r : RelV v u)
    (h : ∀ s', Inv X pins (σ.set i (some v)) H s' → (∃ a, Heap.SameBut a s.heap s'.heap ∧ (a = X.env.locals ∨ X.env.cells.lookup x = some a)) → Q () s') (hf : X.fn x = true ∨ X.env.scope.names.lookup x = some .local := by first | exact .inl rfl | exact .inr rfl | assumption) : wpAny M A (storeName X.env x u) Q E s := by
  obtain ⟨m, hn, hl⟩ := id I.loc
  have hcls : (X.env.scope.kind == .class || (X.env.scope.kind == .module && X.env.locals != X.env.globals)) = false := by rw [I.ok.kind]; rfl
  have hiσ : i < σ.length := by rw [I.len]; exact (List.getElem?_eq_some_iff.mp hi).1
  have cne := I.cne
  have tracked : ∀ {a : Addr} {h' : Heap}, (∃ o, s.heap.get? a = some o ∧ H a = none) → Heap.SameBut a s.heap h' → HOk X.prog X.w H h' := fun {a h'} ha hs b ob e => by
    obtain ⟨_, _, hfree⟩ := ha
    refine (I.hok b ob e).stay (fun c w' hc q => (hs.2 c ?_).trans q) (fun _ q => q) fun _ _ q => q
    rintro rfl
    rcases hc with rfl | hc
    · rw [hfree] at e; cases e
    · rw [hfree] at hc; cases hc
  rcases hx with hk | hk
  · refine wpAny_storeName_local hk hn (fun h' hn' hs => ?_) hcls
    obtain ⟨oL, _, _, hoL, _⟩ := id hn
    refine h _ ⟨I.ok, I.os, I.bare, ⟨fun b o e n hb hx => ?_, fun b o e n hb hx => ?_, I.base.free, fun b o e hx => ?_, I.base.tups, I.base.frzs, I.base.tbls⟩, ⟨_, hn', fun j y v' e1 e2 e3 => ?_⟩, fun y c e => ?_, I.free, I.freeC, fun p hp => ?_, tracked ⟨oL, hoL, I.free⟩ hs, by simpa using I.len⟩ ⟨_, hs, .inl rfl⟩
    · exact (hs.2 b (Nat.ne_of_lt (Nat.lt_of_lt_of_le (Heap.lt_size e) I.ok.above))).trans (I.base.keep b o e n hb hx)
    · obtain ⟨sl, e1⟩ := I.base.slot b o e n hb hx
      exact ⟨sl, (hs.2 b (Nat.ne_of_lt (Nat.lt_of_lt_of_le (Heap.lt_size e) I.ok.above))).trans e1⟩
    · obtain ⟨o', e1⟩ := I.base.there b o e hx
      exact ⟨o', (hs.2 b (Nat.ne_of_lt (Nat.lt_of_lt_of_le (Heap.lt_size e) I.ok.above))).trans e1⟩
    · by_cases hj : j = i
      · subst hj
        rw [hi] at e1; cases e1
        rw [List.getElem?_set_self hiσ] at e2
        cases e2
        exact ⟨u, r, .inl ⟨hk, by simp⟩⟩
      · rw [List.getElem?_set_ne (Ne.symm hj)] at e2
        obtain ⟨u', r', q⟩ := hl j y v' e1 e2 e3
        refine ⟨u', r', ?_⟩
        rcases q with ⟨k, e⟩ | ⟨k, c, e, z⟩
        · refine .inl ⟨k, ?_⟩
          have : y ≠ x := fun e => hj (nodup_ix hN e1 (e ▸ hi))
          simp [this, e]
        · exact .inr ⟨k, c, e, z.sameBut hs (cne y c e)⟩
    · obtain ⟨w', z⟩ := I.cell y c e
      exact ⟨w', z.sameBut hs (cne y c e)⟩
    · obtain ⟨e, n, ne, nf, d⟩ := I.pin p hp
      exact ⟨(hs.2 p.1 ne).trans e, n, ne, nf, d⟩
  · have hfn : X.fn x = true := by
      rcases hf with z | z
      · exact z
      · rw [z] at hk; cases hk
    obtain ⟨c, hc⟩ := I.ok.has x (.inl hk)
    obtain ⟨w', z⟩ := I.cell x c hc
    refine wpAny_storeName_cell I.ok.kind hk hc z (fun h' hc' hs => ?_)
    obtain ⟨oc, hoc, hocd⟩ := id z
    refine h { s with heap := h' } ⟨I.ok, I.os, I.bare, ⟨fun b o e n hb hx => ?_, fun b o e n hb hx => ?_, I.base.free, fun b o e hx => ?_, I.base.tups, I.base.frzs, I.base.tbls⟩, ⟨m, hn.sameBut hs (Ne.symm (cne x c hc)), fun j y v' e1 e2 e3 => ?_⟩, fun y c' e => ?_, I.free, I.freeC, fun p hp => ?_, tracked ⟨oc, hoc, I.freeC x c hc⟩ hs, by simpa using I.len⟩ ⟨c, hs, .inr hc⟩
    · exact (hs.2 b (Nat.ne_of_lt (Nat.lt_of_lt_of_le (Heap.lt_size e) (I.ok.cab x c hfn hc)))).trans (I.base.keep b o e n hb hx)
    · obtain ⟨sl, e1⟩ := I.base.slot b o e n hb hx
      exact ⟨sl, (hs.2 b (Nat.ne_of_lt (Nat.lt_of_lt_of_le (Heap.lt_size e) (I.ok.cab x c hfn hc)))).trans e1⟩
    · obtain ⟨o', e1⟩ := I.base.there b o e hx
      exact ⟨o', (hs.2 b (Nat.ne_of_lt (Nat.lt_of_lt_of_le (Heap.lt_size e) (I.ok.cab x c hfn hc)))).trans e1⟩
    · by_cases hj : j = i
      · subst hj
        rw [hi] at e1; cases e1
        rw [List.getElem?_set_self hiσ] at e2
        cases e2
        exact ⟨u, r, .inr ⟨.inl hk, c, hc, hc'⟩⟩
      · rw [List.getElem?_set_ne (Ne.symm hj)] at e2
        obtain ⟨u', r', q⟩ := hl j y v' e1 e2 e3
        refine ⟨u', r', ?_⟩
        rcases q with q | ⟨k, c', e, z'⟩
        · exact .inl q
        · refine .inr ⟨k, c', e, z'.sameBut hs ?_⟩
          rintro rfl
          exact hj (nodup_ix hN e1 (I.ok.inj _ _ _ e hc ▸ hi))
    · by_cases hcc : c' = c
      · subst hcc; exact ⟨_, hc'⟩
      · obtain ⟨w2, z2⟩ := I.cell y c' e
        exact ⟨w2, z2.sameBut hs hcc⟩
    · obtain ⟨e, n, ne, nf, d⟩ := I.pin p hp
      refine ⟨(hs.2 p.1 ?_).trans e, n, ne, nf, d⟩
      intro q
      rw [q, hoc] at e
      have q' : oc = p.2 := Option.some.inj e
      exact d w' (by rw [← q']; exact hocd)
theorem store_ok {M : Model} {A : Around} {E : Value → Shared → Prop} {i : Nat} {x : Str} {v : V} {u : Value} {Q : Unit → Shared → Prop} (I : Inv X pins σ H s) (hN : X.N.Nodup) (hi : X.N[i]? = some x) (hx : Loc X.env.scope x) (r : RelV v u)
    (h : ∀ s', Inv X pins (σ.set i (some v)) H s' → Q () s') (hf : X.fn x = true ∨ X.env.scope.names.lookup x = some .local := by first | exact .inl rfl | exact .inr rfl | assumption) : wpAny M A (storeName X.env x u) Q E s :=
  store_ok2 I hN hi hx r (fun s' I' _ => h s' I') hf
/-- behind a call or a block, the state as it is -/
theorem Inv.call' {s' : Shared} {ch : List Addr} (I : Inv X pins σ H s) (ho : s'.os = s.os) (u : Un (frs X.stack) ch H H' s.heap s'.heap) (hok : HOk X.prog X.w H' s'.heap) (hg : AllBare s'.gens)
    (hch : ∀ b ∈ ch, (b ∈ X.ex ∨ X.s₀.heap.objs.size ≤ b) ∧ b ≠ X.env.locals ∧ (∀ x c, X.env.cells.lookup x = some c → c ≠ b) ∧ ∀ p ∈ X.pn ++ pins, p.1 ≠ b) : Inv X pins σ H' s' := by
  obtain ⟨h', g', d', t', o'⟩ := s'
  have e : o' = s.os := ho
  subst e
  exact I.call (g' := g') (t' := t') (d' := d') u hok hg hch
end

/-! ### the judgements -/
/-- an exception: its class, its own dict's address (where it has one), the abstract heap behind it -/
abbrev XK := Value → Option Addr → Hp → Prop
abbrev St := List (Option V)
abbrev VK := V → Hp → Prop
/-- an expression's reading; a test's; an argument list's -/
abbrev TE := St → Hp → VK → Prop
abbrev TT := St → Hp → (Bool → Hp → Prop) → Prop
abbrev TA := St → Hp → (List V → Hp → Prop) → Prop
/-- what is wanted behind a statement -/
structure Ends where
  nx : St → Hp → Prop
  rt : VK
  bk : St → Hp → Prop := fun _ _ => False
  ct : St → Hp → Prop := fun _ _ => False
abbrev TS := Ends → St → Hp → Prop

def EP (X : Cx) (pins : List (Addr × Obj)) (σ : St) (Q : VK) (u : Value) (s' : Shared) : Prop := ∃ v H', Inv X pins σ H' s' ∧ RelV v u ∧ Q v H'
def TP (X : Cx) (pins : List (Addr × Obj)) (σ : St) (Q : Bool → Hp → Prop) (b : Bool) (s' : Shared) : Prop := ∃ H', Inv X pins σ H' s' ∧ Q b H'
def AP (X : Cx) (pins : List (Addr × Obj)) (σ : St) (Q : List V → Hp → Prop) (us : List Value) (s' : Shared) : Prop := ∃ vs H', Inv X pins σ H' s' ∧ Vals vs us ∧ Q vs H'
def SP (X : Cx) (pins : List (Addr × Obj)) (D : Ends) (f : Flow) (s' : Shared) : Prop :=
  match f with
  | .next => ∃ σ' H', Inv X pins σ' H' s' ∧ D.nx σ' H'
  | .brk => ∃ σ' H', Inv X pins σ' H' s' ∧ D.bk σ' H'
  | .cont => ∃ σ' H', Inv X pins σ' H' s' ∧ D.ct σ' H'
  | .ret u => ∃ v σ' H', Inv X pins σ' H' s' ∧ RelV v u ∧ D.rt v H'

def PE (X : Cx) (e : Expr) (t : TE) : Prop :=
  ∀ (pins : List (Addr × Obj)) (s : Shared) (σ : St) (H : Hp) (Q : VK), Inv X pins σ H s → t σ H Q → wpAny (model X.prog X.w) X.A (eval e X.env) (EP X pins σ Q) X.xe s
def PT (X : Cx) (e : Expr) (t : TT) : Prop :=
  ∀ (pins : List (Addr × Obj)) (s : Shared) (σ : St) (H : Hp) (Q : Bool → Hp → Prop), Inv X pins σ H s → t σ H Q → wpAny (model X.prog X.w) X.A (isTrue e X.env (eval e X.env)) (TP X pins σ Q) X.xe s
/-- a test whatever its 'whole' is (and, or) -/
def PW (X : Cx) (e : Expr) (t : TT) : Prop :=
  ∀ (whole : Sem Value) (pins : List (Addr × Obj)) (s : Shared) (σ : St) (H : Hp) (Q : Bool → Hp → Prop), Inv X pins σ H s → t σ H Q → wpAny (model X.prog X.w) X.A (isTrue e X.env whole) (TP X pins σ Q) X.xe s
theorem PW.pt {X : Cx} {e : Expr} {t : TT} (h : PW X e t) : PT X e t := h _
/-- an argument list (no star), from the left -/
def PA (X : Cx) (es : List Expr) (t : TA) : Prop :=
  ∀ (pos : Pos) (pins : List (Addr × Obj)) (s : Shared) (σ : St) (H : Hp) (Q : List V → Hp → Prop), Inv X pins σ H s → t σ H Q → wpAny (model X.prog X.w) X.A (spliced (backTo pos (starEach es X.env))) (AP X pins σ Q) X.xe s
def PS (X : Cx) (st : Stmt) (t : TS) : Prop :=
  ∀ (pins : List (Addr × Obj)) (s : Shared) (σ : St) (H : Hp) (D : Ends), Inv X pins σ H s → t D σ H → wpAny (model X.prog X.w) X.A (exec st X.env) (SP X pins D) X.xe s
def PSs (X : Cx) (st : List Stmt) (t : TS) : Prop :=
  ∀ (pins : List (Addr × Obj)) (s : Shared) (σ : St) (H : Hp) (D : Ends), Inv X pins σ H s → t D σ H → wpAny (model X.prog X.w) X.A (execs st X.env) (SP X pins D) X.xe s
/-- weaken the end -/
theorem thn {α : Type} {t : Sem α} {Q Q' : α → Shared → Prop} {M : Model} {A : Around} {E : Value → Shared → Prop} {s : Shared} (h : wpAny M A t Q E s) (hQ : ∀ a s, Q a s → Q' a s) : wpAny M A t Q' E s := wpAny_mono h hQ fun _ _ x => x
end L2

namespace L2
open PySem PySem.Spec PyProof.Rows
section
variable {X : Cx}

/-! ### names and constants -/
def tVar (i : Nat) : TE := fun σ H Q => ∃ v, σ[i]? = some (some v) ∧ Q v H
def tC (v : V) : TE := fun _ H Q => Q v H
theorem pe_var {i : Nat} {x : Str} {pos : Pos} (hN : X.N[i]? = some x) (hv : Vis X.env.scope x) (hd : (x == ("__debug__" : Str)) = false := by decide) (hcd : (x == ("__classdict__" : Str)) = false := by decide) : PE X (.Name x pos) (tVar i) := by
  intro pins s σ H Q I h
  obtain ⟨v, e, h⟩ := h
  obtain ⟨m, hn, hl⟩ := I.loc
  obtain ⟨u, r, l⟩ := hl i x v hN e hv
  have fin : EP X pins σ Q u s := ⟨v, H, I, r, h⟩
  rcases l with ⟨hk, hm⟩ | ⟨hk, c, hc, hcell⟩
  · exact wpAny_Name (wpAny_loadName_local I.ok.kind hk hn hm fin) hd
  · rcases hk with hk | hk
    · exact wpAny_Name (wpAny_loadName_cell I.ok.kind hk hc hcell fin) hd
    · exact wpAny_Name (wpAny_loadName_free I.ok.kind hk hc hcell fin hcd) hd
theorem pe_int {i j pos} : PE X (.Constant (.int i) j pos) (tC (.int i)) := fun _ _ _ H _ I h => wpAny_Constant_int ⟨.int i, H, I.tok _, ⟨_, rfl⟩, h⟩
theorem pe_bl {b j pos} : PE X (.Constant (.bool b) j pos) (tC (.bl b)) := fun _ _ _ H _ I h => Constant_bool ⟨.bl b, H, I, rfl, h⟩
theorem pe_non {j pos} : PE X (.Constant .none j pos) (tC .non) := fun _ _ _ H _ I h => Constant_none ⟨.non, H, I, rfl, h⟩
theorem pe_str {x j pos} : PE X (.Constant (.str x) j pos) (tC (.str x)) := fun _ _ _ H _ I h => Calls.Constant_str ⟨.str x, H, I.tok _, ⟨_, rfl⟩, h⟩

/-- a global name of the def -/
def Gl (X : Cx) (x : Str) : Prop := X.env.kindOf x = some .globalImplicit
theorem ld_glob {E : Value → Shared → Prop} {pins : List (Addr × Obj)} {s : Shared} {σ : St} {H : Hp} {x : Str} {u : Value} {pos : Pos} {Q : Value → Shared → Prop} (I : Inv X pins σ H s) (hg : Gl X x) (hm : X.mg x = some u) (h : Q u s)
    (hd : (x == ("__debug__" : Str)) = false := by decide) : wpAny (model X.prog X.w) X.A (eval (.Name x pos) X.env) Q E s :=
  Calls.Name_function_global I.ok.kind hg (Calls.loadGlobal_global (by rw [I.ok.glob]; exact I.mod.glob.keeps I.bk) hm h) hd
theorem ld_blt {E : Value → Shared → Prop} {pins : List (Addr × Obj)} {s : Shared} {σ : St} {H : Hp} {x : Str} {u : Value} {pos : Pos} {Q : Value → Shared → Prop} (I : Inv X pins σ H s) (hg : Gl X x) (hm : X.mg x = none) (hv : bootBuiltins x = some u) (h : Q u s)
    (hn : x ≠ "__name__" := by decide) (hd : (x == ("__debug__" : Str)) = false := by decide) : wpAny (model X.prog X.w) X.A (eval (.Name x pos) X.env) Q E s := by
  obtain ⟨mb, h1, h2⟩ := I.mod.blt
  exact Calls.Name_function_global I.ok.kind hg (Calls.loadGlobal_builtin (by rw [I.ok.glob]; exact I.mod.glob.keeps I.bk) hm (by rw [I.ok.blt]; exact h1.keeps I.bk) ((h2 x hn).trans hv) h) hd
/-- a module's constant, a class, a function, as a value -/
theorem pe_glob {x : Str} {v : V} {u : Value} {pos : Pos} (hg : Gl X x) (hm : X.mg x = some u) (r : RelV v u) (hd : (x == ("__debug__" : Str)) = false := by decide) : PE X (.Name x pos) (tC v) :=
  fun _ _ _ H _ I h => ld_glob I hg hm ⟨v, H, I, r, h⟩ hd
theorem pe_bltn {x : Str} {v : V} {u : Value} {pos : Pos} (hg : Gl X x) (hm : X.mg x = none) (hv : bootBuiltins x = some u) (r : RelV v u) (hn : x ≠ "__name__" := by decide) (hd : (x == ("__debug__" : Str)) = false := by decide) : PE X (.Name x pos) (tC v) :=
  fun _ _ _ H _ I h => ld_blt I hg hm hv ⟨v, H, I, r, h⟩ hn hd

/-! ### arithmetic -/
variable {a b : Expr} {ta tb : TE} {pos : Pos}
/-! ### comparisons -/
/-- a comparison as a value, as a test -/
def tB (t : TE) : TT := fun σ H Q => t σ H fun x H1 => ∃ c, x = .bl c ∧ Q c H1
/-- an expression whose value is a bool, as a test -/
theorem pt_val {e : Expr} {t : TE} (h : PE X e t) (he : ∀ whole, isTrue e X.env whole = (do let v ← whole; standAt e.pos; holding [v] (truthy v)) := by intro _; rfl) : PT X e (tB t) := by
  intro pins s σ H Q I hw
  refine isTrue_plain (thn (h pins s σ H _ I hw) fun v s1 ⟨x, H1, I1, r1, q1⟩ => ?_) (he _)
  obtain ⟨d, rfl, q⟩ := q1
  cases r1
  exact wpAny_truthy_bool ⟨H1, I1, q⟩

/-! ### and, or, not -/
variable {tA tB' : TT} {rest : List Expr}
def tAnd (t u : TT) : TT := fun σ H Q => t σ H fun c H1 => if c = true then u σ H1 Q else Q false H1
def tOr (t u : TT) : TT := fun σ H Q => t σ H fun c H1 => if c = true then Q true H1 else u σ H1 Q
def tNot (t : TT) : TT := fun σ H Q => t σ H fun c H1 => Q (!c) H1
theorem pw_and1 (ha : PT X a tA) : PW X (.BoolOp .And [a] pos) tA := by
  intro wh pins s σ H Q I h
  refine isTrue_and (thn (ha pins s σ H Q I h) fun c s1 e => ?_)
  cases c with
  | true => exact isTrue_and_nil e
  | false => exact e
theorem pw_or1 (ha : PT X a tA) : PW X (.BoolOp .Or [a] pos) tA := by
  intro wh pins s σ H Q I h
  refine isTrue_or (thn (ha pins s σ H Q I h) fun c s1 e => ?_)
  cases c with
  | false => exact isTrue_or_nil e
  | true => exact e
theorem pw_and (ha : PT X a tA) (hb : PW X (.BoolOp .And (b :: rest) pos) tB') : PW X (.BoolOp .And (a :: b :: rest) pos) (tAnd tA tB') := by
  intro wh pins s σ H Q I h
  refine isTrue_and (thn (ha pins s σ H _ I h) fun c s1 ⟨H1, I1, q1⟩ => ?_)
  cases c with
  | true => exact hb wh pins s1 σ H1 Q I1 q1
  | false => exact ⟨H1, I1, q1⟩
theorem pw_or (ha : PT X a tA) (hb : PW X (.BoolOp .Or (b :: rest) pos) tB') : PW X (.BoolOp .Or (a :: b :: rest) pos) (tOr tA tB') := by
  intro wh pins s σ H Q I h
  refine isTrue_or (thn (ha pins s σ H _ I h) fun c s1 ⟨H1, I1, q1⟩ => ?_)
  cases c with
  | true => exact ⟨H1, I1, q1⟩
  | false => exact hb wh pins s1 σ H1 Q I1 q1
theorem pt_not (ha : PT X a tA) : PT X (.UnaryOp .Not a pos) (tNot tA) := by
  intro pins s σ H Q I h
  exact isTrue_not (ha pins s σ H (fun c H1 => Q (!c) H1) I h)
/-- .. as values (bools) -/
def tAndV (ta tb : TE) : TE := fun σ H Q => ta σ H fun x H1 => ∃ c, x = .bl c ∧ if c = true then tb σ H1 Q else Q (.bl false) H1
def tNotV (ta : TE) : TE := fun σ H Q => ta σ H fun x H1 => ∃ c, x = .bl c ∧ Q (.bl (!c)) H1
theorem pe_one {op} {t : TE} (h : PE X a t) : PE X (.BoolOp op [a] pos) t := fun pins s σ H Q I hw => BoolOp_one (h pins s σ H Q I hw)
theorem pe_and (ha : PE X a ta) (hb : PE X (.BoolOp .And (b :: rest) pos) tb) : PE X (.BoolOp .And (a :: b :: rest) pos) (tAndV ta tb) := by
  intro pins s σ H Q I h
  refine BoolOp_and (thn (ha pins s σ H _ I h) fun v s1 ⟨x, H1, I1, r1, q1⟩ => ?_)
  obtain ⟨c, rfl, q1⟩ := q1
  cases r1
  refine wpAny_truthy_bool ?_
  cases c with
  | true => exact hb pins s1 σ H1 Q I1 q1
  | false => exact ⟨.bl false, H1, I1, rfl, q1⟩
theorem pe_not (ha : PE X a ta) : PE X (.UnaryOp .Not a pos) (tNotV ta) := by
  intro pins s σ H Q I h
  refine UnaryOp_ (thn (ha pins s σ H _ I h) fun v s1 ⟨x, H1, I1, r1, q1⟩ => ?_)
  obtain ⟨c, rfl, q1⟩ := q1
  cases r1
  exact not_of (wpAny_truthy_bool ⟨.bl (!c), H1, I1, rfl, q1⟩)
/-- a if t else b -/
def tIf (t : TT) (ta tb : TE) : TE := fun σ H Q => t σ H fun c H1 => if c = true then ta σ H1 Q else tb σ H1 Q
theorem pe_ifExp {c : Expr} (hc : PT X c tA) (ha : PE X a ta) (hb : PE X b tb) : PE X (.IfExp c a b pos) (tIf tA ta tb) := by
  intro pins s σ H Q I h
  refine wpAny_IfExp (thn (hc pins s σ H _ I h) fun d s1 ⟨H1, I1, q1⟩ => ?_)
  cases d with
  | true => exact ha pins s1 σ H1 Q I1 q1
  | false => exact hb pins s1 σ H1 Q I1 q1
end
end L2

namespace L2
open PySem PySem.Spec PyProof.Rows

/-! ### a list, a tuple that is read: tracked, frozen, or an object of the module -/
def SqL (K : PySem.W.Frag) (H : Hp) (a : Addr) (xs : List V) : Prop :=
  Rd H a (.lst xs) ∨
    ∃ (o : Obj) (its : Array Value) (n : Nat), K.lookup a = some o ∧ o.cls = .type "list" ∧ o.dict = none ∧ o.data = .seq its n ∧ its.size ≤ sizeLine ∧ Vals xs its.toList
def SqT (K : PySem.W.Frag) (H : Hp) (a : Addr) (xs : List V) : Prop :=
  Rd H a (.tup xs) ∨
    ∃ (o : Obj) (its : Array Value) (n : Nat), K.lookup a = some o ∧ o.cls = .type "tuple" ∧ o.data = .seq its n ∧ its.size ≤ sizeLine ∧ Vals xs its.toList
def absV : Value → Option V
  | .none => some .non
  | .bool b => some (.bl b)
  | .int i _ => some (.int i)
  | .str x _ => some (.str x)
  | .bytes b _ => some (.byt b)
  | .float b _ => some (.flt b)
  | .ref a => some (.ref a)
  | .type n => some (.ty n)
  | _ => none
theorem RelV.abs {x : V} {u : Value} (r : RelV x u) : absV u = some x := by
  cases x with
  | non => cases r; rfl
  | bl _ => cases r; rfl
  | int _ => obtain ⟨t, rfl⟩ := r; rfl
  | str _ => obtain ⟨t, rfl⟩ := r; rfl
  | byt _ => obtain ⟨t, rfl⟩ := r; rfl
  | flt _ => obtain ⟨t, rfl⟩ := r; rfl
  | ref _ => cases r; rfl
  | ty _ => cases r; rfl
theorem RelV.inj {x y : V} {u : Value} (r : RelV x u) (q : RelV y u) : x = y := Option.some.inj (r.abs.symm.trans q.abs)
theorem Vals.inj : ∀ {xs ys : List V} {us : List Value}, Vals xs us → Vals ys us → xs = ys
  | _, _, _, .nil, .nil => rfl
  | _, _, _, .cons r t, .cons r' t' => by rw [r.inj r', Vals.inj t t']
section
variable {X : Cx} {pins : List (Addr × Obj)} {σ : St} {H : Hp} {s : Shared} {a : Addr} {xs ys : List V}
theorem SqL.of {K : PySem.W.Frag} (h : H a = some (.lst xs)) : SqL K H a xs := .inl (.inl h)
theorem SqT.of {K : PySem.W.Frag} (h : H a = some (.tup xs)) : SqT K H a xs := .inl (.inl h)
theorem Inv.list (I : Inv X pins σ H s) (h : SqL X.K H a xs) : ∃ its : List Value, Vals xs its ∧ PlainL s.heap a its.toArray ∧ xs.length ≤ sizeLine := by
  rcases h with h | ⟨o, its, n, hk, hc, hd, hs, hz, r⟩
  · obtain ⟨z, its, n, r, e⟩ := h.ok I.hok
    exact ⟨its, r, ⟨_, n, e, rfl, rfl, rfl⟩, z⟩
  · refine ⟨its.toList, r, ⟨o, n, I.kIn a o hk, hc, hd, by simpa using hs⟩, ?_⟩
    have e := r.length
    simp only [Array.length_toList] at e
    omega
theorem Inv.tuple (I : Inv X pins σ H s) (h : SqT X.K H a xs) : ∃ its : List Value, Vals xs its ∧ IsTup s.heap a its.toArray ∧ xs.length ≤ sizeLine := by
  rcases h with h | ⟨o, its, n, hk, hc, hs, hz, r⟩
  · obtain ⟨z, its, r, p⟩ := h.ok I.hok
    exact ⟨its, r, p, z⟩
  · refine ⟨its.toList, r, ⟨o, I.kIn a o hk, hc, n, by simpa using hs⟩, ?_⟩
    have e := r.length
    simp only [Array.length_toList] at e
    omega
theorem Inv.list_inj (I : Inv X pins σ H s) (h : SqL X.K H a xs) (h' : SqL X.K H a ys) : xs = ys := by
  obtain ⟨its, r, ⟨o, n, e, _, _, d⟩, _⟩ := I.list h
  obtain ⟨its', r', ⟨o', n', e', _, _, d'⟩, _⟩ := I.list h'
  rw [e] at e'; cases e'
  rw [d] at d'
  injection d' with d1 _
  have : its = its' := by simpa using congrArg Array.toList d1
  subst this
  exact r.inj r'
end

/-! ### another wish about exceptions -/
abbrev Cx.wish (X : Cx) (E : Value → Shared → Prop) : Cx := { X with xe := E }
/-- no exception leaves -/
abbrev Cx.nox (X : Cx) : Cx := X.wish fun _ _ => False
theorem Cx.Ok.wish {X : Cx} (ok : X.Ok) (E : Value → Shared → Prop) : (X.wish E).Ok :=
  ⟨ok.mod, ok.kind, ok.glob, ok.blt, ok.above, ok.inj, ok.has, ok.cab, ok.hd, ok.frames, ok.stk, ok.exf, ok.bs, ok.bsz, ok.noex, ok.exfs, ok.funs, ok.frf⟩
theorem Cx.Ok.unwish {X : Cx} {E : Value → Shared → Prop} (ok : (X.wish E).Ok) : X.Ok :=
  ⟨ok.mod, ok.kind, ok.glob, ok.blt, ok.above, ok.inj, ok.has, ok.cab, ok.hd, ok.frames, ok.stk, ok.exf, ok.bs, ok.bsz, ok.noex, ok.exfs, ok.funs, ok.frf⟩
section
variable {X : Cx} {pins : List (Addr × Obj)} {σ : St} {H : Hp} {s : Shared} {E : Value → Shared → Prop}
theorem Inv.wish (I : Inv X pins σ H s) (E : Value → Shared → Prop) : Inv (X.wish E) pins σ H s := ⟨I.ok.wish E, I.os, I.bare, I.base, I.loc, I.cell, I.free, I.freeC, I.pin, I.hok, I.len⟩
theorem Inv.unwish (I : Inv (X.wish E) pins σ H s) : Inv X pins σ H s := ⟨I.ok.unwish, I.os, I.bare, I.base, I.loc, I.cell, I.free, I.freeC, I.pin, I.hok, I.len⟩
theorem SP.unwish {D : Ends} {f : Flow} {s' : Shared} (h : SP (X.wish E) pins D f s') : SP X pins D f s' := by
  cases f with
  | next => obtain ⟨σ', H', I, q⟩ := h; exact ⟨σ', H', I.unwish, q⟩
  | brk => obtain ⟨σ', H', I, q⟩ := h; exact ⟨σ', H', I.unwish, q⟩
  | cont => obtain ⟨σ', H', I, q⟩ := h; exact ⟨σ', H', I.unwish, q⟩
  | ret u => obtain ⟨v, σ', H', I, r, q⟩ := h; exact ⟨v, σ', H', I.unwish, r, q⟩
theorem PSs.nox {st : List Stmt} {t : TS} (h : PSs X.nox st t) : PSs X st t := fun pins s σ H D I hw =>
  wpAny_mono (h pins s σ H D (I.wish _) hw) (fun _ _ q => q.unwish) fun _ _ z => False.elim z
end

/-! ### blocks and small statements -/
section
variable {X : Cx} {st : Stmt} {rest : List Stmt} {t u : TS} {e : Expr} {te : TE} {pos : Pos}
def tNext : TS := fun D σ H => D.nx σ H
def tSeq (t u : TS) : TS := fun D σ H => t { D with nx := u D } σ H
theorem pss_nil : PSs X [] tNext := fun _ _ σ H _ I h => wpAny_execs_nil ⟨σ, H, I, h⟩
theorem pss_cons (h1 : PS X st t) (h2 : PSs X rest u) : PSs X (st :: rest) (tSeq t u) := by
  intro pins s σ H D I h
  refine wpAny_execs_cons (thn (h1 pins s σ H { D with nx := u D } I h) fun f s1 q => ?_)
  cases f with
  | next =>
    obtain ⟨σ', H', I', q⟩ := q
    exact h2 pins s1 σ' H' D I' q
  | ret v => exact q
  | brk => exact q
  | cont => exact q
theorem pss_one (h1 : PS X st t) : PSs X [st] t := by
  intro pins s σ H D I h
  refine wpAny_execs_cons (thn (h1 pins s σ H D I h) fun f s1 q => ?_)
  cases f with
  | next => exact wpAny_execs_nil q
  | ret v => exact q
  | brk => exact q
  | cont => exact q
/-- in a def's body nothing is shown -/
theorem Inv.quiet {pins : List (Addr × Obj)} {σ : St} {H : Hp} {s : Shared} (I : Inv X pins σ H s) : interactive X.env = false := by simp [interactive, I.ok.kind]
/-- an expression whose value is dropped -/
def tDrop (te : TE) : TS := fun D σ H => te σ H fun _ H1 => D.nx σ H1
theorem ps_expr (he : PE X e te) (hs : swapsWith e none pos.line X.env = pure false := by rfl) : PS X (.Expr e pos) (tDrop te) := by
  intro pins s σ H D I h
  exact wpAny_Expr_any (thn (he pins s σ H _ I h) fun v s1 ⟨x, H1, I1, r1, q1⟩ => ⟨σ, H1, I1, q1⟩) I.quiet hs
def tRet (te : TE) : TS := fun D σ H => te σ H D.rt
theorem ps_ret (he : PE X e te) : PS X (.Return (some e) pos) (tRet te) := by
  intro pins s σ H D I h
  exact wpAny_Return_some (thn (he pins s σ H _ I h) fun v s1 ⟨x, H1, I1, r1, q1⟩ => ⟨x, σ, H1, I1, r1, q1⟩)
def tIfS (c : TT) (t u : TS) : TS := fun D σ H => c σ H fun b H1 => if b = true then t D σ H1 else u D σ H1
theorem ps_if {c : Expr} {a b : List Stmt} {tc : TT} (hc : PT X c tc) (ha : PSs X a t) (hb : PSs X b u) : PS X (.If c a b pos) (tIfS tc t u) := by
  intro pins s σ H D I h
  refine wpAny_If (thn (hc pins s σ H _ I h) fun d s1 ⟨H1, I1, q1⟩ => ?_)
  cases d with
  | true => exact ha pins s1 σ H1 D I1 q1
  | false => exact hb pins s1 σ H1 D I1 q1
/-- code that the proof never comes to -/
def tNever : TS := fun _ _ _ => False
theorem pss_never {sts : List Stmt} : PSs X sts tNever := fun _ _ _ _ _ _ h => h.elim
end

/-! ### targets -/
abbrev TG := V → St → Hp → (St → Hp → Prop) → Prop
abbrev TGs := List V → St → Hp → (St → Hp → Prop) → Prop
def PG (X : Cx) (target : Expr) (t : TG) : Prop :=
  ∀ (pins : List (Addr × Obj)) (s : Shared) (σ : St) (H : Hp) (v : V) (u : Value) (Q : St → Hp → Prop), Inv X pins σ H s → RelV v u → t v σ H Q →
    wpAny (model X.prog X.w) X.A (assign target X.env u) (fun _ s' => ∃ σ' H', Inv X pins σ' H' s' ∧ Q σ' H') X.xe s
/-- several targets, one after another -/
def PGs (X : Cx) (ts : List Expr) (t : TGs) : Prop :=
  ∀ (pins : List (Addr × Obj)) (s : Shared) (σ : St) (H : Hp) (vs : List V) (us : List Value) (Q : St → Hp → Prop), Inv X pins σ H s → Vals vs us → t vs σ H Q →
    wpAny (model X.prog X.w) X.A (assignInOrder ((assignEach ts X.env).map (·.2)) us) (fun _ s' => ∃ σ' H', Inv X pins σ' H' s' ∧ Q σ' H') X.xe s
/-- o[i] = v, by values -/
abbrev TSet := V → V → V → Hp → (Hp → Prop) → Prop
def PSet (X : Cx) (t : TSet) : Prop :=
  ∀ (pins : List (Addr × Obj)) (s : Shared) (σ : St) (H : Hp) (o i v : V) (ov iv u : Value) (Q : Hp → Prop), Inv X pins σ H s → RelV o ov → RelV i iv → RelV v u → t o i v H Q →
    wpAny (model X.prog X.w) X.A (setItem ov iv u) (fun _ s' => ∃ H', Inv X pins σ H' s' ∧ Q H') X.xe s
section
variable {X : Cx} {pos : Pos}
def gName (i : Nat) : TG := fun v σ H Q => Q (σ.set i (some v)) H
theorem pg_name {i : Nat} {x : Str} (hN : X.N.Nodup) (hi : X.N[i]? = some x) (hx : Loc X.env.scope x) (hf : X.fn x = true ∨ X.env.scope.names.lookup x = some .local := by first | exact .inl rfl | exact .inr rfl | assumption) : PG X (.Name x pos) (gName i) := by
  intro pins s σ H v u Q I r h
  exact wpAny_assign_Name (store_ok I hN hi hx r (fun s' I' => ⟨_, H, I', h⟩) hf)
def gNil : TGs := fun vs σ H Q => vs = [] ∧ Q σ H
def gCons (t : TG) (u : TGs) : TGs := fun vs σ H Q => ∃ v r, vs = v :: r ∧ t v σ H fun σ' H' => u r σ' H' Q
theorem pgs_nil : PGs X [] gNil := by
  intro pins s σ H vs us Q I r h
  obtain ⟨e, h⟩ := h
  subst e
  cases r
  exact assignInOrder_nil ⟨σ, H, I, h⟩
theorem pgs_cons {e : Expr} {es : List Expr} {t : TG} {u : TGs} (h1 : PG X e t) (h2 : PGs X es u)
    (hs : (assignEach (e :: es) X.env).map (·.2) = assign e X.env :: (assignEach es X.env).map (·.2) := by rfl) : PGs X (e :: es) (gCons t u) := by
  intro pins s σ H vs us Q I r h
  obtain ⟨v, vr, e1, h⟩ := h
  subst e1
  cases r with
  | cons r rr =>
    rw [hs]
    refine assignInOrder_cons (thn (h1 pins s σ H _ _ _ I r h) fun _ s1 ⟨σ1, H1, I1, q1⟩ => ?_)
    exact h2 pins s1 σ1 H1 _ _ Q I1 rr q1
/-- (a, b, ..) = a tuple of that length -/
def gTup (K : PySem.W.Frag) (n : Nat) (t : TGs) : TG := fun v σ H Q => ∃ a xs, v = .ref a ∧ SqT K H a xs ∧ xs.length = n ∧ t xs σ H Q
theorem pg_tup {es : List Expr} {k : Nat} {t : TGs} {n : Nat} (hc : X.calm = true) (h : PGs X es t)
    (hn : (assignEach es X.env).length = n := by rfl) (hst : (assignEach es X.env).findIdx? (·.1) = none := by rfl) : PG X (.Tuple es k pos) (gTup X.K n t) := by
  intro pins s σ H v u Q I r hw
  obtain ⟨a, xs, e1, hq, hl, hw⟩ := hw
  subst e1
  cases r
  obtain ⟨its, rv, ht, hz⟩ := I.tuple hq
  refine assign_Tuple_tuple (I.ok.hd hc) ht (by simp [hn, ← hl, rv.length]) hst fun h' hx => ?_
  have I1 : Inv X pins σ H { s with heap := h' } := I.kept (t' := s.toks) fun b o e => hx b o (Nat.ne_of_lt (Heap.lt_size e)) e
  exact h pins _ σ H xs _ Q I1 (by simpa using rv) hw
/-- o[i] = .. -/
def gSub (to ti : TE) (t : TSet) : TG := fun v σ H Q => to σ H fun o H1 => ti σ H1 fun i H2 => t o i v H2 fun H3 => Q σ H3
theorem pg_sub {o i : Expr} {to ti : TE} {t : TSet} (ho : PE X o to) (hi : PE X i ti) (hs : PSet X t)
    (ha : ∀ v, assign (.Subscript o i pos) X.env v = (do
      let ov ← holding [v] (eval o X.env)
      let iv ← holding [v, ov] (eval i X.env)
      standAt pos
      holding [v, ov, iv] (setItem ov iv v)
      release [v, ov, iv] []) := by intro _; rfl) : PG X (.Subscript o i pos) (gSub to ti t) := by
  intro pins s σ H v u Q I r h
  rw [ha]
  refine wpAny_bind (wpAny_holding (thn (ho pins s σ H _ I h) fun ov s1 ⟨x, H1, I1, r1, q1⟩ => ?_))
  refine wpAny_bind (wpAny_holding (thn (hi pins s1 σ H1 _ I1 q1) fun iv s2 ⟨y, H2, I2, r2, q2⟩ => ?_))
  refine wpAny_bind (wpAny_standAt (wpAny_bind (wpAny_holding (thn (hs pins s2 σ H2 x y v ov iv u _ I2 r1 r2 r q2) fun _ s3 ⟨H3, I3, q3⟩ => ?_))))
  exact wpAny_release ⟨σ, H3, I3, q3⟩
/-- target = value -/
def tAsg (te : TE) (g : TG) : TS := fun D σ H => te σ H fun x H1 => g x σ H1 D.nx
theorem ps_asg {tg e : Expr} {te : TE} {g : TG} (he : PE X e te) (hg : PG X tg g) (hs : swapsWithSole [tg] e pos.line X.env = pure false := by rfl) (hw : swappedStores [tg] e X.env = pure none := by rfl)
    (h1 : (assignEach [tg] X.env).map (·.2) = [assign tg X.env] := by rfl) : PS X (.Assign [tg] e pos) (tAsg te g) := by
  intro pins s σ H D I h
  refine wpAny_Assign_stores (thn (he pins s σ H _ I h) fun v s1 ⟨x, H1, I1, r1, q1⟩ => ?_) hs hw
  rw [h1]
  exact thn (hg pins s1 σ H1 x v _ I1 r1 q1) fun _ s2 q => q
/-- name = value -/
theorem ps_set {i : Nat} {x : Str} {e : Expr} {te : TE} {pos' : Pos} (hN : X.N.Nodup) (hi : X.N[i]? = some x) (hx : Loc X.env.scope x) (he : PE X e te) (hs : swapsWith e (some (.Name x pos')) pos.line X.env = pure false := by rfl) (hf : X.fn x = true ∨ X.env.scope.names.lookup x = some .local := by first | exact .inl rfl | exact .inr rfl | assumption) :
    PS X (.Assign [.Name x pos'] e pos) (tAsg te (gName i)) := by
  intro pins s σ H D I h
  refine wpAny_Assign_Name (thn (he pins s σ H _ I h) fun v s1 ⟨y, H1, I1, r1, q1⟩ => ?_) hs
  exact store_ok I1 hN hi hx r1 (fun s2 I2 => ⟨_, H1, I2, q1⟩) hf
end

/-! ### while -/
section
variable {X : Cx} {pos : Pos}
/-- the invariant W with its measure -/
def tWhile (c : TT) (tb : TS) : TS := fun D σ H => ∃ W : Nat → St → Hp → Prop, (∃ m, W m σ H) ∧ ∀ m σ H, W m σ H →
  c σ H fun b H1 => if b = true then ∃ N : St → Hp → Prop, (∀ σ' H', N σ' H' → ∃ m', m' < m ∧ W m' σ' H') ∧ tb { D with nx := N, ct := N, bk := D.nx } σ H1 else D.nx σ H1
theorem ps_while {c : Expr} {body : List Stmt} {tc : TT} {tb : TS} (hp : PassesOwn (model X.prog X.w) X.A X.env X.xe) (hc : PT X c tc) (hb : PSs X body tb) : PS X (.While c body [] pos) (tWhile tc tb) := by
  intro pins s σ H D I h
  obtain ⟨W, ⟨m0, w0⟩, turn⟩ := h
  refine wpAny_While (codeAny_whileLoop (fun n s' => ∃ σ' H', Inv X pins σ' H' s' ∧ W n σ' H') ?_ m0 ⟨σ, H, I, w0⟩)
  rintro n s1 ⟨σ1, H1, I1, w1⟩
  refine wpAny_passesOwn hp (thn (hc pins s1 σ1 H1 _ I1 (turn n σ1 H1 w1)) fun b s2 ⟨H2, I2, q2⟩ => ?_)
  cases b with
  | true =>
    obtain ⟨N, hN, q2⟩ := q2
    rw [if_pos rfl]
    refine wpAny_passesOwn hp (thn (hb pins s2 σ1 H2 _ I2 q2) fun f s3 q3 => ?_)
    cases f with
    | next =>
      obtain ⟨σ3, H3, I3, n3⟩ := q3
      obtain ⟨m', hm, w3⟩ := hN σ3 H3 n3
      exact ⟨m', hm, σ3, H3, I3, w3⟩
    | cont =>
      obtain ⟨σ3, H3, I3, n3⟩ := q3
      obtain ⟨m', hm, w3⟩ := hN σ3 H3 n3
      exact ⟨m', hm, σ3, H3, I3, w3⟩
    | brk => exact q3
    | ret v => exact q3
  | false =>
    rw [if_neg Bool.false_ne_true]
    exact wpAny_execs_nil ⟨σ1, H2, I2, q2⟩
end

/-! ### what a loop or a comprehension walks -/
/-- at turn i: it yields x (the heap may grow), or it stops -/
structure It where
  go : Nat → Hp → Prop
  yld : Nat → Hp → V → Hp → Prop
  stop : Nat → Hp → Prop
/-- the iterator's own objects may turn: they are not the frame's, not pinned, younger than the entry (or a comprehension's own) -/
def FpOk (X : Cx) (pins : List (Addr × Obj)) (H : Hp) (b : Addr) : Prop :=
  H b = none ∧ b ≠ X.env.locals ∧ b ∉ X.fs ∧ (b ∈ X.ex ∨ X.s₀.heap.objs.size ≤ b) ∧ (∀ x c, X.env.cells.lookup x = some c → c ≠ b) ∧ ∀ p ∈ X.pn ++ pins, p.1 ≠ b
theorem Inv.fpOk {X : Cx} {pins : List (Addr × Obj)} {σ : St} {H H' : Hp} {s : Shared} {b : Addr} (I : Inv X pins σ H s) (hb : s.heap.objs.size ≤ b) (hn : H' b = none) : FpOk X pins H' b := by
  refine ⟨hn, Nat.ne_of_gt (Nat.lt_of_lt_of_le I.lt hb), I.nofs hb, .inr (Nat.le_trans I.sz hb), fun x c e z => ?_, fun p hp z => ?_⟩
  · obtain ⟨v, q⟩ := I.cell x c e
    exact absurd (Nat.lt_of_lt_of_le q.lt (by rw [z]; exact hb)) (Nat.lt_irrefl _)
  · exact absurd (Nat.lt_of_lt_of_le (Heap.lt_size (I.pin p hp).1) (by rw [z]; exact hb)) (Nat.lt_irrefl _)
structure Turn (P : Program) (w : World) (K : PySem.W.Frag) (tg : Expr) (J : It) (fp : List Addr) (it : Addr) (tn : Nat → Heap → Prop) : Prop where
  mem : it ∈ fp
  obj : ∀ i h, tn i h → ∀ b ∈ fp, ∃ o, h.get? b = some o ∧ ∀ v, o.data ≠ .cell v
  keep : ∀ i h h', tn i h → (∀ b ∈ fp, ∀ o, h.get? b = some o → h'.get? b = some o) → tn i h'
  item : ∀ (X : Cx), X.prog = P → X.w = w → X.K = K → X.calm = true → ∀ (i : Nat) (pins : List (Addr × Obj)) (s : Shared) (σ : St) (H : Hp) (E : Value → Shared → Prop), Inv X pins σ H s → (∀ b ∈ fp, FpOk X pins H b) → tn i s.heap → J.go i H →
    wpAny (model P w) X.A (pyNext (.ref it)) (fun r s1 => ∃ u, r = some u ∧
      wpAny (model P w) X.A (letOwnedTupleGo tg (.ref it) u) (fun _ s2 => ∃ x H', Inv X pins σ H' s2 ∧ RelV x u ∧ J.yld i H x H' ∧ tn (i + 1) s2.heap ∧ ∀ b ∈ fp, H' b = none) E s1) E s
  done : ∀ (X : Cx), X.prog = P → X.w = w → X.K = K → X.calm = true → ∀ (i : Nat) (pins : List (Addr × Obj)) (s : Shared) (σ : St) (H : Hp) (E : Value → Shared → Prop), Inv X pins σ H s → (∀ b ∈ fp, FpOk X pins H b) → tn i s.heap → J.stop i H →
    wpAny (model P w) X.A (pyNext (.ref it)) (fun r s1 => r = none ∧ Inv X pins σ H s1) E s
  self : ∀ (A : Around) (i : Nat) (s : Shared) (Q : Value → Shared → Prop) (E : Value → Shared → Prop), tn i s.heap → Q (.ref it) s → wpAny (model P w) A (pyIter (.ref it)) Q E s
abbrev TI := St → Hp → (It → Hp → Prop) → Prop
/-- an iterator has come -/
def PIE (X : Cx) (pins : List (Addr × Obj)) (σ : St) (tg : Expr) (R : It → Hp → Prop) (itv : Value) (s2 : Shared) : Prop :=
  ∃ (it : Addr) (fp : List Addr) (tn : Nat → Heap → Prop) (J : It) (H' : Hp), itv = .ref it ∧ Inv X pins σ H' s2 ∧ Turn X.prog X.w X.K tg J fp it tn ∧ tn 0 s2.heap ∧ (∀ b ∈ fp, FpOk X pins H' b) ∧ R J H'
def PI (X : Cx) (tg iter : Expr) (wi : TI) : Prop :=
  ∀ (pins : List (Addr × Obj)) (s : Shared) (σ : St) (H : Hp) (R : It → Hp → Prop), Inv X pins σ H s → wi σ H R →
    wpAny (model X.prog X.w) X.A (eval iter X.env) (fun v s1 => wpAny (model X.prog X.w) X.A (pyIter v) (PIE X pins σ tg R) X.xe s1) X.xe s

/-- the step ahead of the store is nothing for an iterator that keeps no tuple -/
theorem go_of {M : Model} {A : Around} {E : Value → Shared → Prop} {s : Shared} {tg : Expr} {it : Addr} {u : Value} {o : Obj} {n : String} {vs : Array Value} {Q : Unit → Shared → Prop} (ho : s.heap.get? it = some o) (hc : o.cls = .type n) (hd : o.data = .fields vs)
    (hn : ["enumerate", "zip", "dict_itemiterator", "dict_reverseitemiterator", "odict_iterator", "itertools.zip_longest", "itertools.pairwise"].contains n = false) (hQ : Q () s) : wpAny M A (letOwnedTupleGo tg (.ref it) u) Q E s := by
  unfold letOwnedTupleGo
  cases tg <;> first
    | exact wpAny_pure hQ
    | (cases u <;> first
        | exact wpAny_pure hQ
        | (refine wpAny_bind (wpAny_load ho ?_)
           rw [hc, hd]
           show wpAny M A (if (["enumerate", "zip", "dict_itemiterator", "dict_reverseitemiterator", "odict_iterator", "itertools.zip_longest", "itertools.pairwise"].contains n && vs[0]? == some (rawInt _)) = true then _ else _) Q E s
           rw [if_neg (by intro h; rw [hn, Bool.false_and] at h; cases h)]
           exact wpAny_pure hQ))

/-- the list at a, as it stands at each turn (a loop may append to it) -/
def Itl (K : PySem.W.Frag) (a : Addr) : It :=
  ⟨fun i H => ∃ xs x, SqL K H a xs ∧ xs[i]? = some x, fun i H x H' => H' = H ∧ ∀ xs, SqL K H a xs → xs[i]? = some x, fun i H => ∃ xs, SqL K H a xs ∧ xs.length ≤ i⟩
/-- lo, lo + 1, .. (n of them) -/
def Itr (lo : Int) (n : Nat) : It := ⟨fun i _ => i < n, fun i H x H' => H' = H ∧ x = .int (lo + i), fun i _ => n ≤ i⟩
theorem turn_list {P : Program} {w : World} {K : PySem.W.Frag} {tg : Expr} (a it : Addr) : Turn P w K tg (Itl K a) [it] it (fun i h => h.IsListIter it a i) where
  mem := by simp
  obj := fun i h st b hb => by
    have e : b = it := by simpa using hb
    subst e
    obtain ⟨o, e, c, d⟩ := st
    exact ⟨o, e, fun v z => by rw [d] at z; cases z⟩
  keep := fun i h h' st k => st.at fun o e => k it (by simp) o e
  item := by
    intro X hP hw hK hc i pins s σ H E I hf st hg
    subst hP hw hK
    obtain ⟨xs, x, hq, hx⟩ := hg
    obtain ⟨its, rv, p, hz⟩ := I.list hq
    obtain ⟨u, hu, ru⟩ := rv.get hx
    obtain ⟨f0, f1, f2, f3, f4, f5⟩ := hf it (by simp)
    refine wpAny_pyNext_list_item st p.isList (x := u) (by simpa using hu) fun h' st' sb => ?_
    have I1 : Inv X pins σ H { s with heap := h' } := I.turned (t' := s.toks) (fun b o hb e => (sb.2 b hb).trans e) f0 f1 f3 f4 f5
    obtain ⟨o, e, c, d⟩ := id st'
    exact ⟨u, rfl, go_of (s := { s with heap := h' }) e c d (by decide) ⟨x, H, I1, ru, ⟨rfl, fun ys hy => by rw [I.list_inj hy hq]; exact hx⟩, st', fun b hb => (hf b hb).1⟩⟩
  done := by
    intro X hP hw hK hc i pins s σ H E I hf st hg
    subst hP hw hK
    obtain ⟨xs, hq, hx⟩ := hg
    obtain ⟨its, rv, p, hz⟩ := I.list hq
    obtain ⟨f0, f1, f2, f3, f4, f5⟩ := hf it (by simp)
    have hl := rv.length
    exact wpAny_pyNext_list_end (I.ok.hd hc) st p.isList (by simp; omega) fun h' eb => ⟨rfl, I.turned (t' := s.toks) (fun b o hb e => eb b o hb e) f0 f1 f3 f4 f5⟩
  self := fun _ _ _ _ _ st h => wpAny_pyIter_listiter st h
theorem turn_range {P : Program} {w : World} {K : PySem.W.Frag} {tg : Expr} (it : Addr) (lo : Int) (n : Nat) : Turn P w K tg (Itr lo n) [it] it (fun i h => IsRangeIter h it (lo + (i : Nat) * 1) ((n : Int) - (i : Nat)) 1) where
  mem := by simp
  obj := fun i h st b hb => by
    have e : b = it := by simpa using hb
    subst e
    exact ⟨_, st, fun v z => by
      have z' : Data.fields _ = Data.cell v := z
      cases z'⟩
  keep := fun i h h' st k => k it (by simp) _ st
  item := by
    intro X hP hw hK hc i pins s σ H E I hf st hg
    subst hP hw hK
    obtain ⟨f0, f1, f2, f3, f4, f5⟩ := hf it (by simp)
    have W := Walks.range (prog := X.prog) (w := X.w) (I.ok.hd hc) it lo 1 n
    refine W.item i s _ _ hg st fun v h' tk hv st' kk => ?_
    obtain ⟨t, rfl⟩ := hv
    have I1 : Inv X pins σ H { s with heap := h', toks := tk } := I.turned (fun b o hb e => kk b o (by simpa using hb) e) f0 f1 f3 f4 f5
    refine ⟨_, rfl, go_of (s := { s with heap := h', toks := tk }) (n := "range_iterator") st' rfl rfl (by decide) ⟨.int (lo + i), H, I1, ⟨t, ?_⟩, ⟨rfl, rfl⟩, st', fun b hb => (hf b hb).1⟩⟩
    rw [Int.mul_one]
  done := by
    intro X hP hw hK hc i pins s σ H E I hf st hg
    subst hP hw hK
    obtain ⟨f0, f1, f2, f3, f4, f5⟩ := hf it (by simp)
    exact wpAny_pyNext_range_end (I.ok.hd hc) st (by have : n ≤ i := hg; omega) fun h' eb => ⟨rfl, I.turned (t' := s.toks) (fun b o hb e => eb b o hb e) f0 f1 f3 f4 f5⟩
  self := fun _ _ _ _ _ st h => wpAny_pyIter_rangeiter st h
end L2

namespace L2
open PySem PySem.Spec PyProof.Rows
section
variable {X : Cx} {tg : Expr}
def iList (K : PySem.W.Frag) (tl : TE) : TI := fun σ H R => tl σ H fun x H1 => ∃ a, x = .ref a ∧ (∃ xs, SqL K H1 a xs) ∧ R (Itl K a) H1
theorem pi_list {l : Expr} {tl : TE} (hl : PE X l tl) : PI X tg l (iList X.K tl) := by
  intro pins s σ H R I h
  refine thn (hl pins s σ H _ I h) fun v s1 ⟨x, H1, I1, r1, q1⟩ => ?_
  obtain ⟨a, e, ⟨xs, hq⟩, q⟩ := q1
  subst e
  cases r1
  obtain ⟨its, rv, p, hz⟩ := I1.list hq
  refine wpAny_pyIter_list p.isList ?_
  refine ⟨s1.heap.objs.size, [s1.heap.objs.size], _, _, H1, rfl, I1.kept (t' := s1.toks) fun b o e => Heap.get?_push_of_some _ e, turn_list a _, ⟨_, Heap.get?_push_size _ rfl, rfl, rfl⟩, fun b hb => ?_, q⟩
  have e : b = s1.heap.objs.size := by simpa using hb
  subst e
  exact I1.fpOk (Nat.le_refl _) (I1.hok.fresh (Nat.le_refl _))
/-- a range object just made, walked -/
theorem range_it {pins : List (Addr × Obj)} {σ : St} {H : Hp} {s : Shared} {R : It → Hp → Prop} {E : Value → Shared → Prop} {lo hi : Int} {t u v : Tok} {tk : Nat} (I : Inv X pins σ H s) (h1 : -(2 ^ 62) ≤ lo) (h2 : lo < 2 ^ 62) (h3 : -(2 ^ 62) ≤ hi) (h4 : hi < 2 ^ 62)
    (q : R (Itr lo (hi - lo).toNat) H) : wpAny (model X.prog X.w) X.A (pyIter (.ref s.heap.objs.size)) (PIE X pins σ tg R) E { s with heap := s.heap.push { cls := .type "range", data := .fields #[.int lo t, .int hi u, .int 1 v] }, toks := tk } := by
  refine wpAny_pyIter_range (IsRange.new ..) (small_one h1 h2 h3 h4) ?_
  have I1 : Inv X pins σ H { s with heap := s.heap.push { cls := .type "range", data := .fields #[.int lo t, .int hi u, .int 1 v] }, toks := tk } := I.kept fun b o e => Heap.get?_push_of_some _ e
  refine ⟨(s.heap.push { cls := .type "range", data := .fields #[.int lo t, .int hi u, .int 1 v] }).objs.size, [(s.heap.push { cls := .type "range", data := .fields #[.int lo t, .int hi u, .int 1 v] }).objs.size], _, _, H, rfl,
    I1.kept (t' := tk) fun b o e => Heap.get?_push_of_some _ e, turn_range _ lo (hi - lo).toNat, ?_, fun b hb => ?_, q⟩
  · have e1 : lo + ((0 : Nat) : Int) * 1 = lo := by simp
    have e2 : (((hi - lo).toNat : Nat) : Int) - ((0 : Nat) : Int) = Builtin.Range.rangeSize lo hi 1 := by rw [rangeSize_one]; split <;> omega
    show IsRangeIter _ _ (lo + ((0 : Nat) : Int) * 1) ((((hi - lo).toNat : Nat) : Int) - ((0 : Nat) : Int)) 1
    rw [e1, e2]
    exact Heap.get?_push_size _ rfl
  · have e : b = (s.heap.push { cls := .type "range", data := .fields #[.int lo t, .int hi u, .int 1 v] }).objs.size := by simpa using hb
    subst e
    exact I1.fpOk (Nat.le_refl _) (I1.hok.fresh (Nat.le_refl _))
def iRng1 (ta : TA) : TI := fun σ H R => ta σ H fun vs H1 => ∃ j : Int, vs = [.int j] ∧ -(2 ^ 62) ≤ j ∧ j < 2 ^ 62 ∧ R (Itr 0 j.toNat) H1
theorem pi_range1 {a : Expr} {ta : TA} {p pos : Pos} (hg : Gl X "range") (hm : X.mg "range" = none) (ha : PA X [a] ta) (hs : starEach [a] X.env = [(false, eval a X.env)] := by rfl) : PI X tg (.Call (.Name "range" p) [a] [] pos) (iRng1 ta) := by
  intro pins s σ H R I h
  refine Call_ (ld_blt I hg hm boot_range (PyProof.Rows.callWith_type1 (thn (ha pos pins s σ H _ I h) fun us s1 ⟨vs, H1, I1, r1, q1⟩ => ?_) hs rfl))
  obtain ⟨j, e, q1, q2, q⟩ := q1
  subst e
  cases r1 with
  | cons r rr =>
    cases rr
    obtain ⟨t, rfl⟩ := r
    exact call_range_1 (range_it I1 (by omega) (by omega) q1 q2 (by simpa using q))
/-! ### for -/
/-- W: the invariant by the turn and a measure; N: what the body is to reach -/
def tFor (wi : TI) (g : TG) (tb : TS) : TS := fun D σ H => wi σ H fun J H1 => ∃ W : Nat → Nat → St → Hp → Prop, (∃ m, W 0 m σ H1) ∧ ∀ i m σ H, W i m σ H →
  (J.stop i H ∧ D.nx σ H) ∨ (J.go i H ∧ ∃ N : St → Hp → Prop, (∀ σ' H', N σ' H' → ∃ m', m' < m ∧ W (i + 1) m' σ' H') ∧ ∀ x H', J.yld i H x H' → g x σ H' fun σ2 H2 => tb { D with nx := N, ct := N, bk := D.nx } σ2 H2)
/-- the records at fp as they stand -/
def pinsAt (fp : List Addr) (h : Heap) : List (Addr × Obj) := fp.filterMap fun b => (h.get? b).map fun o => (b, o)
theorem mem_pinsAt {fp : List Addr} {h : Heap} {b : Addr} {o : Obj} (hb : b ∈ fp) (e : h.get? b = some o) : (b, o) ∈ pinsAt fp h := List.mem_filterMap.mpr ⟨b, hb, by rw [e]; rfl⟩
theorem of_pinsAt {fp : List Addr} {h : Heap} {p : Addr × Obj} (hp : p ∈ pinsAt fp h) : p.1 ∈ fp ∧ h.get? p.1 = some p.2 := by
  obtain ⟨b, hb, e⟩ := List.mem_filterMap.mp hp
  cases q : h.get? b with
  | none => rw [q] at e; cases e
  | some o =>
    rw [q] at e
    have e' : (b, o) = p := Option.some.inj e
    subst e'
    exact ⟨hb, q⟩
theorem Inv.pinned {pins : List (Addr × Obj)} {σ : St} {H : Hp} {s : Shared} {fp : List Addr} (I : Inv X pins σ H s) (hf : ∀ b ∈ fp, FpOk X pins H b) (ho : ∀ b ∈ fp, ∃ o, s.heap.get? b = some o ∧ ∀ v, o.data ≠ .cell v) : Inv X (pins ++ pinsAt fp s.heap) σ H s :=
  I.pins_of fun p hp => (List.mem_append.mp hp).elim (fun z => I.pin p (List.mem_append_right _ z)) fun z => by
    obtain ⟨hb, e⟩ := of_pinsAt z
    obtain ⟨f0, f1, f2, _⟩ := hf p.1 hb
    obtain ⟨o, e', d⟩ := ho p.1 hb
    rw [e] at e'; cases e'
    exact ⟨e, f0, f1, f2, d⟩
theorem Inv.unpinned {pins pl : List (Addr × Obj)} {σ : St} {H : Hp} {s : Shared} (I : Inv X (pins ++ pl) σ H s) : Inv X pins σ H s := I.pins_of fun p hp => I.pin p (List.mem_append_right _ (List.mem_append_left _ hp))
theorem ps_for {iter : Expr} {body : List Stmt} {wi : TI} {g : TG} {tb : TS} {pos : Pos} (hp : PassesOwn (model X.prog X.w) X.A X.env X.xe) (hc : X.calm = true) (hi : PI X tg iter wi) (hg : PG X tg g) (hb : PSs X body tb)
    (hs : ∀ x, foldedSetIterable iter X.env x = pure x := by intro _; rfl) : PS X (.For tg iter body [] pos) (tFor wi g tb) := by
  intro pins s σ H D I h
  refine wpAny_For (thn (hi pins s σ H _ I h) fun v s1 h1 => thn h1 fun itv s2 h2 => ?_) hs
  obtain ⟨it, fp, tn, J, H2, e, I2, T, st2, f2, W, ⟨m0, w0⟩, turn⟩ := h2
  subst e
  -- what stays true of the iterator's objects through the loop
  have stat : ∀ {H' : Hp}, (∀ b ∈ fp, H' b = none) → ∀ b ∈ fp, FpOk X pins H' b := fun hn b hb => ⟨hn b hb, (f2 b hb).2⟩
  refine codeAny_forLoop_any (fun n s' => ∃ i σ' H', Inv X pins σ' H' s' ∧ tn i s'.heap ∧ (∀ b ∈ fp, H' b = none) ∧ W i n σ' H') ?_ m0 ⟨0, σ, H2, I2, st2, fun b hb => (f2 b hb).1, w0⟩
  rintro n s3 ⟨i, σ3, H3, I3, st3, fr3, w3⟩
  rcases turn i n σ3 H3 w3 with ⟨stop, qn⟩ | ⟨go, N, hN, step⟩
  · refine wpAny_passesOwn hp (thn (T.done X rfl rfl rfl hc i pins s3 σ3 H3 X.xe I3 (stat fr3) st3 stop) fun r s4 ⟨hr, I4⟩ => ?_)
    subst hr
    exact wpAny_execs_nil ⟨σ3, H3, I4, qn⟩
  · refine wpAny_passesOwn hp (thn (T.item X rfl rfl rfl hc i pins s3 σ3 H3 X.xe I3 (stat fr3) st3 go) fun r s4 ⟨u, hr, h4⟩ => ?_)
    subst hr
    refine wpAny_passesOwn hp (thn h4 fun _ s5 ⟨x, H5, I5, r5, y5, st5, fr5⟩ => ?_)
    have I5' := I5.pinned (stat fr5) (T.obj _ _ st5)
    refine wpAny_passesOwn hp (thn (hg _ s5 σ3 H5 x u _ I5' r5 (step x H5 y5)) fun _ s6 ⟨σ6, H6, I6, q6⟩ => ?_)
    refine wpAny_passesOwn hp (thn (hb _ s6 σ6 H6 _ I6 q6) fun f s7 q7 => ?_)
    have again : ∀ {σ7 : St} {H7 : Hp}, Inv X (pins ++ pinsAt fp s5.heap) σ7 H7 s7 → N σ7 H7 → ∃ m, m < n ∧ ∃ i σ' H', Inv X pins σ' H' s7 ∧ tn i s7.heap ∧ (∀ b ∈ fp, H' b = none) ∧ W i m σ' H' := fun {σ7 H7} I7 n7 => by
      obtain ⟨m', hm, w7⟩ := hN σ7 H7 n7
      refine ⟨m', hm, i + 1, σ7, H7, I7.unpinned, T.keep _ _ _ st5 fun b hb o e => (I7.pin (b, o) (List.mem_append_right _ (List.mem_append_right _ (mem_pinsAt hb e)))).1, fun b hb => ?_, w7⟩
      obtain ⟨o, e, d⟩ := T.obj _ _ st5 b hb
      exact (I7.pin (b, o) (List.mem_append_right _ (List.mem_append_right _ (mem_pinsAt hb e)))).2.1
    cases f with
    | next => obtain ⟨σ7, H7, I7, n7⟩ := q7; exact again I7 n7
    | cont => obtain ⟨σ7, H7, I7, n7⟩ := q7; exact again I7 n7
    | brk => obtain ⟨σ7, H7, I7, q7⟩ := q7; exact ⟨σ7, H7, I7.unpinned, q7⟩
    | ret v => obtain ⟨x7, σ7, H7, I7, r7, q7⟩ := q7; exact ⟨x7, σ7, H7, I7.unpinned, r7, q7⟩
end

/-! ### the forms one uses -/
/-- over a list that the body leaves as it is -/
theorem for_list {K : PySem.W.Frag} {a : Addr} {xs : List V} {g : TG} {tb : TS} {D : Ends} {σ : St} {H : Hp} (Pv : Nat → St → Hp → Prop) (h0 : Pv 0 σ H) (hl : ∀ i σ H, i ≤ xs.length → Pv i σ H → SqL K H a xs)
    (hs : ∀ i x σ H, xs[i]? = some x → Pv i σ H → g x σ H fun σ2 H2 => tb { D with nx := Pv (i + 1), ct := Pv (i + 1), bk := D.nx } σ2 H2) (hd : ∀ σ H, Pv xs.length σ H → D.nx σ H) :
    ∃ W : Nat → Nat → St → Hp → Prop, (∃ m, W 0 m σ H) ∧ ∀ i m σ H, W i m σ H →
      ((Itl K a).stop i H ∧ D.nx σ H) ∨ ((Itl K a).go i H ∧ ∃ N : St → Hp → Prop, (∀ σ' H', N σ' H' → ∃ m', m' < m ∧ W (i + 1) m' σ' H') ∧ ∀ x H', (Itl K a).yld i H x H' → g x σ H' fun σ2 H2 => tb { D with nx := N, ct := N, bk := D.nx } σ2 H2) := by
  refine ⟨fun i m σ H => m = xs.length - i ∧ i ≤ xs.length ∧ Pv i σ H, ⟨xs.length, by simp, Nat.zero_le _, h0⟩, ?_⟩
  rintro i m σ H ⟨rfl, hi, p⟩
  have q := hl i σ H hi p
  by_cases hlt : i < xs.length
  · refine .inr ⟨⟨xs, xs[i], q, by simp [hlt]⟩, Pv (i + 1), fun σ' H' p' => ⟨xs.length - (i + 1), by omega, rfl, hlt, p'⟩, fun x H' y => ?_⟩
    obtain ⟨e, y⟩ := y
    subst e
    exact hs i x σ _ (y xs q) p
  · have e : i = xs.length := by omega
    subst e
    exact .inl ⟨⟨xs, q, Nat.le_refl _⟩, hd σ H p⟩
end L2

namespace L2
open PySem PySem.Spec PyProof.Rows

abbrev R2 := V → V → Hp → VK → Prop
/-- a two-place operation on values: f is binaryOp op, inplaceOp op or compareOp op -/
def OpR (X : Cx) (f : Value → Value → Sem Value) (r : R2) : Prop :=
  ∀ (pins : List (Addr × Obj)) (s : Shared) (σ : St) (H : Hp) (x y : V) (v u : Value) (Q : VK), Inv X pins σ H s → RelV x v → RelV y u → r x y H Q →
    wpAny (model X.prog X.w) X.A (f v u) (EP X pins σ Q) X.xe s
/-- a one-place operation -/
def UnR (X : Cx) (f : Value → Sem Value) (r : V → Hp → VK → Prop) : Prop :=
  ∀ (pins : List (Addr × Obj)) (s : Shared) (σ : St) (H : Hp) (x : V) (v : Value) (Q : VK), Inv X pins σ H s → RelV x v → r x H Q →
    wpAny (model X.prog X.w) X.A (f v) (EP X pins σ Q) X.xe s
/-- a call of a value that is known (a builtin, a type) with values -/
def CallR (X : Cx) (f : Value) (r : List V → Hp → VK → Prop) : Prop :=
  ∀ (pins : List (Addr × Obj)) (s : Shared) (σ : St) (H : Hp) (xs : List V) (us : List Value) (Q : VK), Inv X pins σ H s → Vals xs us → r xs H Q →
    wpAny (model X.prog X.w) X.A (call f us) (EP X pins σ Q) X.xe s
/-- a value's truth -/
def TruR (X : Cx) (r : V → Hp → (Bool → Hp → Prop) → Prop) : Prop :=
  ∀ (pins : List (Addr × Obj)) (s : Shared) (σ : St) (H : Hp) (x : V) (v : Value) (Q : Bool → Hp → Prop), Inv X pins σ H s → RelV x v → r x H Q →
    wpAny (model X.prog X.w) X.A (truthy v) (TP X pins σ Q) X.xe s

def tOp (r : R2) (ta tb : TE) : TE := fun σ H Q => ta σ H fun x H1 => tb σ H1 fun y H2 => r x y H2 Q
def tUn (r : V → Hp → VK → Prop) (ta : TE) : TE := fun σ H Q => ta σ H fun x H1 => r x H1 Q
/-- ints in, under C, and a value out -/
def rI (C : Int → Int → Prop) (g : Int → Int → V) : R2 := fun x y H Q => ∃ i j, x = .int i ∧ y = .int j ∧ C i j ∧ Q (g i j) H
def rI0 (g : Int → Int → V) : R2 := fun x y H Q => ∃ i j, x = .int i ∧ y = .int j ∧ Q (g i j) H
def rU (g : Int → V) : V → Hp → VK → Prop := fun x H Q => ∃ i, x = .int i ∧ Q (g i) H

section
variable {X : Cx} {a b c : Expr} {ta tb tc : TE} {pos : Pos}

theorem binT (ha : PE X a ta) (hb : PE X b tb) {pins : List (Addr × Obj)} {s : Shared} {σ : St} {H : Hp} {R : V → V → Hp → Prop} (I : Inv X pins σ H s)
    (h : ta σ H fun x H1 => tb σ H1 fun y H2 => R x y H2) {Q : Value → Shared → Prop} {f : Value → Value → Sem Value}
    (hf : ∀ v u s2 x y H2, Inv X pins σ H2 s2 → RelV x v → RelV y u → R x y H2 → wpAny (model X.prog X.w) X.A (f v u) Q X.xe s2) :
    wpAny (model X.prog X.w) X.A (eval a X.env) (fun v s₁ => wpAny (model X.prog X.w) X.A (eval b X.env) (fun u s₂ => wpAny (model X.prog X.w) X.A (f v u) Q X.xe s₂) X.xe s₁) X.xe s := by
  refine thn (ha pins s σ H _ I h) fun v s1 ⟨x, H1, I1, r1, q1⟩ => ?_
  refine thn (hb pins s1 σ H1 _ I1 q1) fun u s2 ⟨y, H2, I2, r2, q2⟩ => ?_
  exact hf v u s2 x y H2 I2 r1 r2 q2

theorem pe_op {op : Operator} {r : R2} (ho : OpR X (binaryOp op) r) (ha : PE X a ta) (hb : PE X b tb) : PE X (.BinOp a op b pos) (tOp r ta tb) := by
  intro pins s σ H Q I h
  exact wpAny_BinOp (binT ha hb I h fun v u s2 x y H2 I2 rx ry q => ho pins s2 σ H2 x y v u Q I2 rx ry q)
theorem pe_un {op : UnaryOp} {r : V → Hp → VK → Prop} (ho : UnR X (unaryOp op) r) (ha : PE X a ta) : PE X (.UnaryOp op a pos) (tUn r ta) := by
  intro pins s σ H Q I h
  exact UnaryOp_ (thn (ha pins s σ H _ I h) fun v s1 ⟨x, H1, I1, r1, q1⟩ => ho pins s1 σ H1 x v Q I1 r1 q1)
/-! ### ints -/
theorem opI {f : Value → Value → Sem Value} {C : Int → Int → Prop} {g : Int → Int → Int}
    (rule : ∀ (i j : Int) (t u : Tok) (s : Shared) (Q : Value → Shared → Prop) (E : Value → Shared → Prop), C i j → Q (.int (g i j) s.toks) { s with toks := s.toks + 1 } → wpAny (model X.prog X.w) X.A (f (.int i t) (.int j u)) Q E s) :
    OpR X f (rI C fun i j => .int (g i j)) := by
  intro pins s σ H x y v u Q I rx ry h
  obtain ⟨i, j, rfl, rfl, hc, q⟩ := h
  obtain ⟨t, rfl⟩ := rx
  obtain ⟨t', rfl⟩ := ry
  exact rule i j t t' s _ _ hc ⟨.int (g i j), H, I.tok _, ⟨_, rfl⟩, q⟩
theorem opI0 {f : Value → Value → Sem Value} {g : Int → Int → Int}
    (rule : ∀ (i j : Int) (t u : Tok) (s : Shared) (Q : Value → Shared → Prop) (E : Value → Shared → Prop), Q (.int (g i j) s.toks) { s with toks := s.toks + 1 } → wpAny (model X.prog X.w) X.A (f (.int i t) (.int j u)) Q E s) :
    OpR X f (rI0 fun i j => .int (g i j)) := by
  intro pins s σ H x y v u Q I rx ry h
  obtain ⟨i, j, rfl, rfl, q⟩ := h
  obtain ⟨t, rfl⟩ := rx
  obtain ⟨t', rfl⟩ := ry
  exact rule i j t t' s _ _ ⟨.int (g i j), H, I.tok _, ⟨_, rfl⟩, q⟩
theorem opB0 {f : Value → Value → Sem Value} {g : Int → Int → Bool}
    (rule : ∀ (i j : Int) (t u : Tok) (s : Shared) (Q : Value → Shared → Prop) (E : Value → Shared → Prop), Q (.bool (g i j)) s → wpAny (model X.prog X.w) X.A (f (.int i t) (.int j u)) Q E s) :
    OpR X f (rI0 fun i j => .bl (g i j)) := by
  intro pins s σ H x y v u Q I rx ry h
  obtain ⟨i, j, rfl, rfl, q⟩ := h
  obtain ⟨t, rfl⟩ := rx
  obtain ⟨t', rfl⟩ := ry
  exact rule i j t t' s _ _ ⟨.bl (g i j), H, I, rfl, q⟩

def CDiv (i j : Int) : Prop := 0 < j ∧ j < 1073741824
theorem op_add : OpR X (binaryOp .Add) (rI0 fun i j => .int (i + j)) := opI0 fun _ _ _ _ _ _ _ q => add_int q
theorem op_sub : OpR X (binaryOp .Sub) (rI0 fun i j => .int (i - j)) := opI0 fun _ _ _ _ _ _ _ q => sub_int q
/-- // by a positive divisor -/
theorem op_fdiv : OpR X (binaryOp .FloorDiv) (rI CDiv fun i j => .int (i / j)) := opI fun i j _ _ _ _ _ hc q => by
  have h1 : (0 : Int) < j := hc.1
  have h2 : j < 1073741824 := hc.2
  exact floordiv_int (by omega) (by rw [Int.fdiv_eq_ediv_of_nonneg i (by omega)]; exact q) (.inl (PyProof.noPylong_small (by omega)))
/-- % by a positive divisor of any size -/
theorem op_mod : OpR X (binaryOp .Mod) (rI (fun _ j => 0 < j) fun i j => .int (i % j)) := opI fun i j _ _ _ _ _ hc q => by
  have h1 : (0 : Int) < j := hc
  exact mod_int' (by omega) (by rw [Int.fmod_eq_emod_of_nonneg i (by omega)]; exact q)
theorem unI {f : Value → Sem Value} {g : Int → Int}
    (rule : ∀ (i : Int) (t : Tok) (s : Shared) (Q : Value → Shared → Prop) (E : Value → Shared → Prop), Q (.int (g i) s.toks) { s with toks := s.toks + 1 } → wpAny (model X.prog X.w) X.A (f (.int i t)) Q E s) :
    UnR X f (rU fun i => .int (g i)) := by
  intro pins s σ H x v Q I rx h
  obtain ⟨i, rfl, q⟩ := h
  obtain ⟨t, rfl⟩ := rx
  exact rule i t s _ _ ⟨.int (g i), H, I.tok _, ⟨_, rfl⟩, q⟩
theorem un_neg : UnR X (unaryOp .USub) (rU fun i => .int (-i)) := unI fun _ _ _ _ _ q => neg_int q
/-! ### bools among ints: n += (a < b) -/
end

/-! ### comparisons -/
/-- the scalars that == tells apart as data does -/
def scal : V → V → Bool
  | .non, .non => true | .non, .int _ => true | .int _, .non => true | .non, .bl _ => true | .bl _, .non => true | .non, .str _ => true | .str _, .non => true
  | .int _, .int _ => true | .bl _, .bl _ => true | .str _, .str _ => true | .byt _, .byt _ => true
  | .int _, .str _ => true | .str _, .int _ => true | .bl _, .str _ => true | .str _, .bl _ => true
  | _, _ => false
def rEq : R2 := fun x y H Q => scal x y = true ∧ Q (.bl (decide (x = y))) H
def rNe : R2 := fun x y H Q => scal x y = true ∧ Q (.bl (!decide (x = y))) H

theorem dec_int {i j : Int} : decide (V.int i = V.int j) = (i == j) := by
  rw [Bool.eq_iff_iff]
  simp
theorem dec_bl {i j : Bool} : decide (V.bl i = V.bl j) = (i == j) := by
  rw [Bool.eq_iff_iff]
  simp
theorem dec_str {i j : Str} : decide (V.str i = V.str j) = (i == j) := by
  rw [Bool.eq_iff_iff]
  simp
theorem dec_byt {i j : Array UInt8} : decide (V.byt i = V.byt j) = (i.toList == j.toList) := by
  rw [Bool.eq_iff_iff]
  cases i
  cases j
  simp

section
variable {X : Cx} {a b c : Expr} {ta tb tc : TE} {pos : Pos}
theorem fin_bl {pins : List (Addr × Obj)} {σ : St} {H : Hp} {s : Shared} {Q : VK} {k k' : Bool} (I : Inv X pins σ H s) (q : Q (.bl k) H) (e : k = k') : EP X pins σ Q (.bool k') s := by
  subst e
  exact ⟨.bl k, H, I, rfl, q⟩
theorem op_eq : OpR X (compareOp .Eq) rEq := by
  intro pins s σ H x y v u Q I rx ry h
  obtain ⟨hs, q⟩ := h
  cases x with
  | non =>
    cases rx
    cases y with
    | non => cases ry; exact PySem.EqNone.eq_none_none (fin_bl I q (by simp))
    | bl j => cases ry; exact PySem.EqNone.eq_none_bool (fin_bl I q (by simp))
    | int j => obtain ⟨t', rfl⟩ := ry; exact PySem.EqNone.eq_none_int (fin_bl I q (by simp))
    | str j => obtain ⟨t', rfl⟩ := ry; exact PySem.EqNone.eq_none_str (fin_bl I q (by simp))
    | _ => exact absurd (show false = true from hs) Bool.false_ne_true
  | bl i =>
    cases rx
    cases y with
    | non => cases ry; exact PySem.EqNone.eq_bool_none (fin_bl I q (by simp))
    | bl j => cases ry; exact eq_bool (fin_bl I q dec_bl)
    | str j => obtain ⟨t', rfl⟩ := ry; exact PySem.EqMixed.eq_bool_str (fin_bl I q (by simp))
    | _ => exact absurd (show false = true from hs) Bool.false_ne_true
  | int i =>
    obtain ⟨t, rfl⟩ := rx
    cases y with
    | non => cases ry; exact PySem.EqNone.eq_int_none (fin_bl I q (by simp))
    | int j => obtain ⟨t', rfl⟩ := ry; exact eq_int (fin_bl I q dec_int)
    | str j => obtain ⟨t', rfl⟩ := ry; exact PySem.EqMixed.eq_int_str (fin_bl I q (by simp))
    | _ => exact absurd (show false = true from hs) Bool.false_ne_true
  | str i =>
    obtain ⟨t, rfl⟩ := rx
    cases y with
    | non => cases ry; exact PySem.EqNone.eq_str_none (fin_bl I q (by simp))
    | bl j => cases ry; exact PySem.EqMixed.eq_str_bool (fin_bl I q (by simp))
    | int j => obtain ⟨t', rfl⟩ := ry; exact PySem.EqMixed.eq_str_int (fin_bl I q (by simp))
    | str j => obtain ⟨t', rfl⟩ := ry; exact eq_str (fin_bl I q dec_str)
    | _ => exact absurd (show false = true from hs) Bool.false_ne_true
  | byt i =>
    obtain ⟨t, rfl⟩ := rx
    cases y with
    | byt j => obtain ⟨t', rfl⟩ := ry; exact PySem.W.eq_bytes (fin_bl I q dec_byt)
    | _ => exact absurd (show false = true from hs) Bool.false_ne_true
  | _ => cases y <;> exact absurd (show false = true from hs) Bool.false_ne_true
theorem op_ne : OpR X (compareOp .NotEq) rNe := by
  intro pins s σ H x y v u Q I rx ry h
  obtain ⟨hs, q⟩ := h
  cases x with
  | non =>
    cases rx
    cases y with
    | non => cases ry; exact PySem.EqNone.ne_none_none (fin_bl I q (by simp))
    | bl j => cases ry; exact PySem.EqNone.ne_none_bool (fin_bl I q (by simp))
    | int j => obtain ⟨t', rfl⟩ := ry; exact PySem.EqNone.ne_none_int (fin_bl I q (by simp))
    | str j => obtain ⟨t', rfl⟩ := ry; exact PySem.EqNone.ne_none_str (fin_bl I q (by simp))
    | _ => exact absurd (show false = true from hs) Bool.false_ne_true
  | bl i =>
    cases rx
    cases y with
    | non => cases ry; exact PySem.EqNone.ne_bool_none (fin_bl I q (by simp))
    | bl j => cases ry; exact ne_bool (fin_bl I q (congrArg not dec_bl))
    | str j => obtain ⟨t', rfl⟩ := ry; exact PySem.EqMixed.ne_bool_str (fin_bl I q (by simp))
    | _ => exact absurd (show false = true from hs) Bool.false_ne_true
  | int i =>
    obtain ⟨t, rfl⟩ := rx
    cases y with
    | non => cases ry; exact PySem.EqNone.ne_int_none (fin_bl I q (by simp))
    | int j => obtain ⟨t', rfl⟩ := ry; exact ne_int (fin_bl I q (congrArg not dec_int))
    | str j => obtain ⟨t', rfl⟩ := ry; exact PySem.EqMixed.ne_int_str (fin_bl I q (by simp))
    | _ => exact absurd (show false = true from hs) Bool.false_ne_true
  | str i =>
    obtain ⟨t, rfl⟩ := rx
    cases y with
    | non => cases ry; exact PySem.EqNone.ne_str_none (fin_bl I q (by simp))
    | bl j => cases ry; exact PySem.EqMixed.ne_str_bool (fin_bl I q (by simp))
    | int j => obtain ⟨t', rfl⟩ := ry; exact PySem.EqMixed.ne_str_int (fin_bl I q (by simp))
    | str j => obtain ⟨t', rfl⟩ := ry; exact ne_str (fin_bl I q (congrArg not dec_str))
    | _ => exact absurd (show false = true from hs) Bool.false_ne_true
  | byt i =>
    obtain ⟨t, rfl⟩ := rx
    cases y with
    | byt j => obtain ⟨t', rfl⟩ := ry; exact PySem.W.ne_bytes (fin_bl I q (congrArg not dec_byt))
    | _ => exact absurd (show false = true from hs) Bool.false_ne_true
  | _ => cases y <;> exact absurd (show false = true from hs) Bool.false_ne_true

theorem op_lt : OpR X (compareOp .Lt) (rI0 fun i j => .bl (decide (i < j))) := opB0 fun _ _ _ _ _ _ _ q => lt_int q
theorem op_le : OpR X (compareOp .LtE) (rI0 fun i j => .bl (decide (i ≤ j))) := opB0 fun _ _ _ _ _ _ _ q => le_int q
theorem op_gt : OpR X (compareOp .Gt) (rI0 fun i j => .bl (decide (j < i))) := opB0 fun _ _ _ _ _ _ _ q => gt_int q
theorem op_ge : OpR X (compareOp .GtE) (rI0 fun i j => .bl (decide (j ≤ i))) := opB0 fun _ _ _ _ _ _ _ q => ge_int q
theorem nomark (b : Expr) {op : CmpOp} (h : op ≠ .In := by decide) (h2 : op ≠ .NotIn := by decide) : behindInMarks op b = false := by
  have e1 : (op == CmpOp.In) = false := by cases op <;> first | rfl | exact absurd rfl h
  have e2 : (op == CmpOp.NotIn) = false := by cases op <;> first | rfl | exact absurd rfl h2
  cases b <;> simp [behindInMarks, e1, e2]
/-- a comparison as a value; hm: nomark b, or (for in, not in) by with_unfolding_all rfl -/
theorem pe_cmpR {op : CmpOp} {r : R2} (ho : OpR X (compareOp op) r) (ha : PE X a ta) (hb : PE X b tb) (hm : behindInMarks op b = false) : PE X (.Compare a [op] [b] pos) (tOp r ta tb) := by
  intro pins s σ H Q I h
  exact wpAny_Compare1 (binT ha hb I h fun v u s2 x y H2 I2 rx ry q => ho pins s2 σ H2 x y v u Q I2 rx ry q) hm
/-- a reading of a value as a test -/
def tTest (t : TE) : TT := fun σ H Q => t σ H fun x H' => ∃ k, x = .bl k ∧ Q k H'
theorem pt_cmpR {op : CmpOp} {r : R2} (ho : OpR X (compareOp op) r) (ha : PE X a ta) (hb : PE X b tb) (hm : behindInMarks op b = false) : PT X (.Compare a [op] [b] pos) (tTest (tOp r ta tb)) := by
  intro pins s σ H Q I h
  refine wpAny_isTrue_Compare1 (thn (ha pins s σ H _ I h) fun v s1 ⟨x, H1, I1, r1, q1⟩ => thn (hb pins s1 σ H1 _ I1 q1) fun u s2 ⟨y, H2, I2, r2, q2⟩ =>
    thn (ho pins s2 σ H2 x y v u _ I2 r1 r2 q2) fun c s3 ⟨z, H3, I3, r3, k, e, q3⟩ => ?_) hm
  subst e
  cases r3
  exact wpAny_truthy_bool ⟨H3, I3, q3⟩
/-- a op1 b op2 c -/
def tChain (r r' : R2) (ta tb tc : TE) : TE := fun σ H Q => ta σ H fun x H1 => tb σ H1 fun y H2 => r x y H2 fun z H3 => ∃ k, z = .bl k ∧
  (if k = true then tc σ H3 fun w' H4 => r' y w' H4 Q else Q (.bl false) H3)
theorem pe_chain {op op' : CmpOp} {r r' : R2} (ho : OpR X (compareOp op) r) (ho' : OpR X (compareOp op') r') (ha : PE X a ta) (hb : PE X b tb) (hc : PE X c tc)
    (hm : lastMarks [op, op'] [b, c] = false := by with_unfolding_all rfl) : PE X (.Compare a [op, op'] [b, c] pos) (tChain r r' ta tb tc) := by
  intro pins s σ H Q I h
  refine Compare_chain (thn (ha pins s σ H _ I h) fun v s1 ⟨x, H1, I1, r1, q1⟩ => chain_link (thn (hb pins s1 σ H1 _ I1 q1) fun u s2 ⟨y, H2, I2, r2, q2⟩ =>
    thn (ho pins s2 σ H2 x y v u _ I2 r1 r2 q2) fun d s3 ⟨z, H3, I3, r3, k, e, q3⟩ => ?_)) hm
  subst e
  cases r3
  refine wpAny_truthy_bool ?_
  cases k with
  | false => exact ite_ff ⟨.bl false, H3, I3, rfl, q3⟩
  | true => exact ite_tt (chain_last (thn (hc pins s3 σ H3 _ I3 q3) fun w' s4 ⟨z', H4, I4, r4, q4⟩ => ho' pins s4 σ H4 y z' u w' Q I4 r2 r4 q4))
/-! ### truth -/
/-- a value's truth by the abstract heap -/
def TruV (K : PySem.W.Frag) (x : V) (H : Hp) (k : Bool) : Prop :=
  match x with
  | .non => k = false
  | .bl b => k = b
  | .int i => k = (i != 0)
  | .str y => y.length ≤ sizeLine ∧ k = ((y.length : Int) != 0)
  | .byt y => y.size ≤ sizeLine ∧ k = ((y.size : Int) != 0)
  | .ref p => (∃ xs, SqL K H p xs ∧ k = !xs.isEmpty) ∨ (∃ xs, SqT K H p xs ∧ k = !xs.isEmpty) ∨ ∃ kvs, H p = some (.dK kvs) ∧ k = !kvs.isEmpty
  | _ => False
theorem isEmpty_kv {κ : Type} {kvs : List (κ × V)} {vs : List (κ × Value)} (r : KV kvs vs) : (!vs.isEmpty) = !kvs.isEmpty := by
  cases r <;> rfl
theorem isEmpty_of {xs : List V} {its : List Value} (r : Vals xs its) : (!its.toArray.isEmpty) = !xs.isEmpty := by
  cases r <;> simp
theorem line63 : (sizeLine : Nat) < 2 ^ 63 := by rw [sizeLine_eq]; decide
theorem tru_ok : TruR X (fun x H Q => ∃ k, TruV X.K x H k ∧ Q k H) := by
  intro pins s σ H x v Q I rx h
  obtain ⟨k, e, q⟩ := h
  have hl := line63
  have hs : sizeLine = 16777216 := sizeLine_eq
  cases x with
  | non =>
    cases rx
    have e' : k = false := e
    subst e'
    exact truthy_none ⟨H, I, q⟩
  | bl b =>
    cases rx
    have e' : k = b := e
    subst e'
    exact wpAny_truthy_bool ⟨H, I, q⟩
  | int i =>
    obtain ⟨t, rfl⟩ := rx
    have e' : k = (i != 0) := e
    subst e'
    exact PySem.P.truthy_int ⟨H, I, q⟩
  | str y =>
    obtain ⟨t, rfl⟩ := rx
    obtain ⟨hy, e'⟩ : y.length ≤ sizeLine ∧ k = ((y.length : Int) != 0) := e
    subst e'
    exact PySem.P.truthy_str (by omega) ⟨H, I.tok _, q⟩
  | byt y =>
    obtain ⟨t, rfl⟩ := rx
    obtain ⟨hy, e'⟩ : y.size ≤ sizeLine ∧ k = ((y.size : Int) != 0) := e
    subst e'
    exact PySem.W.truthy_bytes (by omega) ⟨H, I.tok _, q⟩
  | ref p =>
    cases rx
    have e' : (∃ xs, SqL X.K H p xs ∧ k = !xs.isEmpty) ∨ (∃ xs, SqT X.K H p xs ∧ k = !xs.isEmpty) ∨ ∃ kvs, H p = some (.dK kvs) ∧ k = !kvs.isEmpty := e
    rcases e' with ⟨xs, hx, e'⟩ | ⟨xs, hx, e'⟩ | ⟨kvs, hx, e'⟩
    · subst e'
      obtain ⟨its, r, pl, hz⟩ := I.list hx
      have hlen := r.length
      exact wpAny_truthy_list pl.isList (by simp only [List.size_toArray]; omega) ⟨H, I.tok _, by rw [isEmpty_of r]; exact q⟩
    · subst e'
      obtain ⟨its, r, pl, hz⟩ := I.tuple hx
      have hlen := r.length
      exact truthy_tuple pl (by simp only [List.size_toArray]; omega) ⟨H, I.tok _, by rw [isEmpty_of r]; exact q⟩
    · subst e'
      obtain ⟨hz, hS, vs, r, m⟩ : kvs.length ≤ sizeLine ∧ (p == sysModules) = false ∧ ∃ vs, KV kvs vs ∧ s.heap.DictOf (mixKind X.prog X.w) p vs := I.hok p _ hx
      have hlen : kvs.length = vs.length := Paired.length r
      exact wpAny_truthy_dict hS m (by omega) ⟨H, I.tok _, by rw [isEmpty_kv r]; exact q⟩
  | _ => exact (show False from e).elim
/-- any expression whose test is its value's truth (a name, a call, a subscript, a field ..: he by fun _ => rfl) -/
theorem pt_truth (ha : PE X a ta) (he : ∀ whole, isTrue a X.env whole = (do let v ← whole; standAt a.pos; holding [v] (truthy v))) :
    PT X a (fun σ H Q => ta σ H fun x H' => ∃ k, TruV X.K x H' k ∧ Q k H') := by
  intro pins s σ H Q I h
  exact isTrue_plain (thn (ha pins s σ H _ I h) fun v s1 ⟨x, H1, I1, r1, q1⟩ => tru_ok pins s1 σ H1 x v Q I1 r1 q1) (he _)

/-! ### strs and bytes -/
/-! ### scalar builtins, by CallR -/
theorem vals1 {x : V} {us : List Value} (r : Vals [x] us) : ∃ u, us = [u] ∧ RelV x u := by
  cases r with
  | cons r1 r2 => cases r2; exact ⟨_, rfl, r1⟩
theorem vals2 {x y : V} {us : List Value} (r : Vals [x, y] us) : ∃ u w', us = [u, w'] ∧ RelV x u ∧ RelV y w' := by
  cases r with
  | cons r1 r2 =>
    cases r2 with
    | cons r3 r4 => cases r4; exact ⟨_, _, rfl, r1, r3⟩
theorem call_min2 (hc : X.calm = true) : CallR X (.builtin "min") (fun xs H Q => ∃ i j, xs = [.int i, .int j] ∧ Q (.int (if j < i then j else i)) H) := by
  intro pins s σ H xs us Q I r h
  obtain ⟨i, j, rfl, q⟩ := h
  obtain ⟨u, w', rfl, ⟨t, rfl⟩, ⟨t', rfl⟩⟩ := vals2 r
  refine min_two_ints (I.ok.hd hc) fun h' tk k => ⟨_, H, I.kept k, ?_, q⟩
  by_cases hj : j < i
  · rw [if_pos hj, if_pos hj]; exact ⟨_, rfl⟩
  · rw [if_neg hj, if_neg hj]; exact ⟨_, rfl⟩
end
end L2

namespace L2
open PySem PySem.Spec PyProof.Rows

/-! ### an instance, its attributes a map -/
structure ObjM (h : Heap) (x dx C : Addr) (mA : Str → Option Value) : Prop where
  obj : h.get? x = some (PySem.W.instObj C dx)
  ns : h.Ns1 dx mA
  ne : dx ≠ x

theorem lookIn_ns {h : Heap} {dx : Addr} {mA : Str → Option Value} (n : h.Ns1 dx mA) : ∃ od, h.get? dx = some od ∧ ∀ name, PySem.W.lookIn name od = some (mA name) := by
  obtain ⟨o, es, ep, ho, hd, hk, _, hm⟩ := n
  refine ⟨o, ho, fun name => ?_⟩
  have e := hm name
  unfold nsFind findBy at e
  rw [← Array.find?_toList] at e
  unfold PySem.W.lookIn
  rw [hd]
  dsimp only
  split
  · rename_i y q
    rw [q] at e
    exact congrArg some e
  · rename_i q
    rw [q] at e
    have a : es.toList.any (·.refKey) = false := by
      rw [List.any_eq_false]
      intro y hy
      obtain ⟨z, t, hkey⟩ := hk y (Array.mem_toList_iff.mp hy)
      simp [DictEntry.refKey, hkey]
    have a' : ¬ es.toList.any (·.refKey) = true := by rw [a]; exact Bool.false_ne_true
    rw [if_neg a']
    exact congrArg some e

theorem ObjM.look {h : Heap} {x dx C : Addr} {mA : Str → Option Value} (I : ObjM h x dx C mA) : ∃ od, PySem.W.InstAt h x (PySem.W.instObj C dx) C (some od) ∧ ∀ name, PySem.W.lookIn name od = some (mA name) :=
  let ⟨od, ho, hl⟩ := lookIn_ns I.ns
  ⟨od, ⟨I.obj, rfl, rfl, ho⟩, hl⟩

section
variable {prog : Program} {w : World} {A : Around} {E : Value → Shared → Prop} {s : Shared} {K : PySem.W.Frag} {x dx C f : Addr} {mA : Str → Option Value} {name : Str} {v : Value}

theorem set_map {ns : List Str} {Q : Unit → Shared → Prop} (X : K.In s.heap) (I : ObjM s.heap x dx C mA)
    (hs : PySem.W.findIn K (.ref C) "__setattr__" = some (some (.builtin "object.__setattr__"))) (hp : PySem.W.plainOver K C = true) (ht : PySem.W.takerIn K C name = some none) (hh : PySem.W.hasDictIn K C = true)
    (hw : PySem.Within mA ns) (hsz : ns.length ≤ sizeLine)
    (h : ∀ h', ObjM h' x dx C (fun y => if y = name then some v else mA y) → Heap.SameBut dx s.heap h' → Q () { s with heap := h', toks := s.toks + 2 }) :
    wpAny (model prog w) A (setAttr (.ref x) name v) Q E s := by
  obtain ⟨od, J, hl⟩ := I.look
  refine PySem.W.set_plain X J hs (PySem.W.osa_open (s := { s with toks := s.toks + 1 }) (r := none) X J hp ht fun b => ?_)
  obtain ⟨cd, hc, hd'⟩ := PySem.W.any_some hh
  have hx : s.heap.get? x = some ⟨.ref C, some dx, .plain, #[]⟩ := I.obj
  refine wpAny_bind (wpAny_pure (wpAny_bind (wpAny_bind (wpAny_loadPart hx (wpAny_bind (PySem.W.Looks.here (s := { s with toks := s.toks + 1 }) (PySem.W.looks_clsIn X hc) ?_))))))
  rw [hd']
  refine wpAny_pure (a := some dx) (wpAny_bind (wpAny_pure (wpAny_bind ?_)))
  refine wpAny_nsSet1 (s := { s with toks := s.toks + 1 }) I.ns fun h' hn2 hs2 => ?_
  obtain ⟨oD, esD, epD, hoD, hdD, hcD⟩ := hn2.count (PySem.Within.cons name v hw)
  refine wpAny_bind (wpAny_lookBehind hoD (by rw [hdD]; exact pastItsLine_dict (Nat.le_trans hcD (by rw [List.length_cons]; omega))) ?_)
  exact wpAny_pure (h _ ⟨(hs2.2 _ (Ne.symm I.ne)).trans I.obj, hn2, I.ne⟩ hs2)

/-- C(..): the dict at the heap's end, the instance behind it; then its __init__ -/
theorem make_map {R : Result → Shared → Prop} {vs : List Value} {kw : List (Str × Value)} (X : K.In s.heap) (hm : PySem.W.makesIn K C = true)
    (hi : PySem.W.findIn K (.ref C) "__init__" = some (some (.ref f))) (hf : PySem.W.typeIn K (.ref f) = some (.type "function"))
    (h : codeAny (model prog w) (A.under (.builtin "type.__call__" ⟨.ref C :: vs, kw⟩)) (.call (.ref f) ⟨.ref (s.heap.objs.size + 1) :: vs, kw⟩) (PySem.W.InitBack (s.heap.objs.size + 1) R)
      { s with heap := (s.heap.push PySem.W.emptyDict).push (PySem.W.instObj C s.heap.objs.size) }) :
    codeAny (model prog w) A (.call (.ref C) ⟨vs, kw⟩) R s := by
  obtain ⟨hh, g, d, t, os⟩ := s
  exact PySem.W.make_core (PySem.W.makes_of X hm) (PySem.W.looks_findIn X hi) (fun self => PySem.W.bind_fn X self hf) (.inl rfl) h
end

/-! ### the attributes as a list of pairs -/
def putF (f : Str) (v : V) : List (Str × V) → List (Str × V)
  | [] => [(f, v)]
  | (g, x) :: r => if g = f then (g, v) :: r else (g, x) :: putF f v r
theorem lookup_putF (f g : Str) (v : V) : ∀ fs : List (Str × V), (putF f v fs).lookup g = if g = f then some v else fs.lookup g
  | [] => by
    show List.lookup g [(f, v)] = _
    by_cases h : g = f
    · have hb : (g == f) = true := beq_iff_eq.mpr h
      simp only [List.lookup, hb, if_pos h]
    · have hb : (g == f) = false := beq_eq_false_iff_ne.mpr h
      simp only [List.lookup, hb, if_neg h]
  | (k, x) :: r => by
    have ih := lookup_putF f g v r
    rw [show putF f v ((k, x) :: r) = (if k = f then (k, v) :: r else (k, x) :: putF f v r) from rfl]
    by_cases hk : k = f
    · rw [if_pos hk]
      by_cases h : g = k
      · have hb : (g == k) = true := beq_iff_eq.mpr h
        simp only [List.lookup, hb, if_pos (h.trans hk)]
      · have hb : (g == k) = false := beq_eq_false_iff_ne.mpr h
        simp only [List.lookup, hb, if_neg (fun e : g = f => h (e.trans hk.symm))]
    · rw [if_neg hk]
      by_cases h : g = k
      · have hb : (g == k) = true := beq_iff_eq.mpr h
        simp only [List.lookup, hb, if_neg (fun e : g = f => hk (h.symm.trans e))]
      · have hb : (g == k) = false := beq_eq_false_iff_ne.mpr h
        simp only [List.lookup, hb]
        exact ih
theorem keys_putF (f : Str) (v : V) : ∀ fs : List (Str × V), f ∈ (putF f v fs).map (·.1) ∧ ∀ g, g ∈ fs.map (·.1) → g ∈ (putF f v fs).map (·.1)
  | [] => ⟨by simp [putF], fun g h => by simp at h⟩
  | (k, x) :: r => by
    obtain ⟨i1, i2⟩ := keys_putF f v r
    rw [show putF f v ((k, x) :: r) = (if k = f then (k, v) :: r else (k, x) :: putF f v r) from rfl]
    by_cases hk : k = f
    · rw [if_pos hk]
      subst hk
      exact ⟨by simp, fun g h => by simpa using h⟩
    · rw [if_neg hk]
      refine ⟨?_, fun g h => ?_⟩
      · rw [List.map_cons]
        exact List.mem_cons_of_mem _ i1
      · rw [List.map_cons] at h ⊢
        rcases List.mem_cons.mp h with e | e
        · exact List.mem_cons.mpr (.inl e)
        · exact List.mem_cons_of_mem _ (i2 g e)
theorem length_putF (f : Str) (v : V) : ∀ fs : List (Str × V), (putF f v fs).length ≤ fs.length + 1
  | [] => by simp [putF]
  | (k, x) :: r => by
    have ih := length_putF f v r
    rw [show putF f v ((k, x) :: r) = (if k = f then (k, v) :: r else (k, x) :: putF f v r) from rfl]
    by_cases hk : k = f
    · rw [if_pos hk, List.length_cons, List.length_cons]; omega
    · rw [if_neg hk, List.length_cons, List.length_cons]; omega

section
variable {P : Program} {w : World} {H H' : Hp} {h h' : Heap} {a C dx : Addr} {fs fs' : List (Str × V)}
theorem ins_get (hok : HOk P w H h) (e : H a = some (.ins C dx fs)) : ∃ mA, ObjM h a dx C mA ∧ (∀ f, RelO (fs.lookup f) (mA f)) ∧ PySem.Within mA (fs.map (·.1)) ∧ fs.length ≤ 1000 ∧ H dx = some (.own a) := by
  obtain ⟨d, z, ne, ob, mA, n, r, q⟩ := (show ObjOk P w H h a (.ins C dx fs) from hok a _ e)
  exact ⟨mA, ⟨ob, n, ne⟩, r, q, z, d⟩
end

/-! ### what of the text a class must have -/
structure Cls (K : PySem.W.Frag) (C : Addr) : Prop where
  pg : PySem.W.plainGet K C Str.empty = true
  hd : PySem.W.hasDictIn K C = true
  po : PySem.W.plainOver K C = true
  sa : PySem.W.findIn K (.ref C) "__setattr__" = some (some (.builtin "object.__setattr__"))
theorem Cls.get {K : PySem.W.Frag} {C : Addr} (c : Cls K C) (f : Str) : PySem.W.plainGet K C f = true := c.pg
/-- no class of it has the name -/
def NoAttr (K : PySem.W.Frag) (C : Addr) (f : Str) : Prop := PySem.W.findIn K (.ref C) f = some none
theorem NoAttr.taker {K : PySem.W.Frag} {C : Addr} {f : Str} (n : NoAttr K C f) : PySem.W.takerIn K C f = some none := by
  unfold PySem.W.takerIn
  rw [show PySem.W.findIn K (.ref C) f = some none from n]
  rfl
section
variable {X : Cx} {pins : List (Addr × Obj)} {σ : St} {H : Hp} {s : Shared} {a C dx : Addr} {fs : List (Str × V)} {f : Str} {v : V} {A : Around} {E : Value → Shared → Prop}

theorem setattr_ok {y : V} {u : Value} {Q : Unit → Shared → Prop} (I : Inv X pins σ H s) (e : H a = some (.ins C dx fs)) (c : Cls X.K C) (n : NoAttr X.K C f) (hl : fs.length < 1000) (ry : RelV y u)
    (h : ∀ s', Inv X pins σ (upd H a (.ins C dx (putF f y fs))) s' → Q () s') : wpAny (model X.prog X.w) A (setAttr (.ref a) f u) Q E s := by
  obtain ⟨mA, O, r, wi, _, ho⟩ := ins_get I.hok e
  have hz : (fs.map (·.1)).length ≤ sizeLine := by rw [List.length_map, sizeLine_eq]; omega
  refine set_map I.kIn O c.sa c.po n.taker c.hd wi hz fun h' O' sb => h _ ?_
  have hd : ∃ o, h'.get? dx = some o := let ⟨o, _, _, e', _⟩ := O'.ns; ⟨o, e'⟩
  refine I.write (x := a) (e := dx) (by rw [e]; exact True.intro) (.inr ho) (fun b q hb z => (sb.2 b hb).trans z) hd ?_
  refine ⟨by rw [upd_ne O.ne]; exact ho, ?_, O.ne, O'.obj, _, O'.ns, fun g => ?_, fun g hg => ?_⟩
  · have := length_putF f y fs; omega
  · show RelO ((putF f y fs).lookup g) (if g = f then some u else mA g)
    rw [lookup_putF]
    by_cases q : g = f
    · rw [if_pos q, if_pos q]; exact ry
    · rw [if_neg q, if_neg q]; exact r g
  · by_cases q : g = f
    · rw [q]; exact (keys_putF f y fs).1
    · refine (keys_putF f y fs).2 g (wi g fun z => hg ?_)
      show (if g = f then some u else mA g) = none
      rw [if_neg q]; exact z

/-- a new instance, tracked, without attributes -/
theorem Inv.made (I : Inv X pins σ H s) : Inv X pins σ (upd (upd H s.heap.objs.size (.own (s.heap.objs.size + 1))) (s.heap.objs.size + 1) (.ins C s.heap.objs.size []))
    { s with heap := (s.heap.push PySem.W.emptyDict).push (PySem.W.instObj C s.heap.objs.size) } := by
  have e1 : (s.heap.push PySem.W.emptyDict).get? s.heap.objs.size = some PySem.W.emptyDict := Heap.get?_push_size s.heap rfl
  have e2 : ((s.heap.push PySem.W.emptyDict).push (PySem.W.instObj C s.heap.objs.size)).get? (s.heap.objs.size + 1) = some (PySem.W.instObj C s.heap.objs.size) := by
    have := Heap.get?_push_size (s.heap.push PySem.W.emptyDict) (o := PySem.W.instObj C s.heap.objs.size) rfl
    rwa [Heap.size_push] at this
  have e3 : (s.heap.push PySem.W.emptyDict).Ns s.heap.objs.size (fun _ => none) := ⟨PySem.W.emptyDict, #[], _, e1, rfl, (fun e he => absurd he (by simp)), fun _ => rfl⟩
  have I1 := I.laid (a := s.heap.objs.size) (o := .own (s.heap.objs.size + 1)) (h' := s.heap.push PySem.W.emptyDict) (t' := s.toks) (fun b u q => Heap.get?_push_of_some _ q) (Nat.le_refl _) ⟨_, e1⟩
  refine I1.laid (a := s.heap.objs.size + 1) (o := .ins C s.heap.objs.size []) (t' := s.toks) (fun b u q => Heap.get?_push_of_some _ q) (Nat.le_of_eq (Heap.size_push _ _)) ?_
  have ne : s.heap.objs.size ≠ s.heap.objs.size + 1 := Nat.ne_of_lt (Nat.lt_succ_self _)
  refine ⟨by rw [upd_ne ne, upd_same], Nat.zero_le _, ne, e2, fun _ => none, (Heap.Ns1.of_empty e3).at fun o q => Heap.get?_push_of_some _ q, fun _ => True.intro, fun y hy => absurd rfl hy⟩

end

/-! ### readings and rules -/
/-- e.f = value -/
def sFld (K : PySem.W.Frag) (ta tv : TE) (f : Str) : TS := fun D σ H => tv σ H fun y H1 => ta σ H1 fun x H2 => ∃ a C dx fs, x = .ref a ∧ H2 a = some (.ins C dx fs) ∧ Cls K C ∧ NoAttr K C f ∧ fs.length < 1000 ∧
  D.nx σ (upd H2 a (.ins C dx (putF f y fs)))
section
variable {X : Cx} {o e value : Expr} {f : Str} {pos pos' tpos : Pos} {ta tv : TE}
theorem ps_fld (ha : PE X o ta) (hv : PE X value tv) (hs : swapsWith value (some (.Attribute o f pos')) pos.line X.env = pure false) : PS X (.Assign [.Attribute o f pos'] value pos) (sFld X.K ta tv f) := by
  intro pins s σ H D I h
  refine plainObj_wpAny_Assign_Attribute (thn (hv pins s σ H _ I h) fun u s1 ⟨y, H1, I1, ry, q⟩ => thn (ha pins s1 σ H1 _ I1 q) fun ov s2 ⟨x, H2, I2, rx, a, C, dx, fs, ex, ea, c, n, l, q2⟩ => ?_) hs
  subst ex
  obtain rfl : ov = Value.ref a := rx
  exact setattr_ok I2 ea c n l ry fun s3 I3 => ⟨σ, _, I3, q2⟩
end

/-! ### isinstance -/
section
variable {X : Cx} {pins : List (Addr × Obj)} {σ : St} {H : Hp} {s : Shared} {A : Around} {E : Value → Shared → Prop} {Q : Value → Shared → Prop} {c : Value} {b : Bool}
/-- the type of a value, as the fragment's deciders take it; for an instance its class -/
inductive TyOf (K : PySem.W.Frag) (H : Hp) : V → Value → Prop where
  | non : TyOf K H .non (.type "NoneType")
  | bl (x : Bool) : TyOf K H (.bl x) (.type "bool")
  | int (i : Int) : TyOf K H (.int i) (.type "int")
  | str (x : Str) : TyOf K H (.str x) (.type "str")
  | flt (x : UInt64) : TyOf K H (.flt x) (.type "float")
  | lst {a : Addr} {xs : List V} (e : H a = some (.lst xs)) : TyOf K H (.ref a) (.type "list")
  | frz {a : Addr} {o : Obj} {xs : List V} (e : H a = some (.frz o (.lst xs))) : TyOf K H (.ref a) (.type "list")
  | tup {a : Addr} {xs : List V} (e : H a = some (.tup xs)) : TyOf K H (.ref a) (.type "tuple")
  | dK {a : Addr} {kvs : List (Key × V)} (e : H a = some (.dK kvs)) : TyOf K H (.ref a) (.type "dict")
  | dT {a : Addr} {kvs : List (List Key × V)} (e : H a = some (.dT kvs)) : TyOf K H (.ref a) (.type "dict")
  | ins {a C dx : Addr} {fs : List (Str × V)} (e : H a = some (.ins C dx fs)) (cl : Cls K C) (ha : PySem.W.findIn K (.ref C) "__class__" = some (some (.builtin "object.__class__")))
      (hn : PySem.W.specialIn K (.builtin "object.__class__") "__get__" = some (some (.builtin "getset_descriptor.__get__"))) (htk : PySem.W.takesIn K (.builtin "object.__class__") = some true)
      (hm : PySem.W.mroIn K C (.type "object") = some true) : TyOf K H (.ref a) (.ref C)
/-- isinstance(x, c) for one class c, a built-in or an own one: kitOne's answer -/
theorem isinst_ok {x : V} {u t : Value} (I : Inv X pins σ H s) (rx : RelV x u) (ty : TyOf X.K H x t) (e : PySem.W.kitOne X.K t c = some b) (h : ∀ tk, Q (.bool b) { s with toks := tk }) :
    wpAny (model X.prog X.w) A (call (.builtin "isinstance") [u, c]) Q E s := by
  cases ty with
  | non => cases (show u = Value.none from rx); exact PySem.W.kia_one PySem.W.kitx_none I.kIn True.intro e (fun z => nomatch z) h
  | bl y => cases (show u = Value.bool y from rx); exact PySem.W.kia_one PySem.W.kitx_bool I.kIn True.intro e (fun z => nomatch z) h
  | int i => obtain ⟨t, q⟩ := (show ∃ t, u = Value.int i t from rx); cases q; exact PySem.W.kia_one PySem.W.kitx_int I.kIn True.intro e (fun z => nomatch z) h
  | str y => obtain ⟨t, q⟩ := (show ∃ t, u = Value.str y t from rx); cases q; exact PySem.W.kia_one PySem.W.kitx_str I.kIn True.intro e (fun z => nomatch z) h
  | flt y => obtain ⟨t, q⟩ := (show ∃ t, u = Value.float y t from rx); cases q; exact PySem.W.kia_one PySem.W.kitx_float I.kIn True.intro e (fun z => nomatch z) h
  | @lst a xs ea =>
    cases (show u = Value.ref a from rx)
    obtain ⟨_, _, n, _, h1⟩ := (show ObjOk X.prog X.w H s.heap a (.lst xs) from I.hok a _ ea)
    exact PySem.W.kia_one PySem.W.kitx_list I.kIn ⟨_, h1, rfl⟩ e (fun z => nomatch z) h
  | @frz a ob xs ea =>
    cases (show u = Value.ref a from rx)
    obtain ⟨_, _, _, n, _, h1⟩ := (show ObjOk X.prog X.w H s.heap a (.frz ob (.lst xs)) from I.hok a _ ea)
    exact PySem.W.kia_one PySem.W.kitx_list I.kIn ⟨_, h1, rfl⟩ e (fun z => nomatch z) h
  | @tup a xs ea =>
    cases (show u = Value.ref a from rx)
    obtain ⟨_, _, _, p⟩ := (show ObjOk X.prog X.w H s.heap a (.tup xs) from I.hok a _ ea)
    obtain ⟨o, h1, h2, _⟩ := p
    exact PySem.W.kia_one PySem.W.kitx_tuple I.kIn ⟨o, h1, h2⟩ e (fun z => nomatch z) h
  | @dK a kvs ea =>
    cases (show u = Value.ref a from rx)
    obtain ⟨_, _, vs, _, p⟩ := (show ObjOk X.prog X.w H s.heap a (.dK kvs) from I.hok a _ ea)
    obtain ⟨o, es, ep, h1, h2, _⟩ := p
    exact PySem.W.kia_one PySem.W.kitx_dict I.kIn ⟨o, h1, h2.1⟩ e (fun z => nomatch z) h
  | @dT a kvs ea =>
    cases (show u = Value.ref a from rx)
    obtain ⟨_, _, xs, _, o, es, ep, h1, h2, _⟩ := (show ObjOk X.prog X.w H s.heap a (.dT kvs) from I.hok a _ ea)
    exact PySem.W.kia_one PySem.W.kitx_dict I.kIn ⟨o, h1, h2.1⟩ e (fun z => nomatch z) h
  | @ins a C dx fs ea cl ha hn htk hm =>
    cases (show u = Value.ref a from rx)
    obtain ⟨mA, O, _⟩ := ins_get I.hok ea
    obtain ⟨od, J, _⟩ := O.look
    exact PySem.W.kia_one (PySem.W.kitx_own (cl.get _) cl.hd ha hn htk hm) I.kIn J e (fun z => nomatch z) h
end
end L2

namespace L2
open PySem PySem.Spec PyProof.Rows

/-! ### room -/
structure Room (k : Nat) (A : Around) : Prop where
  hd : A.handled = none
  dp : A.depth + 3 * k + 5 < recursionLimit
  un : A.units + 16 * k + 200 < cLine
theorem Room.mono {j k : Nat} {A : Around} (r : Room k A) (h : j ≤ k) : Room j A := ⟨r.hd, by have := r.dp; omega, by have := r.un; omega⟩
theorem Room.deeper {k : Nat} {A : Around} (r : Room (k + 1) A) (env : Env) : Room k (A.deeper env) :=
  ⟨r.hd, by have := r.dp; show A.depth + 1 + 3 * k + 5 < _; omega, by have := r.un; show A.units + 3 + 16 * k + 200 < _; omega⟩
theorem make_depth {A : Around} {C : Addr} {us : List Value} {kw : List (Str × Value)} : (A.under (.builtin "type.__call__" ⟨.ref C :: us, kw⟩)).depth = A.depth + 1 := by
  first | rfl | simp [Around.under, Code.weight, Code.isCreation, Code.isGuard, Code.isCaller, Code.frames, Code.isFrame, guardIds]
theorem make_units {A : Around} {C : Addr} {us : List Value} {kw : List (Str × Value)} : (A.under (.builtin "type.__call__" ⟨.ref C :: us, kw⟩)).units = A.units + 1 := by
  first | rfl | simp [Around.under, Code.cUnits, Code.frames, Code.isFrame]
theorem Room.make {k : Nat} {A : Around} (r : Room (k + 1) A) (C : Addr) (us : List Value) (kw : List (Str × Value)) : Room k (A.under (.builtin "type.__call__" ⟨.ref C :: us, kw⟩)) :=
  ⟨r.hd, by have := r.dp; rw [make_depth]; omega, by have := r.un; rw [make_units]; omega⟩
theorem Room.depth {k : Nat} {A : Around} (r : Room k A) : A.depth < recursionLimit := by have := r.dp; omega
theorem Room.units {k : Nat} {A : Around} (r : Room k A) : A.units + 64 < cLine := by have := r.un; omega
/-! ### argument lists and displays -/
def tNil : TA := fun _ H Q => Q [] H
def tCons (ta : TE) (tr : TA) : TA := fun σ H Q => ta σ H fun x H1 => tr σ H1 fun xs H2 => Q (x :: xs) H2
section
variable {X : Cx} {e : Expr} {es : List Expr} {te : TE} {t : TA} {pos : Pos}
theorem pa_nil : PA X [] tNil := fun _ _ _ _ H Q I h => Calls.spliced_nil ⟨[], H, I, .nil, h⟩
theorem pa_cons (ha : PE X e te) (hr : PA X es t) (hs : starEach (e :: es) X.env = (false, eval e X.env) :: starEach es X.env := by rfl) : PA X (e :: es) (tCons te t) := by
  intro pos pins s σ H Q I h
  rw [hs]
  show wpAny _ _ (spliced ((false, eval e X.env) :: backTo pos (starEach es X.env))) _ _ s
  refine Calls.spliced_cons (thn (ha pins s σ H _ I h) fun u s1 ⟨x, H1, I1, r1, q1⟩ => ?_)
  exact thn (hr pos pins s1 σ H1 _ I1 q1) fun us s2 ⟨xs, H2, I2, r2, q2⟩ => ⟨x :: xs, H2, I2, .cons r1 r2, q2⟩

/-- a tuple, a list of written items -/
def tTup (t : TA) : TE := fun σ H Q => t σ H fun xs H1 => xs.length ≤ sizeLine ∧ ∀ p, H1 p = none → Q (.ref p) (upd H1 p (.tup xs))
def tLst (t : TA) : TE := fun σ H Q => t σ H fun xs H1 => xs.length ≤ sizeLine ∧ ∀ p, H1 p = none → Q (.ref p) (upd H1 p (.lst xs))
theorem pe_tup {x1} (h : PA X es t) : PE X (.Tuple es x1 pos) (tTup t) := by
  intro pins s σ H Q I hq
  refine wpAny_Tuple_spliced (thn (h pos pins s σ H _ I hq) fun us s1 ⟨xs, H1, I1, r, z, q⟩ => ⟨by rw [← r.length]; exact z, ?_⟩)
  have hf : H1 s1.heap.objs.size = none := I1.hok.fresh (Nat.le_refl _)
  refine ⟨.ref s1.heap.objs.size, upd H1 s1.heap.objs.size (.tup xs), I1.laid (t' := s1.toks) (fun b u e => Heap.get?_push_of_some _ e) (Nat.le_refl _) ?_, rfl, q _ hf⟩
  exact ⟨z, us, r, ⟨_, Heap.get?_push_size _ rfl, rfl, _, rfl⟩⟩
theorem pe_lst (h : PA X es t) : PE X (.List es pos) (tLst t) := by
  intro pins s σ H Q I hq
  refine wpAny_List_spliced (thn (h pos pins s σ H _ I hq) fun us s1 ⟨xs, H1, I1, r, z, q⟩ => ⟨by rw [← r.length]; exact z, ?_⟩)
  have hf : H1 s1.heap.objs.size = none := I1.hok.fresh (Nat.le_refl _)
  refine ⟨.ref s1.heap.objs.size, upd H1 s1.heap.objs.size (.lst xs), I1.laid (t' := s1.toks) (fun b u e => Heap.get?_push_of_some _ e) (Nat.le_refl _) ?_, rfl, q _ hf⟩
  exact ⟨z, us, 0, r, Heap.get?_push_size _ rfl⟩
end

/-! ### what a def promises -/
/-- a def's promise: the bound arguments in the parameters' order, the heap, the wanted end, the wanted exception -/
abbrev Sp := List V → Hp → VK → XK → Prop
/-- how an exception lies behind a call (file 08 gives it): the callers' frames, abstract heap and state ahead of the call, the wish, the exception, the state -/
abbrev CXT := List Env → Hp → Shared → XK → Value → Shared → Prop

/-- the state at a call -/
structure Env0 (P : Program) (w : World) (K : PySem.W.Frag) (mg : Str → Option Value) (base : Heap) (A : Around) (outer : List Env) (s : Shared) (H : Hp) : Prop where
  frames : A.frames = some outer
  mod : Mod K mg base
  bs : ∀ b o, base.get? b = some o → s.heap.get? b = some o ∧ H b = none
  bsz : base.objs.size ≤ s.heap.objs.size
  funs : s.heap.FunFrames base outer
  frf : ∀ b ∈ frs outer, H b = none
  hok : HOk P w H s.heap
  bare : AllBare s.gens
/-- a call's end -/
def CE (outer : List Env) (P : Program) (w : World) (H : Hp) (s : Shared) (Q : VK) (u : Value) (s' : Shared) : Prop :=
  ∃ v H', s'.os = s.os ∧ AllBare s'.gens ∧ Un (frs outer) [] H H' s.heap s'.heap ∧ HOk P w H' s'.heap ∧ RelV v u ∧ Q v H'
def CR (CX : CXT) (outer : List Env) (P : Program) (w : World) (H : Hp) (s : Shared) (Q : VK) (E : XK) (r : Result) (s' : Shared) : Prop :=
  match r with
  | .ok (.ret u) => CE outer P w H s Q u s'
  | .ok _ => False
  | .error e => CX outer H s E e s'
structure FnOk (P : Program) (w : World) (K : PySem.W.Frag) (mg : Str → Option Value) (base : Heap) (CX : CXT) (k : Nat) (f : Addr) (fd : FuncData) (ps : List Str) (sp : Sp) : Prop where
  len : ∀ vs H Q E, sp vs H Q E → vs.length = ps.length
  run : ∀ (A : Around) (outer : List Env) (s : Shared) (H : Hp) (args : Args) (us : List Value) (vs : List V) (Q : VK) (E : XK), Room k A → Env0 P w K mg base A outer s H → BindsTo s fd args (ps.zip us) → Vals vs us → sp vs H Q E →
    codeAny (model P w) A (.call (.ref f) args) (CR CX outer P w H s Q E) s
theorem Env0.make {P : Program} {w : World} {K : PySem.W.Frag} {mg : Str → Option Value} {base : Heap} {A : Around} {outer : List Env} {s : Shared} {H : Hp} (e : Env0 P w K mg base A outer s H) (C : Addr) (us : List Value) (kw : List (Str × Value)) :
    Env0 P w K mg base (A.under (.builtin "type.__call__" ⟨.ref C :: us, kw⟩)) outer s H := ⟨by first | exact e.frames | (simpa [Around.under, Code.envs, Code.isFrame, pushEnvs] using e.frames), e.mod, e.bs, e.bsz, e.funs, e.frf, e.hok, e.bare⟩
section
variable {X : Cx} {pins : List (Addr × Obj)} {σ : St} {H : Hp} {s s' : Shared}
/-- from a body: what a callee wants -/
theorem Inv.env0 (I : Inv X pins σ H s) : Env0 X.prog X.w X.K X.mg X.base X.A X.stack s H :=
  ⟨I.ok.frames, I.ok.mod, I.bs, Nat.le_trans I.ok.bsz I.sz, I.stack, I.stkFree, I.hok, I.bare⟩
/-- behind a call -/
theorem Inv.after {Q : VK} {u : Value} (I : Inv X pins σ H s) (h : CE X.stack X.prog X.w H s Q u s') : EP X pins σ Q u s' := by
  obtain ⟨v, H', os, bare, un, hok, r, q⟩ := h
  obtain ⟨hh, g, d, t, os'⟩ := s'
  obtain rfl : os' = s.os := os
  exact ⟨v, H', I.call (h' := hh) (g' := g) (d' := d) (t' := t) (ch := []) un hok bare (fun b z => absurd z (by simp)), r, q⟩
end

/-! ### calls -/
/-- f(..): the written arguments, then the defaults dvs; E: what is wanted of an exception -/
def tCall (sp : Sp) (dvs : List V) (E : XK) (t : TA) : TE := fun σ H Q => t σ H fun vs H1 => sp (vs ++ dvs) H1 Q E
/-- C(..): a new instance and its dict, then __init__ -/
def tMake (C : Addr) (sp : Sp) (dvs : List V) (E : XK) (t : TA) : TE := fun σ H Q => t σ H fun vs H1 => ∀ x dx, H1 x = none → H1 dx = none → dx ≠ x →
  sp (.ref x :: (vs ++ dvs)) (upd (upd H1 dx (.own x)) x (.ins C dx [])) (fun v H2 => v = .non ∧ Q (.ref x) H2) E

/-- how the parameters are bound: us the positional arguments, kw the keywords' values by name, ds the defaults that fill up -/
def Binds (K : PySem.W.Frag) (fd : FuncData) (ps : List Str) (ds : List Value) : Prop :=
  ∀ (s : Shared) (us : List Value), K.In s.heap → (us ++ ds).length = ps.length → BindsTo s fd ⟨us, []⟩ (ps.zip (us ++ ds))
/-- every parameter is given -/
theorem Binds.all {K : PySem.W.Frag} {fd : FuncData} {ps : List Str} (h : ∀ us : List Value, us.length = ps.length → bindArgs fd ⟨us, []⟩ = pure (ps.zip us)) : Binds K fd ps [] := fun s us _ hl => by
  rw [List.append_nil] at hl ⊢
  exact .of_eq (h us hl)

/-- an exception of a callee reaches what this body wants of exceptions -/
def Passes (CX : CXT) (X : Cx) (E : XK) : Prop := ∀ (pins : List (Addr × Obj)) (σ : St) (H : Hp) (s : Shared) (e : Value) (s' : Shared), Inv X pins σ H s → CX X.stack H s E e s' → X.xe e s'

section
variable {X : Cx} {CX : CXT} {k : Nat} {f C : Addr} {fd : FuncData} {ps : List Str} {sp : Sp} {dvs : List V} {ds : List Value} {E : XK} {x m : Str} {p pos apos : Pos} {e o : Expr} {es : List Expr} {ta : TE} {t : TA}

/-- the callee runs -/
theorem run_fn {pins : List (Addr × Obj)} {σ : St} {H : Hp} {s : Shared} {Q : VK} {us : List Value} {vs : List V} (F : FnOk X.prog X.w X.K X.mg X.base CX k f fd ps sp) (hr : Room k X.A) (hb : Binds X.K fd ps ds) (hd : Vals dvs ds) (hx : Passes CX X E)
    (I : Inv X pins σ H s) (r : Vals vs us) (h : sp (vs ++ dvs) H Q E) : wpAny (model X.prog X.w) X.A (call (.ref f) us) (EP X pins σ Q) X.xe s := by
  have r2 : Vals (vs ++ dvs) (us ++ ds) := r.append hd
  have hl : (us ++ ds).length = ps.length := by rw [← r2.length]; exact F.len _ _ _ _ h
  refine wpAny_call (codeAny_mono (F.run X.A X.stack s H ⟨us, []⟩ (us ++ ds) (vs ++ dvs) Q E hr I.env0 (hb s us I.kIn hl) r2 h) fun r s' hq => ?_)
  cases r with
  | error e => exact hx pins σ H s e s' I hq
  | ok fl =>
    cases fl with
    | ret u => exact I.after hq
    | next => exact False.elim hq
    | brk => exact False.elim hq
    | cont => exact False.elim hq

theorem pe_call (F : FnOk X.prog X.w X.K X.mg X.base CX k f fd ps sp) (hr : Room k X.A) (hg : Gl X x) (hm : X.mg x = some (.ref f)) (hk : PySem.W.keepIn X.K (.ref f) = true) (hb : Binds X.K fd ps ds) (hd : Vals dvs ds) (hx : Passes CX X E)
    (ha : PA X (e :: es) t) (hdb : (x == ("__debug__" : Str)) = false := by decide) (he : starEach (e :: es) X.env = (false, eval e X.env) :: starEach es X.env := by rfl) (hpl : (backTo pos (starEach es X.env)).any (·.1) = false := by rfl) :
    PE X (.Call (.Name x p) (e :: es) [] pos) (tCall sp dvs E t) := by
  intro pins s σ H Q I h
  refine wpAny_Call_Name_kw (ld_glob I hg hm ?_ hdb)
  refine PySem.W.callWith_K (h₀ := X.base) I.ok.mod.kin hk (thn (ha pos pins s σ H _ I h) fun us s1 ⟨vs, H1, I1, r, q⟩ => ⟨I1.kIn, ?_⟩) he hpl
  exact run_fn F hr hb hd hx I1 r q
/-- what a class must have to be made -/
structure Mk (K : PySem.W.Frag) (C f : Addr) : Prop where
  makes : PySem.W.makesIn K C = true
  init : PySem.W.findIn K (.ref C) "__init__" = some (some (.ref f))
  fn : PySem.W.isFn K (.ref f) = true
  kp : PySem.W.keepIn K (.ref C) = true

theorem run_make {pins : List (Addr × Obj)} {σ : St} {H : Hp} {s : Shared} {Q : VK} {us : List Value} {vs : List V} (M : Mk X.K C f) (F : FnOk X.prog X.w X.K X.mg X.base CX k f fd ps sp) (hr : Room (k + 1) X.A) (hb : Binds X.K fd ps ds) (hd : Vals dvs ds)
    (hx : Passes CX X E) (I : Inv X pins σ H s) (r : Vals vs us)
    (h : ∀ x dx, H x = none → H dx = none → dx ≠ x → sp (.ref x :: (vs ++ dvs)) (upd (upd H dx (.own x)) x (.ins C dx [])) (fun v H2 => v = .non ∧ Q (.ref x) H2) E) :
    wpAny (model X.prog X.w) X.A (call (.ref C) us) (EP X pins σ Q) X.xe s := by
  have hq := h (s.heap.objs.size + 1) s.heap.objs.size (I.hok.fresh (Nat.le_succ _)) (I.hok.fresh (Nat.le_refl _)) (Nat.ne_of_lt (Nat.lt_succ_self _))
  have I2 := Inv.made (C := C) I
  have r2 : Vals (V.ref (s.heap.objs.size + 1) :: (vs ++ dvs)) (Value.ref (s.heap.objs.size + 1) :: (us ++ ds)) := .cons rfl (r.append hd)
  have hl : (Value.ref (s.heap.objs.size + 1) :: us ++ ds).length = ps.length := by
    have e := r2.length
    rw [F.len _ _ _ _ hq] at e
    exact e.symm
  refine wpAny_call (make_map (f := f) I.kIn M.makes M.init (beq_iff_eq.mp M.fn) (codeAny_mono (F.run _ X.stack _ _ ⟨Value.ref (s.heap.objs.size + 1) :: us, []⟩ (Value.ref (s.heap.objs.size + 1) :: (us ++ ds)) _ _ E (hr.make C us [])
    (I2.env0.make C us []) (hb _ (Value.ref (s.heap.objs.size + 1) :: us) I2.kIn hl) r2 hq) fun r s' hq' => ?_))
  cases r with
  | error e => exact hx pins σ _ _ e s' I2 hq'
  | ok fl =>
    cases fl with
    | ret u =>
      obtain ⟨v, H', I3, rv, ev, q3⟩ := I2.after hq'
      subst ev
      exact ⟨rv, ⟨V.ref (s.heap.objs.size + 1), H', I3, rfl, q3⟩⟩
    | next => exact False.elim hq'
    | brk => exact False.elim hq'
    | cont => exact False.elim hq'
theorem pe_make (M : Mk X.K C f) (F : FnOk X.prog X.w X.K X.mg X.base CX k f fd ps sp) (hr : Room (k + 1) X.A) (hg : Gl X x) (hm : X.mg x = some (.ref C)) (hb : Binds X.K fd ps ds) (hd : Vals dvs ds) (hx : Passes CX X E)
    (ha : PA X (e :: es) t) (hdb : (x == ("__debug__" : Str)) = false := by decide) (he : starEach (e :: es) X.env = (false, eval e X.env) :: starEach es X.env := by rfl) (hpl : (backTo pos (starEach es X.env)).any (·.1) = false := by rfl) :
    PE X (.Call (.Name x p) (e :: es) [] pos) (tMake C sp dvs E t) := by
  intro pins s σ H Q I h
  refine wpAny_Call_Name_kw (ld_glob I hg hm ?_ hdb)
  refine PySem.W.callWith_K (h₀ := X.base) I.ok.mod.kin M.kp (thn (ha pos pins s σ H _ I h) fun us s1 ⟨vs, H1, I1, r, q⟩ => ⟨I1.kIn, ?_⟩) he hpl
  exact run_make M F hr hb hd hx I1 r q
end

/-! ### keywords -/
section
variable {X : Cx} {CX : CXT} {k : Nat} {f C : Addr} {fd : FuncData} {ps ks : List Str} {sp : Sp} {E : XK} {x m : Str} {p pos apos kpos : Pos} {e o : Expr} {es : List Expr} {kws : List Keyword} {te ta : TE} {t tk : TA} {nm : Option Str}
variable {g : List Value → List Value → List Value} {gV : List V → List V → List V}
end

/-! ### a def's body keeps its promise -/
/-- names: the parameters first -/
structure FnScope (N P : List Str) (sc : Scope) : Prop where
  kind : sc.kind = .function
  co : sc.isCoroutine = false
  gen : sc.isGenerator = false
  nd : N.Nodup
  pre : N.take P.length = P
  par : ∀ x ∈ P, sc.names.lookup x = some .local ∨ sc.names.lookup x = some .cell
  nofree : ∀ y ∈ sc.names, y.2 ≠ .free

theorem bindL_out {kindOf : Str → Option NameKind} {x : Str} : ∀ {binds : List (Str × Value)} {m : Str → Option Value}, (∀ v, (x, v) ∉ binds) → bindL kindOf binds m x = m x
  | [], _, _ => rfl
  | (n, v) :: r, m, h => by
    unfold bindL
    rw [bindL_out fun w hw => h w (List.mem_cons_of_mem _ hw)]
    split
    · have : x ≠ n := by rintro rfl; exact h v List.mem_cons_self
      simp [this]
    · rfl
theorem bindC_out {kindOf : Str → Option NameKind} {x : Str} : ∀ {binds : List (Str × Value)} {m : Str → Option Value}, (∀ v, (x, v) ∉ binds) → bindC kindOf binds m x = m x
  | [], _, _ => rfl
  | (n, v) :: r, m, h => by
    unfold bindC
    rw [bindC_out fun w hw => h w (List.mem_cons_of_mem _ hw)]
    split
    · rfl
    · have : x ≠ n := by rintro rfl; exact h v List.mem_cons_self
      simp [this]
theorem bindL_get {kindOf : Str → Option NameKind} {x : Str} {v : Value} : ∀ {P : List Str} {vs : List Value} {i : Nat} {m : Str → Option Value}, P.Nodup → P[i]? = some x → vs[i]? = some v → kindOf x = some .local →
    bindL kindOf (P.zip vs) m x = some v
  | [], _, _, _, _, h, _, _ => by simp at h
  | _ :: _, [], _, _, _, _, h, _ => by simp at h
  | p :: P, w :: vs, 0, m, nd, h1, h2, hk => by
    simp at h1 h2; subst h1; subst h2
    show bindL kindOf ((p, w) :: P.zip vs) m p = _
    unfold bindL
    rw [bindL_out fun v hv => (List.nodup_cons.mp nd).1 (List.of_mem_zip hv).1, if_pos hk]
    simp
  | p :: P, w :: vs, i + 1, m, nd, h1, h2, hk => by
    show bindL kindOf ((p, w) :: P.zip vs) m x = _
    unfold bindL
    exact bindL_get (i := i) (List.nodup_cons.mp nd).2 (by simpa using h1) (by simpa using h2) hk
theorem bindC_get {kindOf : Str → Option NameKind} {x : Str} {v : Value} : ∀ {P : List Str} {vs : List Value} {i : Nat} {m : Str → Option Value}, P.Nodup → P[i]? = some x → vs[i]? = some v → kindOf x ≠ some .local →
    bindC kindOf (P.zip vs) m x = some v
  | [], _, _, _, _, h, _, _ => by simp at h
  | _ :: _, [], _, _, _, _, h, _ => by simp at h
  | p :: P, w :: vs, 0, m, nd, h1, h2, hk => by
    simp at h1 h2; subst h1; subst h2
    show bindC kindOf ((p, w) :: P.zip vs) m p = _
    unfold bindC
    rw [bindC_out fun v hv => (List.nodup_cons.mp nd).1 (List.of_mem_zip hv).1, if_neg hk]
    simp
  | p :: P, w :: vs, i + 1, m, nd, h1, h2, hk => by
    show bindC kindOf ((p, w) :: P.zip vs) m x = _
    unfold bindC
    exact bindC_get (i := i) (List.nodup_cons.mp nd).2 (by simpa using h1) (by simpa using h2) hk

/-- the names' values at the entry -/
def start (N : List Str) (vs : List V) : St := vs.map some ++ List.replicate (N.length - vs.length) none

/-- the context of a def's body, at its entry; an exception leaves the frame, then lies as CX says -/
def cxOf (CX : CXT) (P : Program) (w : World) (K : PySem.W.Frag) (mg : Str → Option Value) (base : Heap) (N : List Str) (qual : Str) (scope : Scope) (f : Addr) (cd : Value) (A : Around) (outer : List Env) (s : Shared) (H : Hp) (E : XK) : Cx where
  prog := P
  w := w
  K := K
  mg := mg
  base := base
  A := A.deeper (envOfC qual scope s.heap.objs.size f cd)
  N := N
  s₀ := s
  H₀ := H
  env := envOfC qual scope s.heap.objs.size f cd
  outer := outer
  stack := envOfC qual scope s.heap.objs.size f cd :: outer
  ex := []
  calm := true
  fn := fun _ => true
  pn := []
  xe := fun e s' => wpAny (model P w) (A.deeper (envOfC qual scope s.heap.objs.size f cd)) (leaving (envOfC qual scope s.heap.objs.size f cd) e) (fun _ s'' => CX outer H s E e s'') (fun e' s'' => CX outer H s E e' s'') s'

theorem cell_has {sc : Scope} {n : Nat} {x : Str} (h : sc.names.lookup x = some .cell) : ∃ c, (cellsFrom n sc.names []).lookup x = some c := by
  have q := PySem.W.cellsFrom_some sc.names n [] (.inl h)
  exact Option.isSome_iff_exists.mp q

theorem inv_start {CX : CXT} {P : Program} {w : World} {K : PySem.W.Frag} {mg : Str → Option Value} {base : Heap} {N ps : List Str} {qual : Str} {scope : Scope} {f : Addr} {cd : Value} {A : Around} {outer : List Env} {s s1 : Shared} {H : Hp} {E : XK} {us : List Value} {vs : List V}
    (S : FnScope N ps scope) (hd : A.handled = none) (e0 : Env0 P w K mg base A outer s H) (hl : vs.length = ps.length) (r : Vals vs us)
    (x : InCallC s s.heap.objs.size (bindL (envOfC qual scope s.heap.objs.size f cd).kindOf (ps.zip us) fun _ => none) (cellsFrom (s.heap.objs.size + 1) scope.names []) (bindC (envOfC qual scope s.heap.objs.size f cd).kindOf (ps.zip us) fun _ => none) s1) :
    Inv (cxOf CX P w K mg base N qual scope f cd A outer s H E) [] (start N vs) H s1 := by
  have hpl : ps.length ≤ N.length := by have := congrArg List.length S.pre; rw [List.length_take] at this; omega
  obtain ⟨h1, tk, rfl, hk⟩ := x.done
  have noA : ∀ b : Addr, b ∉ (cxOf CX P w K mg base N qual scope f cd A outer s H E).ex := fun b z => absurd (show b ∈ ([] : List Addr) from z) (by simp)
  refine ⟨⟨e0.mod, S.kind, rfl, rfl, Nat.le_refl _, fun y z c h1 h2 => ?_, fun y hy => ?_, fun y c _ h => ?_, fun _ => hd, Around.frames_deeper e0.frames, .inr ⟨rfl, rfl⟩, fun b z => absurd z (noA b), e0.bs, e0.bsz, fun b _ _ => noA b, fun b z => absurd z (noA b), e0.funs, e0.frf⟩,
    rfl, e0.bare, Un.kept hk, ⟨_, x.toInCall.ns, fun i y v h1 h2 h3 => ?_⟩, fun y c h => ⟨_, x.cell y c h⟩, e0.hok.fresh (Nat.le_refl _), fun y c h => ?_, fun p hp => absurd (show p ∈ ([] : List (Addr × Obj)) from hp) (by simp), e0.hok.kept hk, ?_⟩
  · exact name_of_addr x.apart (PySem.mem_of_lookup h1) (PySem.mem_of_lookup h2)
  · have hy : scope.names.lookup y = some .cell ∨ scope.names.lookup y = some .free := hy
    rcases hy with hy | hy
    · exact cell_has hy
    · exact absurd rfl (S.nofree _ (PySem.mem_of_lookup hy))
  · exact Nat.le_of_lt (x.above y c (PySem.mem_of_lookup h))
  · have hi : i < vs.length := by
      unfold start at h2
      by_cases hi : i < vs.length
      · exact hi
      · rw [List.getElem?_append_right (by simpa using hi)] at h2
        rw [List.getElem?_replicate] at h2
        split at h2 <;> cases h2
    have ha : vs[i]? = some v := by
      unfold start at h2
      rw [List.getElem?_append_left (by simpa using hi), List.getElem?_map] at h2
      cases e : vs[i]? with
      | none => rw [e] at h2; cases h2
      | some a => rw [e] at h2; cases h2; rfl
    obtain ⟨u, hu, rv⟩ := r.get ha
    have hp : ps[i]? = some y := by
      rw [← S.pre, List.getElem?_take_of_lt (by omega)]; exact h1
    have ndP : ps.Nodup := by rw [← S.pre]; exact S.nd.sublist (List.take_sublist _ _)
    refine ⟨u, rv, ?_⟩
    rcases S.par y (List.mem_of_getElem? hp) with k | k
    · exact .inl ⟨k, bindL_get ndP hp hu k⟩
    · obtain ⟨c, e⟩ := cell_has (n := s.heap.objs.size + 1) k
      refine .inr ⟨.inl k, c, e, ?_⟩
      have q := x.cell y c e
      rw [bindC_get ndP hp hu (by show scope.names.lookup y ≠ _; rw [k]; decide)] at q
      exact q
  · exact e0.hok.fresh (Nat.le_of_lt (x.above y c (PySem.mem_of_lookup h)))
  · unfold start
    show _ = N.length
    rw [List.length_append, List.length_map, List.length_replicate]
    omega

/-- THE RULE: a def (or a method) of the text, by its body. The body's reading t is chosen for each entry; it is run at the parameters' values -/
theorem fn_of {CX : CXT} {P : Program} {w : World} {K : PySem.W.Frag} {mg : Str → Option Value} {base : Heap} {k : Nat} {f : Addr} {name qual : Str} {params : Arguments} {body : List Stmt} {scope : Scope} {dV kV doc pm cdv ct oc : Value} {an od : Option Addr}
    {osl : Array (Option Value)} {N ps : List Str} {sp : Sp} (lk : K.lookup f = some ⟨oc, od, .func (PySem.W.fnOf name qual params body scope dV kV doc pm an cdv ct), osl⟩) (hcd : PySem.W.codeIn K cdv qual = true) (S : FnScope N ps scope)
    (len : ∀ vs H Q E, sp vs H Q E → vs.length = ps.length)
    (hbody : ∀ (A : Around) (outer : List Env) (s : Shared) (H : Hp) (vs : List V) (Q : VK) (E : XK), Room k (A.deeper (envOfC qual scope s.heap.objs.size f cdv)) → sp vs H Q E →
      ∃ t, PSs (cxOf CX P w K mg base N qual scope f cdv A outer s H E) body t ∧ t { nx := fun _ H' => Q .non H', rt := Q } (start N vs) H) :
    FnOk P w K mg base CX (k + 1) f (PySem.W.fnOf name qual params body scope dV kV doc pm an cdv ct) ps sp := by
  refine ⟨len, fun A outer s H args us vs Q E hr e0 hb r hsp => ?_⟩
  have hl := len _ _ _ _ hsp
  have KX : K.In s.heap := e0.mod.kin.keeps fun b o e => (e0.bs b o e).1
  have lim : s.heap.NoLimit := e0.mod.nolimit.keeps fun b o e => (e0.bs b o e).1
  have hkind : ∀ y ∈ ps.zip us, scope.names.lookup y.1 = some .local ∨ (scope.names.lookup y.1 = some .cell ∧ ((cellsFrom (s.heap.objs.size + 1) scope.names []).lookup y.1).isSome = true) := fun ⟨n, v⟩ hy => by
    rcases S.par n (List.of_mem_zip hy).1 with q | q
    · exact .inl q
    · exact .inr ⟨q, PySem.W.cellsFrom_some _ _ _ (.inl q)⟩
  refine codeAny_call_function hr.depth (KX _ _ lk) rfl S.co S.gen rfl (PySem.W.codeRec_of KX hcd) (hb _ _ _ _ ?_)
  refine wpAny_newFunctionEnv_cells S.kind hkind fun env he s1 x => ?_
  subst he
  refine ⟨lim.keeps x.toInCall.keep, codeAny_func ?_⟩
  obtain ⟨t, ht, hq⟩ := hbody A outer s H vs Q E (hr.deeper _) hsp
  have I : Inv (cxOf CX P w K mg base N qual scope f cdv A outer s H E) [] (start N vs) H s1 := inv_start S hr.hd e0 hl r x
  refine wpAny_mono (ht [] s1 (start N vs) H _ I hq) (fun fl s' hs => ?_) fun e s' hs => hs
  have fin : ∀ {σ' : St} {H' : Hp} {v : V} {u : Value}, Inv (cxOf CX P w K mg base N qual scope f cdv A outer s H E) [] σ' H' s' → RelV v u → Q v H' → CE outer P w H s Q u s' :=
    fun {σ' H' v u} J rv q => ⟨v, H', J.os, J.bare, J.base, J.hok, rv, q⟩
  cases fl with
  | ret u =>
    obtain ⟨v, σ', H', J, rv, q⟩ := hs
    exact fin J rv q
  | next =>
    obtain ⟨σ', H', J, q⟩ := hs
    exact fin (v := V.non) (u := Value.none) J rfl q
  | brk =>
    obtain ⟨_, _, _, q⟩ := hs
    exact False.elim q
  | cont =>
    obtain ⟨_, _, _, q⟩ := hs
    exact False.elim q
end L2

namespace L2
open PySem PySem.Spec PyProof.Rows
section
variable {X : Cx} {x : Str} {p pos : Pos} {e : Expr} {es : List Expr} {t : TA} {id T : String} {r : List V → Hp → VK → Prop}

def tCB (r : List V → Hp → VK → Prop) (t : TA) : TE := fun σ H Q => t σ H fun vs H1 => r vs H1 Q
/-- f(e, ..), f a built-in function -/
theorem pe_callB (hc : CallR X (.builtin id) r) (hg : Gl X x) (hm : X.mg x = none) (hv : bootBuiltins x = some (.builtin id)) (ha : PA X (e :: es) t) (hn : x ≠ "__name__" := by decide) (hdb : (x == ("__debug__" : Str)) = false := by decide)
    (he : starEach (e :: es) X.env = (false, eval e X.env) :: starEach es X.env := by rfl) (hpl : (backTo pos (starEach es X.env)).any (·.1) = false := by rfl) : PE X (.Call (.Name x p) (e :: es) [] pos) (tCB r t) := by
  intro pins s σ H Q I h
  refine wpAny_Call_Name_kw (ld_blt I hg hm hv ?_ hn hdb)
  exact PyProof.Rows.callWith_builtin1 (thn (ha pos pins s σ H _ I h) fun us s1 ⟨vs, H1, I1, r1, q1⟩ => hc pins s1 σ H1 vs us Q I1 r1 q1) he hpl
/-- T(e, ..), T a built-in type -/
theorem pe_callTy (hc : CallR X (.type T) r) (hg : Gl X x) (hm : X.mg x = none) (hv : bootBuiltins x = some (.type T)) (ha : PA X (e :: es) t) (hn : x ≠ "__name__" := by decide) (hdb : (x == ("__debug__" : Str)) = false := by decide)
    (he : starEach (e :: es) X.env = (false, eval e X.env) :: starEach es X.env := by rfl) (hpl : (backTo pos (starEach es X.env)).any (·.1) = false := by rfl) : PE X (.Call (.Name x p) (e :: es) [] pos) (tCB r t) := by
  intro pins s σ H Q I h
  refine wpAny_Call_Name_kw (ld_blt I hg hm hv ?_ hn hdb)
  exact PyProof.Rows.callWith_type1 (thn (ha pos pins s σ H _ I h) fun us s1 ⟨vs, H1, I1, r1, q1⟩ => hc pins s1 σ H1 vs us Q I1 r1 q1) he hpl
end
end L2

namespace HT
open PySem PyProof.Rows

section
open PySem.SeqAt
open PySem.AutoSeq1 (wpAny_loadPart')
open PySem.MeetsSeq PySem.MeetsSeq2 PySem.MeetsSeq3

end

section
variable {prog : Program} {w : World} {A : Around} {E : Value → Shared → Prop} {s : Shared}

/-! ### t[a:b], not the whole -/
end
end HT

namespace L2
open PySem PySem.Spec PyProof.Rows

/-! ### the parts of a slice -/
theorem intsAre_of {ns : List Int} : ∀ {us : List Value}, Vals (ns.map V.int) us → IntsAre us ns := by
  induction ns with
  | nil => intro us r; rw [List.map_nil] at r; cases r; exact .nil
  | cons n ns ih =>
    intro us r
    rw [List.map_cons] at r
    cases r with
    | cons r1 r2 =>
      obtain ⟨t, e⟩ := r1
      subst e
      exact .cons n t (ih r2)

section
variable {X : Cx} {e : Expr} {te : TE} {lo hi : Option Expr} {tl th : TO} {pos p2 : Pos}

/-! ### t < u, t + u -/
end
end L2

namespace L2
open PySem PySem.Spec PyProof.Rows

/-! ### places -/
/-- the place that an index of any sign means -/
def ixN (n : Nat) (i : Int) : Option Nat := if 0 ≤ i then (if i < n then some i.toNat else none) else if -(n : Int) ≤ i then some (i + n).toNat else none
def atI {α : Type} (xs : List α) (i : Int) : Option α := (ixN xs.length i).bind fun j => xs[j]?
theorem ixN_seq {n : Nat} {i : Int} {j : Nat} (h : ixN n i = some j) : seqIndex? i n = some j ∧ j < n ∧ -(n : Int) ≤ i ∧ i < n := by
  unfold ixN at h
  by_cases h0 : 0 ≤ i
  · rw [if_pos h0] at h
    by_cases h1 : i < n
    · rw [if_pos h1] at h
      have e : i.toNat = j := Option.some.inj h
      exact ⟨by rw [seqIndex_of h0 h1, e], by omega, by omega, h1⟩
    · rw [if_neg h1] at h; cases h
  · rw [if_neg h0] at h
    by_cases h1 : -(n : Int) ≤ i
    · rw [if_pos h1] at h
      have e : (i + n).toNat = j := Option.some.inj h
      exact ⟨by rw [seqIndex_neg (by omega) h1, e], by omega, h1, by omega⟩
    · rw [if_neg h1] at h; cases h
theorem atI_get {α : Type} {xs : List α} {i : Int} {v : α} (h : atI xs i = some v) : ∃ j, seqIndex? i xs.length = some j ∧ xs[j]? = some v ∧ j < xs.length ∧ -(xs.length : Int) ≤ i ∧ i < xs.length := by
  unfold atI at h
  cases e : ixN xs.length i with
  | none => rw [e] at h; cases h
  | some j =>
    rw [e] at h
    obtain ⟨h1, h2, h3, h4⟩ := ixN_seq e
    exact ⟨j, h1, h, h2, h3, h4⟩
theorem atI_nat {α : Type} {xs : List α} {j : Nat} {v : α} (h : xs[j]? = some v) : atI xs (j : Int) = some v := by
  have hj : j < xs.length := (List.getElem?_eq_some_iff.mp h).1
  have e : ixN xs.length (j : Int) = some j := by
    unfold ixN
    rw [if_pos (by omega), if_pos (by omega)]; simp
  unfold atI; rw [e]; exact h
theorem atI_last {α : Type} (xs : List α) (v : α) : atI (xs ++ [v]) (-1) = some v := by
  have hl : (xs ++ [v]).length = xs.length + 1 := by simp
  have e : ixN (xs ++ [v]).length (-1) = some xs.length := by
    unfold ixN
    rw [hl, if_neg (by decide), if_pos (by omega)]
    congr 1
    omega
  unfold atI
  rw [e]
  show (xs ++ [v])[xs.length]? = some v
  simp

/-! ### what may be subscripted -/
/-- what stands as an index of a plain subscript -/
def PlainIx (b : Expr) : Prop := ∀ o i, subscripted b false o i = operate [o, i] (getItem o i)
/-- a subscript by values -/
def IxR (X : Cx) (r : R2) : Prop :=
  ∀ (value slice : Expr) (pins : List (Addr × Obj)) (s : Shared) (σ : St) (H : Hp) (x y : V) (v u : Value) (Q : VK), Inv X pins σ H s → RelV x v → RelV y u → r x y H Q →
    subscripted slice false v u = operate [v, u] (getItem v u) → wpAny (model X.prog X.w) X.A (subscriptTail value slice v u) (EP X pins σ Q) X.xe s
/-- a call of a builtin's method by values: the receiver, the arguments -/
def MtR (X : Cx) (id : String) (r : V → List V → Hp → VK → Prop) : Prop :=
  ∀ (pins : List (Addr × Obj)) (s : Shared) (σ : St) (H : Hp) (x : V) (xs : List V) (v : Value) (us : List Value) (Q : VK), Inv X pins σ H s → RelV x v → Vals xs us → r x xs H Q →
    wpAny (model X.prog X.w) X.A (call (.builtin id) (v :: us)) (EP X pins σ Q) X.xe s
section
variable {X : Cx} {a b : Expr} {ta tb : TE} {pos : Pos}
/-- a[b] -/
theorem pe_ix {r : R2} (hr : IxR X r) (ha : PE X a ta) (hb : PE X b tb) (hs : PlainIx b) : PE X (.Subscript a b pos) (tOp r ta tb) := by
  intro pins s σ H Q I h
  exact Subscript_ (binT ha hb I h fun v u s2 x y H2 I2 rx ry q => hr a b pins s2 σ H2 x y v u Q I2 rx ry q (hs _ _))

def rIxL (K : PySem.W.Frag) : R2 := fun x y H Q => ∃ p xs i v, x = .ref p ∧ y = .int i ∧ SqL K H p xs ∧ atI xs i = some v ∧ Q v H
def rIxT (K : PySem.W.Frag) : R2 := fun x y H Q => ∃ p xs i v, x = .ref p ∧ y = .int i ∧ SqT K H p xs ∧ atI xs i = some v ∧ Q v H
theorem ix_list : IxR X (rIxL X.K) := by
  intro value slice pins s σ H x y v u Q I rx ry h hs
  obtain ⟨p, xs, i, z, rfl, rfl, hq, he, q⟩ := h
  cases rx
  obtain ⟨t, rfl⟩ := ry
  obtain ⟨its, r, pl, hz⟩ := I.list hq
  obtain ⟨j, h1, h2, h3, h4, h5⟩ := atI_get he
  obtain ⟨w, ew, rw'⟩ := r.get h2
  have hl := r.length
  have hn := line63
  have fin : EP X pins σ Q w s := ⟨z, H, I, rw', q⟩
  by_cases h0 : 0 ≤ i
  · have hj : i.toNat = j := by
      rw [seqIndex_of h0 h5] at h1
      exact Option.some.inj h1
    exact item_listR pl.isList h0 (by omega) (by rw [hj]; simpa using ew) fin hs
  · have hj : (i + (its.toArray.size : Int)).toNat = j := by
      rw [seqIndex_neg (by omega) h4] at h1
      rw [List.size_toArray, ← hl]
      exact Option.some.inj h1
    exact subscriptTail_builtinR (x := w) pl.isList.typeIs slot_list_getitem.lookup
      (wpAny_getItem_list_neg (Q := fun r s' => r = w ∧ EP X pins σ Q r s') pl.isList (by omega) (by rw [List.size_toArray] <;> omega) (by omega) (by rw [hj]; simpa using ew) ⟨rfl, fin⟩) hs
theorem ix_tup : IxR X (rIxT X.K) := by
  intro value slice pins s σ H x y v u Q I rx ry h hs
  obtain ⟨p, xs, i, z, rfl, rfl, hq, he, q⟩ := h
  cases rx
  obtain ⟨t, rfl⟩ := ry
  obtain ⟨its, r, pl, hz⟩ := I.tuple hq
  obtain ⟨j, h1, h2, h3, h4, h5⟩ := atI_get he
  obtain ⟨w, ew, rw'⟩ := r.get h2
  have hl := r.length
  have hn := line63
  have fin : EP X pins σ Q w s := ⟨z, H, I, rw', q⟩
  exact subscriptTail_builtinR (x := w) pl.typeIs slot_tuple_getitem.lookup
    (getItem_tuple (j := j) (Q := fun r s' => r = w ∧ EP X pins σ Q r s') pl (by omega) (by omega) (by rw [List.size_toArray, ← hl]; exact h1) (by simpa using ew) ⟨rfl, fin⟩) hs
/-! ### xs[i] = v, any sign -/
/-- the list's object behind a store -/
theorem mapSeq_set (its : List Value) (n j : Nat) (u : Value) : Obj.mapSeq (·.setIfInBounds j u) { cls := .type "list", data := .seq its.toArray n } = { cls := .type "list", data := .seq (its.set j u).toArray n } := by
  simp [Obj.mapSeq]
theorem Inv.lst {pins : List (Addr × Obj)} {σ : St} {H : Hp} {s : Shared} {p : Addr} {xs : List V} (I : Inv X pins σ H s) (h : H p = some (.lst xs)) :
    ∃ (its : List Value) (n : Nat), Vals xs its ∧ s.heap.get? p = some { cls := .type "list", data := .seq its.toArray n } ∧ xs.length ≤ sizeLine := by
  obtain ⟨z, its, n, r, e⟩ := I.hok p _ h
  exact ⟨its, n, r, e, z⟩
/-- the list at p is written by an update of its object -/
theorem Inv.lstUpd {pins : List (Addr × Obj)} {σ : St} {H : Hp} {s : Shared} {p : Addr} {xs ys : List V} {its its' : List Value} {n n' : Nat} {f : Obj → Obj} (I : Inv X pins σ H s) (h : H p = some (.lst xs))
    (ho : s.heap.get? p = some { cls := .type "list", data := .seq its.toArray n }) (hf : f { cls := .type "list", data := .seq its.toArray n } = { cls := .type "list", data := .seq its'.toArray n' }) (r : Vals ys its') (hz : ys.length ≤ sizeLine) (t : Nat) :
    Inv X pins σ (upd H p (.lst ys)) { s with heap := s.heap.update p f, toks := t } := by
  have e : (s.heap.update p f).get? p = some { cls := .type "list", data := .seq its'.toArray n' } := by
    rw [Heap.get?_update_self f ho (by rw [hf] <;> rfl), hf]
  refine I.write (x := p) (e := p) (by rw [h]; trivial) (.inl rfl) (fun b u hb q => (Heap.get?_update_other _ _ (Ne.symm hb)).trans q) ⟨_, e⟩ ?_
  exact ⟨hz, its', n', r, e⟩
def rSetL : V → V → V → Hp → (Hp → Prop) → Prop := fun o i v H Q => ∃ p xs k j, o = .ref p ∧ i = .int k ∧ H p = some (.lst xs) ∧ ixN xs.length k = some j ∧ Q (upd H p (.lst (xs.set j v)))
theorem set_list : PSet X rSetL := by
  intro pins s σ H o i v ov iv u Q I ro ri rv h
  obtain ⟨p, xs, k, j, rfl, rfl, hp, hj, q⟩ := h
  cases ro
  obtain ⟨t, rfl⟩ := ri
  obtain ⟨its, n, r, ho, hz⟩ := I.lst hp
  obtain ⟨h1, h2, h3, h4⟩ := ixN_seq hj
  have hl := r.length
  have hn := line63
  have I' : Inv X pins σ (upd H p (.lst (xs.set j v))) { s with heap := s.heap.update p (Obj.mapSeq (·.setIfInBounds j u)) } :=
    I.lstUpd hp ho (mapSeq_set its n j u) (r.set rv j) (by rw [List.length_set]; exact hz) s.toks
  by_cases h0 : 0 ≤ k
  · have hk : k.toNat = j := by
      rw [seqIndex_of h0 h4] at h1
      exact Option.some.inj h1
    exact PySem.W.ki_setAt ho h0 (by omega) (by rw [List.size_toArray, ← hl]; exact h4) (by rw [hk]; exact ⟨_, I', q⟩)
  · have hk : (k + (its.toArray.size : Int)).toNat = j := by
      rw [seqIndex_neg (by omega) h3] at h1
      rw [List.size_toArray, ← hl]
      exact Option.some.inj h1
    exact PySem.W.ki_setBack ho (by omega) (by rw [List.size_toArray, ← hl]; exact h3) (by omega) (by rw [hk]; exact ⟨_, I', q⟩)

/-! ### slices -/
/-! ### in, not in: flat items -/
/-! ### len, list(x), tuple(x) of any list or tuple that is read -/
theorem call_len_seq : CallR X (.builtin "len") (fun xs H Q => ∃ p ys, xs = [.ref p] ∧ (SqL X.K H p ys ∨ SqT X.K H p ys) ∧ Q (.int ys.length) H) := by
  intro pins s σ H xs us Q I r h
  obtain ⟨p, ys, rfl, hq, q⟩ := h
  obtain ⟨u, rfl, rx⟩ := vals1 r
  cases rx
  have hn := line63
  rcases hq with hq | hq
  · obtain ⟨its, r', pl, hz⟩ := I.list hq
    have hlen := r'.length
    exact Calls.call_len_list pl.isList (by simp only [List.size_toArray] <;> omega) ⟨.int ys.length, H, I.tok _, ⟨s.toks + 1, by rw [List.size_toArray, hlen]⟩, q⟩
  · obtain ⟨its, r', pl, hz⟩ := I.tuple hq
    have hlen := r'.length
    exact len_tuple pl (by simp only [List.size_toArray] <;> omega) ⟨.int ys.length, H, I.tok _, ⟨s.toks + 1, by rw [List.size_toArray, hlen]⟩, q⟩
theorem call_list_of : CallR X (.type "list") (fun xs H Q => ∃ p ys, xs = [.ref p] ∧ (SqL X.K H p ys ∨ SqT X.K H p ys) ∧ ∀ l, H l = none → Q (.ref l) (upd H l (.lst ys))) := by
  intro pins s σ H xs us Q I r h
  obtain ⟨p, ys, rfl, hq, q⟩ := h
  obtain ⟨u, rfl, rx⟩ := vals1 r
  cases rx
  have fin : ∀ (its : List Value), Vals ys its → ys.length ≤ sizeLine → ∀ (h' : Heap) (c' : Nat), (∀ b o', s.heap.get? b = some o' → h'.get? b = some o') →
      h'.get? s.heap.objs.size = some { cls := .type "list", dict := none, data := .seq its.toArray c', slots := #[] } → EP X pins σ Q (.ref s.heap.objs.size) { s with heap := h' } := fun its r' hz h' c' kp e =>
    ⟨.ref s.heap.objs.size, _, I.laid (t' := s.toks) kp (Nat.le_refl _) (show ObjOk X.prog X.w _ h' _ (.lst ys) from ⟨hz, its, c', r', e⟩), rfl, q _ (I.hok.fresh (Nat.le_refl _))⟩
  rcases hq with hq | hq
  · obtain ⟨its, r', pl, hz⟩ := I.list hq
    have hlen := r'.length
    obtain ⟨o, ho, hc, n, hd⟩ := pl.isList
    exact call_list_seq p (.inl rfl) ho hc hd (fun h' c' kp e => fin its r' hz h' c' kp e) (by simp only [List.size_toArray] <;> omega)
  · obtain ⟨its, r', pl, hz⟩ := I.tuple hq
    have hlen := r'.length
    obtain ⟨o, ho, hc, n, hd⟩ := pl
    exact call_list_seq p (.inr rfl) ho hc hd (fun h' c' kp e => fin its r' hz h' c' kp e) (by simp only [List.size_toArray] <;> omega)
/-! ### the call of a builtin's method: o.m(..) -/
/-- the value is of that builtin type -/
def tyV (K : PySem.W.Frag) (T : String) (x : V) (H : Hp) : Prop := match x with
  | .str _ => T = "str"
  | .int _ => T = "int"
  | .ref p => (T = "list" ∧ ∃ xs, SqL K H p xs) ∨ (T = "tuple" ∧ ∃ o, K.lookup p = some o ∧ o.cls = .type "tuple" ∧ o.dict = none) ∨
      (T = "dict" ∧ ((∃ kvs, H p = some (.dK kvs)) ∨ ∃ kvs, H p = some (.dT kvs))) ∨ (T = "set" ∧ ∃ S n, H p = some (.set S n))
  | _ => False
theorem tyV_is {pins : List (Addr × Obj)} {σ : St} {H : Hp} {s : Shared} {T : String} {x : V} {v : Value} (I : Inv X pins σ H s) (r : RelV x v) (ty : tyV X.K T x H) :
    s.TypeIs v T ∧ ∀ a, v = .ref a → ∃ ob, s.heap.get? a = some ob ∧ ob.dict = none := by
  cases x with
  | str z =>
    obtain ⟨t, rfl⟩ := r
    cases (show T = "str" from ty)
    exact ⟨typeIs_str s z t, fun _ e => nomatch e⟩
  | int i =>
    obtain ⟨t, rfl⟩ := r
    cases (show T = "int" from ty)
    exact ⟨typeIs_int s i t, fun _ e => nomatch e⟩
  | ref p =>
    cases r
    rcases ty with ⟨rfl, xs, hq⟩ | ⟨rfl, o, hk, hc, hd⟩ | ⟨rfl, hk⟩ | ⟨rfl, S, n, hk⟩
    · obtain ⟨its, _, pl, _⟩ := I.list hq
      refine ⟨pl.isList.typeIs, fun a e => ?_⟩
      cases e
      obtain ⟨o, n, e, c, hd, _⟩ := pl
      exact ⟨o, e, hd⟩
    · refine ⟨⟨o, I.kIn p o hk, hc⟩, fun a e => ?_⟩
      cases e
      exact ⟨o, I.kIn _ o hk, hd⟩
    · have z : ∃ o, s.heap.get? p = some o ∧ o.ExactDict := by
        rcases hk with ⟨kvs, hk⟩ | ⟨kvs, hk⟩
        · obtain ⟨_, _, _, _, o, _, _, e, ex, _⟩ := I.hok p _ hk
          exact ⟨o, e, ex⟩
        · obtain ⟨_, _, _, _, o, _, _, e, ex, _⟩ := I.hok p _ hk
          exact ⟨o, e, ex⟩
      obtain ⟨o, e, ex⟩ := z
      refine ⟨⟨o, e, ex.1⟩, fun a e2 => ?_⟩
      cases e2
      exact ⟨o, e, ex.2.1⟩
    · obtain ⟨o, _, _, _, e, ex, _⟩ := I.hok p _ hk
      refine ⟨⟨o, e, ex.1⟩, fun a e2 => ?_⟩
      cases e2
      exact ⟨o, e, ex.2.1⟩
  | _ => exact False.elim ty
def tBM0 (K : PySem.W.Frag) (T : String) (r : V → List V → Hp → VK → Prop) (to : TE) : TE := fun σ H Q => to σ H fun x H1 => tyV K T x H1 ∧ r x [] H1 Q
def tBM (K : PySem.W.Frag) (T : String) (r : V → List V → Hp → VK → Prop) (to : TE) (t : TA) : TE := fun σ H Q => to σ H fun x H1 => tyV K T x H1 ∧ t σ H1 fun xs H2 => r x xs H2 Q
variable {o e : Expr} {es : List Expr} {to : TE} {t : TA} {name : Str} {apos cpos : Pos} {T id : String} {r : V → List V → Hp → VK → Prop}
theorem pe_bm0 (pa : PlainAttrs T) (slot : Slot T name id) (hty : typeOf (.builtin id) = pure (.type "method_descriptor")) (hm : MtR X id r) (ho : PE X o to)
    (hbase : attributeBase o name X.env (eval o X.env) = eval o X.env := by rfl) (hline : (apos.endLine == cpos.line) = true := by rfl) : PE X (.Call (.Attribute o name apos) [] [] cpos) (tBM0 X.K T r to) := by
  intro pins s σ H Q I h
  refine wpAny_Call_method0_late hbase hline (thn (ho pins s σ H _ I h) fun v s1 ⟨x, H1, I1, r1, ty, q1⟩ => ?_)
  obtain ⟨h1, h2⟩ := tyV_is I1 r1 ty
  exact ⟨T, id, pa, slot, hty, h1, h2, Calls.callWith_builtin rfl (PySem.evalArgs_none (hm pins s1 σ H1 x [] v [] Q I1 r1 .nil q1))⟩
theorem pe_bm (pa : PlainAttrs T) (slot : Slot T name id) (hty : typeOf (.builtin id) = pure (.type "method_descriptor")) (hm : MtR X id r) (ho : PE X o to) (ha : PA X (e :: es) t)
    (hbase : attributeBase o name X.env (eval o X.env) = eval o X.env := by rfl)
    (hfew : ((backTo cpos (starEach (e :: es) X.env)).all (fun x => !x.1) && (backToKw cpos (keywordEach [] X.env)).all (fun x => x.1.isSome)
      && decide ((e :: es).length + ([] : List Keyword).length + (if ([] : List Keyword).isEmpty then 0 else 1) < 30)) = true := by rfl)
    (hline : (apos.endLine == cpos.line) = true := by rfl) (hs : starEach (e :: es) X.env = (false, eval e X.env) :: starEach es X.env := by rfl) (hplain : (backTo cpos (starEach es X.env)).any (·.1) = false := by rfl) :
    PE X (.Call (.Attribute o name apos) (e :: es) [] cpos) (tBM X.K T r to t) := by
  intro pins s σ H Q I h
  refine wpAny_Call_method_late hbase hfew hline rfl (thn (ho pins s σ H _ I h) fun v s1 ⟨x, H1, I1, r1, ty, q1⟩ => ?_)
  obtain ⟨h1, h2⟩ := tyV_is I1 r1 ty
  refine ⟨T, id, pa, slot, hty, h1, h2, ?_⟩
  have hA := ha cpos pins s1 σ H1 _ I1 q1
  rw [hs] at hA ⊢
  refine Calls.callWith_builtin (by show (false || (backTo cpos (starEach es X.env)).any (·.1)) = false; rw [hplain] <;> rfl) (Calls.evalArgs_plain ?_)
  exact thn hA fun us s2 ⟨vs, H2, I2, r2, q2⟩ => hm pins s2 σ H2 x vs v us Q I2 r1 r2 q2
/- xs.append(e), list.index on a module's tuple .. are MtR facts of 06m -/
end
end L2

namespace L2
open PySem PySem.Spec PyProof.Rows

def MtM (X : Cx) (id : String) (r : V → List V → Hp → VK → Prop) : Prop :=
  ∀ (pins : List (Addr × Obj)) (s : Shared) (σ : St) (H : Hp) (x : V) (xs : List V) (v : Value) (us : List Value) (Q : VK), Inv X pins σ H s → RelV x v → Vals xs us → r x xs H Q →
    wpAny (model X.prog X.w) X.A (call (.builtin id) (v :: us)) (EP X pins σ Q) X.xe s

/-! ### lists of values -/
theorem Vals.one : ∀ {x : V} {us : List Value}, Vals [x] us → ∃ u, us = [u] ∧ RelV x u
  | _, _, .cons r .nil => ⟨_, rfl, r⟩
theorem Vals.zero : ∀ {us : List Value}, Vals [] us → us = []
  | _, .nil => rfl
theorem Vals.dropLast {xs : List V} {us : List Value} (h : Vals xs us) : Vals xs.dropLast us.dropLast := by
  induction h with
  | nil => exact .nil
  | cons r t ih =>
    cases t with
    | nil => exact .nil
    | cons q t' => exact .cons r ih
theorem Vals.rep {xs : List V} {us : List Value} (h : Vals xs us) : ∀ k : Nat, Vals (List.replicate k xs).flatten (List.replicate k us).flatten
  | 0 => .nil
  | k + 1 => by
    rw [List.replicate_succ, List.replicate_succ, List.flatten_cons, List.flatten_cons]
    exact Vals.append h (Vals.rep h k)
theorem erase_last {α : Type} (l : List α) : l.eraseIdx (l.length - 1) = l.dropLast := by
  induction l with
  | nil => rfl
  | cons a r ih =>
    cases r with
    | nil => rfl
    | cons b r =>
      have e : (a :: b :: r).length - 1 = ((b :: r).length - 1) + 1 := by
        have h1 : (a :: b :: r).length = r.length + 2 := rfl
        have h2 : (b :: r).length = r.length + 1 := rfl
        omega
      rw [e, List.eraseIdx_cons_succ, ih]
      all_goals rfl
theorem foldl_rep (its : List Value) : ∀ (k : Nat) (acc : List Value),
    List.foldl (fun x1 x2 => x1 ++ x2) acc.toArray (List.replicate k its.toArray) = (acc ++ (List.replicate k its).flatten).toArray
  | 0, acc => by simp
  | k + 1, acc => by
    have e : acc.toArray ++ its.toArray = (acc ++ its).toArray := by simp
    have e2 : (acc ++ its) ++ (List.replicate k its).flatten = acc ++ (List.replicate (k + 1) its).flatten := by
      rw [List.replicate_succ, List.flatten_cons, List.append_assoc]
    rw [← e2, ← foldl_rep its k (acc ++ its), ← e, List.replicate_succ, List.foldl_cons]

section
variable {X : Cx} {pins : List (Addr × Obj)} {σ : St} {H : Hp} {s : Shared} {l b : Addr} {xs ys zs : List V}

/-! ### the two steps: a tracked list is rewritten, a new list is laid -/
theorem Inv.lset {its its' : List Value} {n : Nat} {f : Array Value → Array Value} {t' : Nat} (I : Inv X pins σ H s) (hH : H l = some (.lst xs))
    (e : s.heap.get? l = some { cls := .type "list", data := .seq its.toArray n }) (hf : f its.toArray = its'.toArray) (hv : Vals ys its') (hz : ys.length ≤ sizeLine) :
    Inv X pins σ (upd H l (.lst ys)) { s with heap := s.heap.update l (Obj.mapSeq f), toks := t' } := by
  have q := PySem.IsL.update e f
  rw [hf] at q
  refine I.write (x := l) (e := l) (by rw [hH]; exact trivial) (.inl rfl) (fun b' u hb hu => (Heap.get?_update_other s.heap (Obj.mapSeq f) (Ne.symm hb)).trans hu) ⟨_, q⟩ ?_
  exact ⟨hz, its', _, hv, q⟩
theorem Inv.lnew {its : List Value} {t' : Nat} (I : Inv X pins σ H s) (hv : Vals ys its) (hz : ys.length ≤ sizeLine) :
    Inv X pins σ (upd H s.heap.objs.size (.lst ys)) { s with heap := s.heap.push { cls := .type "list", data := .seq its.toArray }, toks := t' } :=
  I.laid (fun _ _ q => Heap.get?_push_of_some _ q) (Nat.le_refl _) ⟨hz, its, 0, hv, Heap.get?_push_size _ rfl⟩
theorem Inv.fresh (I : Inv X pins σ H s) : H s.heap.objs.size = none := I.hok.fresh (Nat.le_refl _)
theorem Inv.lstM (I : Inv X pins σ H s) (hH : H l = some (.lst xs)) : xs.length ≤ sizeLine ∧ ∃ (its : List Value) (n : Nat), Vals xs its ∧ xs.length = its.length ∧ s.heap.get? l = some { cls := .type "list", data := .seq its.toArray n } := by
  obtain ⟨z, its, n, r, e⟩ := I.hok l _ hH
  exact ⟨z, its, n, r, r.length, e⟩

theorem notLongL {n : Nat} (h : n ≤ sizeLine) : Builtin.List.listTooLong n = false := by
  unfold Builtin.List.listTooLong
  exact decide_eq_false (by omega)
end

section
variable {X : Cx}

/-! ### methods -/
def rAppend : V → List V → Hp → VK → Prop := fun x vs H Q => ∃ l xs y, x = .ref l ∧ vs = [y] ∧ H l = some (.lst xs) ∧ xs.length < sizeLine ∧ Q .non (upd H l (.lst (xs ++ [y])))
theorem mt_append : MtM X "list.append" rAppend := by
  intro pins s σ H x vs v us Q I rx rv h
  obtain ⟨l, xs, y, rfl, rfl, hH, hz, q⟩ := h
  cases rx
  obtain ⟨u, rfl, ru⟩ := rv.one
  obtain ⟨z, its, n, r, hl, e⟩ := I.lstM hH
  refine call_meets F.slot_list_append ⟨_, e, rfl⟩ F.entry_list_append (F.args_list_append_2 _ _) (PySem.list_append l its.toArray n u (by rw [List.size_toArray]; omega)) ⟨e, ?_⟩
  refine ⟨.non, _, I.lset (its' := its ++ [u]) hH e (by simp) (r.append (.cons ru .nil)) ?_, rfl, q⟩
  rw [List.length_append, List.length_singleton]
  omega

def rPop : V → List V → Hp → VK → Prop := fun x vs H Q => ∃ l xs y, x = .ref l ∧ vs = [] ∧ H l = some (.lst xs) ∧ xs[xs.length - 1]? = some y ∧ Q y (upd H l (.lst xs.dropLast))
theorem mt_pop : MtM X "list.pop" rPop := by
  intro pins s σ H x vs v us Q I rx rv h
  obtain ⟨l, xs, y, rfl, rfl, hH, hy, q⟩ := h
  cases rx
  have hus := rv.zero
  subst hus
  obtain ⟨z, its, n, r, hl, e⟩ := I.lstM hH
  obtain ⟨u, hu, ru⟩ := r.get hy
  have hy' : its.toArray[its.toArray.size - 1]? = some u := by
    show its.toArray[its.length - 1]? = some u
    rw [← Array.getElem?_toList, ← hl]
    exact hu
  refine call_meets F.slot_list_pop ⟨_, e, rfl⟩ F.entry_list_pop (F.args_list_pop_1 _) (MeetsSeq.list_pop_last l its.toArray n u hy' (by rw [List.size_toArray]; omega)) ⟨e, ?_⟩
  refine ⟨y, _, I.lset (its' := its.dropLast) hH e ?_ r.dropLast ?_, ru, q⟩
  · show its.toArray.eraseIdxIfInBounds (its.toArray.size - 1) = its.dropLast.toArray
    rw [List.size_toArray, List.eraseIdxIfInBounds_toArray, erase_last]
  · rw [List.length_dropLast]
    omega

/-! ### list + list, list += list, list * int -/
def rCat : R2 := fun x y H Q => ∃ l b xs zs, x = .ref l ∧ y = .ref b ∧ H l = some (.lst xs) ∧ H b = some (.lst zs) ∧ xs.length + zs.length ≤ sizeLine ∧ ∀ p, H p = none → Q (.ref p) (upd H p (.lst (xs ++ zs)))
theorem op_cat : OpR X (binaryOp .Add) rCat := by
  intro pins s σ H x y v u Q I rx ry h
  obtain ⟨l, b, xs, zs, rfl, rfl, hH, hB, hz, q⟩ := h
  cases rx
  cases ry
  obtain ⟨z, its, n, r, hl, e⟩ := I.lstM hH
  obtain ⟨z2, its2, n2, r2, hl2, e2⟩ := I.lstM hB
  refine PySem.P.add_list e e2 ?_ (by rw [List.size_toArray, List.size_toArray]; omega)
  have ea : its.toArray ++ its2.toArray = (its ++ its2).toArray := by simp
  rw [ea]
  exact ⟨.ref _, _, I.lnew (t' := s.toks) (r.append r2) (by rw [List.length_append]; omega), rfl, q _ I.fresh⟩
/-- a list times an int (a negative one is nothing) -/
def rRep : R2 := fun x y H Q => ∃ l k xs, x = .ref l ∧ y = .int k ∧ H l = some (.lst xs) ∧ -(2 ^ 63) ≤ k ∧ k < 2 ^ 63 ∧ xs.length * k.toNat ≤ sizeLine ∧
  ∀ p, H p = none → Q (.ref p) (upd H p (.lst (List.replicate k.toNat xs).flatten))
theorem len_rep {α : Type} (xs : List α) (k : Nat) : (List.replicate k xs).flatten.length = k * xs.length := by
  induction k with
  | zero => simp
  | succ k ih => rw [List.replicate_succ, List.flatten_cons, List.length_append, ih, Nat.succ_mul, Nat.add_comm]
theorem op_rep : OpR X (binaryOp .Mult) rRep := by
  intro pins s σ H x y v u Q I rx ry h
  obtain ⟨l, k, xs, rfl, rfl, hH, h1, h2, hz, q⟩ := h
  cases rx
  obtain ⟨t, rfl⟩ := ry
  obtain ⟨z, its, n, r, hl, e⟩ := I.lstM hH
  have hlen : its.toArray.size * k.toNat ≤ sizeLine := by rw [List.size_toArray, ← hl]; exact hz
  have hcap : ¬ its.toArray.size * k.toNat > (2 ^ 63 - 1) / 8 := by
    have : (sizeLine : Nat) ≤ (2 ^ 63 - 1) / 8 := by decide
    omega
  have hfit : ¬ (!Builtin.List.listFitsIndex k) = true := by
    rw [fitsIndex_both h1 h2]
    exact Bool.false_ne_true
  have hlong : ¬ Builtin.List.listTooLong (its.toArray.size * k.toNat) = true := by
    rw [notLongL hlen]
    exact Bool.false_ne_true
  have hnew : List.foldl (fun x1 x2 => x1 ++ x2) #[] (List.replicate (if its.toArray.isEmpty = true then 0 else k.toNat) its.toArray) = (List.replicate k.toNat its).flatten.toArray := by
    have f0 : ∀ m : Nat, List.foldl (fun x1 x2 => x1 ++ x2) #[] (List.replicate m its.toArray) = (List.replicate m its).flatten.toArray := fun m => by
      have := foldl_rep its m []
      rw [List.nil_append] at this
      exact this
    rw [f0]
    cases its with
    | nil => simp
    | cons a r' => rw [if_neg (by simp)]
  refine wpAny_binaryOp_repeat_ref (T := "list") (U := "int") (by decide) ⟨_, e, rfl⟩ (fun s' => typeIs_int s' k t) noFill_list_mul F.fills_int_mul F.slot_int_rmul repeat_list F.slot_int_index.lookup
    (call_meets F.slot_int_rmul (typeIs_int s k t) F.entry_int_rmul (F.args_int_rmul_2 _ _) (int___rmul___int_list k t l its.toArray n)
      ⟨e, rfl, ⟨_, e, rfl⟩, call_meets F.slot_list_mul ⟨_, e, rfl⟩ F.entry_list_mul (F.args_list_mul_2 _ _) (AutoListH.list___mul___list_int_3 l its.toArray n k t hfit hcap hlong) ⟨e, ?_⟩⟩)
  rw [hnew]
  exact ⟨.ref _, _, I.lnew (t' := s.toks) (r.rep k.toNat) (by rw [len_rep, Nat.mul_comm]; exact hz), rfl, q _ I.fresh⟩

/-! ### del xs[i] -/
end

/-! ### xs[a:b] = ys -/
section
variable {prog : Program} {w : World} {A : Around} {E : Value → Shared → Prop} {s : Shared}
end

section
variable {X : Cx}
end
end L2

namespace Att
open PySem PySem.W PySem.Calls PyProof.Rows

/-! ### the script -/
theorem ints_of_wellAll {P : Params} {h : Heap} : ∀ (ns : List Int) (vs : List Value), WellAll P h vs (ns.map WData.int) → IntsAre vs ns := by
  intro ns
  induction ns with
  | nil =>
    intro vs w
    rw [List.map_nil] at w
    cases w
    exact .nil
  | cons n ns ih =>
    intro vs w
    rw [List.map_cons] at w
    cases w with
    | cons a b =>
      cases a
      exact .cons _ _ (ih _ b)

theorem script_of {l : OpenLaw} {n : Nat} (hn : l.most = some n) {P : Params} {h : Heap} {args : List WData} {vals : List Value}
    (hpre : l.row.toRowW.claim.pre args = true) (hwl : WellAll P h vals args) :
    ∃ a vs ns, vals = [Value.ref a] ∧ args = [WData.list (ns.map WData.int)] ∧ h.get? a = some { cls := .type "list", data := .seq vs.toArray } ∧ IntsAre vs ns ∧ ns.length ≤ n := by
  have hsh : WShape.hasAll [] args [.list .int] = true := (pre_splitW hpre).1
  have hc : l.pre.holds [] { args := args } = true := (pre_splitW hpre).2
  obtain ⟨d, r, rfl, h1, h2⟩ := hasAllW_cons hsh
  obtain rfl := hasAllW_nil h2
  obtain ⟨xs, rfl, h3⟩ := hasW_list h1
  obtain ⟨ns, rfl⟩ := items_int h3
  have hlen : ns.length ≤ n := by
    unfold OpenLaw.pre at hc
    have h4 : (WTm.not (.lt (.lit (.int (n : Int))) (.len (.arg 0)))).holds [] { args := [.list (ns.map .int)] } = true := by
      have h4 := (holds_andW hc).1
      rw [hn] at h4
      exact h4
    have h5 := condW_of h4 (w_not (w_lt w_lit (w_len_list (w_arg rfl))))
    rw [List.length_map] at h5
    refine Nat.le_of_not_lt fun q => ?_
    have q' : (n : Int) < ((ns.length : Nat) : Int) := by omega
    first
      | (rw [decide_eq_true q'] at h5; exact absurd h5 (by decide))
      | (simp at h5; omega)
  cases hwl with
  | cons w1 w2 =>
    cases w2
    cases w1 with
    | list ho hall => exact ⟨_, _, ns, rfl, rfl, ho, ints_of_wellAll ns _ hall, hlen⟩

theorem post_true (l : OpenLaw) (args : List WData) : l.row.toRowW.claim.post args (.bool true) args = true :=
  postW_of (r := l.row.toRowW) (X := (true == true))
    (show WShape.has [] (.bool true) .bool = true by first | rfl | decide | simp [WShape.has, WShape.arms, WShape.armsAll])
    (show (WTm.eq .res (.lit (.bool true))).value [] { args := args, res := some (.bool true), after := args } = some (.bool (true == true)) from w_eq_bool (w_res rfl) w_lit) rfl

/-! ### the attachment: holds_open's last premise (the goal 'hc' behind k_head) from a wpAny of the law's body -/
/-- the same from a codeAny of the CALL (for a layer whose function contracts speak of calls) -/
theorem attach_call {l : OpenLaw} {n : Nat} {q : Program} {loose : List Str} {XP : (Str → Option Value) → Heap → Prop} {YP : World → Heap → Prop} {d : DefRec}
    (hn : l.most = some n) (hdf : d.params.defaults = [])
    (call : ∀ (w : World) (s₀ s₁ : Shared) (mg mb : Str → Option Value) (fa : Addr) (o : Obj) (pm cd doc : Value) (a : Addr) (vs : List Value) (ns : List Int),
      Ground q loose [] XP w s₀ mg mb s₁.heap → YP w s₁.heap →
      s₁.heap.get? fa = some o → o.data = .func (docDef d.name d.params d.body d.scope pm cd doc) → s₁.heap.CodeRec cd d.name → mg d.name = some (.ref fa) →
      s₁.heap.get? a = some { cls := .type "list", data := .seq vs.toArray } → IntsAre vs ns → ns.length ≤ n → s₁.gens = #[] →
      codeAny (model l.prog w) callerA (.call (.ref fa) ⟨[.ref a], []⟩) (fun r s' => r = .ok (.ret (.bool true)) ∧ OldK s₁.heap s'.heap ∧ s'.os = s₁.os ∧ AllBare s'.gens) s₁) :
    WalkO q loose XP YP l.row.toRowW d [] (fun f vs => PySem.call f vs) := by
  intro w s₀ s₁ mg mb G Y fa o pm cd doc dV kV ho hd hcd hD hmg hg args vals as hpre hlay hrd hwl hlo
  obtain rfl : dV = .none := Dflts.none hD hdf
  obtain rfl : kV = .none := Dflts.noKw hD
  obtain ⟨a, vs, ns, rfl, rfl, hobj, hints, hlen⟩ := script_of hn hpre hwl
  refine enter_call (codeAny_mono (call w s₀ s₁ mg mb fa o pm cd doc a vs ns G Y ho (fd_plain hd) hcd hmg hobj hints hlen hg) fun r s' hq => ?_)
  obtain ⟨rfl, h2, h3, h4⟩ := hq
  exact ⟨.inl ⟨.bool true, .bool true, [], rfl, fun _ => rfl, .bool true, post_true l _, fun _ => ⟨List.Pairwise.nil, fun _ hm => (nomatch hm)⟩⟩, h2, h3, h4⟩

/-! ### rules over ANY heap (no ledger) from facts about the written part K: the library's own take a ledger (News) for what they write -/
section
variable {prog : Program} {w : World} {A : Around} {E : Value → Shared → Prop} {s : Shared} {K : Frag}

/-! the whole heap as the ledger: makes every rule that writes through a ledger a rule over any heap -/
end
end Att

namespace L2
open PySem PySem.Spec PyProof.Rows

theorem vals_ints : ∀ {vs : List Value} {ns : List Int}, IntsAre vs ns → Vals (ns.map V.int) vs
  | _, _, .nil => .nil
  | _, _, .cons n t h => .cons ⟨t, rfl⟩ (vals_ints h)

/-- nothing is tracked but the script, known to the object (or it is an object of the module) -/
def Only (H : Hp) : Prop := ∀ b, H b = none ∨ ∃ o xs, H b = some (.frz o (.lst xs))

/-- THE HEAD: the law's promise, at the heap behind the top. F, the promise of the law's def, may use that base is part of the heap (so K.In base, base.Ns mainGlobals mg stand in Mod) -/
theorem law_call {P : Program} {w : World} {K : PySem.W.Frag} {mg mb : Str → Option Value} {CX : CXT} {k : Nat} {fa a : Addr} {fd : FuncData} {x : Str} {sp : Sp} {s₁ : Shared} {vs : List Value} {ns : List Int}
    (KX : K.In s₁.heap) (hns : s₁.heap.Ns mainGlobals mg) (hb : s₁.heap.Ns builtinsNs mb) (hbb : ∀ x : Str, x ≠ "__name__" → mb x = bootBuiltins x) (hlim : s₁.heap.NoLimit) (hg : s₁.gens = #[])
    (ha : s₁.heap.get? a = some { cls := .type "list", data := .seq vs.toArray }) (hi : IntsAre vs ns) (hl : ns.length ≤ sizeLine) (hr : Room k callerA)
    (F : ∀ base : Heap, K.In base → base.Ns mainGlobals mg → FnOk P w K mg base CX k fa fd [x] sp) (hbind : ∀ (s : Shared) (u : Value), BindsTo s fd ⟨[u], []⟩ [(x, u)])
    (hsp : ∀ H : Hp, Only H → SqL K H a (ns.map V.int) → sp [.ref a] H (fun v _ => v = .bl true) fun _ _ _ => False)
    (hCX : ∀ H e s', CX [] H s₁ (fun _ _ _ => False) e s' → False) :
    codeAny (model P w) callerA (.call (.ref fa) ⟨[.ref a], []⟩) (fun r s' => r = .ok (.ret (.bool true)) ∧ OldK s₁.heap s'.heap ∧ s'.os = s₁.os ∧ AllBare s'.gens) s₁ := by
  have rv := vals_ints hi
  have lenV := hi.length
  -- from an abstract heap in which nothing but the script may be tracked
  have core : ∀ H : Hp, Only H → SqL K H a (ns.map V.int) → HOk P w H s₁.heap → (∀ b, H b ≠ none → b = a) → (H a ≠ none → K.lookup a = none) →
      codeAny (model P w) callerA (.call (.ref fa) ⟨[.ref a], []⟩) (fun r s' => r = .ok (.ret (.bool true)) ∧ OldK s₁.heap s'.heap ∧ s'.os = s₁.os ∧ AllBare s'.gens) s₁ := by
    intro H hO hS hok hA hK
    have base_of : ∀ {b : Addr} {o : Obj}, s₁.heap.get? b = some o → H b = none → (hidT s₁.heap H).get? b = some o := fun e n => hidT_get e n
    have noA : ∀ {b : Addr} {o : Obj} {es : Array DictEntry} {ep : Nat}, s₁.heap.get? b = some o → o.data = .dict es ep → H b = none := fun {b o es ep} e d => by
      cases q : H b with
      | none => rfl
      | some u =>
        have e' : b = a := hA b (by rw [q]; simp)
        subst e'
        rw [ha] at e; cases e
        have d' : Data.seq vs.toArray _ = Data.dict es ep := d
        cases d'
    have nsK : ∀ {b : Addr} {m : Str → Option Value}, s₁.heap.Ns b m → (hidT s₁.heap H).Ns b m := fun {b m} ⟨o, es, ep, e, d, r⟩ => ⟨o, es, ep, base_of e (noA e d), d, r⟩
    have hKb : K.In (hidT s₁.heap H) := fun b o e => base_of (KX b o e) (by
      cases q : H b with
      | none => rfl
      | some u =>
        have e' : b = a := hA b (by rw [q]; simp)
        subst e'
        rw [hK (by rw [q]; simp)] at e; cases e)
    have hM : Mod K mg (hidT s₁.heap H) := ⟨hKb, nsK hns, ⟨mb, nsK hb, hbb⟩, let ⟨mc, h1, h2⟩ := hlim; ⟨mc, nsK h1, h2⟩⟩
    have e0 : Env0 P w K mg (hidT s₁.heap H) callerA [] s₁ H := ⟨rfl, hM, fun b o e => of_hidT e, Nat.le_of_eq (hidT_size _ _), trivial, fun b hb => absurd (show b ∈ ([] : List Addr) from hb) (by simp), hok, .of_eq hg⟩
    refine codeAny_mono ((F _ hKb (nsK hns)).run callerA [] s₁ H ⟨[.ref a], []⟩ [.ref a] [.ref a] _ _ hr e0 (hbind s₁ (.ref a)) (.cons rfl .nil) (hsp H hO hS)) fun r s' h => ?_
    cases r with
    | error e => exact (hCX H e s' h).elim
    | ok fl =>
      cases fl with
      | next => exact False.elim h
      | brk => exact False.elim h
      | cont => exact False.elim h
      | ret u =>
        obtain ⟨v, H', os, bare, un, hok', r', q⟩ := h
        have q' : v = .bl true := q
        subst q'
        obtain rfl : u = Value.bool true := r'
        refine ⟨rfl, OldK.of_keep fun b o e => ?_, os, bare⟩
        cases q : H b with
        | none => exact un.keep b o e q (by intro z; exact absurd (show b ∈ ([] : List Addr) from z) (by simp)) (by simp)
        | some u =>
          rcases hO b with z | ⟨ob, xs, z⟩
          · rw [q] at z; cases z
          · have z2 := un.frzs b ob _ z
            obtain ⟨e1, _⟩ := hok b _ z
            obtain ⟨e2, _⟩ := hok' b _ z2
            rw [e] at e1; cases e1
            exact e2
  cases hk : K.lookup a with
  | some o =>
    -- the script is one of the module's own objects
    have e := KX a o hk
    rw [ha] at e
    cases e
    refine core (fun _ => none) (fun _ => .inl rfl) (.inr ⟨_, vs.toArray, _, hk, rfl, rfl, rfl, by rw [List.size_toArray, lenV]; exact hl, by simpa using rv⟩) (fun b u z => by have z' : (none : Option HO) = some u := z; cases z') (fun b z => absurd rfl z) fun z => absurd rfl z
  | none =>
    refine core (fun b => if b = a then some (.frz { cls := .type "list", data := .seq vs.toArray } (.lst (ns.map V.int))) else none) (fun b => ?_) (.inl (.inr ⟨{ cls := .type "list", data := .seq vs.toArray }, if_pos rfl⟩)) (fun b u z => ?_) (fun b z => ?_) fun _ => hk
    · by_cases hb : b = a
      · exact .inr ⟨_, _, if_pos hb⟩
      · exact .inl (if_neg hb)
    · by_cases hb : b = a
      · have z' := (if_pos hb).symm.trans z
        cases z'
        subst hb
        exact ⟨ha, by rw [List.length_map]; exact hl, vs, _, rv, ha⟩
      · have z' := (if_neg hb).symm.trans z
        cases z'
    · by_cases hb : b = a
      · exact hb
      · exact absurd (if_neg hb) z
end L2

namespace L2
open PySem PySem.Spec PyProof.Rows

/-- the goal that k_head leaves (case hc), from the law's promise. F gives the function object fd (K's own) once, then the promise over every base -/
theorem walk_of {l : PySem.W.OpenLaw} {n k : Nat} {q : Program} {loose : List Str} {XP : (Str → Option Value) → Heap → Prop} {YP : World → Heap → Prop} {d : DefRec} {K : Params → PySem.W.Frag} {CX : World → CXT} {sp : World → Sp} {x : Str}
    (hn : l.most = some n) (hn2 : n ≤ sizeLine) (hdf : d.params.defaults = []) (hr : Room k callerA)
    (hY : ∀ (w : World) (h : Heap), YP w h → (K w.params).In h)
    (F : ∀ (w : World) (mg : Str → Option Value) (fa : Addr) (h : Heap), (K w.params).In h → h.Ns mainGlobals mg → mg d.name = some (.ref fa) →
      ∃ fd : FuncData, (∀ (s : Shared) (u : Value), BindsTo s fd ⟨[u], []⟩ [(x, u)]) ∧
        ∀ base : Heap, (K w.params).In base → base.Ns mainGlobals mg → FnOk l.prog w (K w.params) mg base (CX w) k fa fd [x] (sp w))
    (hsp : ∀ (w : World) (H : Hp) (a : Addr) (ns : List Int), ns.length ≤ n → Only H → SqL (K w.params) H a (ns.map V.int) → sp w [.ref a] H (fun v _ => v = .bl true) fun _ _ _ => False)
    (hCX : ∀ (w : World) (H : Hp) (s : Shared) (e : Value) (s' : Shared), CX w [] H s (fun _ _ _ => False) e s' → False) :
    PySem.W.WalkO q loose XP YP l.row.toRowW d [] (fun f vs => PySem.call f vs) := by
  refine Att.attach_call hn hdf fun w s₀ s₁ mg mb fa o pm cd doc a vs ns G Y ho hd hcd hmg hobj hints hlen hg => ?_
  have KX := hY w _ Y
  obtain ⟨fd, hb, hF⟩ := F w mg fa _ KX G.T.g hmg
  exact law_call KX G.T.g G.T.b G.T.builtins G.T.nolimit hg hobj hints (Nat.le_trans hlen hn2) hr hF hb (fun H hO hS => hsp w H a ns hlen hO hS) fun H e s' => hCX w H s₁ e s'
end L2

/-! SHORT WORDS over the layer: a def of the text, its body, what a loop and a test want. -/
namespace L2
open PySem PySem.Spec PyProof.Rows

/-! ### the text by places -/
/-- the j-th statement of a class's body -/
def inClass (s : Stmt) (j : Nat) : Stmt := match s with
  | .ClassDef _ _ _ body _ _ _ _ _ _ _ => body.getD j (.Pass ⟨0, 0, 0, 0⟩)
  | _ => .Pass ⟨0, 0, 0, 0⟩
def defArgs (s : Stmt) : Arguments := match s with
  | .FunctionDef _ a _ _ _ _ _ _ _ _ => a
  | _ => { posonlyargs := [], args := [], vararg := none, kwonlyargs := [], kw_defaults := [], kwarg := none, defaults := [] }
def defBody (s : Stmt) : List Stmt := match s with
  | .FunctionDef _ _ b _ _ _ _ _ _ _ => b
  | _ => []
def defScope (s : Stmt) : Scope := match s with
  | .FunctionDef _ _ _ _ _ _ sc _ _ _ => sc
  | _ => { kind := .function, names := [], isGenerator := false, isCoroutine := false }

/-! ### no exception leaves a def -/
abbrev CX0 : CXT := fun _ _ _ _ _ _ => False
abbrev E0 : XK := fun _ _ _ => False
theorem pass0 {X : Cx} : Passes CX0 X E0 := fun _ _ _ _ _ _ _ h => h.elim

/-! ### a def (or method) of the text as it stands behind the top -/
structure Fun (K : PySem.W.Frag) (x qual : Str) (st : Stmt) (f : Addr) (fd : FuncData) : Prop where
  ex : ∃ (oc : Value) (od : Option Addr) (kV doc pm : Value) (an : Option Addr) (cdv ct : Value) (osl : Array (Option Value)),
    fd = PySem.W.fnOf x qual (defArgs st) (defBody st) (defScope st) .none kV doc pm an cdv ct ∧ K.lookup f = some ⟨oc, od, .func fd, osl⟩ ∧ PySem.W.codeIn K cdv qual = true
  kp : PySem.W.keepIn K (.ref f) = true
section
variable {P : Program} {w : World} {K : PySem.W.Frag} {mg : Str → Option Value} {base : Heap}
/-- THE RULE for a def: its body as a term of rules, and the reading of that term -/
theorem Fun.ok {x qual : Str} {st : Stmt} {f : Addr} {fd : FuncData} {N ps : List Str} {k : Nat} {sp : Sp} (F : Fun K x qual st f fd) (S : FnScope N ps (defScope st)) (len : ∀ vs H Q E, sp vs H Q E → vs.length = ps.length)
    (hbody : ∀ (cdv : Value) (A : Around) (outer : List Env) (s : Shared) (H : Hp) (vs : List V) (Q : VK) (E : XK), Room k (A.deeper (envOfC qual (defScope st) s.heap.objs.size f cdv)) → sp vs H Q E →
      ∃ t, PSs (cxOf CX0 P w K mg base N qual (defScope st) f cdv A outer s H E).nox (defBody st) t ∧ t { nx := fun _ H' => Q .non H', rt := Q } (start N vs) H) : FnOk P w K mg base CX0 (k + 1) f fd ps sp := by
  obtain ⟨oc, od, kV, doc, pm, an, cdv, ct, osl, rfl, lk, hcd⟩ := F.ex
  refine fn_of lk hcd S len fun A outer s H vs Q E hr hsp => ?_
  obtain ⟨t, h, q⟩ := hbody cdv A outer s H vs Q E hr hsp
  exact ⟨t, h.nox, q⟩
/-- how its arguments bind (no defaults): h is «fun _ _ _ _ _ _ us hl => match us, hl with | [_, _], _ => rfl», one _ a parameter -/
theorem Fun.binds {x qual : Str} {st : Stmt} {f : Addr} {fd : FuncData} {ps : List Str} (F : Fun K x qual st f fd)
    (h : ∀ (kV doc pm : Value) (an : Option Addr) (cdv ct : Value) (us : List Value), us.length = ps.length → bindArgs (PySem.W.fnOf x qual (defArgs st) (defBody st) (defScope st) .none kV doc pm an cdv ct) ⟨us, []⟩ = pure (ps.zip us)) : Binds K fd ps [] := by
  obtain ⟨oc, od, kV, doc, pm, an, cdv, ct, osl, rfl, lk, hcd⟩ := F.ex
  exact .all (h kV doc pm an cdv ct)
theorem fun_mk {x qual : Str} {st : Stmt} {f : Addr} {oc : Value} {od an : Option Addr} {osl : Array (Option Value)} {kV doc pm cdv ct : Value} (l : K.lookup f = some ⟨oc, od, .func (PySem.W.fnOf x qual (defArgs st) (defBody st) (defScope st) .none kV doc pm an cdv ct), osl⟩)
    (c : PySem.W.codeIn K cdv qual = true) (k : PySem.W.keepIn K (.ref f) = true) : Fun K x qual st f (PySem.W.fnOf x qual (defArgs st) (defBody st) (defScope st) .none kV doc pm an cdv ct) := ⟨⟨oc, od, kV, doc, pm, an, cdv, ct, osl, rfl, l, c⟩, k⟩
end
theorem small1000 {n : Nat} (h : n ≤ 1000) : n < sizeLine := Nat.lt_of_le_of_lt h (by decide)

/-! ### expressions in short: the name that stands in the i-th slot -/
section
variable {X : Cx}
theorem pv (i : Nat) {x : Str} {pos : Pos} (hN : X.N[i]? = some x := by rfl) (hv : Vis X.env.scope x := by first | exact Or.inl rfl | exact Or.inr (Or.inl rfl) | exact Or.inr (Or.inr rfl)) (hd : (x == ("__debug__" : Str)) = false := by decide)
    (hcd : (x == ("__classdict__" : Str)) = false := by decide) : PE X (.Name x pos) (tVar i) := pe_var hN hv hd hcd
end

/-! ### tests -/
theorem iteF {A B : Prop} (h : B) : if false = true then A else B := by
  rw [if_neg Bool.false_ne_true]
  exact h
theorem iteT {A B : Prop} (h : A) : if true = true then A else B := by
  rw [if_pos rfl]
  exact h
theorem ite2 {c A B : Prop} [Decidable c] (h1 : c → A) (h2 : ¬ c → B) : if c then A else B := by
  by_cases h : c
  · rw [if_pos h]
    exact h1 h
  · rw [if_neg h]
    exact h2 h
/-! ### heaps -/
/-- all that was tracked is as it was -/
def Same (H H' : Hp) : Prop := ∀ b o, H b = some o → H' b = some o
theorem Same.refl (H : Hp) : Same H H := fun _ _ h => h
theorem Same.trans {H H1 H2 : Hp} (a : Same H H1) (b : Same H1 H2) : Same H H2 := fun c o h => b c o (a c o h)
theorem Same.free {H H' : Hp} (e : Same H H') {l : Addr} (h : H' l = Option.none) : H l = Option.none := by
  cases q : H l with
  | none => rfl
  | some o =>
    rw [e l o q] at h
    cases h
theorem Same.seq {K : PySem.W.Frag} {H H' : Hp} {a : Addr} {xs : List V} (e : Same H H') (h : SqL K H a xs) : SqL K H' a xs := by
  rcases h with (h | ⟨o, h⟩) | h
  · exact .inl (.inl (e _ _ h))
  · exact .inl (.inr ⟨o, e _ _ h⟩)
  · exact .inr h

end L2

namespace L2
open PySem PySem.Spec PyProof.Rows
/-! ### a comprehension's block -/
def clOf (env : Env) : List (Str × NameKind) → List (Str × Addr) → List (Str × Addr)
  | [], acc => acc
  | (n, k) :: r, acc => clOf env r (if k == .free then (n, (env.cells.lookup n).getD 0) :: acc else acc)
theorem closure_go {env : Env} : ∀ (names : List (Str × NameKind)) (acc : List (Str × Addr)), (∀ x ∈ names, x.2 = .free → ∃ c, env.cells.lookup x.1 = some c) →
    (forIn names acc (fun (x : Str × NameKind) (cs : List (Str × Addr)) => (if (x.2 == NameKind.free) = true then do let a ← cellOf env x.1; pure (ForInStep.yield ((x.1, a) :: cs)) else pure (ForInStep.yield cs) : Sem (ForInStep (List (Str × Addr))))) : Sem (List (Str × Addr))) = pure (clOf env names acc)
  | [], acc, _ => by simp [clOf]
  | (n, k) :: r, acc, h => by
    rw [List.forIn_cons]
    cases hk : (k == NameKind.free) with
    | false =>
      simp only [hk, Bool.false_eq_true, if_false, pure_bind]
      rw [closure_go r acc fun x hx => h x (List.mem_cons_of_mem _ hx)]
      show _ = pure (clOf env r (if (k == NameKind.free) = true then _ else acc))
      rw [hk]; rfl
    | true =>
      obtain ⟨c, hc⟩ := h (n, k) List.mem_cons_self (by simpa using hk)
      have hc' : env.cells.lookup n = some c := hc
      have e : cellOf env n = pure c := by unfold cellOf; rw [hc']
      simp only [hk, if_true, e, pure_bind]
      rw [closure_go r _ fun x hx => h x (List.mem_cons_of_mem _ hx)]
      show _ = pure (clOf env r (if (k == NameKind.free) = true then (n, (env.cells.lookup n).getD 0) :: acc else acc))
      rw [hk, hc']; rfl
theorem closure_of {env : Env} {scope : Scope} (h : ∀ x ∈ scope.names, x.2 = .free → ∃ c, env.cells.lookup x.1 = some c) : closureFor scope env = pure (clOf env scope.names []) := by
  rw [← closure_go scope.names [] h]
  unfold closureFor
  first
  | rfl
  | simp
theorem clOf_sub {env : Env} : ∀ (names : List (Str × NameKind)) (acc : List (Str × Addr)), (∀ x ∈ names, x.2 = .free → ∃ c, env.cells.lookup x.1 = some c) → (∀ x c, acc.lookup x = some c → env.cells.lookup x = some c) →
    ∀ x c, (clOf env names acc).lookup x = some c → env.cells.lookup x = some c
  | [], acc, _, ha => ha
  | (n, k) :: r, acc, h, ha => by
    unfold clOf
    refine clOf_sub r _ (fun x hx => h x (List.mem_cons_of_mem _ hx)) ?_
    intro x c
    cases hk : (k == NameKind.free) with
    | false => simp only [Bool.false_eq_true, if_false]; exact ha x c
    | true =>
      simp only [if_true]
      obtain ⟨c', hc⟩ := h (n, k) List.mem_cons_self (by simpa using hk)
      have hc' : env.cells.lookup n = some c' := hc
      rw [List.lookup_cons]
      cases hx : x == n with
      | true => intro e; simp only [hc', Option.getD_some] at e; cases e; rw [eq_of_beq hx]; exact hc'
      | false => intro e; exact ha x c e
theorem clOf_keep {env : Env} {x : Str} : ∀ (names : List (Str × NameKind)) (acc : List (Str × Addr)), (∃ c, acc.lookup x = some c) → ∃ c, (clOf env names acc).lookup x = some c
  | [], acc, h => h
  | (n, k) :: r, acc, ⟨c, h⟩ => by
    unfold clOf
    refine clOf_keep r _ ?_
    cases hk : (k == NameKind.free) with
    | false => simp only [Bool.false_eq_true, if_false]; exact ⟨c, h⟩
    | true =>
      simp only [if_true]
      rw [List.lookup_cons]
      cases hx : x == n with
      | true => exact ⟨_, rfl⟩
      | false => exact ⟨c, h⟩
theorem clOf_has {env : Env} {x : Str} : ∀ (names : List (Str × NameKind)) (acc : List (Str × Addr)), names.lookup x = some .free → ∃ c, (clOf env names acc).lookup x = some c
  | [], acc, h => by simp at h
  | (n, k) :: r, acc, h => by
    unfold clOf
    rw [List.lookup_cons] at h
    cases hx : x == n with
    | true =>
      rw [hx] at h
      cases h
      refine clOf_keep r _ ?_
      simp only [beq_self_eq_true, if_true]
      rw [List.lookup_cons, hx]
      exact ⟨_, rfl⟩
    | false =>
      rw [hx] at h
      exact clOf_has r _ h
theorem lookup_relabel {env : Env} (b : Bool) (y : Str) : ∀ (names : List (Str × NameKind)),
    (names.map fun (n, k) => if (k == NameKind.free && b && env.kindOf n == some .cell) then (n, NameKind.cell) else (n, k)).lookup y = (names.lookup y).map fun k => if (k == NameKind.free && b && env.kindOf y == some .cell) then NameKind.cell else k
  | [] => rfl
  | (n, k) :: r => by
    have ih := lookup_relabel (env := env) b y r
    show List.lookup y ((if (k == NameKind.free && b && env.kindOf n == some .cell) = true then (n, NameKind.cell) else (n, k)) :: (r.map fun (n, k) => if (k == NameKind.free && b && env.kindOf n == some .cell) then (n, NameKind.cell) else (n, k))) = _
    cases hx : y == n with
    | true =>
      have e := eq_of_beq hx
      subst e
      have er : List.lookup y ((y, k) :: r) = some k := by rw [List.lookup_cons, hx]
      rw [er]
      show _ = some (if (k == NameKind.free && b && env.kindOf y == some .cell) = true then NameKind.cell else k)
      by_cases hc : (k == NameKind.free && b && env.kindOf y == some .cell) = true
      · rw [if_pos hc, if_pos hc, List.lookup_cons, hx]
      · rw [if_neg hc, if_neg hc, List.lookup_cons, hx]
    | false =>
      have er : List.lookup y ((n, k) :: r) = List.lookup y r := by rw [List.lookup_cons, hx]
      rw [er, ← ih]
      by_cases hc : (k == NameKind.free && b && env.kindOf n == some .cell) = true
      · rw [if_pos hc, List.lookup_cons, hx]
      · rw [if_neg hc, List.lookup_cons, hx]
theorem relabel_lookup (scope : Scope) (env : Env) (y : Str) : (relabel scope env).names.lookup y = (scope.names.lookup y).map fun k => if (k == NameKind.free && env.scope.kind == .function && env.kindOf y == some .cell) then NameKind.cell else k :=
  lookup_relabel _ y scope.names
/-- the block's context -/
def compCx (X : Cx) (N : List Str) (scope : Scope) (C : Addr) (s : Shared) (H : Hp) (fp : List Addr) : Cx where
  prog := X.prog
  w := X.w
  K := X.K
  mg := X.mg
  base := X.base
  A := X.A
  N := N
  s₀ := s
  H₀ := H
  env := compEnvC scope (clOf X.env scope.names []) C X.env
  outer := X.stack
  stack := X.stack
  ex := fp
  fn := fun _ => false
  calm := X.calm
  pn := []
  xe := fun _ _ => False
def capN (N tn : List Str) (cap : List Nat) : List Str := tn ++ cap.map fun j => N.getD j ""
def capS (σ : St) (k : Nat) (cap : List Nat) : St := List.replicate k none ++ cap.map fun j => (σ[j]?).join
def Ext (a b : St) : Prop := b.length = a.length ∧ ∀ (i : Nat) (v : V), a[i]? = some (some v) → b[i]? = some (some v)
/-- the tests of a clause -/
def PF (X : Cx) (ifs : List Expr) (t : TT) : Prop :=
  ∀ (pins : List (Addr × Obj)) (s : Shared) (σ : St) (H : Hp) (Q : Bool → Hp → Prop), Inv X pins σ H s → t σ H Q →
    wpAny (model X.prog X.w) X.A (forIn ifs true fun c r => if r = true then do let ok ← isTrue c X.env (eval c X.env); pure (ForInStep.yield ok) else pure (ForInStep.yield r)) (TP X pins σ Q) X.xe s
def tAlw : TT := fun _ H Q => Q true H
theorem pf_nil {X : Cx} : PF X [] tAlw := fun _ _ _ H _ I h => wpAny_tests_nil ⟨H, I, h⟩
/-- [e for t in i if ..]: W by turn, heap and what is gathered; D the new list -/
abbrev Fam (α : Type) := Addr → Shared → Hp → List Addr → α
def LcGoal (J : It) (σ0 : St) (g : Fam TG) (tc : Fam TT) (te : Fam TE) (D : Addr) (H1 : Hp) (Q : VK) : Prop :=
  ∃ (n : Nat) (W : Nat → Hp → List V → Prop), W 0 (upd H1 D (.lst [])) [] ∧ ∀ i H2 ys, W i H2 ys → i ≤ n ∧ H2 D = some (.lst ys) ∧
    ((J.stop i H2 ∧ Q (.ref D) H2) ∨ (i < n ∧ J.go i H2 ∧ ∀ C s H0 fp x H3, J.yld i H2 x H3 → g C s H0 fp x σ0 H3 fun σ4 H4 => Ext σ0 σ4 ∧
      tc C s H0 fp σ4 H4 fun b H5 => if b = true then te C s H0 fp σ4 H5 fun y H6 => H6 D = some (.lst ys) ∧ ys.length < sizeLine ∧ W (i + 1) (upd H6 D (.lst (ys ++ [y]))) (ys ++ [y]) else W (i + 1) H5 ys))
def tLc (wi : TI) (k : Nat) (cap : List Nat) (g : Fam TG) (tc : Fam TT) (te : Fam TE) : TE := fun σ H Q => wi σ H fun J H1 => ∀ D, H1 D = none → LcGoal J (capS σ k cap) g tc te D H1 Q
/-- what the block asks of its scope -/
structure CompOk (X : Cx) (scope : Scope) (cap : List Nat) : Prop where
  nocell : ∀ y ∈ scope.names, y.2 ≠ .cell
  kind : scope.kind = .function
  free : ∀ y ∈ scope.names, y.2 = .free → X.env.scope.names.lookup y.1 = some .cell ∨ X.env.scope.names.lookup y.1 = some .free
  names : ∀ y ∈ scope.names, y.2 = .local → scope.names.lookup y.1 = some .local
  cap : ∀ j ∈ cap, j < X.N.length ∧ scope.names.lookup (X.N.getD j "") = some .free
section
variable {X : Cx} {pins : List (Addr × Obj)} {σ : St} {H : Hp} {s : Shared} {scope : Scope} {cap : List Nat} {tn : List Str}
theorem mem_of_lookup {α : Type} {x : Str} {a : α} : ∀ {l : List (Str × α)}, l.lookup x = some a → (x, a) ∈ l
  | [], h => by simp at h
  | (n, b) :: r, h => by
    rw [List.lookup_cons] at h
    cases hx : x == n with
    | true => rw [hx] at h; cases h; rw [eq_of_beq hx]; exact List.mem_cons_self
    | false => rw [hx] at h; exact List.mem_cons_of_mem _ (mem_of_lookup h)
theorem CompOk.cells (c : CompOk X scope cap) (I : Inv X pins σ H s) : ∀ x ∈ scope.names, x.2 = .free → ∃ c, X.env.cells.lookup x.1 = some c := fun x hx e => I.ok.has x.1 (c.free x hx e)
theorem CompOk.sub (c : CompOk X scope cap) (I : Inv X pins σ H s) : ∀ x a, (clOf X.env scope.names []).lookup x = some a → X.env.cells.lookup x = some a :=
  clOf_sub scope.names [] (c.cells I) (fun _ _ e => by simp at e)
theorem CompOk.has (c : CompOk X scope cap) {y : Str} (h : (relabel scope X.env).names.lookup y = some .cell ∨ (relabel scope X.env).names.lookup y = some .free) : scope.names.lookup y = some .free := by
  rw [relabel_lookup] at h
  cases e : scope.names.lookup y with
  | none => rw [e] at h; simp at h
  | some k =>
    cases k with
    | free => rfl
    | cell => exact absurd rfl (c.nocell _ (mem_of_lookup e))
    | _ => rw [e] at h; simp at h
theorem CompOk.look (c : CompOk X scope cap) {y : Str} (h : scope.names.lookup y = some .free) : (relabel scope X.env).names.lookup y = some .cell ∨ (relabel scope X.env).names.lookup y = some .free := by
  rw [relabel_lookup, h]
  simp only [Option.map_some]
  split
  · exact .inl rfl
  · exact .inr rfl
/-- the block's entry -/
theorem comp_start {fp : List Addr} {h' : Heap} {m : Str → Option Value} (c : CompOk X scope cap) (I : Inv X pins σ H s) (hf : ∀ b ∈ fp, FpOk X pins H b) (hlt : ∀ b ∈ fp, b < s.heap.objs.size)
    (hn : h'.Ns s.heap.objs.size m) (hk : ∀ b o, s.heap.get? b = some o → h'.get? b = some o) (tk : Nat) :
    Inv (compCx X (capN X.N tn cap) scope s.heap.objs.size s H fp) [] (capS σ tn.length cap) H { s with heap := h', toks := tk } := by
  have sub := c.sub I
  have cltt : ∀ x a, X.env.cells.lookup x = some a → a < s.heap.objs.size := fun x a e => by obtain ⟨v, z⟩ := I.cell x a e; exact z.lt
  have stkS := I.stkSub
  have ok : (compCx X (capN X.N tn cap) scope s.heap.objs.size s H fp).Ok := by
    refine ⟨I.ok.mod, c.kind, I.ok.glob, I.ok.blt, Nat.le_refl _, ?_, ?_, ?_, I.ok.hd, I.ok.frames, .inl rfl, ?_, I.bs, ?_, ?_, ?_, I.stack, I.stkFree⟩
    · exact fun x y a e1 e2 => I.ok.inj x y a (sub x a e1) (sub y a e2)
    · exact fun x e => clOf_has scope.names [] (c.has e)
    · intro x a e; cases e
    · exact fun b hb => ⟨Nat.ne_of_lt (hlt b hb), fun x a e => (hf b hb).2.2.2.2.1 x a (sub x a e)⟩
    · exact Nat.le_trans I.ok.bsz I.sz
    · intro b o e hb
      rcases (hf b hb).2.2.2.1 with z | z
      · exact I.ok.noex b o e z
      · exact absurd (Nat.lt_of_lt_of_le (Heap.lt_size e) (Nat.le_trans I.ok.bsz z)) (Nat.lt_irrefl _)
    · intro b hb z
      rcases List.mem_cons.mp (stkS b z) with e | e
      · exact (hf b hb).2.1 e
      · exact (hf b hb).2.2.1 e
  refine ⟨ok, rfl, I.bare, Un.kept hk, ⟨m, hn, ?_⟩, ?_, I.fresh, ?_, ?_, I.hok.kept hk, ?_⟩
  · intro i x v e1 e2 e3
    by_cases hi : i < tn.length
    · have : (capS σ tn.length cap)[i]? = some none := by
        unfold capS
        rw [List.getElem?_append_left (by simpa using hi)]
        simp [hi]
      rw [this] at e2; cases e2
    · have hi' : tn.length ≤ i := Nat.le_of_not_lt hi
      have e1' : (cap.map fun j => X.N.getD j "")[i - tn.length]? = some x := by
        rw [← List.getElem?_append_right (l₁ := tn) hi']; exact e1
      have e2' : (cap.map fun j => (σ[j]?).join)[i - tn.length]? = some (some v) := by
        have := e2
        unfold capS at this
        rw [List.getElem?_append_right (by simpa using hi')] at this
        simpa using this
      rw [List.getElem?_map] at e1' e2'
      cases hj : cap[i - tn.length]? with
      | none => rw [hj] at e1'; cases e1'
      | some j =>
        rw [hj] at e1' e2'
        have e1'' : X.N.getD j "" = x := Option.some.inj e1'
        have e2'' : (σ[j]?).join = some v := Option.some.inj e2'
        have hjc : j ∈ cap := List.mem_of_getElem? hj
        obtain ⟨hjl, hfr⟩ := c.cap j hjc
        rw [e1''] at hfr
        have hs : σ[j]? = some (some v) := by
          cases q : σ[j]? with
          | none => rw [q] at e2''; cases e2''
          | some z => rw [q] at e2''; cases z with
            | none => cases e2''
            | some z => have : z = v := Option.some.inj e2''; rw [this]
        have hN : X.N[j]? = some x := by
          rw [List.getD_eq_getElem?_getD, List.getElem?_eq_getElem hjl] at e1''
          rw [List.getElem?_eq_getElem hjl]; simpa using e1''
        have hfree := c.free _ (mem_of_lookup hfr) rfl
        obtain ⟨mo, _, hl⟩ := I.loc
        obtain ⟨u, r, l⟩ := hl j x v hN hs (hfree.elim (fun z => .inr (.inl z)) fun z => .inr (.inr z))
        refine ⟨u, r, .inr ⟨c.look hfr, ?_⟩⟩
        obtain ⟨a, ha⟩ := clOf_has (env := X.env) (x := x) scope.names [] hfr
        refine ⟨a, ha, ?_⟩
        rcases l with ⟨k, _⟩ | ⟨k, a', e, z⟩
        · have k' : X.env.scope.names.lookup x = some .local := k
          rcases hfree with q | q
          · rw [k'] at q; cases q
          · rw [k'] at q; cases q
        · have : a = a' := Option.some.inj ((sub x a ha).symm.trans e)
          rw [this]
          exact z.keeps hk
  · intro x a e
    obtain ⟨v, z⟩ := I.cell x a (sub x a e)
    exact ⟨v, z.keeps hk⟩
  · exact fun x a e => I.freeC x a (sub x a e)
  · intro p hp; cases hp
  · show (capS σ tn.length cap).length = (capN X.N tn cap).length
    simp [capS, capN]
end
end L2

namespace L2
open PySem PySem.Spec PyProof.Rows
section
variable {X : Cx} {pins : List (Addr × Obj)} {σ : St} {H : Hp} {s : Shared} {scope : Scope} {cap : List Nat} {tn : List Str}
theorem Inv.strip {X : Cx} {pins : List (Addr × Obj)} {σ : St} {H : Hp} {s : Shared} (I : Inv X pins σ H s) : Inv X [] σ H s := I.pins_of fun _ h => nomatch h
/-- the block's loop, from an iterator's start -/
theorem comp_loop {elt tg iter : Expr} {ifs : List Expr} {pos : Pos} {g : Fam TG} {tc : Fam TT} {te : Fam TE} {it D : Addr} {fp : List Addr} {tnn : Nat → Heap → Prop} {J : It} {h' : Heap} {m : Str → Option Value} {tk : Nat} {Q : VK} {R : Result → Shared → Prop}
    (hc : X.calm = true) (c : CompOk X scope cap)
    (hg : ∀ C s H fp, PG (compCx X (capN X.N tn cap) scope C s H fp) tg (g C s H fp)) (ht : ∀ C s H fp, PF (compCx X (capN X.N tn cap) scope C s H fp) ifs (tc C s H fp)) (he : ∀ C s H fp, PE (compCx X (capN X.N tn cap) scope C s H fp) elt (te C s H fp))
    (I : Inv X pins σ H s) (T : Turn X.prog X.w X.K tg J fp it tnn) (st : tnn 0 s.heap) (hf : ∀ b ∈ fp, FpOk X pins H b)
    (hn : h'.Ns s.heap.objs.size m) (hk : ∀ b o, s.heap.get? b = some o → h'.get? b = some o)
    (n : Nat) (W : Nat → Hp → List V → Prop) (w0 : W 0 H [])
    (turn : ∀ i H2 ys, W i H2 ys → i ≤ n ∧ H2 D = some (.lst ys) ∧
      ((J.stop i H2 ∧ Q (.ref D) H2) ∨ (i < n ∧ J.go i H2 ∧ ∀ C s H0 fp x H3, J.yld i H2 x H3 → g C s H0 fp x (capS σ tn.length cap) H3 fun σ4 H4 => Ext (capS σ tn.length cap) σ4 ∧
        tc C s H0 fp σ4 H4 fun b H5 => if b = true then te C s H0 fp σ4 H5 fun y H6 => H6 D = some (.lst ys) ∧ ys.length < sizeLine ∧ W (i + 1) (upd H6 D (.lst (ys ++ [y]))) (ys ++ [y]) else W (i + 1) H5 ys)))
    (hR : ∀ H2 s2, Inv X pins σ H2 s2 → (∃ m, s2.heap.Ns s.heap.objs.size m) → H2 s.heap.objs.size = none → Q (.ref D) H2 → R (.ok .next) s2) :
    codeAny (model X.prog X.w) X.A (.compStart (.ListComp elt [⟨tg, iter, ifs, 0⟩] scope pos) 0 (.ref it) (.ref D) (compEnvC scope (clOf X.env scope.names []) s.heap.objs.size X.env)) R { s with heap := h', toks := tk } := by
  have hlt : ∀ b ∈ fp, b < s.heap.objs.size := fun b hb => by obtain ⟨o, e, _⟩ := T.obj _ _ st b hb; exact Heap.lt_size e
  have I0 := comp_start (tn := tn) (m := m) c I hf hlt hn hk tk
  have st0 : tnn 0 h' := T.keep _ _ _ st fun b _ o e => hk b o e
  have sub := c.sub I
  have stat : ∀ {H' : Hp}, (∀ b ∈ fp, H' b = none) → ∀ b ∈ fp, FpOk (compCx X (capN X.N tn cap) scope s.heap.objs.size s H fp) [] H' b := fun hn b hb => by
    refine ⟨hn b hb, Nat.ne_of_lt (hlt b hb), fun z => ?_, .inl hb, fun x a e => (hf b hb).2.2.2.2.1 x a (sub x a e), fun p hp => nomatch hp⟩
    rcases List.mem_cons.mp (I.stkSub b z) with e | e
    · exact (hf b hb).2.1 e
    · exact (hf b hb).2.2.1 e
  have loop : codeAny (model X.prog X.w) X.A (.compLoop (.ListComp elt [⟨tg, iter, ifs, 0⟩] scope pos) 0 (.ref it) (.ref D) (compEnvC scope (clOf X.env scope.names []) s.heap.objs.size X.env)) R { s with heap := h', toks := tk } := by
    refine codeAny_loop rfl (fun k s' => ∃ i H2 ys, k = n - i ∧ Inv (compCx X (capN X.N tn cap) scope s.heap.objs.size s H fp) [] (capS σ tn.length cap) H2 s' ∧ tnn i s'.heap ∧ (∀ b ∈ fp, H2 b = none) ∧ W i H2 ys) ?_ (n - 0) ⟨0, H, [], rfl, I0, st0, fun b hb => (hf b hb).1, w0⟩
    rintro k s3 ⟨i, H3, ys, rfl, I3, st3, fr3, w3⟩
    show wpAny _ X.A ((compTurn (.ListComp elt [⟨tg, iter, ifs, 0⟩] scope pos) 0 (.ref it) (.ref D) (compEnvC scope (clOf X.env scope.names []) s.heap.objs.size X.env)).onRaise (fun x => do noteFrame x _; theTreesLotGoes x)) _ _ s3
    refine wpAny_noted ?_
    rw [compTurn_list]
    refine wpAny_bind (wpAny_standAt (wpAny_bind ?_))
    obtain ⟨hi, hD, alt⟩ := turn i H3 ys w3
    rcases alt with ⟨stop, q⟩ | ⟨hlti, go, step⟩
    · refine thn (T.done (compCx X (capN X.N tn cap) scope s.heap.objs.size s H fp) rfl rfl rfl hc i [] s3 _ H3 _ I3 (stat fr3) st3 stop) fun r s4 ⟨hr, I4⟩ => ?_
      subst hr
      refine wpAny_pure ?_
      have hch : ∀ b ∈ fp, (b ∈ X.ex ∨ X.s₀.heap.objs.size ≤ b) ∧ b ≠ X.env.locals ∧ (∀ x c, X.env.cells.lookup x = some c → c ≠ b) ∧ ∀ p ∈ X.pn ++ pins, p.1 ≠ b := fun b hb => ⟨(hf b hb).2.2.2.1, (hf b hb).2.1, (hf b hb).2.2.2.2.1, (hf b hb).2.2.2.2.2⟩
      have Io : Inv X pins σ H3 s4 := I.call' (ch := fp) I4.os I4.base I4.hok I4.bare hch
      obtain ⟨m4, hm4, _⟩ := I4.loc
      exact hR H3 s4 Io ⟨m4, hm4⟩ I4.free q
    · refine thn (T.item (compCx X (capN X.N tn cap) scope s.heap.objs.size s H fp) rfl rfl rfl hc i [] s3 _ H3 _ I3 (stat fr3) st3 go) fun r s4 ⟨u, hr, h4⟩ => ?_
      subst hr
      refine wpAny_bind (thn h4 fun _ s5 ⟨x, H5, I5, r5, y5, st5, fr5⟩ => ?_)
      have I5' := I5.pinned (stat fr5) (T.obj _ _ st5)
      refine wpAny_bind (wpAny_mono (hg s.heap.objs.size s H fp _ s5 _ H5 x u _ I5' r5 (step s.heap.objs.size s H fp x H5 y5)) (fun _ s6 h6 => ?_) fun _ _ f => f.elim)
      obtain ⟨σ6, H6, I6, ⟨el, ev⟩, q6⟩ := h6
      refine wpAny_bind (wpAny_mono (ht s.heap.objs.size s H fp _ s6 σ6 H6 _ I6 q6) (fun ok s7 h7 => ?_) fun _ _ f => f.elim)
      obtain ⟨H7, I7, q7⟩ := h7
      have again : ∀ {s9 : Shared} {H9 : Hp} {zs : List V}, Inv (compCx X (capN X.N tn cap) scope s.heap.objs.size s H fp) ([] ++ pinsAt fp s5.heap) σ6 H9 s9 → W (i + 1) H9 zs →
          ∃ m, m < n - i ∧ ∃ i H2 ys, m = n - i ∧ Inv (compCx X (capN X.N tn cap) scope s.heap.objs.size s H fp) [] (capS σ tn.length cap) H2 s9 ∧ tnn i s9.heap ∧ (∀ b ∈ fp, H2 b = none) ∧ W i H2 ys := fun {s9 H9 zs} I9 w9 => by
        refine ⟨n - (i + 1), by omega, i + 1, H9, zs, rfl, I9.strip.weak el.symm ev, T.keep _ _ _ st5 fun b hb o e => (I9.pin (b, o) (List.mem_append_right _ (List.mem_append_right _ (mem_pinsAt hb e)))).1, fun b hb => ?_, w9⟩
        obtain ⟨o, e, _⟩ := T.obj _ _ st5 b hb
        exact (I9.pin (b, o) (List.mem_append_right _ (List.mem_append_right _ (mem_pinsAt hb e)))).2.1
      cases ok with
      | false =>
        rw [if_neg Bool.false_ne_true] at q7
        exact wpAny_pure ⟨rfl, again I7 q7⟩
      | true =>
        rw [if_pos rfl] at q7
        refine wpAny_bind (wpAny_bind (wpAny_mono (he s.heap.objs.size s H fp _ s7 σ6 H7 _ I7 q7) (fun v s8 h8 => ?_) fun _ _ f => f.elim))
        obtain ⟨y, H8, I8, r8, hD8, hz8, w8⟩ := h8
        refine wpAny_bind (wpAny_mono (mt_append (X := compCx X (capN X.N tn cap) scope s.heap.objs.size s H fp) _ s8 σ6 H8 (.ref D) [y] (.ref D) [v] (fun _ H9 => H9 = upd H8 D (.lst (ys ++ [y]))) I8 rfl (.cons r8 .nil) ⟨D, ys, y, rfl, rfl, hD8, hz8, rfl⟩) (fun _ s9 h9 => ?_) fun _ _ f => f.elim)
        obtain ⟨_, H9, I9, _, e9⟩ := h9
        subst e9
        exact wpAny_pure (wpAny_pure ⟨rfl, again I9 w8⟩)
  exact codeAny_compStart_list loop (T.self _ 0 _ _ _ st0 loop)
end
section
variable {X : Cx} {elt tg iter : Expr} {ifs : List Expr} {scope : Scope} {pos : Pos} {wi : TI} {g : Fam TG} {tc : Fam TT} {te : Fam TE} {cap : List Nat}
/-- [elt for tg in iter] as a value -/
theorem pe_lc (tn : List Str) (hc : X.calm = true) (c : CompOk X scope cap) (hi : PI X tg iter wi)
    (hg : ∀ C s H fp, PG (compCx X (capN X.N tn cap) scope C s H fp) tg (g C s H fp)) (ht : ∀ C s H fp, PF (compCx X (capN X.N tn cap) scope C s H fp) ifs (tc C s H fp)) (he : ∀ C s H fp, PE (compCx X (capN X.N tn cap) scope C s H fp) elt (te C s H fp))
    (hs : ∀ x, foldedSetIterable iter X.env x = pure x := by intro _; rfl) : PE X (.ListComp elt [⟨tg, iter, ifs, 0⟩] scope pos) (tLc wi tn.length cap g tc te) := by
  intro pins s σ H Q I h
  rw [eval_ListComp]
  refine wpAny_comprehension_free (use := none) rfl hs (closure_of (c.cells I)) c.kind c.names (thn (hi pins s σ H _ I h) fun xv s1 h1 => thn h1 fun itv s2 h2 => ?_)
  obtain ⟨it, fp, tnn, J, H2, e, I2, T, st2, f2, q2⟩ := h2
  subst e
  refine wpAny_newList (wpAny_newFunctionEnv c.nocell (by intro y hy; simp at hy) (fun h₁ hn₁ hs₁ => ?_) c.kind)
  have hfr := I2.fresh
  obtain ⟨n, W, w0, turn⟩ := q2 _ hfr
  have I3 : Inv X pins σ (upd H2 s2.heap.objs.size (.lst [])) { s2 with heap := s2.heap.push { cls := .type "list", data := .seq ([] : List Value).toArray } } := I2.lnew (t' := s2.toks) .nil (Nat.zero_le _)
  have hlt : ∀ b ∈ fp, b < s2.heap.objs.size := fun b hb => by obtain ⟨o, e, _⟩ := T.obj _ _ st2 b hb; exact Heap.lt_size e
  refine comp_loop (X := X) (s := { s2 with heap := s2.heap.push { cls := .type "list", data := .seq ([] : List Value).toArray } }) (Q := Q) hc c hg ht he I3 T (T.keep _ _ _ st2 fun b hb o e => Heap.get?_push_of_some _ e) ?_ hn₁ ?_ n W w0 turn ?_
  · intro b hb
    exact ⟨by rw [upd_ne (Nat.ne_of_lt (hlt b hb))]; exact (f2 b hb).1, (f2 b hb).2⟩
  · intro b o e
    exact hs₁.extBut b o (Nat.ne_of_lt (Heap.lt_size e)) (Heap.get?_push_of_some _ e)
  · intro H4 s4 I4 hm4 fr4 q4
    obtain ⟨m4, hm4⟩ := hm4
    refine ⟨m4, hm4, fun h5 hs5 => ?_⟩
    have hsz : s2.heap.objs.size < (s2.heap.push { cls := .type "list", data := .seq ([] : List Value).toArray }).objs.size := by rw [Heap.size_push]; exact Nat.lt_succ_self _
    refine ⟨.ref s2.heap.objs.size, H4, I4.turned (t' := s4.toks) (it := (s2.heap.push { cls := .type "list", data := .seq ([] : List Value).toArray }).objs.size) (fun b o hb e => (hs5.2 b hb).trans e) fr4 ?_ (.inr ?_) ?_ ?_, rfl, q4⟩
    · exact Nat.ne_of_gt (Nat.lt_trans I2.lt hsz)
    · exact Nat.le_trans I2.sz (Nat.le_of_lt hsz)
    · intro x a e z
      obtain ⟨v, q⟩ := I2.cell x a e
      exact absurd (z ▸ q.lt) (Nat.not_lt.mpr (Nat.le_of_lt hsz))
    · intro p hp z
      obtain ⟨e, _⟩ := I2.pin p hp
      exact absurd (z ▸ Heap.lt_size e) (Nat.not_lt.mpr (Nat.le_of_lt hsz))
/-- x = [elt for tg in iter], on one row -/
theorem ps_lc {i : Nat} {x : Str} {pos' spos : Pos} (tn : List Str) (hc : X.calm = true) (c : CompOk X scope cap) (hN : X.N.Nodup) (hx : X.N[i]? = some x) (hl : Loc X.env.scope x) (hi : PI X tg iter wi)
    (hg : ∀ C s H fp, PG (compCx X (capN X.N tn cap) scope C s H fp) tg (g C s H fp)) (ht : ∀ C s H fp, PF (compCx X (capN X.N tn cap) scope C s H fp) ifs (tc C s H fp)) (he : ∀ C s H fp, PE (compCx X (capN X.N tn cap) scope C s H fp) elt (te C s H fp))
    (hsw : swapsWith (.ListComp elt [⟨tg, iter, ifs, 0⟩] scope pos) (some (.Name x pos')) spos.line X.env = pure true)
    (hs : ∀ x, foldedSetIterable iter X.env x = pure x := by intro _; rfl) (hf : X.fn x = true ∨ X.env.scope.names.lookup x = some .local := by first | exact .inl rfl | exact .inr rfl | assumption) :
    PS X (.Assign [.Name x pos'] (.ListComp elt [⟨tg, iter, ifs, 0⟩] scope pos) spos) (tAsg (tLc wi tn.length cap g tc te) (gName i)) := by
  intro pins s σ H D I h
  rw [exec_Assign_Name_used _ _ _ _ hsw]
  refine wpAny_bind (wpAny_standAt (wpAny_bind ?_))
  show wpAny _ X.A (do let _ ← comprehension (.ListComp elt [⟨tg, iter, ifs, 0⟩] scope pos) scope X.env _ (newList []) false (eval iter X.env) (some (assign (.Name x pos') X.env))) _ _ s
  refine wpAny_bind (wpAny_mono (wpAny_comprehension_free (use := some (assign (.Name x pos') X.env)) (Q := fun _ s' => SP X pins D .next s') rfl hs (closure_of (c.cells I)) c.kind c.names
    (thn (hi pins s σ H _ I h) fun xv s1 h1 => thn h1 fun itv s2 h2 => ?_)) (fun _ s' hq => wpAny_pure (wpAny_pure hq)) fun _ _ e => e)
  obtain ⟨it, fp, tnn, J, H2, e, I2, T, st2, f2, q2⟩ := h2
  subst e
  refine wpAny_newList (wpAny_newFunctionEnv c.nocell (by intro y hy; simp at hy) (fun h₁ hn₁ hs₁ => ?_) c.kind)
  have hfr := I2.fresh
  obtain ⟨n, W, w0, turn⟩ := q2 _ hfr
  have I3 : Inv X pins σ (upd H2 s2.heap.objs.size (.lst [])) { s2 with heap := s2.heap.push { cls := .type "list", data := .seq ([] : List Value).toArray } } := I2.lnew (t' := s2.toks) .nil (Nat.zero_le _)
  have hlt : ∀ b ∈ fp, b < s2.heap.objs.size := fun b hb => by obtain ⟨o, e, _⟩ := T.obj _ _ st2 b hb; exact Heap.lt_size e
  refine comp_loop (X := X) (s := { s2 with heap := s2.heap.push { cls := .type "list", data := .seq ([] : List Value).toArray } }) (Q := fun v H1 => gName i v σ H1 D.nx) hc c hg ht he I3 T (T.keep _ _ _ st2 fun b hb o e => Heap.get?_push_of_some _ e) ?_ hn₁ ?_ n W w0 turn ?_
  · intro b hb
    exact ⟨by rw [upd_ne (Nat.ne_of_lt (hlt b hb))]; exact (f2 b hb).1, (f2 b hb).2⟩
  · intro b o e
    exact hs₁.extBut b o (Nat.ne_of_lt (Heap.lt_size e)) (Heap.get?_push_of_some _ e)
  · intro H4 s4 I4 hm4 fr4 q4
    obtain ⟨m4, hm4⟩ := hm4
    have hsz : s2.heap.objs.size < (s2.heap.push { cls := .type "list", data := .seq ([] : List Value).toArray }).objs.size := by rw [Heap.size_push]; exact Nat.lt_succ_self _
    have neL : (s2.heap.push { cls := .type "list", data := .seq ([] : List Value).toArray }).objs.size ≠ X.env.locals := Nat.ne_of_gt (Nat.lt_trans I2.lt hsz)
    have neC : ∀ x a, X.env.cells.lookup x = some a → a ≠ (s2.heap.push { cls := .type "list", data := .seq ([] : List Value).toArray }).objs.size := fun x a e z => by
      obtain ⟨v, q⟩ := I2.cell x a e
      exact absurd (z ▸ q.lt) (Nat.not_lt.mpr (Nat.le_of_lt hsz))
    show wpAny _ X.A (assign (.Name x pos') X.env (.ref s2.heap.objs.size)) _ _ s4
    refine wpAny_assign_Name (store_ok2 I4 hN hx hl (v := .ref s2.heap.objs.size) rfl (fun s5 I5 ⟨a, hsb, ha⟩ => ?_) hf)
    have hne : (s2.heap.push { cls := .type "list", data := .seq ([] : List Value).toArray }).objs.size ≠ a := by
      rcases ha with ha | ha
      · rw [ha]; exact neL
      · exact (neC _ _ ha).symm
    refine ⟨m4, hm4.sameBut hsb hne, fun h6 hs6 => ?_⟩
    refine ⟨_, H4, I5.turned (t' := s5.toks) (it := (s2.heap.push { cls := .type "list", data := .seq ([] : List Value).toArray }).objs.size) (fun b o hb e => (hs6.2 b hb).trans e) fr4 neL (.inr (Nat.le_trans I2.sz (Nat.le_of_lt hsz))) neC ?_, q4⟩
    intro p hp z
    obtain ⟨e, _⟩ := I2.pin p hp
    exact absurd (z ▸ Heap.lt_size e) (Nat.not_lt.mpr (Nat.le_of_lt hsz))
end
end L2

namespace L2
open PySem PySem.Spec PyProof.Rows
section
variable {X : Cx}
/-! ### lists of ints compared -/
def rEqI (K : PySem.W.Frag) (neg : Bool) : R2 := fun x y H Q => ∃ (a b : Addr) (ns ms : List Int), x = .ref a ∧ y = .ref b ∧ SqL K H a (ns.map V.int) ∧ SqL K H b (ms.map V.int) ∧ Q (.bl (if neg then !decide (ns = ms) else decide (ns = ms))) H
theorem op_eqI (hu : X.A.units + 64 < cLine) : OpR X (compareOp .Eq) (rEqI X.K false) := by
  intro pins s σ H x y v u Q I rx ry h
  obtain ⟨a, b, ns, ms, rfl, rfl, ha, hb, q⟩ := h
  cases rx; cases ry
  obtain ⟨its, r, p, _⟩ := I.list ha
  obtain ⟨its', r', p', _⟩ := I.list hb
  exact PySem.W.ke_eq_ints p.isList p'.isList (intsAre_of r) (intsAre_of r') hu ⟨.bl (decide (ns = ms)), H, I, rfl, q⟩
theorem op_neI (hu : X.A.units + 64 < cLine) : OpR X (compareOp .NotEq) (rEqI X.K true) := by
  intro pins s σ H x y v u Q I rx ry h
  obtain ⟨a, b, ns, ms, rfl, rfl, ha, hb, q⟩ := h
  cases rx; cases ry
  obtain ⟨its, r, p, _⟩ := I.list ha
  obtain ⟨its', r', p', _⟩ := I.list hb
  exact PySem.W.ke_ne_ints p.isList p'.isList (intsAre_of r) (intsAre_of r') hu ⟨.bl (!decide (ns = ms)), H, I, rfl, q⟩
/-! ### sum, all, any, sorted, max, min of a list -/
theorem call_sum (hc : X.calm = true) : CallR X (.builtin "sum") (fun xs H Q => ∃ (p : Addr) (ns : List Int), xs = [.ref p] ∧ SqL X.K H p (ns.map V.int) ∧ Q (.int ns.sum) H) := by
  intro pins s σ H xs us Q I r h
  obtain ⟨p, ns, rfl, hq, q⟩ := h
  obtain ⟨u, rfl, rx⟩ := vals1 r
  cases rx
  obtain ⟨its, r', pl, hz⟩ := I.list hq
  have hi := intsAre_of r'
  obtain ⟨xs, hx⟩ := hi.allInts.items
  have hl' : s.heap.IsList p (intItems xs) := hx ▸ pl.isList
  refine sum_intListG (I.ok.hd hc) hl' fun h' tk t' hk => ?_
  have e1 : ns = xs.toList.map (·.1) := by
    rw [← nums_intItems, ← hx]
    exact (show numsOf its.toArray.toList = ns from hi.numsOf).symm
  have e2 : preSum (numAt xs) xs.size = ns.sum := by
    rw [preSum_eq, List.take_of_length_le (by simp), e1]
  rw [e2]
  exact ⟨.int ns.sum, H, I.kept hk, ⟨_, rfl⟩, q⟩
theorem boolsAre_of {bs : List Bool} : ∀ {us : List Value}, Vals (bs.map V.bl) us → us = bs.map Value.bool := by
  induction bs with
  | nil => intro us r; cases r; rfl
  | cons b bs ih =>
    intro us r
    cases r with
    | cons r t => rw [show _ = Value.bool b from r, ih t]; rfl
theorem call_all (hc : X.calm = true) : CallR X (.builtin "all") (fun xs H Q => ∃ (p : Addr) (bs : List Bool), xs = [.ref p] ∧ SqL X.K H p (bs.map V.bl) ∧ Q (.bl (bs.all id)) H) := by
  intro pins s σ H xs us Q I r h
  obtain ⟨p, bs, rfl, hq, q⟩ := h
  obtain ⟨u, rfl, rx⟩ := vals1 r
  cases rx
  obtain ⟨its, r', pl, hz⟩ := I.list hq
  have e := boolsAre_of r'
  subst e
  have hl := pl.isList
  have hlt : p < s.heap.objs.size := by obtain ⟨_, e, _⟩ := hl; exact Heap.lt_size e
  refine call_all_walk (wpAny_pyIter_list hl ?_)
  refine ⟨s.heap.objs.size, [s.heap.objs.size, p], [s.heap.objs.size], (bs.map Value.bool).toArray.size, _, _, fun i => (bs[i]?).getD true, rfl, Walks.list (A := X.A.in1) (I.ok.hd hc) _ p (Nat.ne_of_lt hlt) (bs.map Value.bool).toArray,
    ⟨⟨_, Heap.get?_push_size _ rfl, rfl, rfl⟩, hl.push _⟩, fun i v s' Q' E' hP hQ => ?_, fun h' tk hk => ?_⟩
  · have hP' : (bs.map Value.bool)[i]? = some v := by simpa using hP
    rw [List.getElem?_map] at hP'
    cases e : bs[i]? with
    | none => rw [e] at hP'; cases hP'
    | some b =>
      rw [e] at hP'
      cases Option.some.inj hP'
      simp only [e, Option.getD_some] at hQ
      exact wpAny_truthy_bool hQ
  · have e : ((List.range (bs.map Value.bool).toArray.size).all fun i => (bs[i]?).getD true) = bs.all id := by
      rw [List.size_toArray, List.length_map]; exact LSm.range_all bs
    rw [e]
    exact ⟨.bl (bs.all id), H, I.kept (LSm.kept_iter hk), rfl, q⟩
/-! ### isinstance -/
def clsV : V → Option Value
  | .ty n => some (.type n)
  | .ref a => some (.ref a)
  | _ => none
theorem clsV_rel {x : V} {u c : Value} (r : RelV x u) (h : clsV x = some c) : u = c := by
  cases x <;> simp [clsV] at h <;> subst h <;> exact r
theorem call_isinst : CallR X (.builtin "isinstance") (fun xs H Q => ∃ x c t cv b, xs = [x, c] ∧ TyOf X.K H x t ∧ clsV c = some cv ∧ PySem.W.kitOne X.K t cv = some b ∧ Q (.bl b) H) := by
  intro pins s σ H xs us Q I r h
  obtain ⟨x, c, t, cv, b, rfl, ty, hc, e, q⟩ := h
  obtain ⟨u, w', rfl, r1, r2⟩ := vals2 r
  have := clsV_rel r2 hc
  subst this
  exact isinst_ok I r1 ty e fun tk => ⟨.bl b, H, I.tok _, rfl, q⟩
/-! ### xs[::-1] -/
end
end L2

namespace L2
open PySem PySem.Spec PyProof.Rows
/-! ### iterators that hand out new tuples -/
section
variable {X : Cx} {pins : List (Addr × Obj)} {σ : St} {H : Hp} {s : Shared} {h' : Heap}
/-- the records at ch have turned, a tuple was laid at p -/
theorem Inv.turnT {ch : List Addr} {p : Addr} {xs : List V} {its : List Value} {t' : Nat} (I : Inv X pins σ H s) (hf : ∀ b ∈ ch, FpOk X pins H b)
    (k : ∀ b o, b ∉ ch → s.heap.get? b = some o → h'.get? b = some o) (there : ∀ b o, b ∈ ch → s.heap.get? b = some o → ∃ o', h'.get? b = some o') (hp : s.heap.objs.size ≤ p) (ht : IsTup h' p its.toArray) (r : Vals xs its) (hz : xs.length ≤ sizeLine) :
    Inv X pins σ (upd H p (.tup xs)) { s with heap := h', toks := t' } := by
  have hpn : H p = none := I.hok.fresh hp
  have nch : ∀ b u, H b = some u → b ∉ ch := fun b u e z => by rw [(hf b z).1] at e; cases e
  have ne : ∀ b o, s.heap.get? b = some o → b ≠ p := fun b o e => Nat.ne_of_lt (Nat.lt_of_lt_of_le (Heap.lt_size e) hp)
  have ne' : ∀ b u, H b = some u → b ≠ p := fun b u e z => by rw [z, hpn] at e; cases e
  refine I.step (g' := s.gens) (d' := s.drawn) (ch := ch) (fun b hb => ⟨(hf b hb).2.2.2.1, (hf b hb).2.1, (hf b hb).2.2.2.2.1, (hf b hb).2.2.2.2.2⟩) (fun b o _ _ hc e _ => k b o hc e) (fun b o _ _ hc e _ => ⟨o.slots, k b o hc e⟩)
    (fun b o _ e n => by rw [upd_ne (ne b o e)]; exact n) (fun b o hc e => ⟨o, k b o hc e⟩) (fun b ys e => by rw [upd_ne (ne' b _ e)]; exact e) (fun b o u e => by rw [upd_ne (ne' b _ e)]; exact e) (fun b ps e => ⟨#[], by rw [upd_ne (ne' b _ e), e]; simp⟩) (fun m hm => ?_) (fun b u e => ?_) I.bare
  · obtain ⟨o, es, ep, ho, rr⟩ := hm
    exact ⟨o, es, ep, k _ o (fun z => (hf _ z).2.1 rfl) ho, rr⟩
  · by_cases hb : b = p
    · subst hb
      rw [upd_same] at e
      cases e
      exact ⟨hz, its, r, ht⟩
    · rw [upd_ne hb] at e
      refine (I.hok b u e).stay (fun c v hc q => k c v ?_ q) (fun c q => by rw [upd_ne (ne' c _ q)]; exact q) fun c ys q => by rw [upd_ne (ne' c _ q)]; exact q
      rcases hc with z | z
      · rw [z]; exact nch b u e
      · exact nch c _ z
/-- several untracked records of ours have turned -/
theorem Inv.turns {ch : List Addr} {t' : Nat} (I : Inv X pins σ H s) (hf : ∀ b ∈ ch, FpOk X pins H b) (k : ∀ b o, b ∉ ch → s.heap.get? b = some o → h'.get? b = some o) : Inv X pins σ H { s with heap := h', toks := t' } := by
  have nch : ∀ b u, H b = some u → b ∉ ch := fun b u e z => by rw [(hf b z).1] at e; cases e
  refine I.step (g' := s.gens) (d' := s.drawn) (ch := ch) (fun b hb => ⟨(hf b hb).2.2.2.1, (hf b hb).2.1, (hf b hb).2.2.2.2.1, (hf b hb).2.2.2.2.2⟩) (fun b o _ _ hc e _ => k b o hc e) (fun b o _ _ hc e _ => ⟨o.slots, k b o hc e⟩)
    (fun b o _ _ n => n) (fun b o hc e => ⟨o, k b o hc e⟩) (fun _ _ e => e) (fun _ _ _ e => e) (fun b ps e => ⟨#[], by rw [e]; simp⟩) (fun m hm => ?_) (fun b u e => ?_) I.bare
  · obtain ⟨o, es, ep, ho, rr⟩ := hm
    exact ⟨o, es, ep, k _ o (fun z => (hf _ z).2.1 rfl) ho, rr⟩
  · refine (I.hok b u e).stay (fun c v hc q => k c v ?_ q) (fun _ q => q) fun _ _ q => q
    rcases hc with z | z
    · rw [z]; exact nch b u e
    · exact nch c _ z
end
/-! ### enumerate(list), into a tuple of targets -/
def Ite (K : PySem.W.Frag) (a : Addr) : It :=
  ⟨fun i H => ∃ xs x, SqL K H a xs ∧ xs[i]? = some x, fun i H v H' => ∃ p x, H p = none ∧ v = .ref p ∧ H' = upd H p (.tup [.int i, x]) ∧ ∀ xs, SqL K H a xs → xs[i]? = some x, fun i H => ∃ xs, SqL K H a xs ∧ xs.length ≤ i⟩
theorem turn_enum {P : Program} {w : World} {K : PySem.W.Frag} {elts : List Expr} {x1 : Nat} {p1 : Pos} (a e it : Addr) (hne : e ≠ it) :
    Turn P w K (.Tuple elts x1 p1) (Ite K a) [e, it] e (fun i h => (∃ old, IsEnum h e it (i : Nat) old) ∧ h.IsListIter it a i) where
  mem := by simp
  obj := fun i h st b hb => by
    obtain ⟨⟨old, he⟩, o, ei, c, d⟩ := st
    have hb' : b = e ∨ b = it := by simpa using hb
    rcases hb' with rfl | rfl
    · exact ⟨_, he, fun v z => by have z' : Data.fields _ = Data.cell v := z; cases z'⟩
    · exact ⟨o, ei, fun v z => by rw [d] at z; cases z⟩
  keep := fun i h h' st k => by
    obtain ⟨⟨old, he⟩, hi⟩ := st
    exact ⟨⟨old, k e (by simp) _ he⟩, hi.at fun o q => k it (by simp) o q⟩
  item := by
    intro X hP hw hK hc i pins s σ H E I hf st hg
    subst hP hw hK
    obtain ⟨⟨old, he⟩, hi⟩ := st
    obtain ⟨xs, x, hq, hx⟩ := hg
    obtain ⟨its, rv, pl, hz⟩ := I.list hq
    obtain ⟨u, hu, ru⟩ := rv.get hx
    refine wpAny_pyNext_enum_item he hi pl.isList (x := u) (by simpa using hu) hne fun h1 he1 hi1 ht1 hs1 hk1 => ?_
    refine ⟨_, rfl, ?_⟩
    refine wpAny_letOwnedTupleGo_enum (s := { s with heap := h1, toks := s.toks + 1 }) he1 fun h2 he2 hs2 => ?_
    have hlt : e < s.heap.objs.size := Heap.lt_size he
    have hk : ∀ b o, b ∉ [e, it] → s.heap.get? b = some o → h2.get? b = some o := fun b o hb q => by
      have hb' : b ≠ e ∧ b ≠ it := by simpa using hb
      exact hs2.extBut b o hb'.1 (hk1 b o hb'.1 hb'.2 q)
    have ht2 : IsTup h2 s.heap.objs.size [Value.int (i : Nat) s.toks, u].toArray := ⟨_, hs2.extBut _ _ (Nat.ne_of_gt hlt) ht1, rfl, _, rfl⟩
    have I2 : Inv X pins σ (upd H s.heap.objs.size (.tup [.int (i : Nat), x])) { s with heap := h2, toks := s.toks + 1 } :=
      I.turnT hf hk (fun b o hb q => by
        have hb' : b = e ∨ b = it := by simpa using hb
        rcases hb' with rfl | rfl
        · exact ⟨_, he2⟩
        · obtain ⟨o', q', _⟩ := hi1.extBut hs2.extBut (Ne.symm hne)
          exact ⟨o', q'⟩) (Nat.le_refl _) ht2 (.cons ⟨_, rfl⟩ (.cons ru .nil)) (by show 2 ≤ sizeLine; decide)
    refine ⟨.ref s.heap.objs.size, _, I2, rfl, ⟨s.heap.objs.size, x, I.fresh, rfl, rfl, fun ys hy => by rw [I.list_inj hy hq]; exact hx⟩, ⟨⟨u, ?_⟩, hi1.extBut hs2.extBut (Ne.symm hne)⟩, fun b hb => ?_⟩
    · have : ((i + 1 : Nat) : Int) = (i : Int) + 1 := by omega
      rw [this]; exact he2
    · obtain ⟨o, q, _⟩ : ∃ o, s.heap.get? b = some o ∧ True := by
        have hb' : b = e ∨ b = it := by simpa using hb
        rcases hb' with rfl | rfl
        · exact ⟨_, he, trivial⟩
        · obtain ⟨o, q, _⟩ := hi; exact ⟨o, q, trivial⟩
      rw [upd_ne (Nat.ne_of_lt (Heap.lt_size q))]
      exact (hf b hb).1
  done := by
    intro X hP hw hK hc i pins s σ H E I hf st hg
    subst hP hw hK
    obtain ⟨⟨old, he⟩, hi⟩ := st
    obtain ⟨xs, hq, hx⟩ := hg
    obtain ⟨its, rv, pl, hz⟩ := I.list hq
    have hl := rv.length
    refine wpAny_pyNext_enum_end (I.ok.hd hc) he hi pl.isList (by simp; omega) fun h1 eb => ⟨rfl, I.turns (t' := s.toks) hf fun b o hb q => eb b o (fun z => hb (by simp [z])) q⟩
  self := fun _ _ _ _ _ st h => by
    obtain ⟨⟨old, he⟩, _⟩ := st
    exact wpAny_pyIter_enum he h
section
variable {X : Cx}
def iEnum (K : PySem.W.Frag) (ta : TA) : TI := fun σ H R => ta σ H fun vs H1 => ∃ a : Addr, vs = [.ref a] ∧ (∃ xs, SqL K H1 a xs) ∧ R (Ite K a) H1
theorem boot_enum : bootBuiltins "enumerate" = some (.type "enumerate") := by decide +kernel
theorem pi_enum {elts : List Expr} {x1 : Nat} {p1 : Pos} {a : Expr} {ta : TA} {p pos : Pos} (hg : Gl X "enumerate") (hm : X.mg "enumerate" = none) (ha : PA X [a] ta) (hs : starEach [a] X.env = [(false, eval a X.env)] := by rfl) :
    PI X (.Tuple elts x1 p1) (.Call (.Name "enumerate" p) [a] [] pos) (iEnum X.K ta) := by
  intro pins s σ H R I h
  refine Call_ (ld_blt I hg hm boot_enum (PyProof.Rows.callWith_type1 (thn (ha pos pins s σ H _ I h) fun us s1 ⟨vs, H1, I1, r1, q1⟩ => ?_) hs rfl))
  obtain ⟨l, e, ⟨xs, hq⟩, q⟩ := q1
  subst e
  obtain ⟨u, rfl, rx⟩ := vals1 r1
  cases rx
  obtain ⟨its, rv, pl, hz⟩ := I1.list hq
  refine call_enumerate_list pl.isList fun h' he hi hsz hk => ?_
  refine wpAny_pyIter_enum (s := { s1 with heap := h' }) he ?_
  have I2 : Inv X pins σ H1 { s1 with heap := h' } := I1.kept (t' := s1.toks) hk
  refine ⟨s1.heap.objs.size + 1, [s1.heap.objs.size + 1, s1.heap.objs.size], _, _, H1, rfl, I2, turn_enum l _ _ (Nat.succ_ne_self _), ⟨⟨_, he⟩, hi⟩, fun b hb => ?_, q⟩
  have hb' : s1.heap.objs.size ≤ b := by
    have : b = s1.heap.objs.size + 1 ∨ b = s1.heap.objs.size := by simpa using hb
    rcases this with rfl | rfl
    · exact Nat.le_succ _
    · exact Nat.le_refl _
  exact I1.fpOk hb' (I1.hok.fresh hb')
end
/-- the loop over enumerate(list) that the body leaves as it is -/
theorem for_enum {K : PySem.W.Frag} {a : Addr} {xs : List V} {g : TG} {tb : TS} {D : Ends} {σ : St} {H : Hp} (Pv : Nat → St → Hp → Prop) (h0 : Pv 0 σ H) (hl : ∀ i σ H, i ≤ xs.length → Pv i σ H → SqL K H a xs)
    (hs : ∀ i x σ H p, xs[i]? = some x → Pv i σ H → H p = none → g (.ref p) σ (upd H p (.tup [.int i, x])) fun σ2 H2 => tb { D with nx := Pv (i + 1), ct := Pv (i + 1), bk := D.nx } σ2 H2) (hd : ∀ σ H, Pv xs.length σ H → D.nx σ H) :
    ∃ W : Nat → Nat → St → Hp → Prop, (∃ m, W 0 m σ H) ∧ ∀ i m σ H, W i m σ H →
      ((Ite K a).stop i H ∧ D.nx σ H) ∨ ((Ite K a).go i H ∧ ∃ N : St → Hp → Prop, (∀ σ' H', N σ' H' → ∃ m', m' < m ∧ W (i + 1) m' σ' H') ∧ ∀ x H', (Ite K a).yld i H x H' → g x σ H' fun σ2 H2 => tb { D with nx := N, ct := N, bk := D.nx } σ2 H2) := by
  refine ⟨fun i m σ H => m = xs.length - i ∧ i ≤ xs.length ∧ Pv i σ H, ⟨xs.length, by simp, Nat.zero_le _, h0⟩, ?_⟩
  rintro i m σ H ⟨rfl, hi, p⟩
  have q := hl i σ H hi p
  by_cases hlt : i < xs.length
  · refine .inr ⟨⟨xs, xs[i], q, by simp [hlt]⟩, Pv (i + 1), fun σ' H' p' => ⟨xs.length - (i + 1), by omega, rfl, hlt, p'⟩, fun v H' y => ?_⟩
    obtain ⟨pp, x, hn, e1, e2, y⟩ := y
    subst e1 e2
    exact hs i x σ H pp (y xs q) p hn
  · have e : i = xs.length := by omega
    subst e
    exact .inl ⟨⟨xs, q, Nat.le_refl _⟩, hd σ H p⟩
/-! ### reversed(range(n)) -/
end L2

namespace L2
open PySem PySem.Spec PyProof.Rows
section
variable {prog : Program} {w : World} {A : Around} {E : Value → Shared → Prop} {s : Shared}
end
section
variable {X : Cx} {tg : Expr}
theorem boot_reversed' : bootBuiltins "reversed" = some (.type "reversed") := by decide +kernel
end
end L2

namespace L2
open PySem PySem.Spec PyProof.Rows
/-- a def of the text that may be called by its name -/
structure Callee (P : Program) (w : World) (K : PySem.W.Frag) (mg : Str → Option Value) (base : Heap) (k : Nat) (x : Str) (ps : List Str) (sp : Sp) : Prop where
  ex : ∃ (f : Addr) (fd : FuncData), FnOk P w K mg base CX0 k f fd ps sp ∧ mg x = some (.ref f) ∧ PySem.W.keepIn K (.ref f) = true ∧ Binds K fd ps []
section
variable {X : Cx} {k : Nat} {x : Str} {ps : List Str} {sp : Sp} {p pos : Pos} {e : Expr} {es : List Expr} {t : TA}
theorem pe_fn (c : Callee X.prog X.w X.K X.mg X.base k x ps sp) (hr : Room k X.A) (hg : Gl X x) (ha : PA X (e :: es) t) (hdb : (x == ("__debug__" : Str)) = false := by decide)
    (he : starEach (e :: es) X.env = (false, eval e X.env) :: starEach es X.env := by rfl) (hpl : (backTo pos (starEach es X.env)).any (·.1) = false := by rfl) : PE X (.Call (.Name x p) (e :: es) [] pos) (tCall sp [] E0 t) := by
  obtain ⟨f, fd, G, hm, hk, hb⟩ := c.ex
  exact pe_call G hr hg hm hk hb .nil pass0 ha hdb he hpl
end
theorem Callee.of {P : Program} {w : World} {K : PySem.W.Frag} {mg : Str → Option Value} {base : Heap} {k : Nat} {x qual : Str} {st : Stmt} {f : Addr} {fd : FuncData} {ps : List Str} {sp : Sp} (F : Fun K x qual st f fd) (G : FnOk P w K mg base CX0 k f fd ps sp) (hm : mg x = some (.ref f)) (b : Binds K fd ps []) : Callee P w K mg base k x ps sp := ⟨f, fd, G, hm, F.kp, b⟩
def chkComp (sc : Scope) (N : List Str) (scope : Scope) (cap : List Nat) : Bool :=
  scope.names.all (fun y => y.2 != .cell) && scope.kind == .function && scope.names.all (fun y => y.2 != .free || sc.names.lookup y.1 == some .cell || sc.names.lookup y.1 == some .free) &&
    scope.names.all (fun y => y.2 != .local || scope.names.lookup y.1 == some .local) && cap.all (fun j => decide (j < N.length) && scope.names.lookup (N.getD j "") == some .free)
/-- by a look at the tables -/
theorem CompOk.of {X : Cx} {scope : Scope} {cap : List Nat} (sc : Scope) (N : List Str) (hs : X.env.scope = sc) (hN : X.N = N) (h : chkComp sc N scope cap = true) : CompOk X scope cap := by
  subst hs hN
  unfold chkComp at h
  simp only [Bool.and_eq_true, List.all_eq_true] at h
  obtain ⟨⟨⟨⟨h1, h2⟩, h3⟩, h4⟩, h5⟩ := h
  refine ⟨fun y hy => by simpa using h1 y hy, by simpa using h2, fun y hy e => ?_, fun y hy e => ?_, fun j hj => ?_⟩
  · have := h3 y hy
    simpa [e] using this
  · have := h4 y hy
    simpa [e] using this
  · have := h5 j hj
    simpa using this
/-! ### the forms of comprehensions one uses -/
theorem ext_set0 (σ : St) (k : Nat) (cap : List Nat) (v : V) : Ext (capS σ (k + 1) cap) ((capS σ (k + 1) cap).set 0 (some v)) := by
  refine ⟨by simp, fun i u h => ?_⟩
  cases i with
  | zero =>
    have : (capS σ (k + 1) cap)[0]? = some none := by
      unfold capS
      rw [List.replicate_succ, List.cons_append]
      rfl
    rw [this] at h; cases h
  | succ i => rw [List.getElem?_set_ne (by omega)]; exact h
abbrev g1 : Fam TG := fun _ _ _ _ => gName 0
abbrev tA : Fam TT := fun _ _ _ _ => tAlw
/-- one name, a list, any heap -/
theorem lc_list {K : PySem.W.Frag} {a : Addr} {xs : List V} {σ : St} {cap : List Nat} {te : Fam TE} {D : Addr} {H1 : Hp} {Q : VK} (Pv : Nat → Hp → List V → Prop) (h0 : Pv 0 (upd H1 D (.lst [])) [])
    (hl : ∀ i H ys, i ≤ xs.length → Pv i H ys → SqL K H a xs ∧ H D = some (.lst ys))
    (hs : ∀ i x H ys, xs[i]? = some x → Pv i H ys → ∀ C s H0 fp, te C s H0 fp ((capS σ 1 cap).set 0 (some x)) H fun y H6 => H6 D = some (.lst ys) ∧ ys.length < sizeLine ∧ Pv (i + 1) (upd H6 D (.lst (ys ++ [y]))) (ys ++ [y]))
    (hd : ∀ H ys, Pv xs.length H ys → Q (.ref D) H) : LcGoal (Itl K a) (capS σ 1 cap) g1 tA te D H1 Q := by
  unfold LcGoal
  refine ⟨xs.length, fun i H ys => i ≤ xs.length ∧ Pv i H ys, ⟨Nat.zero_le _, h0⟩, ?_⟩
  rintro i H2 ys ⟨hi, p⟩
  obtain ⟨q, hD⟩ := hl i H2 ys hi p
  refine ⟨hi, hD, ?_⟩
  by_cases hlt : i < xs.length
  · refine .inr ⟨hlt, ⟨xs, xs[i], q, by simp [hlt]⟩, fun C s H0 fp x H3 y => ?_⟩
    obtain ⟨e, y⟩ := y
    subst e
    refine ⟨ext_set0 σ 0 cap x, ?_⟩
    show tAlw _ _ _
    unfold tAlw
    dsimp only
    rw [if_pos rfl]
    have := hs i x H3 ys (y xs q) p C s H0 fp
    have e : (fun (y : V) (H6 : Hp) => H6 D = some (HO.lst ys) ∧ ys.length < sizeLine ∧ (i + 1 ≤ xs.length ∧ Pv (i + 1) (upd H6 D (.lst (ys ++ [y]))) (ys ++ [y]))) = fun y H6 => H6 D = some (.lst ys) ∧ ys.length < sizeLine ∧ Pv (i + 1) (upd H6 D (.lst (ys ++ [y]))) (ys ++ [y]) := by
      funext y H6
      exact propext ⟨fun ⟨a, b, _, c⟩ => ⟨a, b, c⟩, fun ⟨a, b, c⟩ => ⟨a, b, hlt, c⟩⟩
    rw [e]
    exact this
  · have e : i = xs.length := by omega
    subst e
    exact .inl ⟨⟨xs, q, Nat.le_refl _⟩, hd H2 ys p⟩
/-- one name, a range, any heap -/
theorem lc_range {lo : Int} {n : Nat} {σ : St} {cap : List Nat} {te : Fam TE} {D : Addr} {H1 : Hp} {Q : VK} (Pv : Nat → Hp → List V → Prop) (h0 : Pv 0 (upd H1 D (.lst [])) [])
    (hl : ∀ i H ys, i ≤ n → Pv i H ys → H D = some (.lst ys))
    (hs : ∀ i H ys, i < n → Pv i H ys → ∀ C s H0 fp, te C s H0 fp ((capS σ 1 cap).set 0 (some (.int (lo + i)))) H fun y H6 => H6 D = some (.lst ys) ∧ ys.length < sizeLine ∧ Pv (i + 1) (upd H6 D (.lst (ys ++ [y]))) (ys ++ [y]))
    (hd : ∀ H ys, Pv n H ys → Q (.ref D) H) : LcGoal (Itr lo n) (capS σ 1 cap) g1 tA te D H1 Q := by
  unfold LcGoal
  refine ⟨n, fun i H ys => i ≤ n ∧ Pv i H ys, ⟨Nat.zero_le _, h0⟩, ?_⟩
  rintro i H2 ys ⟨hi, p⟩
  refine ⟨hi, hl i H2 ys hi p, ?_⟩
  by_cases hlt : i < n
  · refine .inr ⟨hlt, hlt, fun C s H0 fp x H3 y => ?_⟩
    obtain ⟨e, y⟩ := y
    subst e y
    refine ⟨ext_set0 σ 0 cap _, ?_⟩
    show tAlw _ _ _
    unfold tAlw
    dsimp only
    rw [if_pos rfl]
    have := hs i H3 ys hlt p C s H0 fp
    have e : (fun (y : V) (H6 : Hp) => H6 D = some (HO.lst ys) ∧ ys.length < sizeLine ∧ (i + 1 ≤ n ∧ Pv (i + 1) (upd H6 D (.lst (ys ++ [y]))) (ys ++ [y]))) = fun y H6 => H6 D = some (.lst ys) ∧ ys.length < sizeLine ∧ Pv (i + 1) (upd H6 D (.lst (ys ++ [y]))) (ys ++ [y]) := by
      funext y H6
      exact propext ⟨fun ⟨a, b, _, c⟩ => ⟨a, b, c⟩, fun ⟨a, b, c⟩ => ⟨a, b, hlt, c⟩⟩
    rw [e]
    exact this
  · have e : i = n := by omega
    subst e
    exact .inl ⟨Nat.le_refl _, hd H2 ys p⟩
theorem Same.new {H : Hp} {D : Addr} (h : H D = none) (o : HO) : Same H (upd H D o) := fun b u e => by rw [upd_ne (ne_of_none e h)]; exact e
theorem map_take_succ {α β : Type} (f : α → β) (xs : List α) (i : Nat) (x : α) (h : xs[i]? = some x) : (xs.take (i + 1)).map f = (xs.take i).map f ++ [f x] := by
  rw [List.take_add_one, h]; simp
/-- one name, a list, the heap untouched by the element -/
theorem lc_listP {K : PySem.W.Frag} {a : Addr} {xs : List V} {σ : St} {cap : List Nat} {te : Fam TE} {D : Addr} {H1 : Hp} {Q : VK} (f : V → V) (hD : H1 D = none) (hS : SqL K H1 a xs) (hz : xs.length ≤ sizeLine)
    (hs : ∀ (i : Nat) x ys C s H0 fp (R : VK), xs[i]? = some x → R (f x) (upd H1 D (.lst ys)) → te C s H0 fp ((capS σ 1 cap).set 0 (some x)) (upd H1 D (.lst ys)) R)
    (hq : Q (.ref D) (upd H1 D (.lst (xs.map f)))) : LcGoal (Itl K a) (capS σ 1 cap) g1 tA te D H1 Q := by
  refine lc_list (xs := xs) (fun i H ys => i ≤ xs.length ∧ ys = (xs.take i).map f ∧ H = upd H1 D (.lst ys)) ⟨Nat.zero_le _, by simp, rfl⟩ ?_ ?_ ?_
  · rintro i H ys hi ⟨_, rfl, rfl⟩
    exact ⟨(Same.new hD _).seq hS, upd_same⟩
  · rintro i x H ys hx ⟨_, rfl, rfl⟩ C s H0 fp
    have hlt : i < xs.length := (List.getElem?_eq_some_iff.mp hx).1
    refine hs i x _ C s H0 fp _ hx ⟨upd_same, ?_, hlt, (map_take_succ f xs i x hx).symm, upd_upd⟩
    rw [List.length_map, List.length_take]
    omega
  · rintro H ys ⟨_, rfl, rfl⟩
    rw [List.take_of_length_le (Nat.le_refl _)]
    exact hq
theorem small100 {n : Nat} (h : n ≤ 100) : n < sizeLine := small1000 (by omega)
theorem Same.put {H H' : Hp} {q : Addr} {o : HO} (s : Same H H') (n : H q = none) : Same H (upd H' q o) := fun b u e => by rw [upd_ne (ne_of_none e n)]; exact s b u e
theorem atI_lastM (s : List Int) (y : Int) : atI (((y :: s).reverse).map V.int) (-1) = some (V.int y) := by rw [List.reverse_cons, List.map_append]; exact atI_last _ _
theorem get_lastM (s : List Int) (y : Int) : (((y :: s).reverse).map V.int)[(((y :: s).reverse).map V.int).length - 1]? = some (V.int y) := by
  rw [List.reverse_cons, List.map_append, List.length_append]
  simp
theorem dropLastM (s : List Int) (y : Int) : (((y :: s).reverse).map V.int).dropLast = (s.reverse).map V.int := by
  rw [List.reverse_cons, List.map_append]
  simp
theorem get_mapM {xs : List Int} {i : Nat} {y : V} (h : (xs.map V.int)[i]? = some y) : ∃ z, y = V.int z ∧ xs[i]? = some z := by
  rw [List.getElem?_map] at h
  cases e : xs[i]? with
  | none => rw [e] at h; cases h
  | some z => rw [e] at h; exact ⟨z, (Option.some.inj h).symm, rfl⟩
/-- a list of ints at a -/
abbrev IL (H : Hp) (a : Addr) (ns : List Int) : Prop := H a = some (.lst (ns.map V.int))
end L2

namespace L2
open PySem PySem.Spec PyProof.Rows
/-! ### chains of comparisons of any length, as tests -/
section
variable {X : Cx} {pos : Pos} {e e' a : Expr} {es : List Expr} {op op' : CmpOp} {ops : List CmpOp} {te ta : TE} {t : V → TT} {r : R2}
end
section
variable {X : Cx}
/-! ### is True, is not True -/
/-! ### max, min of a list of ints; index -/
end
end L2

namespace L2
open PySem PySem.Spec PyProof.Rows
/-! ### a step deeper -/
abbrev Cx.inn (X : Cx) : Cx := { X with A := X.A.in1 }
theorem Cx.Ok.inn {X : Cx} (ok : X.Ok) : X.inn.Ok :=
  ⟨ok.mod, ok.kind, ok.glob, ok.blt, ok.above, ok.inj, ok.has, ok.cab, ok.hd, ok.frames, ok.stk, ok.exf, ok.bs, ok.bsz, ok.noex, ok.exfs, ok.funs, ok.frf⟩
theorem Cx.Ok.out {X : Cx} (ok : X.inn.Ok) : X.Ok :=
  ⟨ok.mod, ok.kind, ok.glob, ok.blt, ok.above, ok.inj, ok.has, ok.cab, ok.hd, ok.frames, ok.stk, ok.exf, ok.bs, ok.bsz, ok.noex, ok.exfs, ok.funs, ok.frf⟩
section
variable {X : Cx} {pins : List (Addr × Obj)} {σ : St} {H : Hp} {s : Shared}
theorem Inv.inn (I : Inv X pins σ H s) : Inv X.inn pins σ H s := ⟨I.ok.inn, I.os, I.bare, I.base, I.loc, I.cell, I.free, I.freeC, I.pin, I.hok, I.len⟩
theorem Inv.out (I : Inv X.inn pins σ H s) : Inv X pins σ H s := ⟨I.ok.out, I.os, I.bare, I.base, I.loc, I.cell, I.free, I.freeC, I.pin, I.hok, I.len⟩
end
/-- what list() asks of an iterator -/
structure ItL (P : Program) (w : World) (it : Addr) (tn : Nat → Heap → Prop) : Prop where
  ty : ∀ s : Shared, tn 0 s.heap → ∃ T, s.TypeIs (.ref it) T ∧ (Value.type T == Value.type "list") = false ∧ (Value.type T == Value.type "tuple") = false
  hint : ∀ (A : Around) (s : Shared) (Q : Bool → Shared → Prop) (E : Value → Shared → Prop), tn 0 s.heap → (∀ b tk, Q b { s with toks := tk }) → wpAny (model P w) A (Builtin.List.listLengthHint (.ref it)) Q E s
/-- an expression whose value is the iterator itself -/
def PIVE (X : Cx) (pins : List (Addr × Obj)) (σ : St) (tg : Expr) (R : It → Hp → Prop) (v : Value) (s1 : Shared) : Prop :=
  ∃ (it : Addr) (fp : List Addr) (tn : Nat → Heap → Prop) (J : It) (H' : Hp), v = .ref it ∧ Inv X pins σ H' s1 ∧ Turn X.prog X.w X.K tg J fp it tn ∧ tn 0 s1.heap ∧ (∀ b ∈ fp, FpOk X pins H' b) ∧ ItL X.prog X.w it tn ∧ R J H'
def PIV (X : Cx) (tg iter : Expr) (wi : TI) : Prop :=
  ∀ (pins : List (Addr × Obj)) (s : Shared) (σ : St) (H : Hp) (R : It → Hp → Prop), Inv X pins σ H s → wi σ H R → wpAny (model X.prog X.w) X.A (eval iter X.env) (PIVE X pins σ tg R) X.xe s
theorem PIV.pi {X : Cx} {tg iter : Expr} {wi : TI} (h : PIV X tg iter wi) : PI X tg iter wi := by
  intro pins s σ H R I hw
  refine thn (h pins s σ H R I hw) fun v s1 ⟨it, fp, tn, J, H', e, I1, T, st, hf, _, q⟩ => ?_
  subst e
  exact T.self _ 0 _ _ _ st ⟨it, fp, tn, J, H', rfl, I1, T, st, hf, q⟩
/-! ### list(iterator) -/
section
variable {X : Cx} {pins : List (Addr × Obj)} {σ : St}
theorem list_loop {x : Str} {p2 : Pos} {J : It} {fp : List Addr} {it D : Addr} {tnn : Nat → Heap → Prop} {Q : VK} {R : Result → Shared → Prop} (hc : X.calm = true) (T : Turn X.prog X.w X.K (.Name x p2) J fp it tnn) (hDf : D ∉ fp) (n : Nat) (W : Nat → Hp → List V → Prop)
    (turn : ∀ i H2 ys, W i H2 ys → i ≤ n ∧ H2 D = some (.lst ys) ∧ ((J.stop i H2 ∧ Q (.ref D) H2) ∨ (i < n ∧ J.go i H2 ∧ ∀ y H3, J.yld i H2 y H3 → H3 D = some (.lst ys) ∧ ys.length < sizeLine ∧ W (i + 1) (upd H3 D (.lst (ys ++ [y]))) (ys ++ [y]))))
    (hR : ∀ H2 s2, Inv X pins σ H2 s2 → Q (.ref D) H2 → R (.ok (.ret .none)) s2) :
    ∀ (k i : Nat) (s : Shared) (H2 : Hp) (ys : List V), n - i = k → Inv X pins σ H2 s → tnn i s.heap → (∀ b ∈ fp, FpOk X pins H2 b) → W i H2 ys →
      codeAny (model X.prog X.w) X.A.in1 (.builtin "list.extend.loop" ⟨[.ref D, .ref it, .none], []⟩) R s := by
  intro k
  induction k with
  | zero =>
    intro i s H2 ys hk I st hf w
    obtain ⟨hi, hD, alt⟩ := turn i H2 ys w
    rcases alt with ⟨stop, q⟩ | ⟨hlt, _⟩
    · refine codeAny_builtin F.entry_extend_loop ?_
      rw [Around.under_plainId F.plain_extend_loop _]
      show wpAny _ X.A.in1.in1 (pyNext (.ref it) >>= _) _ _ s
      refine wpAny_bind (thn (T.done X.inn.inn rfl rfl rfl hc i pins s σ H2 _ I.inn.inn hf st stop) fun r s1 ⟨hr, I1⟩ => ?_)
      subst hr
      exact wpAny_pure (hR H2 s1 I1.out.out q)
    · omega
  | succ k ih =>
    intro i s H2 ys hk I st hf w
    obtain ⟨hi, hD, alt⟩ := turn i H2 ys w
    rcases alt with ⟨stop, q⟩ | ⟨hlt, go, step⟩
    · refine codeAny_builtin F.entry_extend_loop ?_
      rw [Around.under_plainId F.plain_extend_loop _]
      show wpAny _ X.A.in1.in1 (pyNext (.ref it) >>= _) _ _ s
      refine wpAny_bind (thn (T.done X.inn.inn rfl rfl rfl hc i pins s σ H2 _ I.inn.inn hf st stop) fun r s1 ⟨hr, I1⟩ => ?_)
      subst hr
      exact wpAny_pure (hR H2 s1 I1.out.out q)
    · refine codeAny_builtin F.entry_extend_loop ?_
      rw [Around.under_plainId F.plain_extend_loop _]
      show wpAny _ X.A.in1.in1 (pyNext (.ref it) >>= _) _ _ s
      refine wpAny_bind (thn (T.item X.inn.inn rfl rfl rfl hc i pins s σ H2 _ I.inn.inn hf st go) fun r s1 ⟨u, hr, h1⟩ => ?_)
      subst hr
      show wpAny _ X.A.in1.in1 (letOwnedTupleGo (.Name x p2) (.ref it) u >>= fun _ => (updateSeq D (·.push u) >>= fun _ => again (.builtin "list.extend.loop" ⟨[.ref D, .ref it, .none], []⟩))) _ _ s1
      refine wpAny_bind (thn h1 fun _ s2 ⟨y, H3, I3, r3, y3, st3, fr3⟩ => ?_)
      have I3' : Inv X pins σ H3 s2 := I3.out.out
      obtain ⟨hD3, hz3, w3⟩ := step y H3 y3
      obtain ⟨_, its, m, rv, hl, e⟩ := I3'.lstM hD3
      have hsz : its.toArray.size < sizeLine := by rw [List.size_toArray, ← hl]; exact hz3
      refine wpAny_bind ?_
      refine wpAny_updateSeq e rfl (wpAny_pure ⟨plainId_quiet F.plain_extend_loop _, ?_⟩) (by omega) (by show (its.toArray.push u).size ≤ sizeLine + 1; rw [Array.size_push]; omega)
      have I4 : Inv X pins σ (upd H3 D (.lst (ys ++ [y]))) { s2 with heap := s2.heap.update D (Obj.mapSeq (·.push u)) } := I3'.lset (t' := s2.toks) (its' := its ++ [u]) hD3 e (by simp) (rv.append (.cons r3 .nil)) (by rw [List.length_append, List.length_singleton]; omega)
      refine ih (i + 1) _ _ _ (by omega) I4 (T.keep _ _ _ st3 fun b hb o eo => ?_) (fun b hb => ?_) w3
      · exact (Heap.get?_update_other _ _ (fun h : D = b => hDf (by rw [h]; exact hb))).trans eo
      · refine ⟨?_, (hf b hb).2⟩
        rw [upd_ne (fun h : b = D => hDf (h ▸ hb))]
        exact fr3 b hb
end
theorem boot_listX : bootBuiltins "list" = some (.type "list") := by decide +kernel
def tListV (wi : TI) : TE := fun σ H Q => wi σ H fun J H1 => ∀ D, H1 D = none → LcGoal J [none] (fun _ _ _ _ => gName 0) (fun _ _ _ _ => tAlw) (fun _ _ _ _ => tVar 0) D H1 Q
theorem pe_listV {X : Cx} {iter : Expr} {wi : TI} {x : Str} {p p2 pos : Pos} (hc : X.calm = true) (h : PIV X (.Name x p2) iter wi) (hg : Gl X "list") (hm : X.mg "list" = none) (hs : starEach [iter] X.env = [(false, eval iter X.env)] := by rfl) :
    PE X (.Call (.Name "list" p) [iter] [] pos) (tListV wi) := by
  intro pins s σ H Q I hw
  refine Call_ (ld_blt I hg hm boot_listX (PyProof.Rows.callWith_type1 ?_ hs rfl))
  rw [hs]
  show wpAny _ _ (spliced ((false, eval iter X.env) :: [])) _ _ s
  refine Calls.spliced_cons (thn (h pins s σ H _ I hw) fun v s1 ⟨it, fp, tnn, J, H1, e, I1, T, st, hf, L, q⟩ => Calls.spliced_nil ?_)
  subst e
  have hlt : ∀ b ∈ fp, b < s1.heap.objs.size := fun b hb => by obtain ⟨o, e, _⟩ := T.obj _ _ st b hb; exact Heap.lt_size e
  have hDf : s1.heap.objs.size ∉ fp := fun z => Nat.lt_irrefl _ (hlt _ z)
  obtain ⟨n, W, w0, turn⟩ := q _ I1.fresh
  refine callType_codes (Q₁ := fun obj s₂ => obj = .ref s1.heap.objs.size ∧ s₂ = { s1 with heap := s1.heap.push { cls := .type "list", data := .seq #[] } }) F.called_list (F.typeCall_list_1 _) F.entry_list_init
    (code_list_new _ ⟨rfl, rfl⟩) fun obj s₂ h₂ => ?_
  obtain ⟨rfl, rfl⟩ := h₂
  have I2 : Inv X pins σ (upd H1 s1.heap.objs.size (.lst [])) { s1 with heap := s1.heap.push { cls := .type "list", data := .seq ([] : List Value).toArray } } := I1.lnew (t' := s1.toks) .nil (Nat.zero_le _)
  have hS : (s1.heap.push { cls := .type "list", data := .seq #[] }).get? s1.heap.objs.size = some { cls := .type "list", data := .seq #[] } := Heap.get?_push_size _ rfl
  refine ⟨⟨_, hS, rfl⟩, F.args_list_init_2 _ _, ?_⟩
  show wpAny _ X.A.in1.in1 (do let old ← Builtin.List.listItems (.ref s1.heap.objs.size); Builtin.List.listUpdate (.ref s1.heap.objs.size) (fun _ => #[]); letGo old.toList.reverse; Builtin.List.listExtendWith (.ref s1.heap.objs.size) (.ref it) .none) _ _ _
  refine wpAny_bind ?_
  unfold Builtin.List.listItems
  refine wpAny_bind (wpAny_seqItems hS rfl (wpAny_pure ?_))
  show wpAny _ _ (updateSeq s1.heap.objs.size (fun _ => #[]) >>= fun _ => letGo (#[] : Array Value).toList.reverse >>= fun _ => Builtin.List.listExtendWith (.ref s1.heap.objs.size) (.ref it) .none) _ _ _
  refine wpAny_bind (wpAny_updateSeq hS rfl ?_)
  have I3 := I2.lset (t' := s1.toks) (its := []) (its' := []) (f := fun _ => (#[] : Array Value)) (ys := []) upd_same hS rfl .nil (Nat.zero_le _)
  rw [upd_upd] at I3
  have hS₂ := Heap.get?_update_self (Obj.mapSeq (fun _ => (#[] : Array Value))) hS rfl
  refine wpAny_bind (wpAny_letGo ?_)
  have ne : ∀ b ∈ fp, s1.heap.objs.size ≠ b := fun b hb z => hDf (z ▸ hb)
  have st3 : tnn 0 ((s1.heap.push { cls := .type "list", data := .seq #[] }).update s1.heap.objs.size (Obj.mapSeq (fun _ => (#[] : Array Value)))) := T.keep _ _ _ st fun b hb o eo => (Heap.get?_update_other _ _ (ne b hb)).trans (Heap.get?_push_of_some _ eo)
  have hf3 : ∀ b ∈ fp, FpOk X pins (upd H1 s1.heap.objs.size (.lst [])) b := fun b hb => ⟨by rw [upd_ne (Ne.symm (ne b hb))]; exact (hf b hb).1, (hf b hb).2⟩
  have turn' : ∀ i H2 ys, W i H2 ys → i ≤ n ∧ H2 s1.heap.objs.size = some (.lst ys) ∧ ((J.stop i H2 ∧ Q (.ref s1.heap.objs.size) H2) ∨ (i < n ∧ J.go i H2 ∧ ∀ y H3, J.yld i H2 y H3 → H3 s1.heap.objs.size = some (.lst ys) ∧ ys.length < sizeLine ∧ W (i + 1) (upd H3 s1.heap.objs.size (.lst (ys ++ [y]))) (ys ++ [y]))) := by
    intro i H2 ys w
    obtain ⟨h1, h2, h3⟩ := turn i H2 ys w
    refine ⟨h1, h2, h3.imp id fun ⟨a, b, c⟩ => ⟨a, b, fun y H3 yy => ?_⟩⟩
    obtain ⟨_, c2⟩ := c 0 s1 H1 [] y H3 yy
    have c3 : if true = true then tVar 0 ([none].set 0 (some y)) H3 (fun y H6 => H6 s1.heap.objs.size = some (.lst ys) ∧ ys.length < sizeLine ∧ W (i + 1) (upd H6 s1.heap.objs.size (.lst (ys ++ [y]))) (ys ++ [y])) else W (i + 1) H3 ys := c2
    rw [if_pos rfl] at c3
    obtain ⟨v, ev, c4⟩ := c3
    have : v = y := by simpa using ev.symm
    subst this
    exact c4
  have fin : ∀ (H2 : Hp) (s2 : Shared), Inv X pins σ H2 s2 → Q (.ref s1.heap.objs.size) H2 → wants (fun r s₂ => r = .none ∧ EP X pins σ Q (.ref s1.heap.objs.size) s₂) X.xe (.ok (.ret .none)) s2 := fun H2 s2 I q => ⟨rfl, .ref s1.heap.objs.size, H2, I, rfl, q⟩
  generalize hH3 : ({ s1 with heap := (s1.heap.push { cls := .type "list", data := .seq #[] }).update s1.heap.objs.size (Obj.mapSeq (fun _ => (#[] : Array Value))) } : Shared) = S3
  have I3' : Inv X pins σ (upd H1 s1.heap.objs.size (.lst [])) S3 := by rw [← hH3]; exact I3
  have st3' : tnn 0 S3.heap := by rw [← hH3]; exact st3
  have hS3 : ∃ m, S3.heap.get? s1.heap.objs.size = some { cls := .type "list", data := .seq #[] m } := by rw [← hH3]; exact ⟨_, hS₂⟩
  obtain ⟨m3, hS3⟩ := hS3
  unfold Builtin.List.listExtendWith
  obtain ⟨Ty, hT, h2, h3⟩ := L.ty S3 st3'
  refine wpAny_bind (wpAny_typeOf hT ?_)
  have h1 : Builtin.List.listSameRef (.ref s1.heap.objs.size) (.ref it) = false := by simp [Builtin.List.listSameRef, ne it T.mem]
  simp only [h1, h2, h3, Bool.or_false, Bool.false_eq_true, if_false]
  refine wpAny_bind (T.self _ 0 _ _ _ st3' ?_)
  refine wpAny_bind (wpAny_holding (L.hint _ S3 _ _ st3' fun b tk => ?_))
  have I4 : Inv X pins σ (upd H1 s1.heap.objs.size (.lst [])) { S3 with toks := tk } := I3'.tok tk
  refine wpAny_ite_split (fun _ => ?_) (fun _ => wpAny_pure ⟨plainId_quiet F.plain_extend_loop _, list_loop hc T hDf n W turn' fin (n - 0) 0 _ _ _ rfl I4 st3' hf3 w0⟩)
  refine wpAny_bind (wpAny_rule ?_)
  refine wpAny_bind ?_
  show wpAny _ _ (updateSeq s1.heap.objs.size (·.push .none) >>= fun _ => updateSeq s1.heap.objs.size (·.pop)) _ _ _
  refine wpAny_bind (wpAny_updateSeq (s := { S3 with toks := tk }) hS3 rfl ?_)
  have I5 := I4.lset (t' := tk) (its := []) (its' := [.none]) (f := (·.push Value.none)) (ys := [.non]) upd_same hS3 rfl (.cons rfl .nil) (by show 1 ≤ sizeLine; decide)
  rw [upd_upd] at I5
  have hS₄ := Heap.get?_update_self (Obj.mapSeq (·.push Value.none)) hS3 rfl
  refine wpAny_updateSeq (s := { S3 with heap := S3.heap.update s1.heap.objs.size (Obj.mapSeq (·.push Value.none)), toks := tk }) (hz := by seq_fits) hS₄ rfl ?_
  have I6 := I5.lset (t' := tk) (its := [.none]) (its' := []) (f := (·.pop)) (ys := []) upd_same hS₄ rfl .nil (Nat.zero_le _)
  rw [upd_upd] at I6
  refine wpAny_pure ⟨plainId_quiet F.plain_extend_loop _, list_loop hc T hDf n W turn' fin (n - 0) 0 _ _ _ rfl I6 (T.keep _ _ _ st3' fun b hb o eo => ?_) hf3 w0⟩
  exact (Heap.get?_update_other _ _ (ne b hb)).trans ((Heap.get?_update_other _ _ (ne b hb)).trans eo)
end L2

namespace L2
open PySem PySem.Spec PyProof.Rows
theorem lri_no_len : typeLookup (.type "list_reverseiterator") "__len__" = pure none := by rw [typeLookup_type, builtinLookup_eq_fast]; kernel_rfl
theorem lri_hint : typeLookup (.type "list_reverseiterator") "__length_hint__" = pure (some (.builtin "list_reverseiterator.__length_hint__")) := by rw [typeLookup_type, builtinLookup_eq_fast]; kernel_rfl
theorem zip_no_len : typeLookup (.type "zip") "__len__" = pure none := by rw [typeLookup_type, builtinLookup_eq_fast]; kernel_rfl
theorem zip_no_hint : typeLookup (.type "zip") "__length_hint__" = pure none := by rw [typeLookup_type, builtinLookup_eq_fast]; kernel_rfl
section
variable {prog : Program} {w : World} {A : Around} {E : Value → Shared → Prop} {s : Shared}
theorem hint_rev {it : Addr} {Q : Bool → Shared → Prop} (hT : s.TypeIs (.ref it) "list_reverseiterator") (h : ∀ b tk, Q b { s with toks := tk }) : wpAny (model prog w) A (Builtin.List.listLengthHint (.ref it)) Q E s := by
  unfold Builtin.List.listLengthHint
  refine wpAny_bind (wpAny_specialOf hT lri_no_len ?_)
  show wpAny _ _ (specialOf (Value.ref it) (Str.ofString "__length_hint__") >>= _) _ _ _
  refine wpAny_bind (wpAny_specialOf hT lri_hint ?_)
  generalize hid : ("list_reverseiterator.__length_hint__" : String) = id0
  wp_delta
  rw [show splitId id0 = some ("list_reverseiterator", "__length_hint__") from by subst hid; decide +kernel]
  subst hid
  refine wpAny_bind (wpAny_isInstance (T := "list_reverseiterator") (b := true) hT (by rw [isSubtype_type]; kernel_rfl) ?_)
  refine wpAny_ite_split (fun hab => absurd hab (by decide)) (fun _ => ?_)
  refine wpAny_ite_split (fun _ => ?_) (fun hab => absurd (by decide +kernel) hab)
  refine wpAny_ite_split (fun hab => absurd hab (by decide +kernel)) (fun _ => ?_)
  exact wpAny_pure (h false s.toks)
theorem hint_zip {it : Addr} {Q : Bool → Shared → Prop} (hT : s.TypeIs (.ref it) "zip") (h : ∀ b tk, Q b { s with toks := tk }) : wpAny (model prog w) A (Builtin.List.listLengthHint (.ref it)) Q E s := by
  unfold Builtin.List.listLengthHint
  refine wpAny_bind (wpAny_specialOf hT zip_no_len ?_)
  show wpAny _ _ (specialOf (Value.ref it) (Str.ofString "__length_hint__") >>= _) _ _ _
  refine wpAny_bind (wpAny_specialOf hT zip_no_hint ?_)
  exact wpAny_pure (h true s.toks)
end
/-! ### reversed(list) -/
def Itv (K : PySem.W.Frag) (a : Addr) (n : Nat) : It :=
  ⟨fun i H => i < n ∧ ∃ xs, SqL K H a xs ∧ xs.length = n, fun i H x H' => H' = H ∧ ∀ xs, SqL K H a xs → xs[n - 1 - i]? = some x, fun i _ => n ≤ i⟩
theorem turn_rev {P : Program} {w : World} {K : PySem.W.Frag} {tg : Expr} (a it : Addr) (n : Nat) : Turn P w K tg (Itv K a n) [it] it (fun i h => i ≤ n ∧ h.IsRevIter it a ((n : Int) - 1 - (i : Nat))) where
  mem := by simp
  obj := fun i h st b hb => by
    have e : b = it := by simpa using hb
    subst e
    obtain ⟨_, o, e, c, d⟩ := st
    exact ⟨o, e, fun v z => by rw [d] at z; cases z⟩
  keep := fun i h h' st k => ⟨st.1, st.2.at fun o e => k it (by simp) o e⟩
  item := by
    intro X hP hw hK hc i pins s σ H E I hf st hg
    subst hP hw hK
    obtain ⟨hin, xs, hq, hxl⟩ := hg
    obtain ⟨its, rv, p, hz⟩ := I.list hq
    have hx : xs[n - 1 - i]? = some (xs[n - 1 - i]'(by omega)) := List.getElem?_eq_getElem (by omega)
    obtain ⟨u, hu, ru⟩ := rv.get hx
    obtain ⟨f0, f1, f2, f3, f4, f5⟩ := hf it (by simp)
    have e : (n : Int) - 1 - (i : Int) = ((n - 1 - i : Nat) : Int) := by omega
    have hit := st.2
    rw [e] at hit
    refine wpAny_pyNext_rev_item hit p.isList (x := u) (by simpa using hu) fun h' hit' sb => ?_
    have e2 : ((n - 1 - i : Nat) : Int) - 1 = (n : Int) - 1 - ((i + 1 : Nat) : Int) := by omega
    rw [e2] at hit'
    have I1 : Inv X pins σ H { s with heap := h' } := I.turned (t' := s.toks) (fun b o hb e => (sb.2 b hb).trans e) f0 f1 f3 f4 f5
    obtain ⟨o, eo, c, d⟩ := id hit'
    refine ⟨u, rfl, go_of (s := { s with heap := h' }) eo c d (by decide) ⟨_, H, I1, ru, ⟨rfl, fun ys hy => ?_⟩, ⟨by omega, hit'⟩, fun b hb => (hf b hb).1⟩⟩
    rw [I.list_inj hy hq]; exact hx
  done := by
    intro X hP hw hK hc i pins s σ H E I hf st hg
    subst hP hw hK
    have hni : n ≤ i := hg
    obtain ⟨f0, f1, f2, f3, f4, f5⟩ := hf it (by simp)
    have e : (n : Int) - 1 - (i : Int) = -1 := by have := st.1; omega
    have hit := st.2
    rw [e] at hit
    exact wpAny_pyNext_rev_end (I.ok.hd hc) hit fun h' eb => ⟨rfl, I.turned (t' := s.toks) (fun b o hb e => eb b o hb e) f0 f1 f3 f4 f5⟩
  self := fun _ _ _ _ _ st h => wpAny_pyIter_revIter st.2 h
section
variable {X : Cx} {tg : Expr}
def iRevL (K : PySem.W.Frag) (ta : TA) : TI := fun σ H R => ta σ H fun vs H1 => ∃ (a : Addr) (xs : List V), vs = [.ref a] ∧ SqL K H1 a xs ∧ R (Itv K a xs.length) H1
theorem piv_rev {a : Expr} {ta : TA} {p pos : Pos} (hg : Gl X "reversed") (hm : X.mg "reversed" = none) (ha : PA X [a] ta) (hs : starEach [a] X.env = [(false, eval a X.env)] := by rfl) :
    PIV X tg (.Call (.Name "reversed" p) [a] [] pos) (iRevL X.K ta) := by
  intro pins s σ H R I h
  refine Call_ (ld_blt I hg hm boot_reversed' (PyProof.Rows.callWith_type1 (thn (ha pos pins s σ H _ I h) fun us s1 ⟨vs, H1, I1, r1, q1⟩ => ?_) hs rfl))
  obtain ⟨l, xs, e, hq, q⟩ := q1
  subst e
  obtain ⟨u, rfl, rx⟩ := vals1 r1
  cases rx
  obtain ⟨its, rv, pl, hz⟩ := I1.list hq
  have hl := rv.length
  refine call_reversed_list pl.isList ?_
  have I2 : Inv X pins σ H1 { s1 with heap := s1.heap.push (revObj l ((its.toArray.size : Int) - 1)) } := I1.kept (t' := s1.toks) fun b o e => Heap.get?_push_of_some _ e
  refine ⟨s1.heap.objs.size, [s1.heap.objs.size], _, _, H1, rfl, I2, turn_rev l _ xs.length, ⟨Nat.zero_le _, _, Heap.get?_push_size _ rfl, rfl, ?_⟩, fun b hb => ?_, ⟨fun s' st => ⟨_, st.2.typeIs, by decide, by decide⟩, fun A s' Q E st h => hint_rev st.2.typeIs h⟩, q⟩
  · have e : ((its.toArray.size : Int) - 1) = (xs.length : Int) - 1 - ((0 : Nat) : Int) := by rw [List.size_toArray, ← hl]; omega
    rw [e]; rfl
  · have e : b = s1.heap.objs.size := by simpa using hb
    subst e
    exact I1.fpOk (Nat.le_refl _) (I1.hok.fresh (Nat.le_refl _))
end
end L2

namespace L2
open PySem PySem.Spec PyProof.Rows
abbrev IsZipG (h : Heap) (z TI TO : Addr) (f0 f1 : Value) : Prop := h.get? z = some { cls := .type "zip", dict := none, data := .fields #[f0, f1, .bool false, .ref TI, .ref TO], slots := #[] }
def Own0 (f0 : Value) : Prop := f0 = .none ∨ ∃ T : Nat, f0 = rawInt T
section
variable {prog : Program} {w : World} {A : Around} {E : Value → Shared → Prop} {s : Shared}
theorem alive_any {a : Addr} {Q : Option Obj → Shared → Prop} (h : Q (s.heap.get? a) s) : wpAny (model prog w) A (loadIfAlive a) Q E s := fun _ _ _ => h
theorem zip_next_itemG {z TI TO i1 i2 l1 l2 : Addr} {k1 k2 : Nat} {xs ys : Array Value} {x y a b f0 f1 : Value} {Q : Value → Shared → Prop} (D : ZipApart z TI TO i1 i2 l1 l2)
    (hz : IsZipG s.heap z TI TO f0 f1) (h0 : Own0 f0) (hTI : IsPair s.heap TI (.ref i1) (.ref i2)) (hTO : IsPair s.heap TO a b)
    (h1 : s.heap.IsListIter i1 l1 k1) (h2 : s.heap.IsListIter i2 l2 k2) (hl1 : s.heap.IsList l1 xs) (hl2 : s.heap.IsList l2 ys) (hx : xs[k1]? = some x) (hy : ys[k2]? = some y)
    (hQ : ∀ h' f0' f1', IsZipG h' z TI TO f0' f1' → Own0 f0' → (∃ a b, IsPair h' TO a b) → h'.IsListIter i1 l1 (k1 + 1) → h'.IsListIter i2 l2 (k2 + 1) → IsPair h' s.heap.objs.size x y →
      (∀ c o, c ≠ z → c ≠ TO → c ≠ i1 → c ≠ i2 → s.heap.get? c = some o → h'.get? c = some o) → Q (.ref s.heap.objs.size) { s with heap := h' }) :
    wpAny (model prog w) A (Builtin.«zip.__next__» ⟨[.ref z], []⟩) (fun fin s' => ∃ v, fin = .done (.ret v) ∧ Q v s') E s := by
  show wpAny _ _ (field (.ref z) 2 >>= _) _ _ _
  refine wpAny_bind (wpAny_field hz rfl (x := .bool false) rfl ?_)
  show wpAny _ _ (field (.ref z) 3 >>= _) _ _ _
  refine wpAny_bind (wpAny_field hz rfl (x := .ref TI) rfl ?_)
  refine wpAny_bind (wpAny_seqItems hTI rfl ?_)
  show wpAny _ _ (Builtin.SmallTypes.ownedTupleIsFree (.ref z) >>= _) _ _ _
  refine wpAny_bind ?_
  refine wpAny_mono (Q := fun _ s' => ∃ h' f1', s' = { s with heap := h' } ∧ IsZipG h' z TI TO f0 f1' ∧ Heap.SameBut z s.heap h') ?own (fun bo s' hb => ?cont) (fun _ _ e => e)
  case own =>
    unfold Builtin.SmallTypes.ownedTupleIsFree
    refine wpAny_bind (wpAny_field hz rfl (x := f0) rfl ?_)
    rcases h0 with rfl | ⟨T, rfl⟩
    · exact wpAny_pure ⟨s.heap, f1, rfl, hz, Heap.SameBut.refl _ _⟩
    · show wpAny _ _ (loadIfAlive ((T : Int).toNat) >>= _) _ _ _
      refine wpAny_bind (alive_any ?_)
      cases hT : s.heap.get? (T : Int).toNat with
      | none => exact wpAny_pure ⟨s.heap, f1, rfl, hz, Heap.SameBut.refl _ _⟩
      | some o =>
        simp only [Option.isNone_some, Bool.false_eq_true, if_false]
        refine wpAny_bind (wpAny_field hz rfl (x := f1) rfl ?_)
        refine wpAny_ite_split (fun _ => ?_) (fun _ => ?_)
        · refine wpAny_bind (wpAny_setField_rec hz (by simp) fun h₁ hz₁ hs₁ => wpAny_pure ⟨h₁, .bool true, rfl, hz₁, hs₁⟩)
        · exact wpAny_pure ⟨s.heap, f1, rfl, hz, Heap.SameBut.refl _ _⟩
  case cont =>
    obtain ⟨h', f1', rfl, hz', hs0⟩ := hb
    have hTI' : IsPair h' TI (.ref i1) (.ref i2) := hs0.extBut _ _ D.TIz hTI
    have hTO' : IsPair h' TO a b := hs0.extBut _ _ D.TOz hTO
    have h1' : h'.IsListIter i1 l1 k1 := h1.extBut hs0.extBut D.i1z
    have h2' : h'.IsListIter i2 l2 k2 := h2.extBut hs0.extBut D.i2z
    have hl1' : h'.IsList l1 xs := hl1.extBut hs0.extBut D.l1z
    have hl2' : h'.IsList l2 ys := hl2.extBut hs0.extBut D.l2z
    cases bo with
    | false =>
      simp only [Bool.false_eq_true, if_false, List.forIn_toArray, List.forIn_cons, List.forIn_nil]
      refine wpAny_bind (wpAny_bind (wpAny_bind (wpAny_holding ?_)))
      show wpAny _ _ (Builtin.SmallTypes.nextOf (.ref i1) >>= _) _ _ _
      refine wpAny_bind (wpAny_nextOf_list_item (s := { s with heap := h' }) h1' hl1' hx fun h₂ h1₂ hs₂ => wpAny_pure ?_)
      replace hs₂ : Heap.SameBut i1 h' h₂ := hs₂
      refine wpAny_pure ?_
      refine wpAny_bind (wpAny_bind (wpAny_holding ?_))
      show wpAny _ _ (Builtin.SmallTypes.nextOf (.ref i2) >>= _) _ _ _
      refine wpAny_bind (wpAny_nextOf_list_item (s := { s with heap := h₂ }) (h2'.extBut hs₂.extBut D.i12.symm) (hl2'.extBut hs₂.extBut D.l2i1) hy fun h₄ h2₄ hs₄ => wpAny_pure ?_)
      replace hs₄ : Heap.SameBut i2 h₂ h₄ := hs₄
      refine wpAny_pure ?_
      refine wpAny_pure ?_
      refine wpAny_bind (wpAny_newTuple (s := { s with heap := h₄ }) (hsz := by show 2 ≤ sizeLine; decide) (wpAny_pure ⟨_, rfl, ?_⟩))
      have hsz : h₄.objs.size = s.heap.objs.size := by rw [hs₄.1, hs₂.1, hs0.1]
      show Q (.ref h₄.objs.size) _
      rw [hsz]
      have up : ∀ c o, c ≠ i1 → c ≠ i2 → h'.get? c = some o → (h₄.push { cls := .type "tuple", data := .seq #[x, y] }).get? c = some o := fun c o c1 c2 e => Heap.get?_push_of_some _ (hs₄.extBut _ _ c2 (hs₂.extBut _ _ c1 e))
      refine hQ _ f0 f1' (up _ _ D.i1z.symm D.i2z.symm hz') h0 ⟨a, b, up _ _ D.TOi1 D.TOi2 hTO'⟩ ?_ ?_ ?_ ?_
      · exact (h1₂.extBut hs₄.extBut D.i12).at fun o e => Heap.get?_push_of_some _ e
      · exact h2₄.at fun o e => Heap.get?_push_of_some _ e
      · have hp : IsPair (h₄.push { cls := .type "tuple", data := .seq #[x, y] }) h₄.objs.size x y := Heap.get?_push_size _ rfl
        rw [hsz] at hp; exact hp
      · exact fun c o c1 c2 c3 c4 e => up c o c3 c4 (hs0.extBut _ _ c1 e)
    | true =>
      simp only [if_true]
      refine wpAny_bind (wpAny_rule ?_)
      refine wpAny_bind (wpAny_field (s := { s with heap := h' }) hz' rfl (x := .ref TO) rfl ?_)
      refine wpAny_bind (wpAny_setField_rec (s := { s with heap := h' }) hz' (by simp) fun h₁ hz₁ hs₁ => ?_)
      replace hz₁ : IsZipG h₁ z TI TO .ellipsis f1' := hz₁
      replace hs₁ : Heap.SameBut z h' h₁ := hs₁
      refine wpAny_bind ?_
      simp only [List.zipIdx_cons, List.zipIdx_nil, List.forIn_cons, List.forIn_nil]
      refine wpAny_bind (wpAny_bind (wpAny_onRaise ?_))
      show wpAny _ _ (Builtin.SmallTypes.nextOf (.ref i1) >>= _) _ _ _
      refine wpAny_bind (wpAny_nextOf_list_item (s := { s with heap := h₁ }) (h1'.extBut hs₁.extBut D.i1z) (hl1'.extBut hs₁.extBut D.l1z) hx fun h₂ h1₂ hs₂ => wpAny_pure ?_)
      replace hs₂ : Heap.SameBut i1 h₁ h₂ := hs₂
      have hTO₂ : IsPair h₂ TO a b := hs₂.extBut _ _ D.TOi1 (hs₁.extBut _ _ D.TOz hTO')
      refine wpAny_bind (wpAny_seqItems (s := { s with heap := h₂ }) hTO₂ rfl ?_)
      refine wpAny_bind (wpAny_updateSeq_pair (s := { s with heap := h₂ }) hTO₂ fun h₃ hTO₃ hs₃ => ?_)
      replace hTO₃ : IsPair h₃ TO x b := hTO₃
      replace hs₃ : Heap.SameBut TO h₂ h₃ := hs₃
      refine wpAny_bind (wpAny_letGo (wpAny_pure ?_))
      refine wpAny_bind (wpAny_bind (wpAny_onRaise ?_))
      show wpAny _ _ (Builtin.SmallTypes.nextOf (.ref i2) >>= _) _ _ _
      refine wpAny_bind (wpAny_nextOf_list_item (s := { s with heap := h₃ }) (((h2'.extBut hs₁.extBut D.i2z).extBut hs₂.extBut D.i12.symm).extBut hs₃.extBut D.TOi2.symm)
        (((hl2'.extBut hs₁.extBut D.l2z).extBut hs₂.extBut D.l2i1).extBut hs₃.extBut D.l2TO) hy fun h₄ h2₄ hs₄ => wpAny_pure ?_)
      replace hs₄ : Heap.SameBut i2 h₃ h₄ := hs₄
      have hTO₄ : IsPair h₄ TO x b := hs₄.extBut _ _ D.TOi2 hTO₃
      refine wpAny_bind (wpAny_seqItems (s := { s with heap := h₄ }) hTO₄ rfl ?_)
      refine wpAny_bind (wpAny_updateSeq_pair (s := { s with heap := h₄ }) hTO₄ fun h₅ hTO₅ hs₅ => ?_)
      replace hTO₅ : IsPair h₅ TO x y := hTO₅
      replace hs₅ : Heap.SameBut TO h₄ h₅ := hs₅
      refine wpAny_bind (wpAny_letGo (wpAny_pure (wpAny_pure ?_)))
      refine wpAny_bind (wpAny_seqItems (s := { s with heap := h₅ }) hTO₅ rfl ?_)
      refine wpAny_bind (wpAny_newTuple (s := { s with heap := h₅ }) ?_)
      have hsz : h₅.objs.size = s.heap.objs.size := by rw [hs₅.1, hs₄.1, hs₃.1, hs₂.1, hs₁.1, hs0.1]
      have hz₅ : IsZipG h₅ z TI TO .ellipsis f1' := hs₅.extBut _ _ D.TOz.symm (hs₄.extBut _ _ D.i2z.symm (hs₃.extBut _ _ D.TOz.symm (hs₂.extBut _ _ D.i1z.symm hz₁)))
      have hk₅ : ∀ c o, c ≠ z → c ≠ TO → c ≠ i1 → c ≠ i2 → s.heap.get? c = some o → h₅.get? c = some o := fun c o c1 c2 c3 c4 e =>
        hs₅.extBut _ _ c2 (hs₄.extBut _ _ c4 (hs₃.extBut _ _ c2 (hs₂.extBut _ _ c3 (hs₁.extBut _ _ c1 (hs0.extBut _ _ c1 e)))))
      have h1₅ : h₅.IsListIter i1 l1 (k1 + 1) := ((h1₂.extBut hs₃.extBut D.TOi1.symm).extBut hs₄.extBut D.i12).extBut hs₅.extBut D.TOi1.symm
      have h2₅ : h₅.IsListIter i2 l2 (k2 + 1) := h2₄.extBut hs₅.extBut D.TOi2.symm
      have hzlt : z < h₅.objs.size := Heap.lt_size hz₅
      show wpAny _ _ (Builtin.SmallTypes.ownedTupleHandOut (.ref z) (.ref h₅.objs.size) >>= _) _ _ _
      refine wpAny_bind ?_
      unfold Builtin.SmallTypes.ownedTupleHandOut
      have hz₆ : IsZipG (h₅.push { cls := .type "tuple", data := .seq #[x, y] }) z TI TO .ellipsis f1' := Heap.get?_push_of_some _ hz₅
      refine wpAny_bind (wpAny_setField_rec (s := { s with heap := h₅.push { cls := .type "tuple", data := .seq #[x, y] } }) hz₆ (by simp) fun h₇ hz₇ hs₇ => ?_)
      replace hz₇ : IsZipG h₇ z TI TO (rawInt h₅.objs.size) f1' := hz₇
      replace hs₇ : Heap.SameBut z (h₅.push { cls := .type "tuple", data := .seq #[x, y] }) h₇ := hs₇
      refine wpAny_setField_rec (s := { s with heap := h₇ }) hz₇ (by simp) fun h₈ hz₈ hs₈ => ?_
      replace hz₈ : IsZipG h₈ z TI TO (rawInt h₅.objs.size) (.bool false) := hz₈
      replace hs₈ : Heap.SameBut z h₇ h₈ := hs₈
      have up : ∀ c o, c ≠ z → h₅.get? c = some o → h₈.get? c = some o := fun c o c1 e => hs₈.extBut _ _ c1 (hs₇.extBut _ _ c1 (Heap.get?_push_of_some _ e))
      have hT₈ : IsPair h₈ h₅.objs.size x y := hs₈.extBut _ _ (Nat.ne_of_gt hzlt) (hs₇.extBut _ _ (Nat.ne_of_gt hzlt) (Heap.get?_push_size _ rfl))
      rw [hsz] at hT₈
      refine wpAny_pure ⟨_, rfl, ?_⟩
      show Q (.ref h₅.objs.size) _
      rw [hsz]
      exact hQ h₈ _ _ hz₈ (.inr ⟨_, rfl⟩) ⟨_, _, up _ _ D.TOz hTO₅⟩ (h1₅.at fun o e => up _ o D.i1z e) (h2₅.at fun o e => up _ o D.i2z e) hT₈ fun c o c1 c2 c3 c4 e => up c o c1 (hk₅ c o c1 c2 c3 c4 e)
theorem zip_next_endG {z TI TO i1 i2 l1 : Addr} {k1 : Nat} {xs : Array Value} {f0 f1 : Value} {Q : Option Value → Shared → Prop} (hh : A.handled = none) (TIz : TI ≠ z) (i1z : i1 ≠ z) (l1z : l1 ≠ z)
    (hz : IsZipG s.heap z TI TO f0 f1) (h0 : Own0 f0) (hTI : IsPair s.heap TI (.ref i1) (.ref i2)) (h1 : s.heap.IsListIter i1 l1 k1) (hl1 : s.heap.IsList l1 xs) (hend : xs[k1]? = none)
    (hQ : ∀ h', (∀ c o, c ≠ z → c ≠ i1 → s.heap.get? c = some o → h'.get? c = some o) → Q none { s with heap := h' }) : wpAny (model prog w) A (pyNext (.ref z)) Q E s := by
  have hT : s.TypeIs (.ref z) "zip" := ⟨_, hz, rfl⟩
  unfold pyNext
  refine wpAny_bind (wpAny_attempt (wpAny_callSpecial?_slot (name := Str.ofString "__next__") hT F.slot_zip_next
    (wpAny_call_entry F.slot_zip_next hT F.entry_zip_next ?_ (F.args_zip_next_1 _))))
  show wpAny _ _ (field (.ref z) 2 >>= _) _ _ _
  refine wpAny_bind (wpAny_field hz rfl (x := .bool false) rfl ?_)
  show wpAny _ _ (field (.ref z) 3 >>= _) _ _ _
  refine wpAny_bind (wpAny_field hz rfl (x := .ref TI) rfl ?_)
  refine wpAny_bind (wpAny_seqItems hTI rfl ?_)
  show wpAny _ _ (Builtin.SmallTypes.ownedTupleIsFree (.ref z) >>= _) _ _ _
  refine wpAny_bind ?_
  refine wpAny_mono (Q := fun _ s' => ∃ h' f1', s' = { s with heap := h' } ∧ IsZipG h' z TI TO f0 f1' ∧ Heap.SameBut z s.heap h') ?own (fun bo s' hb => ?cont) (fun _ _ e => e)
  case own =>
    unfold Builtin.SmallTypes.ownedTupleIsFree
    refine wpAny_bind (wpAny_field hz rfl (x := f0) rfl ?_)
    rcases h0 with rfl | ⟨T, rfl⟩
    · exact wpAny_pure ⟨s.heap, f1, rfl, hz, Heap.SameBut.refl _ _⟩
    · show wpAny _ _ (loadIfAlive ((T : Int).toNat) >>= _) _ _ _
      refine wpAny_bind (alive_any ?_)
      cases hT : s.heap.get? (T : Int).toNat with
      | none => exact wpAny_pure ⟨s.heap, f1, rfl, hz, Heap.SameBut.refl _ _⟩
      | some o =>
        simp only [Option.isNone_some, Bool.false_eq_true, if_false]
        refine wpAny_bind (wpAny_field hz rfl (x := f1) rfl ?_)
        refine wpAny_ite_split (fun _ => ?_) (fun _ => ?_)
        · refine wpAny_bind (wpAny_setField_rec hz (by simp) fun h₁ hz₁ hs₁ => wpAny_pure ⟨h₁, .bool true, rfl, hz₁, hs₁⟩)
        · exact wpAny_pure ⟨s.heap, f1, rfl, hz, Heap.SameBut.refl _ _⟩
  case cont =>
    obtain ⟨h', f1', rfl, hz', hs0⟩ := hb
    have h1' : h'.IsListIter i1 l1 k1 := h1.extBut hs0.extBut i1z
    have hl1' : h'.IsList l1 xs := hl1.extBut hs0.extBut l1z
    cases bo with
    | false =>
      simp only [Bool.false_eq_true, if_false, List.forIn_toArray, List.forIn_cons, List.forIn_nil]
      refine wpAny_bind (wpAny_bind (wpAny_bind (wpAny_holding ?_)))
      show wpAny _ _ (Builtin.SmallTypes.nextOf (.ref i1) >>= _) _ _ _
      refine wpAny_bind (wpAny_nextOf_list_end (s := { s with heap := h' }) hh h1' hl1' hend fun h₂ e hs₂ he => ?_)
      obtain ⟨oe, hoe, hce⟩ := he
      refine wpAny_bind (wpAny_isInstance (T := "StopIteration") (b := true) ⟨oe, hoe, hce⟩ isSubtype_stop ?_)
      exact wpAny_pure (hQ _ fun c o c1 c2 x => hs₂ _ _ c2 (hs0.extBut _ _ c1 x))
    | true =>
      simp only [if_true]
      refine wpAny_bind (wpAny_rule ?_)
      refine wpAny_bind (wpAny_field (s := { s with heap := h' }) hz' rfl (x := .ref TO) rfl ?_)
      refine wpAny_bind (wpAny_setField_rec (s := { s with heap := h' }) hz' (by simp) fun h₁ hz₁ hs₁ => ?_)
      replace hz₁ : IsZipG h₁ z TI TO .ellipsis f1' := hz₁
      replace hs₁ : Heap.SameBut z h' h₁ := hs₁
      refine wpAny_bind ?_
      simp only [List.zipIdx_cons, List.zipIdx_nil, List.forIn_cons, List.forIn_nil]
      refine wpAny_bind (wpAny_bind (wpAny_onRaise ?_))
      show wpAny _ _ (Builtin.SmallTypes.nextOf (.ref i1) >>= _) _ _ _
      refine wpAny_bind (wpAny_nextOf_list_end (s := { s with heap := h₁ }) hh (h1'.extBut hs₁.extBut i1z) (hl1'.extBut hs₁.extBut l1z) hend fun h₂ e hs₂ he => ?_)
      obtain ⟨oe, hoe, hce⟩ := he
      have hz₂ : IsZipG h₂ z TI TO .ellipsis f1' := hs₂ _ _ i1z.symm hz₁
      have hez : e ≠ z := fun x => by subst x; rw [hz₂] at hoe; cases hoe; simp at hce
      refine wpAny_setField_rec (s := { s with heap := h₂ }) hz₂ (by simp) fun h₃ _ hs₃ => ?_
      refine wpAny_bind (wpAny_isInstance (T := "StopIteration") (b := true) ⟨oe, hs₃.extBut _ _ hez hoe, hce⟩ isSubtype_stop ?_)
      exact wpAny_pure (hQ _ fun c o c1 c2 x => hs₃.extBut _ _ c1 (hs₂ _ _ c2 (hs₁.extBut _ _ c1 (hs0.extBut _ _ c1 x))))
theorem letgo_zipG {tg : Expr} {z TI TO a : Addr} {f0 f1 : Value} {Q : Unit → Shared → Prop} (hz : IsZipG s.heap z TI TO f0 f1) (h0 : Own0 f0)
    (hQ : ∀ h' f0', IsZipG h' z TI TO f0' f1 → Own0 f0' → Heap.SameBut z s.heap h' → Q () { s with heap := h' }) : wpAny (model prog w) A (letOwnedTupleGo tg (.ref z) (.ref a)) Q E s := by
  have main : wpAny (model prog w) A (do
      let o ← load z
      match o.cls, o.data with
      | .type n, .fields vs =>
        if ["enumerate", "zip", "dict_itemiterator", "dict_reverseitemiterator", "odict_iterator", "itertools.zip_longest", "itertools.pairwise"].contains n && vs[0]? == some (rawInt a) then
          rule "for.unpacks-the-owned-tuple"
          updateField z 0 .none
      | _, _ => pure ()) Q E s := by
    refine wpAny_bind (wpAny_load hz ?_)
    show wpAny _ _ (if (["enumerate", "zip", "dict_itemiterator", "dict_reverseitemiterator", "odict_iterator", "itertools.zip_longest", "itertools.pairwise"].contains "zip" &&
      (#[f0, f1, .bool false, .ref TI, .ref TO] : Array Value)[0]? == some (rawInt a)) = true then _ else _) Q E s
    refine wpAny_ite_split (fun _ => ?_) (fun _ => wpAny_pure (hQ s.heap f0 hz h0 (Heap.SameBut.refl _ _)))
    refine wpAny_bind (wpAny_rule ?_)
    show wpAny _ _ (setField (.ref z) 0 .none) Q E s
    exact wpAny_setField_rec hz (by simp) fun h' hz' hs' => hQ h' .none hz' (.inl rfl) hs'
  have triv : Q () s := hQ s.heap f0 hz h0 (Heap.SameBut.refl _ _)
  cases tg <;> first
    | exact main
    | exact wpAny_pure triv
end
end L2

namespace L2
open PySem PySem.Spec PyProof.Rows
theorem ne_cls {h : Heap} {a b : Addr} {o o' : Obj} (ha : h.get? a = some o) (hb : h.get? b = some o') (hc : o.cls ≠ o'.cls) : a ≠ b := fun z => by rw [z, hb] at ha; cases ha; exact hc rfl
theorem ne_cls' {h : Heap} {a b : Addr} {o o' : Obj} {n m : String} (ha : h.get? a = some o) (hb : h.get? b = some o') (hc : o.cls = .type n) (hc' : o'.cls = .type m) (hd : n ≠ m) : a ≠ b := ne_cls ha hb fun q => hd (Value.type.inj (hc.symm.trans (q.trans hc')))
structure Zap (z TI TO i1 i2 : Addr) : Prop where
  TIz : TI ≠ z
  TOz : TO ≠ z
  i1z : i1 ≠ z
  i2z : i2 ≠ z
  TITO : TI ≠ TO
  TIi1 : TI ≠ i1
  TIi2 : TI ≠ i2
  TOi1 : TO ≠ i1
  TOi2 : TO ≠ i2
  i12 : i1 ≠ i2
theorem zap_of (n : Nat) : Zap (n + 4) (n + 2) (n + 3) n (n + 1) := by
  have g : ∀ a b : Nat, a ≠ b → @Ne Addr (n + a) (n + b) := fun a b h e => h (Nat.add_left_cancel (show n + a = n + b from e))
  exact ⟨g 2 4 (by decide), g 3 4 (by decide), g 0 4 (by decide), g 1 4 (by decide), g 2 3 (by decide), g 2 0 (by decide), g 2 1 (by decide), g 3 0 (by decide), g 3 1 (by decide), g 0 1 (by decide)⟩
/-- zip(xs, ys), xs no longer than ys -/
def Itz (K : PySem.W.Frag) (a b : Addr) : It :=
  ⟨fun i H => ∃ xs ys x y, SqL K H a xs ∧ SqL K H b ys ∧ xs[i]? = some x ∧ ys[i]? = some y,
   fun i H v H' => ∃ p x y, H p = none ∧ v = .ref p ∧ H' = upd H p (.tup [x, y]) ∧ (∀ xs, SqL K H a xs → xs[i]? = some x) ∧ ∀ ys, SqL K H b ys → ys[i]? = some y,
   fun i H => ∃ xs, SqL K H a xs ∧ xs.length ≤ i⟩
theorem turn_zip {P : Program} {w : World} {K : PySem.W.Frag} {tg : Expr} (l1 l2 z TI TO i1 i2 : Addr) (Z : Zap z TI TO i1 i2) :
    Turn P w K tg (Itz K l1 l2) [z, TI, TO, i1, i2] z (fun i h => (∃ f0 f1, IsZipG h z TI TO f0 f1 ∧ Own0 f0) ∧ IsPair h TI (.ref i1) (.ref i2) ∧ (∃ a b, IsPair h TO a b) ∧ h.IsListIter i1 l1 i ∧ h.IsListIter i2 l2 i) where
  mem := by simp
  obj := fun i h st b hb => by
    obtain ⟨⟨f0, f1, hz, _⟩, hTI, ⟨a, b', hTO⟩, ⟨o1, e1, c1, d1⟩, ⟨o2, e2, c2, d2⟩⟩ := st
    have hb' : b = z ∨ b = TI ∨ b = TO ∨ b = i1 ∨ b = i2 := by simpa using hb
    rcases hb' with rfl | rfl | rfl | rfl | rfl
    · exact ⟨_, hz, fun v q => by have q' : Data.fields _ = Data.cell v := q; cases q'⟩
    · exact ⟨_, hTI, fun v q => by have q' : Data.seq _ _ = Data.cell v := q; cases q'⟩
    · exact ⟨_, hTO, fun v q => by have q' : Data.seq _ _ = Data.cell v := q; cases q'⟩
    · exact ⟨o1, e1, fun v q => by rw [d1] at q; cases q⟩
    · exact ⟨o2, e2, fun v q => by rw [d2] at q; cases q⟩
  keep := fun i h h' st k => by
    obtain ⟨⟨f0, f1, hz, h0⟩, hTI, ⟨a, b, hTO⟩, h1, h2⟩ := st
    exact ⟨⟨f0, f1, k z (by simp) _ hz, h0⟩, k TI (by simp) _ hTI, ⟨a, b, k TO (by simp) _ hTO⟩, h1.at fun o e => k i1 (by simp) o e, h2.at fun o e => k i2 (by simp) o e⟩
  item := by
    intro X hP hw hK hc i pins s σ H E I hf st hg
    subst hP hw hK
    obtain ⟨⟨f0, f1, hz, h0⟩, hTI, ⟨a, b, hTO⟩, h1, h2⟩ := st
    obtain ⟨xs, ys, x, y, hq1, hq2, hx, hy⟩ := hg
    obtain ⟨its1, rv1, pl1, hz1⟩ := I.list hq1
    obtain ⟨its2, rv2, pl2, hz2⟩ := I.list hq2
    obtain ⟨u1, hu1, ru1⟩ := rv1.get hx
    obtain ⟨u2, hu2, ru2⟩ := rv2.get hy
    have hl1 := pl1.isList
    have hl2 := pl2.isList
    obtain ⟨o1, e1, c1, _⟩ := id hl1
    obtain ⟨o2, e2, c2, _⟩ := id hl2
    obtain ⟨oi1, ei1, ci1, _⟩ := id h1
    obtain ⟨oi2, ei2, ci2, _⟩ := id h2
    have D : ZipApart z TI TO i1 i2 l1 l2 := ⟨Z.TIz, Z.TOz, Z.i1z, Z.i2z, Z.TITO, Z.TIi1, Z.TIi2, Z.TOi1, Z.TOi2, Z.i12,
      ne_cls' e1 hz c1 rfl (by decide), ne_cls' e1 hTO c1 rfl (by decide), ne_cls' e1 ei1 c1 ci1 (by decide), ne_cls' e1 ei2 c1 ci2 (by decide),
      ne_cls' e2 hz c2 rfl (by decide), ne_cls' e2 hTO c2 rfl (by decide), ne_cls' e2 ei1 c2 ci1 (by decide), ne_cls' e2 ei2 c2 ci2 (by decide)⟩
    have hT : s.TypeIs (.ref z) "zip" := ⟨_, hz, rfl⟩
    unfold pyNext
    refine wpAny_bind (wpAny_attempt (wpAny_callSpecial?_slot (name := Str.ofString "__next__") hT F.slot_zip_next
      (wpAny_call_entry F.slot_zip_next hT F.entry_zip_next (zip_next_itemG D hz h0 hTI hTO h1 h2 hl1 hl2 (x := u1) (y := u2) (by simpa using hu1) (by simpa using hu2) fun h' f0' f1' hz' h0' hTO' h1' h2' hT' hk => wpAny_pure ?_) (F.args_zip_next_1 _))))
    refine ⟨_, rfl, ?_⟩
    refine letgo_zipG (s := { s with heap := h' }) hz' h0' fun h3 f3 hz3 h03 hs3 => ?_
    replace hs3 : Heap.SameBut z h' h3 := hs3
    have hzlt : z < s.heap.objs.size := Heap.lt_size hz
    have hk3 : ∀ b o, b ∉ [z, TI, TO, i1, i2] → s.heap.get? b = some o → h3.get? b = some o := fun b o hb q => by
      have hb' : b ≠ z ∧ b ≠ TI ∧ b ≠ TO ∧ b ≠ i1 ∧ b ≠ i2 := by simpa using hb
      exact hs3.extBut b o hb'.1 (hk b o hb'.1 hb'.2.2.1 hb'.2.2.2.1 hb'.2.2.2.2 q)
    have hTI3 : IsPair h3 TI (.ref i1) (.ref i2) := hs3.extBut _ _ Z.TIz (hk _ _ Z.TIz Z.TITO Z.TIi1 Z.TIi2 hTI)
    obtain ⟨a3, b3, hTO3⟩ := hTO'
    have ht3 : IsTup h3 s.heap.objs.size [u1, u2].toArray := ⟨_, hs3.extBut _ _ (Nat.ne_of_gt hzlt) hT', rfl, _, rfl⟩
    have I3 : Inv X pins σ (upd H s.heap.objs.size (.tup [x, y])) { s with heap := h3 } :=
      I.turnT (t' := s.toks) hf hk3 (fun b o hb q => by
        have hb' : b = z ∨ b = TI ∨ b = TO ∨ b = i1 ∨ b = i2 := by simpa using hb
        rcases hb' with rfl | rfl | rfl | rfl | rfl
        · exact ⟨_, hz3⟩
        · exact ⟨_, hTI3⟩
        · exact ⟨_, hs3.extBut _ _ Z.TOz hTO3⟩
        · obtain ⟨o', q', _⟩ := h1'.extBut hs3.extBut Z.i1z; exact ⟨o', q'⟩
        · obtain ⟨o', q', _⟩ := h2'.extBut hs3.extBut Z.i2z; exact ⟨o', q'⟩) (Nat.le_refl _) ht3 (.cons ru1 (.cons ru2 .nil)) (by show 2 ≤ sizeLine; decide)
    refine ⟨.ref s.heap.objs.size, _, I3, rfl, ⟨s.heap.objs.size, x, y, I.fresh, rfl, rfl, fun zs hy => by rw [I.list_inj hy hq1]; exact hx, fun zs hy' => by rw [I.list_inj hy' hq2]; exact hy⟩,
      ⟨⟨f3, f1', hz3, h03⟩, hTI3, ⟨a3, b3, hs3.extBut _ _ Z.TOz hTO3⟩, h1'.extBut hs3.extBut Z.i1z, h2'.extBut hs3.extBut Z.i2z⟩, fun b hb => ?_⟩
    have hbl : b < s.heap.objs.size := by
      have hb' : b = z ∨ b = TI ∨ b = TO ∨ b = i1 ∨ b = i2 := by simpa using hb
      rcases hb' with rfl | rfl | rfl | rfl | rfl
      · exact hzlt
      · exact Heap.lt_size hTI
      · exact Heap.lt_size hTO
      · exact Heap.lt_size ei1
      · exact Heap.lt_size ei2
    rw [upd_ne (Nat.ne_of_lt hbl)]
    exact (hf b hb).1
  done := by
    intro X hP hw hK hc i pins s σ H E I hf st hg
    subst hP hw hK
    obtain ⟨⟨f0, f1, hz, h0⟩, hTI, ⟨a, b, hTO⟩, h1, h2⟩ := st
    obtain ⟨xs, hq, hx⟩ := hg
    obtain ⟨its, rv, pl, hzz⟩ := I.list hq
    have hl := rv.length
    obtain ⟨o1, e1, c1, _⟩ := id pl.isList
    refine zip_next_endG (I.ok.hd hc) Z.TIz Z.i1z (ne_cls' e1 hz c1 rfl (by decide)) hz h0 hTI h1 pl.isList (by simp; omega) fun h' eb => ⟨rfl, I.turns (t' := s.toks) hf fun b o hb q => eb b o (fun e => hb (by simp [e])) (fun e => hb (by simp [e])) q⟩
  self := fun _ _ _ _ _ st h => by
    obtain ⟨⟨f0, f1, hz, h0⟩, _⟩ := st
    have hT : Shared.TypeIs _ (.ref z) "zip" := ⟨_, hz, rfl⟩
    refine wpAny_pyIter_slot hT F.slot_zip_iter (wpAny_call_entry F.slot_zip_iter hT F.entry_zip_iter ?_ (F.args_zip_iter_1 _))
    show wpAny _ _ (ret (.ref z)) _ _ _
    exact wpAny_pure ⟨_, rfl, "zip", _, hT, F.slot_zip_next.lookup, h⟩
section
variable {X : Cx} {tg : Expr}
theorem boot_zip : bootBuiltins "zip" = some (.type "zip") := by decide +kernel
def iZip (K : PySem.W.Frag) (ta : TA) : TI := fun σ H R => ta σ H fun vs H1 => ∃ (a b : Addr), vs = [.ref a, .ref b] ∧ (∃ xs, SqL K H1 a xs) ∧ (∃ ys, SqL K H1 b ys) ∧ R (Itz K a b) H1
theorem piv_zip {a b : Expr} {ta : TA} {p pos : Pos} (hg : Gl X "zip") (hm : X.mg "zip" = none) (ha : PA X [a, b] ta) (hs : starEach [a, b] X.env = [(false, eval a X.env), (false, eval b X.env)] := by rfl) (hs2 : starEach [b] X.env = [(false, eval b X.env)] := by rfl) :
    PIV X tg (.Call (.Name "zip" p) [a, b] [] pos) (iZip X.K ta) := by
  intro pins s σ H R I h
  refine Call_ (ld_blt I hg hm boot_zip (PyProof.Rows.callWith_type1 (thn (ha pos pins s σ H _ I h) fun us s1 ⟨vs, H1, I1, r1, q1⟩ => ?_) (by rw [hs, hs2]) (by rw [hs2]; rfl)))
  obtain ⟨l1, l2, e, ⟨xs, hq1⟩, ⟨ys, hq2⟩, q⟩ := q1
  subst e
  obtain ⟨u1, u2, rfl, rx1, rx2⟩ := vals2 r1
  cases rx1; cases rx2
  obtain ⟨its1, rv1, pl1, _⟩ := I1.list hq1
  obtain ⟨its2, rv2, pl2, _⟩ := I1.list hq2
  refine call_zip_2 pl1.isList pl2.isList fun h' hz hTI hTO hi1 hi2 hsz hk => ?_
  have I2 : Inv X pins σ H1 { s1 with heap := h' } := I1.kept (t' := s1.toks) hk
  refine ⟨s1.heap.objs.size + 4, [s1.heap.objs.size + 4, s1.heap.objs.size + 2, s1.heap.objs.size + 3, s1.heap.objs.size, s1.heap.objs.size + 1], _, _, H1, rfl, I2,
    turn_zip l1 l2 _ _ _ _ _ (zap_of _), ⟨⟨_, _, hz, .inl rfl⟩, hTI, ⟨_, _, hTO⟩, hi1, hi2⟩, fun b hb => ?_, ⟨fun s' st => ?_, fun A s' Q E st h => ?_⟩, q⟩
  · have hb' : s1.heap.objs.size ≤ b := by
      have : b = s1.heap.objs.size + 4 ∨ b = s1.heap.objs.size + 2 ∨ b = s1.heap.objs.size + 3 ∨ b = s1.heap.objs.size ∨ b = s1.heap.objs.size + 1 := by simpa using hb
      rcases this with rfl | rfl | rfl | rfl | rfl
      · exact Nat.le_add_right _ _
      · exact Nat.le_add_right _ _
      · exact Nat.le_add_right _ _
      · exact Nat.le_refl _
      · exact Nat.le_add_right _ _
    exact I1.fpOk hb' (I1.hok.fresh hb')
  · obtain ⟨⟨f0, f1, hz', _⟩, _⟩ := st
    exact ⟨"zip", ⟨_, hz', rfl⟩, by decide, by decide⟩
  · obtain ⟨⟨f0, f1, hz', _⟩, _⟩ := st
    exact hint_zip ⟨_, hz', rfl⟩ h
end
end L2

namespace L2
open PySem PySem.Spec PyProof.Rows
theorem ext_set01 (σ : St) (cap : List Nat) (v u : V) : Ext (capS σ 2 cap) (((capS σ 2 cap).set 0 (some v)).set 1 (some u)) := by
  refine ⟨by simp, fun i w h => ?_⟩
  match i, h with
  | 0, h =>
    have : (capS σ 2 cap)[0]? = some none := by
      unfold capS
      rw [List.replicate_succ, List.cons_append]; rfl
    rw [this] at h; cases h
  | 1, h =>
    have : (capS σ 2 cap)[1]? = some none := by
      unfold capS
      rw [List.replicate_succ, List.cons_append, List.replicate_succ, List.cons_append]; rfl
    rw [this] at h; cases h
  | n + 2, h =>
    rw [List.getElem?_set_ne (by omega), List.getElem?_set_ne (by omega)]; exact h
/-- what a pair of names takes -/
def Pair2 (g : Fam TG) : Prop := ∀ C s H0 fp (p : Addr) (x z : V) (σ : St) (H : Hp) (Q : St → Hp → Prop), H p = some (.tup [x, z]) → Q ((σ.set 0 (some x)).set 1 (some z)) H → g C s H0 fp (.ref p) σ H Q
/-- two names over zip(xs, zs) -/
theorem lc_zip {K : PySem.W.Frag} {a b : Addr} {xs zs : List V} {σ : St} {cap : List Nat} {g : Fam TG} {te : Fam TE} {D : Addr} {H1 : Hp} {Q : VK} (hg : Pair2 g) (hz : xs.length ≤ zs.length) (Pv : Nat → Hp → List V → Prop) (h0 : Pv 0 (upd H1 D (.lst [])) [])
    (hl : ∀ i H ys, i ≤ xs.length → Pv i H ys → SqL K H a xs ∧ SqL K H b zs ∧ H D = some (.lst ys))
    (hs : ∀ i x z p H ys, xs[i]? = some x → zs[i]? = some z → Pv i H ys → H p = none → ∀ C s H0 fp, te C s H0 fp (((capS σ 2 cap).set 0 (some x)).set 1 (some z)) (upd H p (.tup [x, z])) fun y H6 => H6 D = some (.lst ys) ∧ ys.length < sizeLine ∧ Pv (i + 1) (upd H6 D (.lst (ys ++ [y]))) (ys ++ [y]))
    (hd : ∀ H ys, Pv xs.length H ys → Q (.ref D) H) : LcGoal (Itz K a b) (capS σ 2 cap) g tA te D H1 Q := by
  unfold LcGoal
  refine ⟨xs.length, fun i H ys => i ≤ xs.length ∧ Pv i H ys, ⟨Nat.zero_le _, h0⟩, ?_⟩
  rintro i H2 ys ⟨hi, p⟩
  obtain ⟨q1, q2, hD⟩ := hl i H2 ys hi p
  refine ⟨hi, hD, ?_⟩
  by_cases hlt : i < xs.length
  · have hlt2 : i < zs.length := by omega
    refine .inr ⟨hlt, ⟨xs, zs, xs[i], zs[i], q1, q2, by simp [hlt], by simp [hlt2]⟩, fun C s H0 fp v H3 y => ?_⟩
    obtain ⟨pp, x, z, hn, e1, e2, y1, y2⟩ := y
    subst e1 e2
    refine hg C s H0 fp pp x z _ _ _ upd_same ⟨ext_set01 σ cap x z, ?_⟩
    show tAlw _ _ _
    unfold tAlw
    dsimp only
    rw [if_pos rfl]
    have := hs i x z pp H2 ys (y1 xs q1) (y2 zs q2) p hn C s H0 fp
    have e : (fun (y : V) (H6 : Hp) => H6 D = some (HO.lst ys) ∧ ys.length < sizeLine ∧ (i + 1 ≤ xs.length ∧ Pv (i + 1) (upd H6 D (.lst (ys ++ [y]))) (ys ++ [y]))) = fun y H6 => H6 D = some (.lst ys) ∧ ys.length < sizeLine ∧ Pv (i + 1) (upd H6 D (.lst (ys ++ [y]))) (ys ++ [y]) := by
      funext y H6
      exact propext ⟨fun ⟨a, b, _, c⟩ => ⟨a, b, c⟩, fun ⟨a, b, c⟩ => ⟨a, b, hlt, c⟩⟩
    rw [e]
    exact this
  · have e : i = xs.length := by omega
    subst e
    exact .inl ⟨⟨xs, q1, Nat.le_refl _⟩, hd H2 ys p⟩
/-- two names over enumerate(xs) -/
theorem lc_enum {K : PySem.W.Frag} {a : Addr} {xs : List V} {σ : St} {cap : List Nat} {g : Fam TG} {te : Fam TE} {D : Addr} {H1 : Hp} {Q : VK} (hg : Pair2 g) (Pv : Nat → Hp → List V → Prop) (h0 : Pv 0 (upd H1 D (.lst [])) [])
    (hl : ∀ i H ys, i ≤ xs.length → Pv i H ys → SqL K H a xs ∧ H D = some (.lst ys))
    (hs : ∀ i x p H ys, xs[i]? = some x → Pv i H ys → H p = none → ∀ C s H0 fp, te C s H0 fp (((capS σ 2 cap).set 0 (some (.int (i : Nat)))).set 1 (some x)) (upd H p (.tup [.int (i : Nat), x])) fun y H6 => H6 D = some (.lst ys) ∧ ys.length < sizeLine ∧ Pv (i + 1) (upd H6 D (.lst (ys ++ [y]))) (ys ++ [y]))
    (hd : ∀ H ys, Pv xs.length H ys → Q (.ref D) H) : LcGoal (Ite K a) (capS σ 2 cap) g tA te D H1 Q := by
  unfold LcGoal
  refine ⟨xs.length, fun i H ys => i ≤ xs.length ∧ Pv i H ys, ⟨Nat.zero_le _, h0⟩, ?_⟩
  rintro i H2 ys ⟨hi, p⟩
  obtain ⟨q1, hD⟩ := hl i H2 ys hi p
  refine ⟨hi, hD, ?_⟩
  by_cases hlt : i < xs.length
  · refine .inr ⟨hlt, ⟨xs, xs[i], q1, by simp [hlt]⟩, fun C s H0 fp v H3 y => ?_⟩
    obtain ⟨pp, x, hn, e1, e2, y1⟩ := y
    subst e1 e2
    refine hg C s H0 fp pp _ x _ _ _ upd_same ⟨ext_set01 σ cap _ x, ?_⟩
    show tAlw _ _ _
    unfold tAlw
    dsimp only
    rw [if_pos rfl]
    have := hs i x pp H2 ys (y1 xs q1) p hn C s H0 fp
    have e : (fun (y : V) (H6 : Hp) => H6 D = some (HO.lst ys) ∧ ys.length < sizeLine ∧ (i + 1 ≤ xs.length ∧ Pv (i + 1) (upd H6 D (.lst (ys ++ [y]))) (ys ++ [y]))) = fun y H6 => H6 D = some (.lst ys) ∧ ys.length < sizeLine ∧ Pv (i + 1) (upd H6 D (.lst (ys ++ [y]))) (ys ++ [y]) := by
      funext y H6
      exact propext ⟨fun ⟨a, b, _, c⟩ => ⟨a, b, c⟩, fun ⟨a, b, c⟩ => ⟨a, b, hlt, c⟩⟩
    rw [e]
    exact this
  · have e : i = xs.length := by omega
    subst e
    exact .inl ⟨⟨xs, q1, Nat.le_refl _⟩, hd H2 ys p⟩
/-- one name over reversed(xs), the heap untouched by the element -/
theorem lc_revP {K : PySem.W.Frag} {a : Addr} {xs : List V} {σ : St} {cap : List Nat} {te : Fam TE} {D : Addr} {H1 : Hp} {Q : VK} (f : V → V) (hD : H1 D = none) (hS : SqL K H1 a xs) (hz : xs.length ≤ sizeLine)
    (hs : ∀ (i : Nat) x ys C s H0 fp (R : VK), xs[i]? = some x → R (f x) (upd H1 D (.lst ys)) → te C s H0 fp ((capS σ 1 cap).set 0 (some x)) (upd H1 D (.lst ys)) R)
    (hq : Q (.ref D) (upd H1 D (.lst (xs.reverse.map f)))) : LcGoal (Itv K a xs.length) (capS σ 1 cap) g1 tA te D H1 Q := by
  unfold LcGoal
  refine ⟨xs.length, fun i H ys => i ≤ xs.length ∧ ys = (xs.reverse.take i).map f ∧ H = upd H1 D (.lst ys), ⟨Nat.zero_le _, by simp, rfl⟩, ?_⟩
  rintro i H2 ys ⟨hi, rfl, rfl⟩
  have q1 : SqL K (upd H1 D (.lst ((xs.reverse.take i).map f))) a xs := (Same.new hD _).seq hS
  refine ⟨hi, upd_same, ?_⟩
  by_cases hlt : i < xs.length
  · refine .inr ⟨hlt, ⟨hlt, xs, q1, rfl⟩, fun C s H0 fp v H3 y => ?_⟩
    obtain ⟨e1, y1⟩ := y
    subst e1
    have hx := y1 xs q1
    refine ⟨ext_set0 σ 0 cap v, ?_⟩
    show tAlw _ _ _
    unfold tAlw
    dsimp only
    rw [if_pos rfl]
    have hx' : xs.reverse[i]? = some v := by rw [List.getElem?_reverse hlt]; exact hx
    refine hs _ v _ C s H0 fp _ hx ⟨upd_same, ?_, hlt, (map_take_succ f xs.reverse i v hx').symm, upd_upd⟩
    rw [List.length_map, List.length_take, List.length_reverse]
    omega
  · have e : i = xs.length := by omega
    subst e
    rw [List.take_of_length_le (by rw [List.length_reverse]; exact Nat.le_refl _)]
    exact .inl ⟨Nat.le_refl _, hq⟩
/-- list(reversed(xs)) -/
theorem li_rev {K : PySem.W.Frag} {a : Addr} {xs : List V} {D : Addr} {H1 : Hp} {Q : VK} (hD : H1 D = none) (hS : SqL K H1 a xs) (hz : xs.length ≤ sizeLine) (hq : Q (.ref D) (upd H1 D (.lst xs.reverse))) :
    LcGoal (Itv K a xs.length) [none] (fun _ _ _ _ => gName 0) (fun _ _ _ _ => tAlw) (fun _ _ _ _ => tVar 0) D H1 Q := by
  have := lc_revP (K := K) (a := a) (xs := xs) (σ := []) (cap := []) (te := fun _ _ _ _ => tVar 0) (D := D) (H1 := H1) (Q := Q) id hD hS hz (fun i x ys C s H0 fp R hx hR => ⟨x, rfl, hR⟩) (by rw [List.map_id]; exact hq)
  exact this
/-- list(zip(xs, zs)) -/
theorem li_zip {K : PySem.W.Frag} {a b : Addr} {xs zs : List V} {D : Addr} {H1 : Hp} {Q : VK} (hD : H1 D = none) (hS : SqL K H1 a xs) (hS2 : SqL K H1 b zs) (hz : xs.length ≤ zs.length) (hz2 : xs.length ≤ sizeLine)
    (hq : ∀ (H : Hp) (ps : List Addr), Same H1 H → H D = some (.lst (ps.map V.ref)) → ps.length = xs.length → (∀ (j : Nat) (p : Addr), ps[j]? = some p → ∃ x z, xs[j]? = some x ∧ zs[j]? = some z ∧ H p = some (.tup [x, z]) ∧ H1 p = none) → Q (.ref D) H) :
    LcGoal (Itz K a b) [none] (fun _ _ _ _ => gName 0) (fun _ _ _ _ => tAlw) (fun _ _ _ _ => tVar 0) D H1 Q := by
  unfold LcGoal
  refine ⟨xs.length, fun i H ys => i ≤ xs.length ∧ Same H1 H ∧ ∃ ps : List Addr, ys = ps.map V.ref ∧ H D = some (.lst ys) ∧ ps.length = i ∧ ∀ (j : Nat) (p : Addr), ps[j]? = some p → ∃ x z, xs[j]? = some x ∧ zs[j]? = some z ∧ H p = some (.tup [x, z]) ∧ H1 p = none ∧ p ≠ D,
    ⟨Nat.zero_le _, Same.new hD _, [], rfl, upd_same, rfl, fun j p e => by simp at e⟩, ?_⟩
  rintro i H2 ys ⟨hi, s2, ps, rfl, hD2, hpl, hps⟩
  have q1 := s2.seq hS
  have q2 := s2.seq hS2
  refine ⟨hi, hD2, ?_⟩
  by_cases hlt : i < xs.length
  · have hlt2 : i < zs.length := by omega
    refine .inr ⟨hlt, ⟨xs, zs, xs[i], zs[i], q1, q2, by simp [hlt], by simp [hlt2]⟩, fun C s H0 fp v H3 y => ?_⟩
    obtain ⟨pp, x, z, hn, e1, e2, y1, y2⟩ := y
    subst e1 e2
    have hx := y1 xs q1
    have hzz := y2 zs q2
    have nD : pp ≠ D := fun e => by rw [e, hD2] at hn; cases hn
    have n1 : H1 pp = none := s2.free hn
    refine ⟨⟨by simp, fun i v h => by cases i <;> simp at h⟩, ?_⟩
    show tAlw _ _ _
    unfold tAlw
    dsimp only
    rw [if_pos rfl]
    refine ⟨.ref pp, rfl, by rw [upd_ne (Ne.symm nD)]; exact hD2, by rw [List.length_map, hpl]; omega, hlt, (s2.put n1).put hD, ps ++ [pp], by rw [List.map_append]; rfl, upd_same, by rw [List.length_append, hpl]; rfl, fun j p e => ?_⟩
    by_cases hj : j < ps.length
    · rw [List.getElem?_append_left hj] at e
      obtain ⟨x', z', a1, a2, a3, a4, a5⟩ := hps j p e
      refine ⟨x', z', a1, a2, ?_, a4, a5⟩
      rw [upd_ne a5, upd_ne (fun e => by rw [e, hn] at a3; cases a3)]
      exact a3
    · rw [List.getElem?_append_right (by omega)] at e
      have hj2 : j - ps.length = 0 := by
        cases q : j - ps.length with
        | zero => rfl
        | succ n => rw [q] at e; simp at e
      rw [hj2] at e
      have el : pp = p := by simpa using e
      subst el
      have hji : j = i := by omega
      subst hji
      exact ⟨x, z, hx, hzz, by rw [upd_ne nD, upd_same], n1, nD⟩
  · have e : i = xs.length := by omega
    subst e
    refine .inl ⟨⟨xs, q1, Nat.le_refl _⟩, hq H2 ps s2 hD2 hpl fun j p e => ?_⟩
    obtain ⟨x', z', a1, a2, a3, a4, _⟩ := hps j p e
    exact ⟨x', z', a1, a2, a3, a4⟩
end L2

namespace Sky
/-! ### who sees whom -/
end Sky

namespace Sky
/-! ### reaches -/
/-- the nearest place below n that is lower than h -/
def nlO (b : List Int) (h : Int) : Nat → Option Nat
  | 0 => none
  | n + 1 => if b.getD n 0 < h then some n else nlO b h n
theorem nlO_some {b : List Int} {h : Int} : ∀ {n j : Nat}, nlO b h n = some j → j < n ∧ b.getD j 0 < h ∧ ∀ k, j < k → k < n → h ≤ b.getD k 0
  | 0, j, e => by simp [nlO] at e
  | n + 1, j, e => by
    unfold nlO at e
    split at e
    · rename_i hc
      cases e
      exact ⟨Nat.lt_succ_self _, hc, fun k h1 h2 => by omega⟩
    · rename_i hc
      obtain ⟨a, c, d⟩ := nlO_some e
      refine ⟨by omega, c, fun k h1 h2 => ?_⟩
      by_cases hk : k = n
      · subst hk; omega
      · exact d k h1 (by omega)
theorem nlO_none {b : List Int} {h : Int} : ∀ {n : Nat}, nlO b h n = none → ∀ k, k < n → h ≤ b.getD k 0
  | 0, _, k, hk => by omega
  | n + 1, e, k, hk => by
    unfold nlO at e
    split at e
    · cases e
    · rename_i hc
      by_cases hk' : k = n
      · subst hk'; omega
      · exact nlO_none e k (by omega)
/-- the first place of the reach -/
def stN (b : List Int) (i : Nat) : Nat := match nlO b (b.getD i 0) i with
  | some j => j + 1
  | none => 0
theorem stN_le (b : List Int) (i : Nat) : stN b i ≤ i := by
  unfold stN
  split
  · rename_i j e; have := (nlO_some e).1; omega
  · omega
theorem stN_ge (b : List Int) (i k : Nat) (h1 : stN b i ≤ k) (h2 : k ≤ i) : b.getD i 0 ≤ b.getD k 0 := by
  by_cases hk : k = i
  · subst hk; exact Int.le_refl _
  · unfold stN at h1
    split at h1
    · rename_i j e; exact (nlO_some e).2.2 k (by omega) (by omega)
    · rename_i e; exact nlO_none e k (by omega)
theorem stN_low (b : List Int) (i : Nat) : stN b i = 0 ∨ b.getD (stN b i - 1) 0 < b.getD i 0 := by
  unfold stN
  split
  · rename_i j e; exact .inr (nlO_some e).2.1
  · exact .inl rfl
/-- the program's stack of places, the top first -/
def stkP (b : List Int) : Nat → List Nat
  | 0 => []
  | n + 1 => n :: (stkP b n).dropWhile fun j => decide (b.getD n 0 ≤ b.getD j 0)
theorem drop_drop {α : Type} {p q : α → Bool} (h : ∀ x, p x = true → q x = true) : ∀ l : List α, (l.dropWhile p).dropWhile q = l.dropWhile q
  | [] => rfl
  | x :: l => by
    cases hp : p x with
    | true => rw [List.dropWhile_cons, if_pos hp, drop_drop h l, List.dropWhile_cons, if_pos (h x hp)]
    | false => rw [List.dropWhile_cons (p := p), if_neg (by simp [hp])]
theorem stkP_head (b : List Int) : ∀ (n : Nat) (h : Int), ((stkP b n).dropWhile fun j => decide (h ≤ b.getD j 0)).head? = nlO b h n
  | 0, h => rfl
  | n + 1, h => by
    unfold stkP nlO
    by_cases hc : b.getD n 0 < h
    · rw [if_pos hc, List.dropWhile_cons, if_neg (fun z => by have := of_decide_eq_true z; omega)]; rfl
    · rw [if_neg hc, List.dropWhile_cons, if_pos (decide_eq_true (by omega)), drop_drop (fun x hx => decide_eq_true (by have := of_decide_eq_true hx; omega))]
      exact stkP_head b n h
theorem stkP_lt (b : List Int) : ∀ (n : Nat) (j : Nat), j ∈ stkP b n → j < n
  | 0, j, h => by simp [stkP] at h
  | n + 1, j, h => by
    unfold stkP at h
    rcases List.mem_cons.mp h with rfl | h
    · omega
    · have := stkP_lt b n j ((List.dropWhile_sublist _).subset h)
      omega
theorem stkP_length (b : List Int) : ∀ n : Nat, (stkP b n).length ≤ n
  | 0 => Nat.le_refl _
  | n + 1 => by
    unfold stkP
    have h1 := stkP_length b n
    have h2 : ((stkP b n).dropWhile fun j => decide (b.getD n 0 ≤ b.getD j 0)).length ≤ (stkP b n).length := (List.dropWhile_sublist _).length_le
    simp only [List.length_cons]; omega
def starts (b : List Int) : List Int := (List.range b.length).map fun i => ((stN b i : Nat) : Int)
theorem starts_length (b : List Int) : (starts b).length = b.length := by simp [starts]
theorem starts_take {b : List Int} {i : Nat} (hi : i < b.length) : (starts b).take (i + 1) = (starts b).take i ++ [((stN b i : Nat) : Int)] := by
  rw [List.take_add_one]
  congr 1
  unfold starts
  rw [List.getElem?_map, List.getElem?_range hi]; rfl
theorem stN_nil {b : List Int} {i : Nat} (h : ([] : List Nat) = (stkP b i).dropWhile fun j => decide (b.getD i 0 ≤ b.getD j 0)) : stN b i = 0 := by
  have := stkP_head b i (b.getD i 0)
  rw [← h] at this
  unfold stN
  rw [← this]; rfl
theorem stN_cons {b : List Int} {i j : Nat} {t : List Nat} (h : j :: t = (stkP b i).dropWhile fun j => decide (b.getD i 0 ≤ b.getD j 0)) : stN b i = j + 1 := by
  have := stkP_head b i (b.getD i 0)
  rw [← h] at this
  unfold stN
  rw [← this]; rfl
/-- the last place of the reach, by the mirrored row -/
def enN (b : List Int) (i : Nat) : Nat := b.length - 1 - stN b.reverse (b.length - 1 - i)
def ends (b : List Int) : List Int := (List.range b.length).map fun i => ((enN b i : Nat) : Int)
theorem ends_length (b : List Int) : (ends b).length = b.length := by simp [ends]
theorem ends_eq (b : List Int) : (starts b.reverse).reverse.map (fun s => ((b.length : Int) - 1) - s) = ends b := by
  apply List.ext_getElem?
  intro i
  rw [List.getElem?_map]
  by_cases hi : i < b.length
  · rw [List.getElem?_reverse (by rw [starts_length, List.length_reverse]; exact hi), starts_length, List.length_reverse]
    unfold starts ends
    rw [List.getElem?_map, List.getElem?_map, List.length_reverse, List.getElem?_range (by omega), List.getElem?_range hi]
    have := stN_le b.reverse (b.length - 1 - i)
    simp only [Option.map_some, Option.some.injEq]
    unfold enN
    omega
  · rw [List.getElem?_eq_none (by rw [List.length_reverse, starts_length, List.length_reverse]; omega), List.getElem?_eq_none (by rw [ends_length]; omega)]; rfl
def reachP (b : List Int) : List (Int × Int) := (List.range b.length).map fun i => (((stN b i : Nat) : Int), ((enN b i : Nat) : Int))
theorem reachP_length (b : List Int) : (reachP b).length = b.length := by simp [reachP]
theorem reachP_get {b : List Int} {i : Nat} (hi : i < b.length) : (reachP b)[i]? = some (((stN b i : Nat) : Int), ((enN b i : Nat) : Int)) := by
  unfold reachP
  rw [List.getElem?_map, List.getElem?_range hi]; rfl
/-! ### boards -/
end Sky

namespace Sky
open PySem L2
/-- the built-in names that the text leaves as they are -/
structure Blt (mg : Str → Option Value) : Prop where
  isinstance : mg "isinstance" = none
  int : mg "int" = none
  bool : mg "bool" = none
  list : mg "list" = none
  len : mg "len" = none
  range : mg "range" = none
  enumerate : mg "enumerate" = none
  reversed : mg "reversed" = none
  min : mg "min" = none
  max : mg "max" = none
  sum : mg "sum" = none
  all : mg "all" = none
  sorted : mg "sorted" = none
  zip : mg "zip" = none
  any : mg "any" = none
  tuple : mg "tuple" = none
def Hi (mg : Str → Option Value) : Prop := ∃ t, mg "HIGHEST" = some (.int 10000000 t)
theorem atI_mapM {xs : List Int} {i : Nat} (hi : i < xs.length) : atI (xs.map V.int) (i : Int) = some (V.int (xs.getD i 0)) := by
  refine atI_nat ?_
  rw [List.getElem?_map, List.getD_eq_getElem?_getD, List.getElem?_eq_getElem hi]; rfl
theorem boot_isinst' : bootBuiltins "isinstance" = some (.builtin "isinstance") := by decide +kernel
theorem boot_all' : bootBuiltins "all" = some (.builtin "all") := by decide +kernel
theorem boot_sum' : bootBuiltins "sum" = some (.builtin "sum") := by decide +kernel
theorem boot_int' : bootBuiltins "int" = some (.type "int") := by decide +kernel
theorem boot_bool' : bootBuiltins "bool" = some (.type "bool") := by decide +kernel
theorem boot_list' : bootBuiltins "list" = some (.type "list") := by decide +kernel
theorem kit_ii (K : PySem.W.Frag) : PySem.W.kitOne K (.type "int") (.type "int") = some true := by rfl
theorem kit_ib (K : PySem.W.Frag) : PySem.W.kitOne K (.type "int") (.type "bool") = some false := by with_unfolding_all rfl
theorem kit_ll (K : PySem.W.Frag) : PySem.W.kitOne K (.type "list") (.type "list") = some true := by rfl
theorem kit_bb (K : PySem.W.Frag) : PySem.W.kitOne K (.type "bool") (.type "bool") = some true := by rfl
def Hts (ns : List Int) : Prop := ns.length ≤ 100 ∧ ∀ x ∈ ns, 0 ≤ x ∧ x ≤ 10000000
/-- a new list of ints comes back, nothing else is touched -/
def newL (H : Hp) (Q : VK) (ns : List Int) : Prop := ∀ (l : Addr) (H' : Hp), H l = none → Same H H' → IL H' l ns → Q (.ref l) H'
abbrev cst (st : List Nat) : List Int := st.map fun (j : Nat) => (j : Int)
/-- a list of pairs of ints at l -/
def TL (H : Hp) (l : Addr) (prs : List (Int × Int)) : Prop := ∃ ps : List Addr, H l = some (.lst (ps.map V.ref)) ∧ ps.length = prs.length ∧ ∀ (j : Nat) (p : Addr), ps[j]? = some p → ∃ q, prs[j]? = some q ∧ H p = some (.tup [.int q.1, .int q.2])
theorem TL.same {H H' : Hp} {l : Addr} {prs : List (Int × Int)} (h : TL H l prs) (s : Same H H') : TL H' l prs := by
  obtain ⟨ps, a, b, c⟩ := h
  exact ⟨ps, s _ _ a, b, fun j p e => by obtain ⟨q, c1, c2⟩ := c j p e; exact ⟨q, c1, s _ _ c2⟩⟩
def newTL (H : Hp) (Q : VK) (prs : List (Int × Int)) : Prop := ∀ (l : Addr) (H' : Hp), H l = none → Same H H' → TL H' l prs → Q (.ref l) H'
/-! ### what the defs promise -/
def spWithin : Sp := fun vs H Q _ => ∃ i lo hi : Int, vs = [.int i, .int lo, .int hi] ∧ Q (.bl (decide (lo ≤ i ∧ i ≤ hi))) H
def spChk : Sp := fun vs H Q _ => ∃ (a : Addr) (xs : List Int), vs = [.ref a] ∧ IL H a xs ∧ Hts xs ∧ ∀ H', Same H H' → Q .non H'
def spStarts : Sp := fun vs H Q _ => ∃ (a : Addr) (xs : List Int), vs = [.ref a] ∧ IL H a xs ∧ xs.length ≤ 100 ∧ newL H Q (starts xs)
def spTurned : Sp := fun vs H Q _ => ∃ (a : Addr) (xs : List Int), vs = [.ref a] ∧ IL H a xs ∧ xs.length ≤ 100 ∧ newL H Q (xs.reverse.map fun s => ((xs.length : Int) - 1) - s)
def spEnds : Sp := fun vs H Q _ => ∃ (a : Addr) (xs : List Int), vs = [.ref a] ∧ IL H a xs ∧ xs.length ≤ 100 ∧ newL H Q (ends xs)
def spReach : Sp := fun vs H Q _ => ∃ (a : Addr) (xs : List Int), vs = [.ref a] ∧ IL H a xs ∧ Hts xs ∧ newTL H Q (reachP xs)
def spLaw (K : PySem.W.Frag) : Sp := fun vs H Q _ => ∃ (a : Addr) (ns : List Int), vs = [.ref a] ∧ SqL K H a (ns.map V.int) ∧ ns.length ≤ 63 ∧ ∀ H', Q (.bl true) H'
/-- a def of the text as the top has left it -/
structure DefIn (K : PySem.W.Frag) (x : Str) (st : Stmt) (f : Addr) : Prop where
  ns : PySem.W.nsIn K mainGlobals x = some (some (.ref f))
  fn : ∃ fd, Fun K x x st f fd
theorem def_mk {K : PySem.W.Frag} {x : Str} {st : Stmt} {f : Addr} {oc : Value} {od an : Option Addr} {osl : Array (Option Value)} {kV doc pm cdv ct : Value} (a : PySem.W.nsIn K mainGlobals x = some (some (.ref f)))
    (l : K.lookup f = some ⟨oc, od, .func (PySem.W.fnOf x x (defArgs st) (defBody st) (defScope st) .none kV doc pm an cdv ct), osl⟩) (c : PySem.W.codeIn K cdv x = true) (k : PySem.W.keepIn K (.ref f) = true) : DefIn K x st f := ⟨a, _, fun_mk l c k⟩
/-- the promise of the law by its walk -/
theorem walk (k : Nat) {l : PySem.W.OpenLaw} {q : Program} {loose : List Str} {XP : (Str → Option Value) → Heap → Prop} {YP : World → Heap → Prop} {d : DefRec} {K : Params → PySem.W.Frag} (hr : Room k callerA) (hn : l.most = some 63) (hdf : d.params.defaults = [])
    (hY : ∀ (w : World) (h : Heap), YP w h → (K w.params).In h)
    (F : ∀ (w : World) (mg : Str → Option Value) (fa : Addr) (h : Heap), (K w.params).In h → h.Ns mainGlobals mg → mg d.name = some (.ref fa) →
      ∃ fd : FuncData, (∀ (s : Shared) (u : Value), BindsTo s fd ⟨[u], []⟩ [("_law_script", u)]) ∧ ∀ base : Heap, (K w.params).In base → base.Ns mainGlobals mg → FnOk l.prog w (K w.params) mg base CX0 k fa fd ["_law_script"] (spLaw (K w.params))) :
    PySem.W.WalkO q loose XP YP l.row.toRowW d [] (fun f vs => PySem.call f vs) :=
  L2.walk_of (n := 63) (k := k) (x := "_law_script") (CX := fun _ => CX0) (sp := fun w => spLaw (K w.params)) hn (by decide) hdf hr hY F (fun _ _ a ns hl _ hS => ⟨a, ns, rfl, hS, hl, fun _ => rfl⟩) fun _ _ _ _ _ z => z
end Sky

namespace Sky
open PySem L2
/-- an own class whose instances isinstance may be asked of -/
structure IsC (K : PySem.W.Frag) (C : Addr) : Prop where
  cl : Cls K C
  ha : PySem.W.findIn K (.ref C) "__class__" = some (some (.builtin "object.__class__"))
  hn : PySem.W.specialIn K (.builtin "object.__class__") "__get__" = some (some (.builtin "getset_descriptor.__get__"))
  htk : PySem.W.takesIn K (.builtin "object.__class__") = some true
  hm : PySem.W.mroIn K C (.type "object") = some true
theorem IsC.ty {K : PySem.W.Frag} {C a dx : Addr} {H : Hp} {fs : List (Str × V)} (c : IsC K C) (e : H a = some (.ins C dx fs)) : TyOf K H (.ref a) (.ref C) := .ins e c.cl c.ha c.hn c.htk c.hm
theorem iteD {c : Prop} {A B : Prop} [Decidable c] (hc : ¬ c) (h : B) : if decide c = true then A else B := by rw [if_neg (fun z => hc (of_decide_eq_true z))]; exact h
theorem iteE {c : Prop} {A B : Prop} [Decidable c] (hc : c) (h : A) : if decide c = true then A else B := by rw [if_pos (decide_eq_true hc)]; exact h
theorem dec_int' (i j : Int) : decide (V.int i = V.int j) = decide (i = j) := by
  by_cases e : i = j
  · subst e; simp
  · rw [decide_eq_false e, decide_eq_false (fun z => e (V.int.inj z))]
end Sky
namespace Sky
open PySem L2
/-- a method of an own class as the top has left it -/
structure MethIn (K : PySem.W.Frag) (C : Addr) (m qual : Str) (st : Stmt) (f : Addr) : Prop where
  find : PySem.W.findIn K (.ref C) m = some (some (.ref f))
  isfn : PySem.W.isFn K (.ref f) = true
  kp : PySem.W.keepIn K (.ref f) = true
  fn : ∃ fd, Fun K m qual st f fd
theorem meth_mk {K : PySem.W.Frag} {C : Addr} {m qual : Str} {st : Stmt} {f : Addr} {oc : Value} {od an : Option Addr} {osl : Array (Option Value)} {kV doc pm cdv ct : Value} (a : PySem.W.findIn K (.ref C) m = some (some (.ref f))) (i : PySem.W.isFn K (.ref f) = true)
    (l : K.lookup f = some ⟨oc, od, .func (PySem.W.fnOf m qual (defArgs st) (defBody st) (defScope st) .none kV doc pm an cdv ct), osl⟩) (c : PySem.W.codeIn K cdv qual = true) (k : PySem.W.keepIn K (.ref f) = true) : MethIn K C m qual st f := ⟨a, i, k, _, fun_mk l c k⟩
/-- what isinstance asks of an own class -/
structure ClsIn (K : PySem.W.Frag) (C : Addr) : Prop where
  pg : PySem.W.plainGet K C Str.empty = true
  hd : PySem.W.hasDictIn K C = true
  po : PySem.W.plainOver K C = true
  sa : PySem.W.findIn K (.ref C) "__setattr__" = some (some (.builtin "object.__setattr__"))
  ha : PySem.W.findIn K (.ref C) "__class__" = some (some (.builtin "object.__class__"))
  hn : PySem.W.specialIn K (.builtin "object.__class__") "__get__" = some (some (.builtin "getset_descriptor.__get__"))
  htk : PySem.W.takesIn K (.builtin "object.__class__") = some true
  hm : PySem.W.mroIn K C (.type "object") = some true
theorem ClsIn.cl {K : PySem.W.Frag} {C : Addr} (c : ClsIn K C) : Cls K C := ⟨c.pg, c.hd, c.po, c.sa⟩
theorem ClsIn.isC {K : PySem.W.Frag} {C : Addr} (c : ClsIn K C) : IsC K C := ⟨c.cl, c.ha, c.hn, c.htk, c.hm⟩
end Sky

namespace L2
open PySem PySem.Spec PyProof.Rows
/-! ### data compared: lists and tuples of ints, bools, texts, to any depth -/
mutual
inductive Dat (K : PySem.W.Frag) (H : Hp) : V → PyData → Prop where
  | non : Dat K H .non .none
  | bl (b : Bool) : Dat K H (.bl b) (.bool b)
  | int (i : Int) : Dat K H (.int i) (.int i)
  | str (x : Str) : Dat K H (.str x) (.str x)
  | lst {a : Addr} {xs : List V} {ds : List PyData} (h : SqL K H a xs) (d : DatAll K H xs ds) : Dat K H (.ref a) (.list ds)
  | tup {a : Addr} {xs : List V} {ds : List PyData} (h : SqT K H a xs) (d : DatAll K H xs ds) : Dat K H (.ref a) (.tuple ds)
inductive DatAll (K : PySem.W.Frag) (H : Hp) : List V → List PyData → Prop where
  | nil : DatAll K H [] []
  | cons {x : V} {d : PyData} {xs : List V} {ds : List PyData} (h : Dat K H x d) (t : DatAll K H xs ds) : DatAll K H (x :: xs) (d :: ds)
end
section
variable {X : Cx} {pins : List (Addr × Obj)} {σ : St} {H : Hp} {s : Shared}
mutual
theorem Dat.reads (I : Inv X pins σ H s) : ∀ {x : V} {d : PyData} {u : Value}, Dat X.K H x d → RelV x u → ∃ as, Reads s.heap u d as
  | _, _, _, .non, r => by cases r; exact ⟨_, .none⟩
  | _, _, _, .bl b, r => by cases r; exact ⟨_, .bool b⟩
  | _, _, _, .int i, r => by obtain ⟨t, rfl⟩ := r; exact ⟨_, .int i t⟩
  | _, _, _, .str z, r => by obtain ⟨t, rfl⟩ := r; exact ⟨_, .str z t⟩
  | _, _, _, .lst h d, r => by
    cases r
    obtain ⟨its, rv, pl, _⟩ := I.list h
    obtain ⟨as, ra⟩ := DatAll.reads I d rv
    obtain ⟨o, ho, hc, n, hd⟩ := id pl.isList
    exact ⟨_, .list ho hc hd ra⟩
  | _, _, _, .tup h d, r => by
    cases r
    obtain ⟨its, rv, pl, _⟩ := I.tuple h
    obtain ⟨as, ra⟩ := DatAll.reads I d rv
    obtain ⟨o, ho, hc, n, hd⟩ := id pl
    exact ⟨_, .tuple ho hc hd ra⟩
theorem DatAll.reads (I : Inv X pins σ H s) : ∀ {xs : List V} {ds : List PyData} {us : List Value}, DatAll X.K H xs ds → Vals xs us → ∃ as, ReadsAll s.heap us ds as
  | _, _, _, .nil, r => by cases r; exact ⟨_, .nil⟩
  | _, _, _, .cons h t, r => by
    cases r with
    | cons r1 r2 =>
      obtain ⟨as, ra⟩ := Dat.reads I h r1
      obtain ⟨bs, rb⟩ := DatAll.reads I t r2
      exact ⟨_, .cons ra rb⟩
end
/-- x == y, x != y of data of one plain shape -/
def rEqD (K : PySem.W.Frag) (neg : Bool) : R2 := fun x y H Q => ∃ (d e : PyData) (S : Shape), Dat K H x d ∧ Dat K H y e ∧ SeqAt.plainShape S = true ∧ S.has d = true ∧ S.has e = true ∧ SeqAt.shaped d = true ∧ SeqAt.shaped e = true ∧
  Q (.bl (if neg then !PySem.Spec.same d e else PySem.Spec.same d e)) H
theorem op_eqD {X : Cx} (hu : X.A.units + 64 < cLine) : OpR X (compareOp .Eq) (rEqD X.K false) := by
  intro pins s σ H x y v u Q I rx ry h
  obtain ⟨d, e, S, hd, he, hp, h1, h2, h3, h4, q⟩ := h
  obtain ⟨as, ra⟩ := hd.reads I rx
  obtain ⟨bs, rb⟩ := he.reads I ry
  exact eq_dataH_same ra rb h3 h4 hu (SeqAt.noMix_of_shape S hp _ _ h1 h2) ⟨.bl (PySem.Spec.same d e), H, I, rfl, q⟩
theorem op_neD {X : Cx} (hu : X.A.units + 64 < cLine) : OpR X (compareOp .NotEq) (rEqD X.K true) := by
  intro pins s σ H x y v u Q I rx ry h
  obtain ⟨d, e, S, hd, he, hp, h1, h2, h3, h4, q⟩ := h
  obtain ⟨as, ra⟩ := hd.reads I rx
  obtain ⟨bs, rb⟩ := he.reads I ry
  exact ne_dataH_same ra rb h3 h4 hu (SeqAt.noMix_of_shape S hp _ _ h1 h2) ⟨.bl (!PySem.Spec.same d e), H, I, rfl, q⟩
end
/-! ### lists of pairs -/
def prD (p : Int × Int) : PyData := .tuple [.int p.1, .int p.2]
theorem prD_lay : ∀ ps : List (Int × Int), PyData.canLayAll0 (ps.map prD) = true
  | [] => rfl
  | _ :: r => by simp [PyData.canLayAll0, PyData.canLay0, prD, prD_lay r]
theorem prD_deep : ∀ ps : List (Int × Int), PyData.depthAll (ps.map prD) ≤ 1
  | [] => by simp [PyData.depthAll]
  | _ :: r => by
    have := prD_deep r
    simp [PyData.depthAll, PyData.depth, prD]
    omega
theorem prD_shaped (ps : List (Int × Int)) : SeqAt.shaped (.list (ps.map prD)) = true := by
  have := prD_deep ps
  simp [SeqAt.shaped, PyData.canLay0, PyData.depth, prD_lay]
  omega
theorem prD_same : ∀ ps qs : List (Int × Int), PySem.Spec.sameAll (ps.map prD) (qs.map prD) = decide (ps = qs)
  | [], [] => by simp [PySem.Spec.sameAll]
  | [], _ :: _ => by simp [PySem.Spec.sameAll]
  | _ :: _, [] => by simp [PySem.Spec.sameAll]
  | (a, b) :: r, (c, d) :: t => by
    simp only [List.map_cons, PySem.Spec.sameAll, prD_same r t]
    simp only [prD, PySem.Spec.same, PySem.Spec.sameAll]
    by_cases h : a = c <;> by_cases h' : b = d <;> by_cases h'' : r = t <;> simp [h, h', h'']
theorem prD_has (ps : List (Int × Int)) : (Shape.list (.tuple [.int, .int])).has (.list (ps.map prD)) = true := by
  simp [Shape.has, prD, Shape.hasAll]
/-- a list of pairs of ints at l -/
def TP2 (K : PySem.W.Frag) (H : Hp) (l : Addr) (prs : List (Int × Int)) : Prop := ∃ ps : List Addr, SqL K H l (ps.map V.ref) ∧ ps.length = prs.length ∧ ∀ (j : Nat) (p : Addr), ps[j]? = some p → ∃ q, prs[j]? = some q ∧ SqT K H p [.int q.1, .int q.2]
theorem datAll_pairs {K : PySem.W.Frag} {H : Hp} : ∀ {ps : List Addr} {prs : List (Int × Int)}, ps.length = prs.length → (∀ (j : Nat) (p : Addr), ps[j]? = some p → ∃ q, prs[j]? = some q ∧ SqT K H p [.int q.1, .int q.2]) → DatAll K H (ps.map V.ref) (prs.map prD)
  | [], [], _, _ => .nil
  | [], _ :: _, h, _ => by simp at h
  | _ :: _, [], h, _ => by simp at h
  | p :: ps, q :: prs, hl, h => by
    obtain ⟨q', e, hq⟩ := h 0 p rfl
    cases Option.some.inj (show some q = some q' from e)
    exact .cons (.tup hq (.cons (.int _) (.cons (.int _) .nil))) (datAll_pairs (by simpa using hl) fun j p' e => h (j + 1) p' e)
theorem TP2.dat {K : PySem.W.Frag} {H : Hp} {l : Addr} {prs : List (Int × Int)} (h : TP2 K H l prs) : Dat K H (.ref l) (.list (prs.map prD)) := by
  obtain ⟨ps, h1, h2, h3⟩ := h
  exact .lst h1 (datAll_pairs h2 h3)
def rEqP (K : PySem.W.Frag) (neg : Bool) : R2 := fun x y H Q => ∃ (a b : Addr) (ps qs : List (Int × Int)), x = .ref a ∧ y = .ref b ∧ TP2 K H a ps ∧ TP2 K H b qs ∧ Q (.bl (if neg then !decide (ps = qs) else decide (ps = qs))) H
theorem op_eqP {X : Cx} (hu : X.A.units + 64 < cLine) : OpR X (compareOp .Eq) (rEqP X.K false) := by
  intro pins s σ H x y v u Q I rx ry h
  obtain ⟨a, b, ps, qs, rfl, rfl, ha, hb, q⟩ := h
  refine op_eqD hu pins s σ H _ _ v u Q I rx ry ⟨_, _, .list (.tuple [.int, .int]), ha.dat, hb.dat, rfl, prD_has ps, prD_has qs, prD_shaped ps, prD_shaped qs, ?_⟩
  rw [show PySem.Spec.same (.list (ps.map prD)) (.list (qs.map prD)) = decide (ps = qs) by rw [PySem.Spec.same]; exact prD_same ps qs]
  exact q
theorem op_neP {X : Cx} (hu : X.A.units + 64 < cLine) : OpR X (compareOp .NotEq) (rEqP X.K true) := by
  intro pins s σ H x y v u Q I rx ry h
  obtain ⟨a, b, ps, qs, rfl, rfl, ha, hb, q⟩ := h
  refine op_neD hu pins s σ H _ _ v u Q I rx ry ⟨_, _, .list (.tuple [.int, .int]), ha.dat, hb.dat, rfl, prD_has ps, prD_has qs, prD_shaped ps, prD_shaped qs, ?_⟩
  rw [show PySem.Spec.same (.list (ps.map prD)) (.list (qs.map prD)) = decide (ps = qs) by rw [PySem.Spec.same]; exact prD_same ps qs]
  exact q
/-! ### comprehensions with a test -/
end L2

namespace L2
open PySem PySem.Spec PyProof.Rows
/-! ### max(xs, default = d) -/
section
variable {prog : Program} {w : World} {A : Around}
variable {R : Result → Shared → Prop} {I : Addr} {fp wr : List Addr} {n : Nat} {P : Nat → Value → Prop} {St : Nat → Heap → Prop} {kw : List (Str × Value)}
end
section
variable {X : Cx} {pins : List (Addr × Obj)} {σ : St} {H : Hp} {s : Shared}
end
section
variable {X : Cx}
end
end L2

namespace L2
open PySem PySem.Spec PyProof.Rows
/-! ### lists of new pairs, one by one -/
/-- two names over a list of pairs -/
theorem lc_list2 {K : PySem.W.Frag} {a : Addr} {ps : List Addr} {σ : St} {cap : List Nat} {g : Fam TG} {te : Fam TE} {D : Addr} {H1 : Hp} {Q : VK} (hg : Pair2 g) (Pv : Nat → Hp → List V → Prop) (h0 : Pv 0 (upd H1 D (.lst [])) [])
    (hl : ∀ i H ys, i ≤ ps.length → Pv i H ys → SqL K H a (ps.map V.ref) ∧ H D = some (.lst ys))
    (hs : ∀ i p H ys, ps[i]? = some p → Pv i H ys → ∃ x z, H p = some (.tup [x, z]) ∧ ∀ C s H0 fp, te C s H0 fp (((capS σ 2 cap).set 0 (some x)).set 1 (some z)) H fun y H6 => H6 D = some (.lst ys) ∧ ys.length < sizeLine ∧ (i + 1 ≤ ps.length ∧ Pv (i + 1) (upd H6 D (.lst (ys ++ [y]))) (ys ++ [y])))
    (hd : ∀ H ys, Pv ps.length H ys → Q (.ref D) H) : LcGoal (Itl K a) (capS σ 2 cap) g tA te D H1 Q := by
  unfold LcGoal
  refine ⟨ps.length, fun i H ys => i ≤ ps.length ∧ Pv i H ys, ⟨Nat.zero_le _, h0⟩, ?_⟩
  rintro i H2 ys ⟨hi, p⟩
  obtain ⟨q, hD⟩ := hl i H2 ys hi p
  refine ⟨hi, hD, ?_⟩
  by_cases hlt : i < ps.length
  · refine .inr ⟨hlt, ⟨_, V.ref ps[i], q, by rw [List.getElem?_map, List.getElem?_eq_getElem hlt]; rfl⟩, fun C s H0 fp v H3 y => ?_⟩
    obtain ⟨e, y⟩ := y
    subst e
    have hy := y _ q
    rw [List.getElem?_map, List.getElem?_eq_getElem hlt] at hy
    cases Option.some.inj hy
    obtain ⟨x, z, hp, ht⟩ := hs i ps[i] H3 ys (List.getElem?_eq_getElem hlt) p
    refine hg C s H0 fp _ x z _ _ _ hp ⟨ext_set01 σ cap x z, ?_⟩
    show tAlw _ _ _
    unfold tAlw
    dsimp only
    rw [if_pos rfl]
    exact ht C s H0 fp
  · have e : i = ps.length := by omega
    subst e
    exact .inl ⟨⟨_, q, by rw [List.length_map]; exact Nat.le_refl _⟩, hd H2 ys p⟩
end L2

namespace Sky
/-! ### links, shown bars, reaches told backwards -/
def linksL (b : List Int) : List Int := (starts b).map fun s => s - 1
theorem linksL_length (b : List Int) : (linksL b).length = b.length := by simp [linksL, starts_length]
end Sky

namespace Sky
open PySem L2
theorem TL.tp {K : PySem.W.Frag} {H : Hp} {l : Addr} {prs : List (Int × Int)} (h : TL H l prs) : TP2 K H l prs := by
  obtain ⟨ps, a, b, c⟩ := h
  exact ⟨ps, SqL.of a, b, fun j p e => by obtain ⟨q, c1, c2⟩ := c j p e; exact ⟨q, c1, SqT.of c2⟩⟩
theorem ifT (b : Bool) : (if true = true then !b else b) = !b := by simp
theorem ifF (b : Bool) : (if false = true then !b else b) = b := by simp
theorem iteNeg {c A B : Prop} [Decidable c] (hc : c) (h : B) : if (if true = true then !decide c else decide c) = true then A else B := by rw [ifT, decide_eq_true hc]; exact iteF h
theorem atI_map' {xs : List Int} {z : Int} (i : Nat) (e : z = (i : Int)) (hi : i < xs.length) : atI (xs.map V.int) z = some (V.int (xs.getD i 0)) := by rw [e]; exact atI_mapM hi
def spNear : Sp := fun vs H Q _ => ∃ (a : Addr) (xs : List Int), vs = [.ref a] ∧ IL H a xs ∧ xs.length ≤ 100 ∧ newL H Q (linksL xs)
def spLinks : Sp := fun vs H Q _ => ∃ (a : Addr) (xs : List Int), vs = [.ref a] ∧ IL H a xs ∧ Hts xs ∧ newL H Q (linksL xs)
end Sky
namespace Sky
open PySem L2
end Sky

namespace Sky
/-! ### water -/
/-- the first of the highest bars to place i -/
def rimA (b : List Int) : Nat → Nat
  | 0 => 0
  | i + 1 => if b.getD (rimA b i) 0 < b.getD (i + 1) 0 then i + 1 else rimA b i
theorem rimA_le (b : List Int) : ∀ i, rimA b i ≤ i
  | 0 => Nat.le_refl _
  | i + 1 => by
    have := rimA_le b i
    unfold rimA
    split <;> omega
/-- the last of the highest bars from place i on -/
def rimB (b : List Int) (i : Nat) : Nat := b.length - 1 - rimA b.reverse (b.length - 1 - i)
theorem rimB_bounds {b : List Int} {i : Nat} (hi : i < b.length) : i ≤ rimB b i ∧ rimB b i < b.length := by
  have := rimA_le b.reverse (b.length - 1 - i)
  unfold rimB; omega
def rimAL (b : List Int) : List Int := (List.range b.length).map fun i => ((rimA b i : Nat) : Int)
def rimBL (b : List Int) : List Int := (List.range b.length).map fun i => ((rimB b i : Nat) : Int)
def rimsP (b : List Int) : List (Int × Int) := (List.range b.length).map fun i => (((rimA b i : Nat) : Int), ((rimB b i : Nat) : Int))
theorem rimAL_length (b : List Int) : (rimAL b).length = b.length := by simp [rimAL]
theorem rimBL_length (b : List Int) : (rimBL b).length = b.length := by simp [rimBL]
theorem rimsP_length (b : List Int) : (rimsP b).length = b.length := by simp [rimsP]
theorem rimAL_get {b : List Int} {i : Nat} (hi : i < b.length) : (rimAL b)[i]? = some ((rimA b i : Nat) : Int) := by
  unfold rimAL; rw [List.getElem?_map, List.getElem?_range hi]; rfl
theorem rimBL_get {b : List Int} {i : Nat} (hi : i < b.length) : (rimBL b)[i]? = some ((rimB b i : Nat) : Int) := by
  unfold rimBL; rw [List.getElem?_map, List.getElem?_range hi]; rfl
theorem rimsP_get {b : List Int} {i : Nat} (hi : i < b.length) : (rimsP b)[i]? = some (((rimA b i : Nat) : Int), ((rimB b i : Nat) : Int)) := by
  unfold rimsP; rw [List.getElem?_map, List.getElem?_range hi]; rfl
theorem rimAL_take {b : List Int} {i : Nat} (hi : i < b.length) : (rimAL b).take (i + 1) = (rimAL b).take i ++ [((rimA b i : Nat) : Int)] := by rw [List.take_add_one, rimAL_get hi]; rfl
theorem rimBL_eq (b : List Int) : (rimAL b.reverse).reverse.map (fun s => ((b.length : Int) - 1) - s) = rimBL b := by
  apply List.ext_getElem?
  intro i
  rw [List.getElem?_map]
  by_cases hi : i < b.length
  · rw [List.getElem?_reverse (by rw [rimAL_length, List.length_reverse]; exact hi), rimAL_length, List.length_reverse, rimAL_get (by rw [List.length_reverse]; omega), rimBL_get hi]
    have := rimA_le b.reverse (b.length - 1 - i)
    simp only [Option.map_some, Option.some.injEq]
    unfold rimB
    omega
  · rw [List.getElem?_eq_none (by rw [List.length_reverse, rimAL_length, List.length_reverse]; omega), List.getElem?_eq_none (by rw [rimBL_length]; omega)]; rfl
def lev (b : List Int) (i : Nat) : Int := min (b.getD (rimA b i) 0) (b.getD (rimB b i) 0)
def levL (b : List Int) : List Int := (List.range b.length).map (lev b)
theorem levL_length (b : List Int) : (levL b).length = b.length := by simp [levL]
theorem levL_get {b : List Int} {i : Nat} (hi : i < b.length) : (levL b)[i]? = some (lev b i) := by
  unfold levL; rw [List.getElem?_map, List.getElem?_range hi]; rfl
theorem levL_take {b : List Int} {i : Nat} (hi : i < b.length) : (levL b).take (i + 1) = (levL b).take i ++ [lev b i] := by rw [List.take_add_one, levL_get hi]; rfl
/-- how much there is -/
def watL (b : List Int) : List Int := (List.range b.length).map fun i => lev b i - b.getD i 0
theorem watL_length (b : List Int) : (watL b).length = b.length := by simp [watL]
theorem watL_get {b : List Int} {i : Nat} (hi : i < b.length) : (watL b)[i]? = some (lev b i - b.getD i 0) := by
  unfold watL; rw [List.getElem?_map, List.getElem?_range hi]; rfl
theorem watL_take {b : List Int} {i : Nat} (hi : i < b.length) : (watL b).take (i + 1) = (watL b).take i ++ [lev b i - b.getD i 0] := by rw [List.take_add_one, watL_get hi]; rfl
theorem sum_sub (f g : Nat → Int) : ∀ n : Nat, ((List.range n).map fun i => f i - g i).sum = ((List.range n).map f).sum - ((List.range n).map g).sum
  | 0 => rfl
  | n + 1 => by
    rw [List.range_succ, List.map_append, List.map_append, List.map_append, List.sum_append, List.sum_append, List.sum_append, sum_sub f g n]
    simp
    omega
theorem map_getD (b : List Int) : (List.range b.length).map (fun i => b.getD i 0) = b := by
  apply List.ext_getElem?
  intro i
  by_cases hi : i < b.length
  · rw [List.getElem?_map, List.getElem?_range hi, List.getElem?_eq_getElem hi]
    simp [List.getD_eq_getElem?_getD, List.getElem?_eq_getElem hi]
  · rw [List.getElem?_eq_none (by simp; omega), List.getElem?_eq_none (by omega)]
theorem watL_sum (b : List Int) : (watL b).sum = (levL b).sum - b.sum := by
  have h := sum_sub (lev b) (fun i => b.getD i 0) b.length
  rw [map_getD] at h
  exact h
end Sky

namespace Sky
open PySem L2
def spRimA : Sp := fun vs H Q _ => ∃ (a : Addr) (xs : List Int), vs = [.ref a] ∧ IL H a xs ∧ xs.length ≤ 100 ∧ newL H Q (rimAL xs)
def spRimB : Sp := fun vs H Q _ => ∃ (a : Addr) (xs : List Int), vs = [.ref a] ∧ IL H a xs ∧ xs.length ≤ 100 ∧ newL H Q (rimBL xs)
def spRims : Sp := fun vs H Q _ => ∃ (a : Addr) (xs : List Int), vs = [.ref a] ∧ IL H a xs ∧ Hts xs ∧ newTL H Q (rimsP xs)
def spLevels : Sp := fun vs H Q _ => ∃ (a : Addr) (xs : List Int), vs = [.ref a] ∧ IL H a xs ∧ Hts xs ∧ newL H Q (levL xs)
def spWater : Sp := fun vs H Q _ => ∃ (a : Addr) (xs : List Int), vs = [.ref a] ∧ IL H a xs ∧ Hts xs ∧ ∀ H', Same H H' → Q (.int ((levL xs).sum - xs.sum)) H'
theorem getD_get {xs : List Int} {i : Nat} (hi : i < xs.length) : xs[i]? = some (xs.getD i 0) := by
  rw [List.getD_eq_getElem?_getD, List.getElem?_eq_getElem hi]; rfl
end Sky

namespace Sky
/-! ### links and rows -/
def Valid (ls : List Int) : Prop := ∀ i, i < ls.length → -1 ≤ ls.getD i 0 ∧ ls.getD i 0 < (i : Int)
def validB (ls : List Int) : Bool := (List.range ls.length).all fun i => decide (-1 ≤ ls.getD i 0 ∧ ls.getD i 0 ≤ (i : Int) - 1)
theorem validB_of {ls : List Int} (h : Valid ls) : validB ls = true := by
  unfold validB
  rw [List.all_eq_true]
  intro i hi
  have := h i (List.mem_range.mp hi)
  exact decide_eq_true (by omega)
theorem linksL_get {b : List Int} {i : Nat} (hi : i < b.length) : (linksL b)[i]? = some (((stN b i : Nat) : Int) - 1) := by
  unfold linksL starts
  rw [List.getElem?_map, List.getElem?_map, List.getElem?_range hi]; rfl
/-- the walk from place a by links comes to b -/
inductive OnCh (ls : List Int) : Int → Int → Prop where
  | refl (a : Int) : OnCh ls a a
  | step {a b : Int} (h : 0 ≤ a) (t : OnCh ls (ls.getD a.toNat 0) b) : OnCh ls a b
/-- the bars of a list of links, as far as place n -/
def dpL (ls : List Int) : Nat → List Int
  | 0 => []
  | n + 1 => dpL ls n ++ [if 0 ≤ ls.getD n 0 then (dpL ls n).getD (ls.getD n 0).toNat 0 + 1 else 0]
theorem dpL_succ (ls : List Int) (n : Nat) : dpL ls (n + 1) = dpL ls n ++ [if 0 ≤ ls.getD n 0 then (dpL ls n).getD (ls.getD n 0).toNat 0 + 1 else 0] := rfl
theorem dpL_length (ls : List Int) : ∀ n, (dpL ls n).length = n
  | 0 => rfl
  | n + 1 => by unfold dpL; rw [List.length_append, dpL_length ls n]; rfl
theorem dpL_getD (ls : List Int) : ∀ (m n k : Nat), n ≤ m → k < n → (dpL ls m).getD k 0 = (dpL ls n).getD k 0
  | 0, n, k, h1, h2 => by omega
  | m + 1, n, k, h1, h2 => by
    by_cases hn : n = m + 1
    · rw [hn]
    · rw [← dpL_getD ls m n k (by omega) h2]
      rw [dpL_succ, List.getD_eq_getElem?_getD, List.getElem?_append_left (by rw [dpL_length]; omega), List.getD_eq_getElem?_getD]
/-- how deep -/
def dp (ls : List Int) (k : Nat) : Int := (dpL ls (k + 1)).getD k 0
theorem dpL_dp (ls : List Int) {n k : Nat} (h : k < n) : (dpL ls n).getD k 0 = dp ls k := dpL_getD ls n (k + 1) k (by omega) (by omega)
theorem dp_eq (ls : List Int) (n : Nat) : dp ls n = if 0 ≤ ls.getD n 0 then (dpL ls n).getD (ls.getD n 0).toNat 0 + 1 else 0 := by
  unfold dp
  rw [dpL_succ, List.getD_eq_getElem?_getD, List.getElem?_append_right (by rw [dpL_length]; exact Nat.le_refl _), dpL_length, Nat.sub_self]; rfl
theorem dp_link {ls : List Int} (V : Valid ls) {n : Nat} (hn : n < ls.length) : dp ls n = if 0 ≤ ls.getD n 0 then dp ls (ls.getD n 0).toNat + 1 else 0 := by
  rw [dp_eq]
  have := V n hn
  by_cases h : 0 ≤ ls.getD n 0
  · rw [if_pos h, if_pos h, dpL_dp ls (by omega)]
  · rw [if_neg h, if_neg h]
theorem dp_bounds {ls : List Int} (V : Valid ls) : ∀ (n k : Nat), k < n → k < ls.length → 0 ≤ dp ls k ∧ dp ls k ≤ (k : Int)
  | 0, k, h, _ => by omega
  | n + 1, k, h, hl => by
    rw [dp_link V hl]
    have v := V k hl
    split
    · rename_i hc
      have := dp_bounds V n (ls.getD k 0).toNat (by omega) (by omega)
      omega
    · omega
theorem dp_nn {ls : List Int} (V : Valid ls) {k : Nat} (hl : k < ls.length) : 0 ≤ dp ls k ∧ dp ls k ≤ (k : Int) := dp_bounds V (k + 1) k (by omega) hl
/-- walking up, all that is passed by is higher -/
theorem passed {ls : List Int} (V : Valid ls) {p : Nat} (hp : p ≤ ls.length) (I : ∀ k, k < p → ∀ j : Nat, ls.getD k 0 < (j : Int) → j < k → dp ls k ≤ dp ls j) :
    ∀ {a b : Int}, OnCh ls a b → a < p → (0 ≤ a → ∀ k : Nat, a < (k : Int) → k < p → dp ls a.toNat < dp ls k) → 0 ≤ b → ∀ k : Nat, b < (k : Int) → k < p → dp ls b.toNat < dp ls k := by
  intro a b h
  induction h with
  | refl a => exact fun _ h hb => h hb
  | step h t ih =>
    rename_i a b
    intro ha J hb
    have v := V a.toNat (by omega)
    refine ih (by omega) (fun h0 k k1 k2 => ?_) hb
    have d1 : dp ls a.toNat = dp ls (ls.getD a.toNat 0).toNat + 1 := by rw [dp_link V (by omega), if_pos h0]
    by_cases hk : (k : Int) ≤ a
    · by_cases hk2 : (k : Int) = a
      · have : k = a.toNat := by omega
        rw [this, d1]; omega
      · have := I a.toNat (by omega) k (by omega) (by omega)
        omega
    · have := J h k (by omega) k2
      omega
theorem dp_nearest {ls : List Int} (V : Valid ls) : ∀ (n : Nat), n ≤ ls.length → (∀ p, p < n → OnCh ls ((p : Int) - 1) (ls.getD p 0)) → ∀ k, k < n → ∀ j : Nat, ls.getD k 0 < (j : Int) → j < k → dp ls k ≤ dp ls j
  | 0, _, _, k, h, _, _, _ => by omega
  | n + 1, hn, C, k, hk, j, j1, j2 => by
    have I := dp_nearest V n (by omega) (fun p hp => C p (by omega))
    by_cases hkn : k = n
    · subst hkn
      have v := V k (by omega)
      rw [dp_link V (by omega)]
      split
      · rename_i hc
        have := passed V (p := k) (by omega) I (C k (by omega)) (by omega) (fun _ k' h1 h2 => by omega) hc j j1 j2
        omega
      · exact (dp_nn V (by omega)).1
    · exact I k (by omega) j j1 j2
/-- the bars have the links -/
theorem dpL_links {ls : List Int} (V : Valid ls) (C : ∀ p, p < ls.length → OnCh ls ((p : Int) - 1) (ls.getD p 0)) : linksL (dpL ls ls.length) = ls := by
  have N := dp_nearest V ls.length (Nat.le_refl _) C
  apply List.ext_getElem?
  intro i
  by_cases hi : i < ls.length
  · have hi' : i < (dpL ls ls.length).length := by rw [dpL_length]; exact hi
    rw [linksL_get hi', List.getElem?_eq_getElem hi]
    have e : ls[i] = ls.getD i 0 := by simp [List.getD_eq_getElem?_getD, List.getElem?_eq_getElem hi]
    rw [e]
    have v := V i hi
    have hle := stN_le (dpL ls ls.length) i
    have hlow := stN_low (dpL ls ls.length) i
    have hge := stN_ge (dpL ls ls.length) i
    have d : ∀ k, k < ls.length → (dpL ls ls.length).getD k 0 = dp ls k := fun k hk => dpL_dp ls hk
    congr 1
    by_cases h1 : ((stN (dpL ls ls.length) i : Nat) : Int) - 1 < ls.getD i 0
    · -- the link would not be lower
      have h2 := hge (ls.getD i 0).toNat (by omega) (by omega)
      rw [d i hi, d _ (by omega), dp_link V hi, if_pos (by omega)] at h2
      omega
    · by_cases h3 : ls.getD i 0 < ((stN (dpL ls ls.length) i : Nat) : Int) - 1
      · rcases hlow with z | z
        · omega
        · rw [d i hi, d _ (by omega)] at z
          have := N i hi (stN (dpL ls ls.length) i - 1) (by omega) (by omega)
          omega
      · omega
  · rw [List.getElem?_eq_none (by rw [linksL_length, dpL_length]; omega), List.getElem?_eq_none (by omega)]
/-- two places whose links cross -/
def Cross (ls : List Int) (f s : Int) : Prop := 0 ≤ f ∧ f < s ∧ s < (ls.length : Int) ∧ ls.getD f.toNat 0 < ls.getD s.toNat 0 ∧ ls.getD s.toNat 0 < f
instance (ls : List Int) (f s : Int) : Decidable (Cross ls f s) := by unfold Cross; exact inferInstance
end Sky

namespace Sky
open PySem L2
/-- a Row's attributes; a Crossed's -/
def rowF (ar : Addr) : List (Str × V) := putF "bars" (.ref ar) []
def crF (f s : Int) : List (Str × V) := putF "second" (.int s) (putF "first" (.int f) [])
structure RCls (K : PySem.W.Frag) (C : Addr) : Prop where
  cl : Cls K C
  n1 : NoAttr K C "bars"
structure CCls (K : PySem.W.Frag) (C : Addr) : Prop where
  cl : Cls K C
  n1 : NoAttr K C "first"
  n2 : NoAttr K C "second"
def spRInit (C : Addr) : Sp := fun vs H Q _ => ∃ (p dx l : Addr) (xs : List Int), vs = [.ref p, .ref l] ∧ H p = some (.ins C dx []) ∧ IL H l xs ∧
  ∀ (ar : Addr) (H' : Hp), H ar = none → H' p = some (.ins C dx (rowF ar)) → IL H' ar xs → (∀ b o, H b = some o → b ≠ p → H' b = some o) → Q .non H'
def spCInit (C : Addr) : Sp := fun vs H Q _ => ∃ (p dx : Addr) (f s : Int), vs = [.ref p, .int f, .int s] ∧ H p = some (.ins C dx []) ∧ ∀ H', H' p = some (.ins C dx (crF f s)) → (∀ b o, H b = some o → b ≠ p → H' b = some o) → Q .non H'
def spBelow : Sp := fun vs H Q _ => ∃ (a : Addr) (ls : List Int), vs = [.ref a] ∧ IL H a ls ∧ ls.length ≤ 100 ∧ ∀ H', Same H H' → Q (.bl (validB ls)) H'
def spChkL : Sp := fun vs H Q _ => ∃ (a : Addr) (ls : List Int), vs = [.ref a] ∧ IL H a ls ∧ ls.length ≤ 100 ∧ Valid ls ∧ ∀ H', Same H H' → Q .non H'
def spCrossA : Sp := fun vs H Q _ => ∃ (a : Addr) (ls : List Int) (p : Nat), vs = [.ref a, .int (p : Nat)] ∧ IL H a ls ∧ Valid ls ∧ p < ls.length ∧ (∀ c : Nat, Cross ls c p → Q (.int (c : Nat)) H) ∧ (OnCh ls ((p : Int) - 1) (ls.getD p 0) → Q (.int (-1)) H)
def spRowOf (CR CC : Addr) : Sp := fun vs H Q _ => ∃ (a : Addr) (ls : List Int), vs = [.ref a] ∧ IL H a ls ∧ ls.length ≤ 100 ∧ Valid ls ∧
  (∀ (p dx ar : Addr) (H' : Hp) (bs : List Int), H p = none → H ar = none → Same H H' → H' p = some (.ins CR dx (rowF ar)) → IL H' ar bs → bs.length = ls.length → (∀ x ∈ bs, 0 ≤ x ∧ x ≤ 100) → linksL bs = ls → Q (.ref p) H') ∧
  (∀ (p dx : Addr) (H' : Hp) (f s : Int), H p = none → Same H H' → H' p = some (.ins CC dx (crF f s)) → Cross ls f s → Q (.ref p) H')
theorem ixN_nat {n i : Nat} (h : i < n) : ixN n (i : Int) = some i := by
  unfold ixN
  rw [if_pos (by omega), if_pos (by omega)]; rfl
end Sky

namespace Sky
/-! ### trees -/
/-- the nearest place ahead of i that is no higher, or -1 -/
def aG (b : List Int) (h : Int) : Nat → Int
  | 0 => -1
  | n + 1 => if b.getD n 0 ≤ h then (n : Int) else aG b h n
def aN (b : List Int) (i : Nat) : Int := aG b (b.getD i 0) i
theorem aG_spec (b : List Int) (h : Int) : ∀ n : Nat, -1 ≤ aG b h n ∧ aG b h n < n ∧ (∀ k : Nat, aG b h n < (k : Int) → k < n → h < b.getD k 0) ∧ (0 ≤ aG b h n → b.getD (aG b h n).toNat 0 ≤ h)
  | 0 => ⟨by simp [aG], by simp [aG], fun k _ h => by omega, fun h => by simp [aG] at h⟩
  | n + 1 => by
    obtain ⟨h1, h2, h3, h4⟩ := aG_spec b h n
    unfold aG
    split
    · rename_i hc
      exact ⟨by omega, by omega, fun k k1 k2 => by omega, fun _ => by simpa using hc⟩
    · rename_i hc
      refine ⟨h1, by omega, fun k k1 k2 => ?_, h4⟩
      by_cases hk : k = n
      · subst hk; omega
      · exact h3 k k1 (by omega)
theorem aG_uniq {b : List Int} {h : Int} {n : Nat} {a : Int} (h1 : -1 ≤ a) (h2 : a < n) (h3 : ∀ k : Nat, a < (k : Int) → k < n → h < b.getD k 0) (h4 : 0 ≤ a → b.getD a.toNat 0 ≤ h) : a = aG b h n := by
  obtain ⟨g1, g2, g3, g4⟩ := aG_spec b h n
  by_cases hc : a < aG b h n
  · have := h3 (aG b h n).toNat (by omega) (by omega)
    have := g4 (by omega)
    omega
  · by_cases hd : aG b h n < a
    · have := g3 a.toNat (by omega) (by omega)
      have := h4 (by omega)
      omega
    · omega
/-- the nearest lower place behind i ahead of p, or p -/
def bG (b : List Int) (h : Int) (i : Nat) : Nat → Nat
  | 0 => 0
  | p + 1 => if bG b h i p < p then bG b h i p else if i < p ∧ b.getD p 0 < h then p else p + 1
def bN (b : List Int) (i p : Nat) : Nat := bG b (b.getD i 0) i p
theorem bG_spec (b : List Int) (h : Int) (i : Nat) : ∀ p : Nat, bG b h i p ≤ p ∧ (bG b h i p < p → i < bG b h i p ∧ b.getD (bG b h i p) 0 < h) ∧ ∀ k, i < k → k < bG b h i p → h ≤ b.getD k 0
  | 0 => ⟨Nat.le_refl _, fun h => by simp [bG] at h, fun k _ h => by simp [bG] at h⟩
  | p + 1 => by
    obtain ⟨h1, h2, h3⟩ := bG_spec b h i p
    unfold bG
    split
    · rename_i hc
      exact ⟨by omega, fun _ => h2 hc, h3⟩
    · rename_i hc
      have e : bG b h i p = p := by omega
      rw [e] at h3
      split
      · rename_i hd
        exact ⟨by omega, fun _ => hd, h3⟩
      · rename_i hd
        refine ⟨Nat.le_refl _, fun h => by omega, fun k k1 k2 => ?_⟩
        by_cases hk : k = p
        · subst hk
          by_cases hlt : b.getD k 0 < h
          · exact absurd ⟨k1, hlt⟩ hd
          · omega
        · exact h3 k k1 (by omega)
theorem bG_uniq {b : List Int} {h : Int} {i p q : Nat} (hq : q ≤ p) (h1 : q < p → i < q ∧ b.getD q 0 < h) (h2 : ∀ k, i < k → k < q → h ≤ b.getD k 0) (hip : i < q) : q = bG b h i p := by
  obtain ⟨g1, g2, g3⟩ := bG_spec b h i p
  rcases Nat.lt_trichotomy q (bG b h i p) with hc | hc | hc
  · have := g3 q hip hc
    have := h1 (by omega)
    omega
  · exact hc
  · have := g2 (by omega)
    have := h2 _ this.1 hc
    omega
theorem bN_gt (b : List Int) {i p : Nat} (h : i < p) : i < bN b i p := by
  obtain ⟨g1, g2, g3⟩ := bG_spec b (b.getD i 0) i p
  unfold bN
  by_cases hc : bG b (b.getD i 0) i p < p
  · exact (g2 hc).1
  · omega
/-- beneath which place i hangs, the bars ahead of p alone -/
def par (b : List Int) (i p : Nat) : Int := if bN b i p = p then aN b i else if aN b i < 0 ∨ b.getD (aN b i).toNat 0 ≤ b.getD (bN b i p) 0 then (bN b i p : Int) else aN b i
def treeL (b : List Int) : List Int := (List.range b.length).map fun i => par b i b.length
theorem treeL_length (b : List Int) : (treeL b).length = b.length := by simp [treeL]
theorem treeL_get {b : List Int} {i : Nat} (hi : i < b.length) : (treeL b)[i]? = some (par b i b.length) := by
  unfold treeL; rw [List.getElem?_map, List.getElem?_range hi]; rfl
theorem treeL_getD {b : List Int} {i : Nat} (hi : i < b.length) : (treeL b).getD i 0 = par b i b.length := by
  rw [List.getD_eq_getElem?_getD, treeL_get hi]; rfl
/-- what is known of the two neighbours -/
structure Nb (b : List Int) (i : Nat) (a : Int) (q : Nat) : Prop where
  a1 : -1 ≤ a
  a2 : a < i
  a3 : ∀ k : Nat, a < (k : Int) → k < i → b.getD i 0 < b.getD k 0
  a4 : 0 ≤ a → b.getD a.toNat 0 ≤ b.getD i 0
  q1 : i < q
  q2 : q ≤ b.length
  q3 : ∀ k, i < k → k < q → b.getD i 0 ≤ b.getD k 0
  q4 : q < b.length → b.getD q 0 < b.getD i 0
theorem nb (b : List Int) {i : Nat} (hi : i < b.length) : Nb b i (aN b i) (bN b i b.length) := by
  obtain ⟨h1, h2, h3, h4⟩ := aG_spec b (b.getD i 0) i
  obtain ⟨g1, g2, g3⟩ := bG_spec b (b.getD i 0) i b.length
  exact ⟨h1, h2, h3, h4, bN_gt b hi, g1, g3, fun h => (g2 h).2⟩
theorem Nb.uniq {b : List Int} {i : Nat} {a : Int} {q : Nat} (h : Nb b i a q) : a = aN b i ∧ q = bN b i b.length :=
  ⟨aG_uniq h.a1 h.a2 h.a3 h.a4, bG_uniq h.q2 (fun z => ⟨h.q1, h.q4 z⟩) h.q3 h.q1⟩
theorem Nb.par {b : List Int} {i : Nat} {a : Int} {q : Nat} (h : Nb b i a q) : par b i b.length = if q = b.length then a else if a < 0 ∨ b.getD a.toNat 0 ≤ b.getD q 0 then (q : Int) else a := by
  obtain ⟨e1, e2⟩ := h.uniq
  unfold Sky.par
  rw [← e1, ← e2]
/-- how deep a place hangs -/
inductive Dep (P : List Int) : Nat → Nat → Prop where
  | root {i : Nat} (hi : i < P.length) (h : P.getD i 0 = -1) : Dep P i 0
  | under {i j d : Nat} (hi : i < P.length) (h : P.getD i 0 = (j : Int)) (t : Dep P j d) : Dep P i (d + 1)
theorem Dep.uniq {P : List Int} {i d : Nat} (h : Dep P i d) : ∀ {e : Nat}, Dep P i e → d = e := by
  induction h with
  | root hi h =>
    intro e h'
    cases h' with
    | root => rfl
    | under _ h2 _ => rw [h] at h2; omega
  | under hi h t ih =>
    intro e h'
    cases h' with
    | root _ h2 => rw [h] at h2; omega
    | under _ h2 t2 =>
      have e : _ = _ := h.symm.trans h2
      have e' := Int.ofNat.inj e
      subst e'
      rw [ih t2]
/-- where the parent of a place lies -/
theorem par_key {b : List Int} {i : Nat} (hi : i < b.length) : par b i b.length = -1 ∨ ∃ j : Nat, j < b.length ∧ par b i b.length = (j : Int) ∧ ((j < i ∧ b.getD j 0 ≤ b.getD i 0) ∨ b.getD j 0 < b.getD i 0) := by
  have N := nb b hi
  rw [N.par]
  have ha : aN b i = -1 ∨ ∃ j : Nat, j < b.length ∧ aN b i = (j : Int) ∧ ((j < i ∧ b.getD j 0 ≤ b.getD i 0) ∨ b.getD j 0 < b.getD i 0) := by
    have := N.a1
    have := N.a2
    by_cases h0 : 0 ≤ aN b i
    · exact .inr ⟨(aN b i).toNat, by omega, by omega, .inl ⟨by omega, N.a4 h0⟩⟩
    · exact .inl (by omega)
  split
  · exact ha
  · rename_i hc
    split
    · have := N.q2
      exact .inr ⟨bN b i b.length, by omega, rfl, .inr (N.q4 (by omega))⟩
    · exact ha
/-- every place of a tree hangs somewhere -/
theorem tree_dep {b : List Int} (hb : ∀ i, i < b.length → -1 ≤ b.getD i 0) : ∀ (m i : Nat), i < b.length → (b.getD i 0 + 1).toNat * (b.length + 1) + i < m → ∃ d, Dep (treeL b) i d
  | 0, i, _, h => by omega
  | m + 1, i, hi, h => by
    rcases par_key hi with e | ⟨j, hj, e, hk⟩
    · exact ⟨0, .root (by rw [treeL_length]; exact hi) (by rw [treeL_getD hi]; exact e)⟩
    · have hbi := hb i hi
      have hbj := hb j hj
      have hlt : (b.getD j 0 + 1).toNat * (b.length + 1) + j < (b.getD i 0 + 1).toNat * (b.length + 1) + i := by
        rcases hk with ⟨h1, h2⟩ | h1
        · have : (b.getD j 0 + 1).toNat ≤ (b.getD i 0 + 1).toNat := by omega
          have := Nat.mul_le_mul_right (b.length + 1) this
          omega
        · have : (b.getD j 0 + 1).toNat + 1 ≤ (b.getD i 0 + 1).toNat := by omega
          have := Nat.mul_le_mul_right (b.length + 1) this
          rw [Nat.add_mul] at this
          omega
      obtain ⟨d, hd⟩ := tree_dep hb m j hj (by omega)
      exact ⟨d + 1, .under (by rw [treeL_length]; exact hi) (by rw [treeL_getD hi]; exact e) hd⟩
theorem tree_deps {b : List Int} (hb : ∀ i, i < b.length → -1 ≤ b.getD i 0) {i : Nat} (hi : i < b.length) : ∃ d, Dep (treeL b) i d := tree_dep hb _ i hi (Nat.lt_succ_self _)
end Sky

namespace Sky
/-! ### the program's stack of places, for the tree -/
def stkT (b : List Int) : Nat → List Nat
  | 0 => []
  | n + 1 => n :: (stkT b n).dropWhile fun j => decide (b.getD n 0 < b.getD j 0)
def hdI : List Nat → Int
  | [] => -1
  | x :: _ => (x : Int)
theorem stkT_head (b : List Int) : ∀ (n : Nat) (h : Int), hdI ((stkT b n).dropWhile fun j => decide (h < b.getD j 0)) = aG b h n
  | 0, h => rfl
  | n + 1, h => by
    unfold stkT aG
    by_cases hc : b.getD n 0 ≤ h
    · rw [if_pos hc, List.dropWhile_cons, if_neg (fun z => by have := of_decide_eq_true z; omega)]; rfl
    · rw [if_neg hc, List.dropWhile_cons, if_pos (decide_eq_true (by omega)), drop_drop (fun x hx => decide_eq_true (by have := of_decide_eq_true hx; omega))]
      exact stkT_head b n h
def ChT (b : List Int) : List Nat → Prop
  | [] => True
  | x :: r => aN b x = hdI r ∧ ChT b r
theorem ChT.drop {b : List Int} (p : Nat → Bool) : ∀ {l : List Nat}, ChT b l → ChT b (l.dropWhile p)
  | [], _ => True.intro
  | x :: r, h => by
    rw [List.dropWhile_cons]
    split
    · exact ChT.drop p h.2
    · exact h
theorem stkT_ch (b : List Int) : ∀ n, ChT b (stkT b n)
  | 0 => True.intro
  | n + 1 => ⟨(stkT_head b n (b.getD n 0)).symm, (stkT_ch b n).drop _⟩
theorem ChT.tail {b : List Int} : ∀ {l r : List Nat}, ChT b (l ++ r) → ChT b r
  | [], _, h => h
  | _ :: l, _, h => ChT.tail (l := l) h.2
/-- further down the places are lesser and the bars no higher -/
theorem ChT.less {b : List Int} : ∀ {x : Nat} {r : List Nat}, ChT b (x :: r) → ∀ y ∈ r, y < x ∧ b.getD y 0 ≤ b.getD x 0
  | x, [], _, y, hy => by simp at hy
  | x, z :: r, h, y, hy => by
    have ha := aG_spec b (b.getD x 0) x
    have e : aG b (b.getD x 0) x = (z : Int) := h.1
    rw [e] at ha
    have h1 : z < x := by omega
    have h2 : b.getD z 0 ≤ b.getD x 0 := ha.2.2.2 (by omega)
    rcases List.mem_cons.mp hy with rfl | hy
    · exact ⟨h1, h2⟩
    · have := ChT.less h.2 y hy
      omega
theorem stkT_lt (b : List Int) : ∀ (n j : Nat), j ∈ stkT b n → j < n
  | 0, j, h => by simp [stkT] at h
  | n + 1, j, h => by
    unfold stkT at h
    rcases List.mem_cons.mp h with rfl | h
    · omega
    · have := stkT_lt b n j ((List.dropWhile_sublist _).subset h)
      omega
theorem stkT_length (b : List Int) : ∀ n, (stkT b n).length ≤ n
  | 0 => Nat.le_refl _
  | n + 1 => by
    unfold stkT
    have h1 := stkT_length b n
    have h2 := (List.dropWhile_sublist (l := stkT b n) fun j => decide (b.getD n 0 < b.getD j 0)).length_le
    simp only [List.length_cons]; omega
theorem drop_app {α : Type} {q : α → Bool} : ∀ {p s : List α}, (∀ x ∈ p, q x = true) → (∀ x r, s = x :: r → q x = false) → (p ++ s).dropWhile q = s
  | [], [], _, _ => rfl
  | [], x :: r, _, h => by
    rw [List.nil_append, List.dropWhile_cons, if_neg (by rw [h x r rfl]; simp)]
  | y :: p, s, h1, h2 => by
    rw [List.cons_append, List.dropWhile_cons, if_pos (h1 y List.mem_cons_self)]
    exact drop_app (fun x hx => h1 x (List.mem_cons_of_mem _ hx)) h2
theorem bN_low (b : List Int) (i : Nat) : ∀ p, p ≤ i + 1 → bN b i p = p
  | 0, _ => rfl
  | p + 1, h => by
    have := bN_low b i p (by omega)
    unfold bN at this ⊢
    unfold bG
    rw [this, if_neg (by omega), if_neg (by omega)]
theorem bN_succ (b : List Int) (i p : Nat) : bN b i (p + 1) = if bN b i p < p then bN b i p else if i < p ∧ b.getD p 0 < b.getD i 0 then p else p + 1 := rfl
theorem bN_le (b : List Int) (i p : Nat) : bN b i p ≤ p := (bG_spec b (b.getD i 0) i p).1
/-- on the stack are those with no lower one behind -/
theorem stkT_mem (b : List Int) : ∀ (p i : Nat), i < p → (i ∈ stkT b p ↔ bN b i p = p)
  | 0, i, h => by omega
  | p + 1, i, h => by
    unfold stkT
    rw [bN_succ]
    by_cases hip : i = p
    · subst hip
      rw [bN_low b i i (by omega), if_neg (by omega), if_neg (by omega)]
      exact ⟨fun _ => rfl, fun _ => List.mem_cons_self⟩
    · have ih := stkT_mem b p i (by omega)
      have ch := stkT_ch b p
      -- what is dropped is higher, what stays is not
      have key : i ∈ (stkT b p).dropWhile (fun j => decide (b.getD p 0 < b.getD j 0)) ↔ i ∈ stkT b p ∧ ¬ b.getD p 0 < b.getD i 0 := by
        constructor
        · intro hm
          refine ⟨(List.dropWhile_sublist _).subset hm, fun hlt => ?_⟩
          have ch2 := ch.drop (fun j => decide (b.getD p 0 < b.getD j 0))
          cases e : (stkT b p).dropWhile (fun j => decide (b.getD p 0 < b.getD j 0)) with
          | nil => rw [e] at hm; simp at hm
          | cons x r =>
            have hx : ¬ (decide (b.getD p 0 < b.getD x 0)) = true := by
              have := List.head?_dropWhile_not (fun j => decide (b.getD p 0 < b.getD j 0)) (stkT b p)
              rw [e] at this
              simpa using this
            have hx' : ¬ b.getD p 0 < b.getD x 0 := fun z => hx (decide_eq_true z)
            rw [e] at hm ch2
            rcases List.mem_cons.mp hm with rfl | hm
            · exact hx' hlt
            · have := ch2.less i hm
              omega
        · rintro ⟨hm, hn⟩
          have e := List.takeWhile_append_dropWhile (p := fun j => decide (b.getD p 0 < b.getD j 0)) (l := stkT b p)
          rw [← e] at hm
          rcases List.mem_append.mp hm with hm | hm
          · exact absurd (of_decide_eq_true (List.all_eq_true.mp (List.all_takeWhile (l := stkT b p)) i hm)) hn
          · exact hm
      rw [List.mem_cons, key, ih]
      have hle := bN_le b i p
      constructor
      · rintro (z | ⟨z1, z2⟩)
        · exact absurd z hip
        · rw [if_neg (by omega), if_neg (fun q => z2 q.2)]
      · intro z
        split at z
        · omega
        · split at z
          · omega
          · rename_i h1 h2
            refine .inr ⟨by omega, fun q => h2 ⟨by omega, q⟩⟩
def lastI (l : List Nat) : Int := match l.getLast? with
  | none => -1
  | some x => (x : Int)
theorem lastI_snoc (l : List Nat) (x : Nat) : lastI (l ++ [x]) = (x : Int) := by unfold lastI; rw [List.getLast?_concat]
theorem lastI_mem {l : List Nat} (h : 0 ≤ lastI l) : (lastI l).toNat ∈ l := by
  unfold lastI at h ⊢
  cases e : l.getLast? with
  | none => rw [e] at h; simp at h
  | some x => exact List.mem_of_getLast? e
theorem lastI_cons (x y : Nat) (r : List Nat) : lastI (x :: y :: r) = lastI (y :: r) := by unfold lastI; rw [List.getLast?_cons_cons]
/-- of those that go, only the last one has a bar beneath it in the stack that stays -/
theorem gone {b : List Int} {h : Int} {st : List Nat} (hst : ∀ x r, st = x :: r → b.getD x 0 ≤ h) : ∀ {pop : List Nat}, ChT b (pop ++ st) → (∀ x ∈ pop, h < b.getD x 0) → ∀ i ∈ pop,
    ((i : Int) = lastI pop ∧ (aN b i < 0 ∨ b.getD (aN b i).toNat 0 ≤ h)) ∨ ((i : Int) ≠ lastI pop ∧ 0 ≤ aN b i ∧ h < b.getD (aN b i).toNat 0)
  | [], _, _, i, hi => by simp at hi
  | [x], ch, hp, i, hi => by
    have e : i = x := by simpa using hi
    subst e
    left
    refine ⟨rfl, ?_⟩
    have e : aN b i = hdI st := ch.1
    rw [e]
    cases hs : st with
    | nil => exact .inl (by simp [hdI])
    | cons y r => exact .inr (hst y r hs)
  | x :: y :: r, ch, hp, i, hi => by
    have ih := gone hst (pop := y :: r) ch.2 (fun z hz => hp z (List.mem_cons_of_mem _ hz))
    rw [lastI_cons]
    have e : aN b x = (y : Int) := ch.1
    have hl : lastI (y :: r) < (x : Int) := by
      by_cases h0 : 0 ≤ lastI (y :: r)
      · have := (ChT.less (x := x) (r := (y :: r) ++ st) ch _ (List.mem_append_left _ (lastI_mem h0))).1
        omega
      · omega
    rcases List.mem_cons.mp hi with rfl | hi
    · right
      refine ⟨by omega, by omega, ?_⟩
      rw [e]
      exact hp y (by simp)
    · exact ih i hi
/-- what one more bar changes -/
theorem par_step {b : List Int} {p : Nat} {pop st : List Nat} (e : pop ++ st = stkT b p) (hp : ∀ x ∈ pop, b.getD p 0 < b.getD x 0) (hst : ∀ x r, st = x :: r → b.getD x 0 ≤ b.getD p 0) {i : Nat} (hi : i < p) :
    par b i (p + 1) = if (i : Int) = lastI pop then (p : Int) else par b i p := by
  have ch : ChT b (pop ++ st) := by rw [e]; exact stkT_ch b p
  have hle := bN_le b i p
  by_cases hm : i ∈ stkT b p
  · have hq := (stkT_mem b p i hi).mp hm
    have e0 : par b i p = aN b i := by unfold par; rw [if_pos hq]
    rw [← e] at hm
    rcases List.mem_append.mp hm with hm | hm
    · have hb := hp i hm
      have hq1 : bN b i (p + 1) = p := by rw [bN_succ, if_neg (by omega), if_pos ⟨hi, hb⟩]
      rcases gone hst ch hp i hm with ⟨z1, z2⟩ | ⟨z1, z2, z3⟩
      · rw [if_pos z1]
        unfold par
        rw [hq1, if_neg (by omega), if_pos z2]
      · rw [if_neg z1, e0]
        unfold par
        rw [hq1, if_neg (by omega), if_neg (by rintro (z | z) <;> omega)]
    · have hb : b.getD i 0 ≤ b.getD p 0 := by
        have cs := ch.tail
        cases hs : st with
        | nil => rw [hs] at hm; simp at hm
        | cons x r =>
          have hx := hst x r hs
          rw [hs] at hm cs
          rcases List.mem_cons.mp hm with rfl | hm
          · exact hx
          · have := cs.less i hm; omega
      have hq1 : bN b i (p + 1) = p + 1 := by rw [bN_succ, if_neg (by omega), if_neg (by omega)]
      have hne : (i : Int) ≠ lastI pop := fun z => by
        have := hp _ (lastI_mem (l := pop) (by omega))
        rw [← z] at this
        simp at this
        rw [List.getD_eq_getElem?_getD, List.getD_eq_getElem?_getD] at hb
        omega
      rw [if_neg hne, e0]
      unfold par
      rw [hq1, if_pos rfl]
  · have hq : bN b i p < p := by
      have : bN b i p ≠ p := fun z => hm ((stkT_mem b p i hi).mpr z)
      omega
    have hne : (i : Int) ≠ lastI pop := fun z => by
      have hmm := lastI_mem (l := pop) (by omega)
      rw [← z] at hmm
      exact hm (e ▸ List.mem_append_left _ hmm)
    rw [if_neg hne]
    have hq1 : bN b i (p + 1) = bN b i p := by rw [bN_succ, if_pos hq]
    unfold par
    rw [hq1, if_neg (show ¬ bN b i p = p + 1 by omega), if_neg (show ¬ bN b i p = p by omega)]
def parL (b : List Int) (p : Nat) : List Int := (List.range p).map fun i => par b i p
theorem parL_length (b : List Int) (p : Nat) : (parL b p).length = p := by simp [parL]
theorem parL_get (b : List Int) {i p : Nat} (h : i < p) : (parL b p)[i]? = some (par b i p) := by
  unfold parL; rw [List.getElem?_map, List.getElem?_range h]; rfl
theorem par_self (b : List Int) (p : Nat) : par b p (p + 1) = aN b p := by
  unfold par
  rw [bN_low b p (p + 1) (by omega), if_pos rfl]
theorem parL_step {b : List Int} {p : Nat} {pop st : List Nat} (e : pop ++ st = stkT b p) (hp : ∀ x ∈ pop, b.getD p 0 < b.getD x 0) (hst : ∀ x r, st = x :: r → b.getD x 0 ≤ b.getD p 0) :
    hdI st = aN b p ∧ parL b (p + 1) = if 0 ≤ lastI pop then (parL b p ++ [aN b p]).set (lastI pop).toNat (p : Int) else parL b p ++ [aN b p] := by
  constructor
  · have h := stkT_head b p (b.getD p 0)
    rw [← e, drop_app (fun x hx => decide_eq_true (hp x hx)) (fun x r hx => decide_eq_false (by have := hst x r hx; omega))] at h
    exact h
  · have hlt : 0 ≤ lastI pop → (lastI pop).toNat < p := fun h0 => stkT_lt b p _ (e ▸ List.mem_append_left _ (lastI_mem h0))
    apply List.ext_getElem?
    intro i
    by_cases hi : i < p + 1
    · rw [parL_get b hi]
      by_cases hip : i = p
      · subst hip
        rw [par_self]
        split
        · rename_i h0
          have := hlt h0
          rw [List.getElem?_set_ne (by omega), List.getElem?_append_right (by rw [parL_length]; exact Nat.le_refl _), parL_length, Nat.sub_self]; rfl
        · rw [List.getElem?_append_right (by rw [parL_length]; exact Nat.le_refl _), parL_length, Nat.sub_self]; rfl
      · have hi' : i < p := by omega
        rw [par_step e hp hst hi']
        split
        · rename_i hz
          rw [if_pos (by omega), ← hz]
          simp only [Int.toNat_natCast]
          rw [List.getElem?_set_self (by rw [List.length_append, parL_length]; omega)]
        · rename_i hz
          split
          · rename_i h0
            rw [List.getElem?_set_ne (by omega), List.getElem?_append_left (by rw [parL_length]; exact hi'), parL_get b hi']
          · rw [List.getElem?_append_left (by rw [parL_length]; exact hi'), parL_get b hi']
    · rw [List.getElem?_eq_none (by rw [parL_length]; omega)]
      split
      · rw [List.getElem?_eq_none (by rw [List.length_set, List.length_append, parL_length]; simp; omega)]
      · rw [List.getElem?_eq_none (by rw [List.length_append, parL_length]; simp; omega)]
theorem parL_all (b : List Int) : parL b b.length = treeL b := rfl
end Sky

namespace Sky
/-! ### how deep: the program's way -/
def PV (P : List Int) : Prop := ∀ i, i < P.length → -1 ≤ P.getD i 0 ∧ P.getD i 0 < (P.length : Int)
def kidN (P : List Int) (a : Int) (n : Nat) : List Nat := (List.range n).filter fun c => decide (P.getD c 0 = a)
theorem kidN_mem {P : List Int} {a : Int} {n c : Nat} : c ∈ kidN P a n ↔ c < n ∧ P.getD c 0 = a := by
  unfold kidN
  rw [List.mem_filter, List.mem_range, decide_eq_true_iff]
theorem kidN_succ (P : List Int) (a : Int) (n : Nat) : kidN P a (n + 1) = if P.getD n 0 = a then kidN P a n ++ [n] else kidN P a n := by
  unfold kidN
  rw [List.range_succ, List.filter_append]
  by_cases h : P.getD n 0 = a
  · rw [if_pos h, List.filter_cons, if_pos (decide_eq_true h)]; rfl
  · rw [if_neg h, List.filter_cons, if_neg (by simpa using h)]; simp
theorem kidN_length (P : List Int) (a : Int) (n : Nat) : (kidN P a n).length ≤ n := by
  have := List.length_filter_le (fun c => decide (P.getD c 0 = a)) (List.range n)
  rw [List.length_range] at this
  exact this
theorem kidN_nodup (P : List Int) (a : Int) (n : Nat) : (kidN P a n).Nodup := (List.nodup_range (n := n)).filter _
def dep0 (P : List Int) (n : Nat) : List Int := (List.range P.length).map fun j => if j < n ∧ P.getD j 0 = -1 then 0 else -1
theorem dep0_length (P : List Int) (n : Nat) : (dep0 P n).length = P.length := by simp [dep0]
theorem dep0_get {P : List Int} {n j : Nat} (hj : j < P.length) : (dep0 P n)[j]? = some (if j < n ∧ P.getD j 0 = -1 then 0 else -1) := by
  unfold dep0; rw [List.getElem?_map, List.getElem?_range hj]; rfl
theorem dep0_getD {P : List Int} {n j : Nat} (hj : j < P.length) : (dep0 P n).getD j 0 = if j < n ∧ P.getD j 0 = -1 then 0 else -1 := by
  rw [List.getD_eq_getElem?_getD, dep0_get hj]; rfl
theorem dep0_zero (P : List Int) : dep0 P 0 = List.replicate P.length (-1) := by
  apply List.ext_getElem?
  intro i
  by_cases hi : i < P.length
  · rw [dep0_get hi, if_neg (by omega), List.getElem?_replicate, if_pos hi]
  · rw [List.getElem?_eq_none (by rw [dep0_length]; omega), List.getElem?_eq_none (by rw [List.length_replicate]; omega)]
theorem dep0_set {P : List Int} {n : Nat} (hn : n < P.length) (h : P.getD n 0 = -1) : (dep0 P n).set n 0 = dep0 P (n + 1) := by
  apply List.ext_getElem?
  intro i
  by_cases hi : i < P.length
  · rw [dep0_get hi]
    by_cases he : i = n
    · subst he
      rw [List.getElem?_set_self (by rw [dep0_length]; exact hi), if_pos ⟨by omega, h⟩]
    · rw [List.getElem?_set_ne (by omega), dep0_get hi]
      congr 1
      by_cases hc : i < n ∧ P.getD i 0 = -1
      · rw [if_pos hc, if_pos ⟨by omega, hc.2⟩]
      · rw [if_neg hc, if_neg (fun z => hc ⟨by omega, z.2⟩)]
  · rw [List.getElem?_eq_none (by rw [List.length_set, dep0_length]; omega), List.getElem?_eq_none (by rw [dep0_length]; omega)]
theorem dep0_skip {P : List Int} {n : Nat} (h : ¬ P.getD n 0 = -1) : dep0 P (n + 1) = dep0 P n := by
  unfold dep0
  apply List.map_congr_left
  intro j _
  by_cases hc : j < n ∧ P.getD j 0 = -1
  · rw [if_pos hc, if_pos ⟨by omega, hc.2⟩]
  · rw [if_neg hc, if_neg (fun z => ?_)]
    by_cases he : j = n
    · subst he; exact h z.2
    · exact hc ⟨by omega, z.2⟩
/-- no more than n places -/
theorem pigeon : ∀ (n : Nat) (l : List Nat), l.Nodup → (∀ x ∈ l, x < n) → l.length ≤ n
  | 0, l, _, h => by
    cases l with
    | nil => exact Nat.le_refl _
    | cons x r => have := h x List.mem_cons_self; omega
  | n + 1, l, hd, h => by
    have hf : (l.filter fun x => decide (x ≠ n)).Nodup := hd.filter _
    have ih := pigeon n _ hf fun x hx => by
      obtain ⟨h1, h2⟩ := List.mem_filter.mp hx
      have := h x h1
      have := of_decide_eq_true h2
      omega
    have h2 : l.length ≤ (l.filter fun x => decide (x ≠ n)).length + 1 := by
      clear ih hf h
      induction l with
      | nil => simp
      | cons x r ihr =>
        have hr := (List.nodup_cons.mp hd).2
        have hx := (List.nodup_cons.mp hd).1
        by_cases he : x = n
        · subst he
          have : (r.filter fun y => decide (y ≠ x)) = r := List.filter_eq_self.mpr fun y hy => decide_eq_true (fun z => hx (z ▸ hy))
          rw [List.filter_cons, if_neg (by simp), this]
          simp
        · have := ihr hr
          rw [List.filter_cons, if_pos (decide_eq_true he)]
          simp only [List.length_cons]
          omega
    omega
structure DInv (P D : List Int) (Pd Wt : List Nat) : Prop where
  len : D.length = P.length
  nd : (Pd ++ Wt).Nodup
  mem : ∀ i, i ∈ Pd ++ Wt ↔ i < P.length ∧ (P.getD i 0 = -1 ∨ ∃ p ∈ Pd, P.getD i 0 = (p : Int))
  dep : ∀ i, i < P.length → (i ∈ Pd ++ Wt → ∃ d : Nat, Dep P i d ∧ D.getD i 0 = (d : Int)) ∧ (i ∉ Pd ++ Wt → D.getD i 0 = -1)
theorem DInv.start (P : List Int) : DInv P (dep0 P P.length) [] (kidN P (-1) P.length) := by
  refine ⟨dep0_length _ _, by rw [List.nil_append]; exact kidN_nodup _ _ _, fun i => ?_, fun i hi => ⟨fun hm => ?_, fun hm => ?_⟩⟩
  · rw [List.nil_append, kidN_mem]
    constructor
    · exact fun ⟨h1, h2⟩ => ⟨h1, .inl h2⟩
    · rintro ⟨h1, h2 | ⟨p, hp, _⟩⟩
      · exact ⟨h1, h2⟩
      · simp at hp
  · rw [List.nil_append, kidN_mem] at hm
    exact ⟨0, .root hi hm.2, by rw [dep0_getD hi, if_pos hm]; rfl⟩
  · rw [List.nil_append, kidN_mem] at hm
    rw [dep0_getD hi, if_neg hm]
def setAll (D : List Int) (v : Int) : List Nat → List Int
  | [] => D
  | c :: r => setAll (D.set c v) v r
theorem setAll_length (v : Int) : ∀ (ks : List Nat) (D : List Int), (setAll D v ks).length = D.length
  | [], D => rfl
  | c :: r, D => by unfold setAll; rw [setAll_length v r, List.length_set]
theorem setAll_getD (v : Int) : ∀ (ks : List Nat) (D : List Int) (i : Nat), i < D.length → (setAll D v ks).getD i 0 = if i ∈ ks then v else D.getD i 0
  | [], D, i, _ => by simp [setAll]
  | c :: r, D, i, hi => by
    unfold setAll
    rw [setAll_getD v r _ i (by rw [List.length_set]; exact hi)]
    by_cases h1 : i ∈ r
    · rw [if_pos h1, if_pos (List.mem_cons_of_mem _ h1)]
    · rw [if_neg h1]
      by_cases h2 : i = c
      · subst h2
        rw [if_pos List.mem_cons_self, List.getD_eq_getElem?_getD, List.getElem?_set_self hi]; rfl
      · rw [if_neg (fun z => by rcases List.mem_cons.mp z with z | z; exact h2 z; exact h1 z), List.getD_eq_getElem?_getD, List.getElem?_set_ne (Ne.symm h2), List.getD_eq_getElem?_getD]
theorem setAll_snoc (v : Int) : ∀ (ks : List Nat) (c : Nat) (D : List Int), setAll D v (ks ++ [c]) = (setAll D v ks).set c v
  | [], c, D => rfl
  | k :: r, c, D => by
    show setAll (D.set k v) v (r ++ [c]) = _
    rw [setAll_snoc v r c]; rfl
theorem DInv.kids {P D : List Int} {Pd Wt : List Nat} {a : Nat} (I : DInv P D Pd (Wt ++ [a])) : a < P.length ∧ ∀ c ∈ kidN P (a : Int) P.length, c ∉ Pd ++ (Wt ++ [a]) := by
  have ham : a ∈ Pd ++ (Wt ++ [a]) := List.mem_append_right _ (List.mem_append_right _ (by simp))
  refine ⟨((I.mem a).mp ham).1, fun c hc hm => ?_⟩
  have hk := kidN_mem.mp hc
  rcases ((I.mem c).mp hm).2 with z | ⟨p, hp, z⟩
  · rw [hk.2] at z; omega
  · have : p = a := by have := hk.2.symm.trans z; omega
    subst this
    have := (List.nodup_append.mp I.nd).2.2 p hp p (List.mem_append_right _ (by simp))
    exact this rfl
theorem DInv.step {P D : List Int} {Pd Wt : List Nat} {a : Nat} (I : DInv P D Pd (Wt ++ [a])) : DInv P (setAll D (D.getD a 0 + 1) (kidN P (a : Int) P.length)) (a :: Pd) (Wt ++ kidN P (a : Int) P.length) := by
  obtain ⟨ha, hk⟩ := I.kids
  have ham : a ∈ Pd ++ (Wt ++ [a]) := List.mem_append_right _ (List.mem_append_right _ (by simp))
  have mm : ∀ i, i ∈ (a :: Pd) ++ (Wt ++ kidN P (a : Int) P.length) ↔ i ∈ Pd ++ (Wt ++ [a]) ∨ i ∈ kidN P (a : Int) P.length := fun i => by
    simp only [List.mem_append, List.mem_cons, List.mem_singleton, List.cons_append, List.not_mem_nil, or_false]
    constructor
    · rintro (h | h | h | h)
      · exact .inl (.inr (.inr h))
      · exact .inl (.inl h)
      · exact .inl (.inr (.inl h))
      · exact .inr h
    · rintro ((h | h | h) | h)
      · exact .inr (.inl h)
      · exact .inr (.inr (.inl h))
      · exact .inl h
      · exact .inr (.inr (.inr h))
  refine ⟨by rw [setAll_length]; exact I.len, ?_, fun i => ?_, fun i hi => ?_⟩
  · obtain ⟨n1, n2, n3⟩ := List.nodup_append.mp I.nd
    obtain ⟨m1, m2, m3⟩ := List.nodup_append.mp n2
    have hk' : ∀ c ∈ kidN P (a : Int) P.length, c ∉ Pd ∧ c ∉ Wt ∧ c ≠ a := fun c hc => by
      have := hk c hc
      simp only [List.mem_append, List.mem_singleton, not_or] at this
      exact this
    rw [List.nodup_append]
    refine ⟨List.nodup_cons.mpr ⟨fun z => n3 a z a (List.mem_append_right _ (by simp)) rfl, n1⟩, ?_, ?_⟩
    · rw [List.nodup_append]
      exact ⟨m1, kidN_nodup _ _ _, fun x hx y hy e => (hk' y hy).2.1 (e ▸ hx)⟩
    · intro x hx y hy e
      subst e
      rcases List.mem_cons.mp hx with hx | hx
      · subst hx
        rcases List.mem_append.mp hy with hy | hy
        · exact m3 x hy x (by simp) rfl
        · exact (hk' x hy).2.2 rfl
      · rcases List.mem_append.mp hy with hy | hy
        · exact n3 x hx x (List.mem_append_left _ hy) rfl
        · exact (hk' x hy).1 hx
  · rw [mm, I.mem, kidN_mem]
    constructor
    · rintro (⟨h1, h2 | ⟨p, hp, h2⟩⟩ | ⟨h1, h2⟩)
      · exact ⟨h1, .inl h2⟩
      · exact ⟨h1, .inr ⟨p, List.mem_cons_of_mem _ hp, h2⟩⟩
      · exact ⟨h1, .inr ⟨a, List.mem_cons_self, h2⟩⟩
    · rintro ⟨h1, h2 | ⟨p, hp, h2⟩⟩
      · exact .inl ⟨h1, .inl h2⟩
      · rcases List.mem_cons.mp hp with rfl | hp
        · exact .inr ⟨h1, h2⟩
        · exact .inl ⟨h1, .inr ⟨p, hp, h2⟩⟩
  · have hi' : i < D.length := by rw [I.len]; exact hi
    rw [setAll_getD _ _ _ _ hi', mm]
    obtain ⟨d1, d2⟩ := I.dep i hi
    refine ⟨fun hm => ?_, fun hm => ?_⟩
    · by_cases hc : i ∈ kidN P (a : Int) P.length
      · rw [if_pos hc]
        obtain ⟨d, hd, e⟩ := (I.dep a ha).1 ham
        exact ⟨d + 1, .under hi (kidN_mem.mp hc).2 hd, by rw [e]; omega⟩
      · rw [if_neg hc]
        rcases hm with hm | hm
        · exact d1 hm
        · exact absurd hm hc
    · rw [if_neg (fun z => hm (.inr z))]
      exact d2 fun z => hm (.inl z)
theorem DInv.few {P D : List Int} {Pd Wt : List Nat} (I : DInv P D Pd Wt) : Pd.length + Wt.length ≤ P.length := by
  have := pigeon P.length _ I.nd fun x hx => ((I.mem x).mp hx).1
  rwa [List.length_append] at this
/-- what the list of depths tells -/
def IsDep (P D : List Int) : Prop := D.length = P.length ∧ ∀ i, i < P.length → (∃ d : Nat, Dep P i d ∧ D.getD i 0 = (d : Int)) ∨ ((∀ d, ¬ Dep P i d) ∧ D.getD i 0 = -1)
theorem DInv.done {P D : List Int} {Pd : List Nat} (I : DInv P D Pd []) : IsDep P D := by
  have all : ∀ i d, Dep P i d → i ∈ Pd := fun i d h => by
    induction h with
    | root hi h => simpa using (I.mem _).mpr ⟨hi, .inl h⟩
    | under hi h t ih => simpa using (I.mem _).mpr ⟨hi, .inr ⟨_, ih, h⟩⟩
  refine ⟨I.len, fun i hi => ?_⟩
  by_cases hm : i ∈ Pd ++ []
  · exact .inl ((I.dep i hi).1 hm)
  · exact .inr ⟨fun d h => hm (by simpa using all i d h), (I.dep i hi).2 hm⟩
theorem IsDep.ge {P D : List Int} (h : IsDep P D) {i : Nat} (hi : i < D.length) : -1 ≤ D.getD i 0 := by
  rw [h.1] at hi
  rcases h.2 i hi with ⟨d, _, e⟩ | ⟨_, e⟩ <;> omega
theorem IsDep.uniq {P D E : List Int} (h : IsDep P D) (g : IsDep P E) : D = E := by
  apply List.ext_getElem?
  intro i
  by_cases hi : i < P.length
  · have h1 : i < D.length := by rw [h.1]; exact hi
    have h2 : i < E.length := by rw [g.1]; exact hi
    have e1 : D[i]? = some (D.getD i 0) := by rw [List.getD_eq_getElem?_getD, List.getElem?_eq_getElem h1]; rfl
    have e2 : E[i]? = some (E.getD i 0) := by rw [List.getD_eq_getElem?_getD, List.getElem?_eq_getElem h2]; rfl
    rw [e1, e2]
    rcases h.2 i hi with ⟨d, a1, a2⟩ | ⟨a1, a2⟩
    · rcases g.2 i hi with ⟨e, b1, b2⟩ | ⟨b1, b2⟩
      · rw [a2, b2, a1.uniq b1]
      · exact absurd a1 (b1 d)
    · rcases g.2 i hi with ⟨e, b1, b2⟩ | ⟨b1, b2⟩
      · exact absurd b1 (a1 e)
      · rw [a2, b2]
  · rw [List.getElem?_eq_none (by rw [h.1]; omega), List.getElem?_eq_none (by rw [g.1]; omega)]
end Sky

namespace Sky
open PySem L2
def spPar : Sp := fun vs H Q _ => ∃ (a : Addr) (xs : List Int), vs = [.ref a] ∧ IL H a xs ∧ xs.length ≤ 100 ∧ newL H Q (treeL xs)
def spTree : Sp := fun vs H Q _ => ∃ (a : Addr) (xs : List Int), vs = [.ref a] ∧ IL H a xs ∧ Hts xs ∧ newL H Q (treeL xs)
def spChkP : Sp := fun vs H Q _ => ∃ (a : Addr) (P : List Int), vs = [.ref a] ∧ IL H a P ∧ P.length ≤ 100 ∧ PV P ∧ ∀ H', Same H H' → Q .non H'
def spDepths : Sp := fun vs H Q _ => ∃ (a : Addr) (P : List Int), vs = [.ref a] ∧ IL H a P ∧ P.length ≤ 100 ∧ PV P ∧ ∀ D : List Int, IsDep P D → newL H Q D
/-- a list of lists of places -/
structure KL (H : Hp) (bn : Addr) (ps : List Addr) (f : Nat → List Nat) : Prop where
  at_ : H bn = some (.lst (ps.map V.ref))
  nd : ps.Nodup
  it : ∀ (j : Nat) (p : Addr), ps[j]? = some p → IL H p (cst (f j)) ∧ p ≠ bn
theorem KL.get {H : Hp} {bn : Addr} {ps : List Addr} {f : Nat → List Nat} (h : KL H bn ps f) {j : Nat} (hj : j < ps.length) : atI (ps.map V.ref) (j : Int) = some (V.ref ps[j]) ∧ IL H ps[j] (cst (f j)) :=
  ⟨atI_nat (by rw [List.getElem?_map, List.getElem?_eq_getElem hj]; rfl), (h.it j _ (List.getElem?_eq_getElem hj)).1⟩
theorem KL.keep {H H' : Hp} {bn : Addr} {ps : List Addr} {f : Nat → List Nat} (h : KL H bn ps f) (k : ∀ b o, H b = some o → b = bn ∨ b ∈ ps → H' b = some o) : KL H' bn ps f :=
  ⟨k _ _ h.at_ (.inl rfl), h.nd, fun j p e => ⟨k _ _ (h.it j p e).1 (.inr (List.mem_of_getElem? e)), (h.it j p e).2⟩⟩
theorem nodup_get {α : Type} {l : List α} (h : l.Nodup) {i j : Nat} {x : α} (hi : l[i]? = some x) (hj : l[j]? = some x) : i = j := by
  obtain ⟨h1, e1⟩ := List.getElem?_eq_some_iff.mp hi
  obtain ⟨h2, e2⟩ := List.getElem?_eq_some_iff.mp hj
  exact (List.getElem_inj h).mp (e1.trans e2.symm)
/-- one of them grows -/
theorem KL.grow {H : Hp} {bn : Addr} {ps : List Addr} {f g : Nat → List Nat} {j : Nat} {x : Nat} (h : KL H bn ps f) (hj : j < ps.length) (hg : ∀ k, k < ps.length → g k = if k = j then f k ++ [x] else f k) : KL (upd H ps[j] (.lst ((cst (f j)).map V.int ++ [.int (x : Nat)]))) bn ps g := by
  have hpj := h.it j _ (List.getElem?_eq_getElem hj)
  refine ⟨by rw [upd_ne (Ne.symm hpj.2)]; exact h.at_, h.nd, fun k p e => ?_⟩
  have hk : k < ps.length := (List.getElem?_eq_some_iff.mp e).1
  have hp := h.it k p e
  refine ⟨?_, hp.2⟩
  rw [hg k hk]
  by_cases hkj : k = j
  · subst hkj
    have : ps[k] = p := Option.some.inj ((List.getElem?_eq_getElem hk).symm.trans e)
    rw [this, if_pos rfl]
    refine upd_same.trans ?_
    rw [show cst (f k ++ [x]) = cst (f k) ++ [(x : Int)] from List.map_append, List.map_append]; rfl
  · rw [if_neg hkj]
    have : p ≠ ps[j] := fun z => hkj (nodup_get h.nd e (by rw [List.getElem?_eq_getElem hj, z]))
    exact (upd_ne this).trans hp.1
theorem cst_snoc (l : List Nat) (x : Nat) : cst (l ++ [x]) = cst l ++ [(x : Int)] := List.map_append
theorem cst_length (l : List Nat) : (cst l).length = l.length := List.length_map _
end Sky
namespace Sky
open PySem L2
end Sky

namespace L2
open PySem PySem.Spec PyProof.Rows
/-! ### a chain of comparisons as a value -/
section
variable {X : Cx} {pos : Pos} {e e' a : Expr} {es : List Expr} {op op' : CmpOp} {ops : List CmpOp} {te ta : TE} {t : V → TE} {r : R2}
end
/-! ### x, y, z = a, b, c -/
section
variable {X : Cx} {pos : Pos}
end
/-! ### for x, y in zip(xs, zs) -/
/-! ### tuples of ints compared -/
end L2

namespace Sky
open PySem L2
theorem seq_cut {t u : TS} {D : Ends} {σ : St} {H : Hp} (M : St → Hp → Prop) (h1 : ∀ N : St → Hp → Prop, (∀ σ H, M σ H → N σ H) → t { D with nx := N } σ H) (h2 : ∀ σ H, M σ H → u D σ H) : tSeq t u D σ H := h1 _ h2
end Sky

namespace L2
open PySem PySem.Spec PyProof.Rows
/-! ### the flight of an exception, to the last object -/
/-- of the heap: the frames at fr may change their slots, the records at xs may change, all else is kept -/
structure Chg (fr xs : List Addr) (h h' : Heap) : Prop where
  keep : ∀ b o, b ∉ fr → b ∉ xs → h.get? b = some o → h'.get? b = some o
  slot : ∀ b o, b ∉ xs → h.get? b = some o → ∃ sl, h'.get? b = some { o with slots := sl }
  there : ∀ b o, h.get? b = some o → ∃ o', h'.get? b = some o'
theorem Chg.trans {fr xs : List Addr} {h h1 h2 : Heap} (a : Chg fr xs h h1) (b : Chg fr xs h1 h2) : Chg fr xs h h2 :=
  ⟨fun c o h1 h2 e => b.keep c o h1 h2 (a.keep c o h1 h2 e), fun c o h1 e => let ⟨_, q⟩ := a.slot c o h1 e; let ⟨sl, q'⟩ := b.slot c _ h1 q; ⟨sl, q'⟩, fun c o e => let ⟨o', q⟩ := a.there c o e; b.there c o' q⟩
theorem Chg.mono {fr xs fr' xs' : List Addr} {h h1 : Heap} (a : Chg fr xs h h1) (hf : ∀ b ∈ fr, b ∈ fr') (hx : ∀ b ∈ xs, b ∈ xs') : Chg fr' xs' h h1 :=
  ⟨fun c o h1 h2 e => a.keep c o (fun z => h1 (hf c z)) (fun z => h2 (hx c z)) e, fun c o h1 e => a.slot c o (fun z => h1 (hx c z)) e, a.there⟩
/-- the exception at e: its class, its traceback (none, or the record at T whose flight is fl), no context -/
def Tr (h : Heap) (e : Addr) (cls : Value) (T : Option Addr) (fl : Value) : Prop :=
  ∃ oe vs, h.get? e = some oe ∧ oe.cls = cls ∧ oe.dict = none ∧ oe.data = .fields vs ∧ vs[2]? = some .none ∧ match T with
    | none => vs[1]? = some .none
    | some T => vs[1]? = some (.ref T) ∧ T ≠ e ∧ ∃ oT ts, h.get? T = some oT ∧ oT.data = .fields ts ∧ ts[3]? = some fl
theorem Tr.made {h h' : Heap} {e : Addr} {cls : Value} {args : List Value} (m : Heap.MadeExcOf h h' e cls args) : Tr h' e cls none .none := by
  obtain ⟨t, he, _, _⟩ := m.there
  exact ⟨_, _, he, rfl, rfl, rfl, rfl, rfl⟩
theorem dict_mapFields (f : Array Value → Array Value) (o : Obj) : (Obj.mapFields f o).dict = o.dict := by
  obtain ⟨c, d, dt, sl⟩ := o
  cases dt <;> rfl

section
variable {M : Model} {A : Around} {E : Value → Shared → Prop} {s : Shared}
/-- the new entry -/
theorem entry_ok {base : Heap} {env : Env} {outer : List Env} {L e : Addr} {oe : Obj} {vs : Array Value} {head : Value} {hadNext : Bool} {Q : Unit → Shared → Prop}
    (hfr : A.frames = some (env :: outer)) (hl : s.heap.FunFrames base (env :: outer)) (hf : env.frame = some L)
    (he : s.heap.get? e = some oe) (hdc : oe.dict = none) (hd : oe.data = .fields vs) (h2 : vs[2]? = some .none)
    (h : ∀ h' T, Tr h' e oe.cls (some T) (rawInt L) → s.heap.get? T = none → Chg (frs (env :: outer)) [e] s.heap h' → Q () { s with heap := h' }) :
    wpAny M A (do let a ← frameOf env; let pl ← entryPlaceOf L hadNext; let b ← EntryCells.newEntry head a .none (rawInt L) .none pl; setField (.ref e) 1 b) Q E s := by
  have hsz : 1 < vs.size := Nat.lt_trans (by decide) (Array.getElem?_eq_some_iff.mp h2).1
  have hene : e ∉ (env :: outer).filterMap (·.frame) := fun hm => by
    obtain ⟨_, o, ho, hnf⟩ := hl.mem hm
    rw [he] at ho; injection ho with ho; subst ho; exact hnf vs hd
  refine wpAny_bind (wpAny_frameOf_fun hfr hl hf fun h₁ hs₁ => ?_)
  refine wpAny_bind (wpAny_entryPlaceOf fun pl hpl => ?_)
  unfold EntryCells.newEntry newFields
  refine wpAny_bind (wpAny_newObj_type ?_ (hpl.sizeOk5 _ _ _ _ _))
  have he₁ : h₁.get? e = some oe := (hs₁.2.1 e hene).trans he
  have he₂ := Heap.get?_push_of_some (h := h₁) { cls := .type "traceback", dict := none, data := .fields ([head, .ref L, .none, rawInt L, .none] ++ (if pl.isEmpty then List.replicate 6 Value.none else pl)).toArray } he₁
  refine wpAny_setField he₂ hd hsz (h _ h₁.objs.size ?_ ?_ ?_)
  · have hTe : h₁.objs.size ≠ e := Nat.ne_of_gt (Heap.lt_size he₁)
    have hd₃ := Obj.data_mapFields hd (·.setIfInBounds 1 (Value.ref h₁.objs.size))
    refine ⟨_, _, Heap.get?_update_self _ he₂ (Obj.isFreed_of_fields hd₃), Obj.cls_mapFields _ _, (dict_mapFields _ _).trans hdc, hd₃, by rw [Array.getElem?_setIfInBounds_ne (by decide)]; exact h2, by simp [hsz], hTe, ?_⟩
    refine ⟨_, _, (Heap.get?_update_other _ _ (Ne.symm hTe)).trans (Heap.get?_push_size h₁ rfl), rfl, ?_⟩
    first | (simp; done) | (rcases hpl with rfl | ⟨_, _, _, _, _, _, _, rfl⟩ <;> simp)
  · exact Heap.get?_none_of_le (by rw [hs₁.1]; exact Nat.le_refl _)
  · have up : ∀ b o, b ≠ e → h₁.get? b = some o → ((h₁.push { cls := .type "traceback", dict := none, data := .fields ([head, .ref L, .none, rawInt L, .none] ++ (if pl.isEmpty then List.replicate 6 Value.none else pl)).toArray }).update e (Obj.mapFields (·.setIfInBounds 1 (Value.ref h₁.objs.size)))).get? b = some o := fun b o hbe hb => by
      rw [Heap.get?_update_other _ _ (Ne.symm hbe)]
      exact Heap.get?_push_of_some _ hb
    refine ⟨fun b o hb hx q => up b o (fun z => hx (by simp [z])) ((hs₁.2.1 b hb).trans q), fun b o hx q => ?_, fun b o q => ?_⟩
    · obtain ⟨sl, q'⟩ := hs₁.2.2 b o q
      exact ⟨sl, up b _ (fun z => hx (by simp [z])) q'⟩
    · by_cases z : b = e
      · subst z
        exact ⟨_, Heap.get?_update_self _ he₂ (Obj.isFreed_of_fields (Obj.data_mapFields hd _))⟩
      · obtain ⟨sl, q'⟩ := hs₁.2.2 b o q
        exact ⟨_, up b _ z q'⟩

def trs (T : Option Addr) : List Addr := T.toList
/-- the frame is noted in the traceback -/
theorem note_ok {base : Heap} {env : Env} {outer : List Env} {L e : Addr} {cls : Value} {T : Option Addr} {Q : Unit → Shared → Prop}
    (hfr : A.frames = some (env :: outer)) (hl : s.heap.FunFrames base (env :: outer)) (hf : env.frame = some L) (ht : Tr s.heap e cls T .none)
    (h : ∀ h' T', Tr h' e cls (some T') (rawInt L) → s.heap.get? T' = none → Chg (frs (env :: outer)) (e :: trs T) s.heap h' → Q () { s with heap := h' }) : wpAny M A (noteFrame (.ref e) env) Q E s := by
  obtain ⟨oe, vs, he, hc, hdc, hd, h2, ht⟩ := ht
  subst hc
  unfold noteFrame
  simp only [hf]
  cases T with
  | none =>
    refine wpAny_bind (wpAny_field he hd ht ?_)
    rw [if_neg (by decide)]
    exact entry_ok hfr hl hf he hdc hd h2 fun h' T' t n c => h h' T' t n (c.mono (fun _ z => z) fun b z => by simpa [trs] using z)
  | some T =>
    obtain ⟨h1, hTe, oT, ts, hT, hdT, h3⟩ := ht
    refine wpAny_bind (wpAny_field he hd h1 ?_)
    rw [if_pos (show (Value.ref T != Value.none) = true from by simp)]
    refine wpAny_bind (wpAny_field hT hdT h3 ?_)
    rw [if_neg (show ¬ ((Value.none == rawInt L) = true) from by simp [rawInt])]
    refine wpAny_bind (wpAny_setField hT hdT (Array.getElem?_eq_some_iff.mp h3).1 ?_)
    have other : ∀ b, b ≠ T → (s.heap.update T (Obj.mapFields (·.setIfInBounds 3 Value.none))).get? b = s.heap.get? b := fun b hb => Heap.get?_update_other _ _ (Ne.symm hb)
    have selfT := Heap.get?_update_self (Obj.mapFields (·.setIfInBounds 3 Value.none)) hT (Obj.isFreed_of_fields (Obj.data_mapFields hdT _))
    have noT : ∀ b o, s.heap.get? b = some o → (∀ vs, o.data ≠ .fields vs) → b ≠ T := fun b o hb hnf q => by
      rw [q, hT] at hb; injection hb with hb; subst hb; exact hnf ts hdT
    have c0 : Chg (frs (env :: outer)) (e :: trs (some T)) s.heap (s.heap.update T (Obj.mapFields (·.setIfInBounds 3 Value.none))) :=
      ⟨fun b o _ hx q => (other b fun z => hx (by simp [trs, z])).trans q, fun b o hx q => ⟨o.slots, (other b fun z => hx (by simp [trs, z])).trans q⟩, fun b o q => by
        by_cases z : b = T
        · subst z; exact ⟨_, selfT⟩
        · exact ⟨o, (other b z).trans q⟩⟩
    refine entry_ok (base := base) hfr (hl.of_keeps fun b o hb hnf => ⟨o, (other b (noT b o hb hnf)).trans hb, rfl⟩) hf ((other e (Ne.symm hTe)).trans he) hdc hd h2 fun h' T' t n c => h h' T' t ?_ (c0.trans (c.mono (fun _ z => z) fun b z => ?_))
    · have n' : (s.heap.update T (Obj.mapFields (·.setIfInBounds 3 Value.none))).get? T' = none := n
      by_cases z : T' = T
      · subst z; rw [selfT] at n'; cases n'
      · rw [other T' z] at n'; exact n'
    · have : b = e := by simpa using z
      simp [this]
/-- .. and it lands -/
theorem flight_ok {e T : Addr} {cls fl : Value} {Q : Unit → Shared → Prop} (ht : Tr s.heap e cls (some T) fl)
    (h : ∀ h', Tr h' e cls (some T) .none → Chg [] [T] s.heap h' → Q () { s with heap := h' }) : wpAny M A (setFlight (.ref e) none) Q E s := by
  obtain ⟨oe, vs, he, hc, hdc, hd, h2, h1, hTe, oT, ts, hT, hdT, h3⟩ := ht
  unfold setFlight
  refine wpAny_bind (wpAny_field he hd h1 ?_)
  rw [if_pos (show (Value.ref T != Value.none) = true from by simp)]
  have other : ∀ b, b ≠ T → (s.heap.update T (Obj.mapFields (·.setIfInBounds 3 ((none : Option Addr).elim Value.none fun f => rawInt f)))).get? b = s.heap.get? b := fun b hb => Heap.get?_update_other _ _ (Ne.symm hb)
  have selfT := Heap.get?_update_self (Obj.mapFields (·.setIfInBounds 3 ((none : Option Addr).elim Value.none fun f => rawInt f))) hT (Obj.isFreed_of_fields (Obj.data_mapFields hdT _))
  refine wpAny_setField hT hdT (Array.getElem?_eq_some_iff.mp h3).1 (h _ ⟨oe, vs, (other e (Ne.symm hTe)).trans he, hc, hdc, hd, h2, h1, hTe, _, _, selfT, Obj.data_mapFields hdT _, by simp [(Array.getElem?_eq_some_iff.mp h3).1]⟩ ?_)
  exact ⟨fun b o _ hx q => (other b fun z => hx (by simp [z])).trans q, fun b o hx q => ⟨o.slots, (other b fun z => hx (by simp [z])).trans q⟩, fun b o q => by
    by_cases z : b = T
    · subst z; exact ⟨_, selfT⟩
    · exact ⟨o, (other b z).trans q⟩⟩
/-- the frame is left -/
theorem leave_ok {base : Heap} {env : Env} {outer : List Env} {L e : Addr} {cls : Value} {T : Option Addr} {Q : Unit → Shared → Prop}
    (hfr : A.frames = some (env :: outer)) (hl : s.heap.FunFrames base (env :: outer)) (hf : env.frame = some L) (ht : Tr s.heap e cls T .none)
    (h : ∀ h' T', Tr h' e cls (some T') .none → s.heap.get? T' = none → Chg (frs (env :: outer)) (e :: trs T) s.heap h' → Q () { s with heap := h' }) : wpAny M A (leaving env (.ref e)) Q E s := by
  unfold leaving
  refine wpAny_bind (note_ok hfr hl hf ht fun h1 T1 t1 n1 c1 => flight_ok t1 fun h2 t2 c2 => h h2 T1 t2 n1 ⟨fun b o x1 x2 q => ?_, fun b o x1 q => ?_, fun b o q => ?_⟩)
  · have nT : b ≠ T1 := fun z => by rw [z, n1] at q; cases q
    exact c2.keep b o (by simp) (by simpa using nT) (c1.keep b o x1 x2 q)
  · have nT : b ≠ T1 := fun z => by rw [z, n1] at q; cases q
    obtain ⟨sl, q'⟩ := c1.slot b o x1 q
    obtain ⟨sl', q''⟩ := c2.slot b _ (by simpa using nT) q'
    exact ⟨sl', q''⟩
  · obtain ⟨o', q'⟩ := c1.there b o q
    exact c2.there b o' q'
end
end L2

namespace PySem.W
open PySem PySem.Spec PySem.Calls PyProof.Rows
/-- what isinstance asks of an own class of exceptions -/
structure ExcC (K : Frag) (D : Addr) : Prop where
  ga : findIn K (.ref D) "__getattribute__" = some (some (.builtin "BaseException.__getattribute__"))
  gn : findIn K (.ref D) "__getattr__" = some none
  ha : findIn K (.ref D) "__class__" = some (some (.builtin "object.__class__"))
  hn : specialIn K (.builtin "object.__class__") "__get__" = some (some (.builtin "getset_descriptor.__get__"))
  htk : takesIn K (.builtin "object.__class__") = some true
  hm : mroIn K D (.type "object") = some true
  hb : mroIn K D (.type "BaseException") = some true
  hc : (clsIn K D).isSome = true
section
variable {prog : Program} {w : World} {A : Around} {E : Value → Shared → Prop} {s : Shared} {K : Frag} {x D : Addr} {ox : Obj}
theorem exc_find (c : ExcC K D) : findObj K D none "__class__" = some (.bind (.builtin "getset_descriptor.__get__") (.builtin "object.__class__")) := by
  obtain ⟨cd, hc⟩ := Option.isSome_iff_exists.mp c.hc
  unfold findObj
  rw [hc, Option.bind_some, c.ha, Option.bind_some]
  simp [c.hn, c.htk]
theorem exc_check {M : Model} {nameV : Value} {Q : Unit → Shared → Prop} (c : ExcC K D) (X : K.In s.heap) (I : InstAt s.heap x ox D none) (hq : Q () s) : wpAny M A (checkBuiltinCall "BaseException.__getattribute__" ⟨[.ref x, nameV], []⟩) Q E s := by
  obtain ⟨h, g, d, t, os⟩ := s
  have L0 := I.type (M := M)
  have L1 := looks_mroIn (M := M) X c.hb
  have hk : builtinKind "BaseException.__getattribute__" = some .slot := by decide +kernel
  have hsplit : splitId "BaseException.__getattribute__" = some ("BaseException", "__getattribute__") := by decide +kernel
  have ha := F.args_bexc_ga (.ref x) nameV
  simp only [checkBuiltinCall, hk, hsplit]
  refine wpAny_bind ?_
  · unfold isInstance
    repeat (first | lk | wp_step)
    exact hq
theorem exc_class {Q : Option Value → Shared → Prop} (c : ExcC K D) (X : K.In s.heap) (I : InstAt s.heap x ox D none) (h : Q (some (.ref D)) { s with toks := s.toks + 1 }) : wpAny (model prog w) A (getAttr? (.ref x) "__class__") Q E s := by
  obtain ⟨hh, g, d, t, os⟩ := s
  have L0 := I.type (M := model prog w)
  have L1 := looks_findIn (M := model prog w) X c.ga
  have L2 := looks_findIn (M := model prog w) X c.gn
  have f3 := F.excAttr_ValueError.ga.bind (.ref x)
  have hx2 : (Value.builtin "BaseException.__getattribute__" == Value.builtin "object.__getattribute__") = false := by decide +kernel
  have hx1 : (onTheHeap (Value.ref D) && Value.builtin "BaseException.__getattribute__" == Value.builtin "object.__getattribute__") = false := by rw [hx2]; rfl
  unfold getAttr? getAttrBy? getAttrBy
  refine wpAny_bind (wpAny_mkText (wpAny_bind (wpAny_attempt (wpAny_holding (wpAny_bind (L0.at (wpAny_bind (L1.at ?_))))))))
  show wpAny _ _ (if (onTheHeap (Value.ref D) && Value.builtin "BaseException.__getattribute__" == Value.builtin "object.__getattribute__") = true then _ else _) _ _ _
  rw [if_neg (by rw [hx1]; decide)]
  unfold getAttrByItsOwn hookBefore callGetattribute
  show wpAny _ _ (typeLookup (.ref D) "__getattr__" >>= _) _ _ _
  refine wpAny_bind (L2.at ?_)
  refine wpAny_bind (wpAny_attempt (wpAny_holding ?_))
  show wpAny _ _ (boundAndCalled _ _ _) _ _ _
  unfold boundAndCalled
  rw [f3]
  refine wpAny_bind (wpAny_pure ?_)
  show wpAny _ _ (call (.builtin "BaseException.__getattribute__") [.ref x, .str "__class__" t]) _ _ _
  refine wpAny_call (codeAny_call_builtin F.excAttr_ValueError.ga.plain F.entry_bexc_ga (exc_check c X I ?_))
  have L3 := looks_find (M := model prog w) X I (exc_find c)
  show wpAny _ _ (Builtin.«object.__getattribute__» ⟨[.ref x, .str "__class__" t], []⟩) _ _ _
  unfold Builtin.«object.__getattribute__»
  refine wpAny_bind (wpAny_pure ?_)
  refine wpAny_bind (wpAny_pure ?_)
  refine wpAny_bind (L0.at (wpAny_bind (L3.at ?_)))
  dsimp only
  k_delta "bindTo"
  show wpAny _ _ (holding _ (call (Value.builtin "getset_descriptor.__get__") [Value.builtin "object.__class__", Value.ref x, Value.ref D]) >>= ret) _ _ _
  refine wpAny_bind (wpAny_holding (wpAny_call (class_get (ox := ox) (od := none) X I c.hm ?_)))
  refine wpAny_pure ?_
  dsimp only
  exact handed_on rfl (wpAny_pure h)
theorem kitx_exc (c : ExcC K D) : KitX K (.ref x) (.ref D) (fun h => InstAt h x ox D none) where
  ty := fun _ _ _ I => I.type
  it := fun _ _ X _ => by
    obtain ⟨cdD, hcD⟩ := Option.isSome_iff_exists.mp c.hc
    unfold clsIn at hcD
    split at hcD
    · rename_i c' d' cd' sl' ho
      intro A' Q' E' s' k q
      unfold isType loadHead
      exact wpAny_bind (wpAny_loadPart (k _ _ (X _ _ ho)) (wpAny_pure q))
    · cases hcD
  ne := fun h tp dd its n sl X htp => by
    obtain ⟨cdD, hcD⟩ := Option.isSome_iff_exists.mp c.hc
    refine Bool.eq_false_iff.mpr fun q => ?_
    have e : D = tp := Value.ref.inj (beq_iff_eq.mp q)
    subst e
    unfold clsIn at hcD
    split at hcD
    · rename_i c' d' cd' sl' ho
      have z := (X _ _ ho).symm.trans htp
      cases z
    · cases hcD
  ca := fun X I k => exc_class c X I k
end
end PySem.W
namespace L2
open PySem PySem.Spec PyProof.Rows
section
variable {X : Cx} {C ea : Addr} {oe : Obj}
/-- isinstance(e, c), e an exception that is pinned -/
theorem call_isexc (hp : (ea, oe) ∈ X.pn) (c : PySem.W.ExcC X.K C) (hc : oe.cls = .ref C) (hdc : oe.dict = none) (hno : PySem.W.notCls oe = true) :
    CallR X (.builtin "isinstance") (fun xs H Q => ∃ k cv b, xs = [.ref ea, k] ∧ clsV k = some cv ∧ PySem.W.kitOne X.K (.ref C) cv = some b ∧ Q (.bl b) H) := by
  intro pins s σ H xs us Q I r h
  obtain ⟨k, cv, b, rfl, hk, e, q⟩ := h
  cases r with
  | cons r1 r2 =>
    cases r2 with
    | cons r2 r3 =>
      cases r3
      rename_i u1 u2
      cases (show u1 = Value.ref ea from r1)
      have e2 : u2 = cv := clsV_rel r2 hk
      subst e2
      obtain ⟨he, _⟩ := I.pin (ea, oe) (List.mem_append_left _ hp)
      have J : PySem.W.InstAt s.heap ea oe C none := ⟨he, hc, hno, by rw [hdc]; trivial⟩
      exact PySem.W.kia_one (PySem.W.kitx_exc c) I.kIn J e (fun z => nomatch z) fun tk => ⟨.bl b, H, I.tok tk, rfl, q⟩
end
end L2

namespace L2
open PySem PySem.Spec PyProof.Rows
theorem ObjOk.there {P : Program} {w : World} {H : Hp} {h : Heap} {a : Addr} {o : HO} (x : ObjOk P w H h a o) : ∃ u, h.get? a = some u := by
  cases o with
  | lst xs => obtain ⟨_, _, _, _, e⟩ := x; exact ⟨_, e⟩
  | tup xs => obtain ⟨_, _, _, p⟩ := x; obtain ⟨o, e, _⟩ := p; exact ⟨o, e⟩
  | dK kvs => obtain ⟨_, _, _, _, o, _, _, e, _⟩ := x; exact ⟨_, e⟩
  | dT kvs => obtain ⟨_, _, _, _, o, _, _, e, _⟩ := x; exact ⟨_, e⟩
  | set S n => obtain ⟨o, _, _, _, e, _⟩ := x; exact ⟨_, e⟩
  | ins C dx fs => obtain ⟨_, _, _, e, _⟩ := x; exact ⟨_, e⟩
  | own y => obtain ⟨_, e⟩ := x; exact ⟨_, e⟩
  | xd fs => obtain ⟨_, ⟨_, _, _, e, _⟩, _⟩ := x; exact ⟨_, e⟩
  | rng lo hi => obtain ⟨_, _, _, e⟩ := x; exact ⟨_, e⟩
  | frz ob u => obtain ⟨e, _⟩ := x; exact ⟨_, e⟩
  | tbl ps => exact ⟨_, (show h.get? a = some _ from x)⟩
  | met f y => exact ⟨_, (show h.get? a = some _ from x)⟩
  | ext φ => obtain ⟨_, ⟨_, e⟩, _⟩ := x; exact ⟨_, e⟩
theorem HOk.none {P : Program} {w : World} {H : Hp} {h : Heap} {a : Addr} (x : HOk P w H h) (e : h.get? a = none) : H a = none := by
  cases q : H a with
  | none => rfl
  | some u => obtain ⟨o, z⟩ := (x a u q).there; rw [e] at z; cases z

/-- how an exception of an own class lies behind a call -/
def CX1 (P : Program) (w : World) : CXT := fun outer H s E e s' => ∃ ea C H' T, e = .ref ea ∧ s'.os = s.os ∧ AllBare s'.gens ∧ Un (frs outer) [] H H' s.heap s'.heap ∧ HOk P w H' s'.heap ∧
  Tr s'.heap ea (.ref C) (some T) .none ∧ s.heap.get? ea = none ∧ s.heap.get? T = none ∧ H' ea = none ∧ H' T = none ∧ E (.ref C) none H'

section
variable {X : Cx} {pins : List (Addr × Obj)} {σ : St} {H H' : Hp} {s s' : Shared} {h' : Heap} {xs : List Addr}
/-- records of ours that nobody tracks have changed, and slots of the frames -/
theorem Inv.chg (I : Inv X pins σ H s) (c : Chg (frs X.stack) xs s.heap h') (h0 : ∀ b ∈ xs, X.s₀.heap.get? b = none ∧ H b = none ∧ b ≠ X.env.locals ∧ (∀ x c, X.env.cells.lookup x = some c → c ≠ b) ∧ ∀ p ∈ X.pn ++ pins, p.1 ≠ b) :
    Inv X pins σ H { s with heap := h' } := by
  have neL : ∀ b o, X.s₀.heap.get? b = some o → b ≠ X.env.locals := fun b o e => Nat.ne_of_lt (Nat.lt_of_lt_of_le (Heap.lt_size e) I.ok.above)
  have neX : ∀ b o, X.s₀.heap.get? b = some o → b ∉ xs := fun b o e hb => by rw [(h0 b hb).1] at e; cases e
  have nst : ∀ b, b ≠ X.env.locals → b ∉ X.fs → b ∉ frs X.stack := fun b h1 h2 z => (List.mem_cons.mp (I.stkSub b z)).elim h1 h2
  have cellK : ∀ x c', X.env.cells.lookup x = some c' → ∀ v, s.heap.IsCell c' v → h'.IsCell c' v := fun x c' e v ⟨o, ho, hd⟩ => by
    obtain ⟨sl, q⟩ := c.slot c' o (fun z => (h0 c' z).2.2.2.1 x c' e rfl) ho
    exact ⟨_, q, hd⟩
  refine ⟨I.ok, I.os, I.bare, ⟨fun b o e n hb hx => ?_, fun b o e n hb hx => ?_, fun b o e n hx => I.base.free b o e n hx, fun b o e hx => ?_, I.base.tups, I.base.frzs, I.base.tbls⟩, ?_, fun x c' e => ?_, I.free, I.freeC, fun p hp => ?_, fun b ob e => ?_, I.len⟩
  · exact c.keep b o (nst b (neL b o e) hb) (neX b o e) (I.base.keep b o e n hb hx)
  · obtain ⟨sl, e1⟩ := I.base.slot b o e n hb hx
    obtain ⟨sl', e2⟩ := c.slot b _ (neX b o e) e1
    exact ⟨sl', e2⟩
  · obtain ⟨o', e1⟩ := I.base.there b o e hx
    exact c.there b o' e1
  · obtain ⟨m, ⟨o, es, ep, ho, r⟩, hl⟩ := I.loc
    obtain ⟨sl, q⟩ := c.slot _ o (fun z => (h0 _ z).2.2.1 rfl) ho
    refine ⟨m, ⟨_, es, ep, q, r⟩, fun i x v e1 e2 e3 => ?_⟩
    obtain ⟨u, r, l⟩ := hl i x v e1 e2 e3
    refine ⟨u, r, ?_⟩
    rcases l with l | ⟨k, c', e, z⟩
    · exact .inl l
    · exact .inr ⟨k, c', e, cellK x c' e _ z⟩
  · obtain ⟨v, z⟩ := I.cell x c' e
    exact ⟨v, cellK x c' e v z⟩
  · obtain ⟨e, n, ne, nf, d⟩ := I.pin p hp
    exact ⟨c.keep p.1 p.2 (nst p.1 ne nf) (fun z => (h0 p.1 z).2.2.2.2 p hp rfl) e, n, ne, nf, d⟩
  · have nt : ∀ b' u, H b' = some u → b' ∉ frs X.stack ∧ b' ∉ xs := fun b' u q => ⟨fun z => (by rw [I.stkFree b' z] at q; cases q), fun z => (by rw [(h0 b' z).2.1] at q; cases q)⟩
    refine (I.hok b ob e).stay (fun c' v hc q => ?_) (fun _ q => q) fun _ _ q => q
    have : ∃ u, H c' = some u := by
      rcases hc with z | z
      · rw [z]; exact ⟨ob, e⟩
      · exact ⟨_, z⟩
    obtain ⟨u, hu⟩ := this
    exact c.keep c' v (nt c' u hu).1 (nt c' u hu).2 q
/-- a record that was not there at s is none of ours -/
theorem Inv.new (I : Inv X pins σ H s) (hex : X.ex = []) {b : Addr} (n : s.heap.get? b = none) : X.s₀.heap.get? b = none ∧ b ≠ X.env.locals ∧ (∀ x c, X.env.cells.lookup x = some c → c ≠ b) ∧ ∀ p ∈ X.pn ++ pins, p.1 ≠ b := by
  refine ⟨?_, fun z => ?_, fun x c e z => ?_, fun p hp z => ?_⟩
  · cases q : X.s₀.heap.get? b with
    | none => rfl
    | some o => obtain ⟨o', e⟩ := I.base.there b o q (by rw [hex]; simp); rw [n] at e; cases e
  · obtain ⟨m, ⟨o, _, _, ho, _⟩, _⟩ := I.loc
    rw [← z, n] at ho; cases ho
  · obtain ⟨v, o, ho, _⟩ := I.cell x c e
    rw [z, n] at ho; cases ho
  · have := (I.pin p hp).1
    rw [z, n] at this; cases this

/-- an exception of the body leaves the def -/
theorem leave_cx {ea C : Addr} {T : Option Addr} {E : XK} {M : Model} {Z : Value → Shared → Prop} (I : Inv X pins σ H s) (hex : X.ex = []) (hstk : X.stack = X.env :: X.outer) (hf : X.env.frame = some X.env.locals)
    (hos : s'.os = s.os) (hb : AllBare s'.gens) (u : Un (frs X.stack) [] H H' s.heap s'.heap) (hok : HOk X.prog X.w H' s'.heap) (ht : Tr s'.heap ea (.ref C) T .none) (hne : s.heap.get? ea = none) (hHe : H' ea = none)
    (hT : ∀ t, T = some t → s.heap.get? t = none ∧ H' t = none) (hE : E (.ref C) none H') :
    wpAny M X.A (leaving X.env (.ref ea)) (fun _ s'' => CX1 X.prog X.w X.outer X.H₀ X.s₀ E (.ref ea) s'') Z s' := by
  have J : Inv X pins σ H' s' := I.call' hos u hok hb (fun b z => absurd z (by simp))
  have fl := J.stack
  rw [hstk] at fl
  refine leave_ok (by rw [J.ok.frames, hstk]) fl hf ht fun h2 T2 t2 n2 c2 => ?_
  rw [← hstk] at c2
  have h0 : ∀ b ∈ ea :: trs T, X.s₀.heap.get? b = none ∧ H' b = none ∧ b ≠ X.env.locals ∧ (∀ x c, X.env.cells.lookup x = some c → c ≠ b) ∧ ∀ p ∈ X.pn ++ pins, p.1 ≠ b := fun b hb => by
    rcases List.mem_cons.mp hb with z | z
    · subst z
      obtain ⟨a1, a2, a3, a4⟩ := I.new hex hne
      exact ⟨a1, hHe, a2, a3, a4⟩
    · have e : T = some b := by
        cases T with
        | none => simp [trs] at z
        | some t => simp [trs] at z; rw [z]
      obtain ⟨n1, n3⟩ := hT b e
      obtain ⟨a1, a2, a3, a4⟩ := I.new hex n1
      exact ⟨a1, n3, a2, a3, a4⟩
  have K := J.chg c2 h0
  refine ⟨ea, C, H', T2, rfl, K.os, K.bare, by have := K.base; rw [hex] at this; exact this, K.hok, t2, (h0 ea (by simp)).1, (J.new hex n2).1, hHe, J.hok.none n2, hE⟩
end

/-! ### a def whose exceptions are told -/
theorem cx_leave {P : Program} {w : World} {K : PySem.W.Frag} {mg : Str → Option Value} {base : Heap} {N : List Str} {qual : Str} {scope : Scope} {f : Addr} {cd : Value} {A : Around} {outer : List Env} {s0 : Shared} {H0 : Hp} {E : XK}
    {pins : List (Addr × Obj)} {σ : St} {H H' : Hp} {s s' : Shared} {ea C : Addr} {T : Option Addr} (I : Inv (cxOf (CX1 P w) P w K mg base N qual scope f cd A outer s0 H0 E) pins σ H s)
    (hos : s'.os = s.os) (hb : AllBare s'.gens) (u : Un (frs (cxOf (CX1 P w) P w K mg base N qual scope f cd A outer s0 H0 E).stack) [] H H' s.heap s'.heap) (hok : HOk P w H' s'.heap) (ht : Tr s'.heap ea (.ref C) T .none) (hne : s.heap.get? ea = none) (hHe : H' ea = none)
    (hT : ∀ t, T = some t → s.heap.get? t = none ∧ H' t = none) (hE : E (.ref C) none H') : (cxOf (CX1 P w) P w K mg base N qual scope f cd A outer s0 H0 E).xe (.ref ea) s' :=
  leave_cx (X := cxOf (CX1 P w) P w K mg base N qual scope f cd A outer s0 H0 E) (E := E) I rfl rfl rfl hos hb u hok ht hne hHe hT hE
/-- a callee's exception passes -/
theorem cx_pass {P : Program} {w : World} {K : PySem.W.Frag} {mg : Str → Option Value} {base : Heap} {N : List Str} {qual : Str} {scope : Scope} {f : Addr} {cd : Value} {A : Around} {outer : List Env} {s0 : Shared} {H0 : Hp} {E : XK} :
    Passes (CX1 P w) (cxOf (CX1 P w) P w K mg base N qual scope f cd A outer s0 H0 E) E := fun pins σ H s e s' I h => by
  obtain ⟨ea, C, H', T, rfl, hos, hb, u, hok, ht, hne, hnT, hHe, hHT, hE⟩ := h
  exact cx_leave I hos hb u hok ht hne hHe (fun t z => by cases z; exact ⟨hnT, hHT⟩) hE
/-- what a body may do with an exception: raise it -/
def Raises (X : Cx) (E : XK) : Prop := ∀ (pins : List (Addr × Obj)) (σ : St) (H : Hp) (s : Shared) (h' : Heap) (e C : Addr) (vs : List Value), Inv X pins σ H s → Heap.MadeExcOf s.heap h' e (.ref C) vs → E (.ref C) none H → X.xe (.ref e) { s with heap := h' }
theorem cx_raise {P : Program} {w : World} {K : PySem.W.Frag} {mg : Str → Option Value} {base : Heap} {N : List Str} {qual : Str} {scope : Scope} {f : Addr} {cd : Value} {A : Around} {outer : List Env} {s0 : Shared} {H0 : Hp} {E : XK} :
    Raises (cxOf (CX1 P w) P w K mg base N qual scope f cd A outer s0 H0 E) E := fun pins σ H s h' e C vs I m hE =>
  cx_leave (s' := { s with heap := h' }) I rfl I.bare (Un.kept m.keeps) (I.hok.kept m.keeps) (Tr.made m) m.new (I.hok.none m.new) (fun t z => nomatch z) hE
section
variable {X : Cx} {E : XK} {x : Str} {C : Addr} {np cpos pos : Pos} {e : Expr} {es : List Expr} {t : TA} {bmB : List Value}
/-- raise C(e, ..): C an own class below a built-in one -/
def sRaise (C : Addr) (E : XK) (t : TA) : TS := fun D σ H => t σ H fun vs H1 => vs.length ≤ sizeLine ∧ E (.ref C) none H1
theorem ps_raise {B newId initId : String} (hr : Raises X E) (FB : ExcBaseFacts B newId initId bmB) (q : PySem.W.excIn X.K C bmB newId = true) (hc : X.calm = true) (hg : Gl X x) (hm : X.mg x = some (.ref C)) (ha : PA X (e :: es) t)
    (hdb : (x == ("__debug__" : Str)) = false := by decide) (he : starEach (e :: es) X.env = (false, eval e X.env) :: starEach es X.env := by rfl) (hpl : (backTo cpos (starEach es X.env)).any (·.1) = false := by rfl) :
    PS X (.Raise (some (.Call (.Name x np) (e :: es) [] cpos)) none pos) (sRaise C E t) := by
  intro pins s σ H D I h
  have KX : X.K.In X.base := I.ok.mod.kin
  unfold PySem.W.excIn at q
  split at q
  · rename_i dd cd sl ho
    split at q
    · rename_i C' bm k0 k1 k2 k3 n k5 hmro hs
      simp only [Bool.and_eq_true, beq_iff_eq, Bool.not_eq_true'] at q
      obtain ⟨⟨⟨⟨⟨rfl, rfl⟩, hdel⟩, htl⟩, hokN⟩, hni⟩ := q
      obtain ⟨nm, bs, mro, ns, qn, hd, sn, sub, ab, col, del⟩ := cd
      dsimp only at hmro hdel hokN hni
      subst hmro hdel
      have hsl : sl = #[k0, k1, k2, k3, some (.builtin n), k5] := by
        obtain ⟨l⟩ := sl
        simp only at hs
        rw [hs]
      subst hsl
      refine wpAny_Raise_call_subT (C := C') (nm := nm) (q := qn) (N := ns) (bs := bs) (bm := bm) (hdct := hd) (sn := sn) (sub := sub) (ab := ab) (col := col) (dd := dd) (k0 := k0) (k1 := k1) (k2 := k2) (k3 := k3) (k5 := k5) FB (mN := X.base.nsMap ns) ((PySem.W.tail_of_in KX htl).hasType FB.hasBase) (I.ok.hd hc) (by rw [he]; show (false || (backTo cpos (starEach es X.env)).any (·.1)) = false; rw [hpl]; rfl) (PySem.W.nsMap_none_of_in KX hokN hni)
        (ld_glob I hg hm ⟨rfl, ?_⟩ hdb)
      have ha' := ha cpos pins s σ H _ I h
      rw [he] at ha' ⊢
      refine Calls.evalArgs_plain (thn ha' fun us s1 ⟨vs, H1, I1, r, z, q⟩ => ⟨rfl, by rw [← r.length]; exact z, I1.bk _ _ (KX _ _ ho), (Heap.Ns.of_isNs (PySem.W.isNs_of_in KX hokN)).keeps I1.bk, (PySem.W.tail_of_in KX htl).keeps I1.bk, fun h' ea m => hr pins σ H1 s1 h' ea _ us I1 m q⟩)
    · cases q
  · cases q
end
end L2

namespace L2
open PySem PySem.Spec PyProof.Rows
/-! ### try: .. except C as n: .. (a suite that returns) -/
abbrev Cx.alt (X : Cx) (A : Around) (calm : Bool) (pn : List (Addr × Obj)) (xe : Value → Shared → Prop) : Cx := { X with A := A, calm := calm, pn := pn, xe := xe }
theorem Cx.Ok.alt {X : Cx} (ok : X.Ok) {A : Around} {calm : Bool} {pn : List (Addr × Obj)} {xe : Value → Shared → Prop} (hf : A.frames = X.A.frames) (hh : calm = true → A.handled = none) : (X.alt A calm pn xe).Ok :=
  ⟨ok.mod, ok.kind, ok.glob, ok.blt, ok.above, ok.inj, ok.has, ok.cab, hh, hf.trans ok.frames, ok.stk, ok.exf, ok.bs, ok.bsz, ok.noex, ok.exfs, ok.funs, ok.frf⟩
section
variable {X : Cx} {pins pins' pn pn' : List (Addr × Obj)} {σ : St} {H : Hp} {s : Shared} {A A' : Around} {calm calm' : Bool} {xe xe' : Value → Shared → Prop} {h' : Heap}
theorem Inv.alt (I : Inv (X.alt A calm pn xe) pins σ H s) (ok : (X.alt A' calm' pn' xe').Ok) (hp : ∀ p ∈ pn' ++ pins', s.heap.get? p.1 = some p.2 ∧ H p.1 = none ∧ p.1 ≠ X.env.locals ∧ p.1 ∉ X.fs ∧ ∀ v, p.2.data ≠ .cell v) :
    Inv (X.alt A' calm' pn' xe') pins' σ H s := ⟨ok, I.os, I.bare, I.base, I.loc, I.cell, I.free, I.freeC, hp, I.hok, I.len⟩
/-- the names are forgotten -/
theorem Inv.forget {m' : Str → Option Value} {tk : Nat} (I : Inv X pins σ H s) (hn : h'.Ns X.env.locals m') (hs : Heap.SameBut X.env.locals s.heap h') : Inv X pins (List.replicate X.N.length none) H { s with heap := h', toks := tk } := by
  obtain ⟨m, hn0, hl⟩ := id I.loc
  obtain ⟨oL, _, _, hoL, _⟩ := id hn0
  have cne := I.cne
  have neL : ∀ b o, X.s₀.heap.get? b = some o → b ≠ X.env.locals := fun b o e => Nat.ne_of_lt (Nat.lt_of_lt_of_le (Heap.lt_size e) I.ok.above)
  refine ⟨I.ok, I.os, I.bare, ⟨fun b o e n hb hx => ?_, fun b o e n hb hx => ?_, I.base.free, fun b o e hx => ?_, I.base.tups, I.base.frzs, I.base.tbls⟩, ⟨_, hn, fun j y v' e1 e2 e3 => ?_⟩, fun y c e => ?_, I.free, I.freeC, fun p hp => ?_, fun b ob e => ?_, by simp⟩
  · exact (hs.2 b (neL b o e)).trans (I.base.keep b o e n hb hx)
  · obtain ⟨sl, e1⟩ := I.base.slot b o e n hb hx
    exact ⟨sl, (hs.2 b (neL b o e)).trans e1⟩
  · obtain ⟨o', e1⟩ := I.base.there b o e hx
    exact ⟨o', (hs.2 b (neL b o e)).trans e1⟩
  · rw [List.getElem?_replicate] at e2
    split at e2 <;> cases e2
  · obtain ⟨w', z⟩ := I.cell y c e
    exact ⟨w', z.sameBut hs (cne y c e)⟩
  · obtain ⟨e, n, ne, nf, d⟩ := I.pin p hp
    exact ⟨(hs.2 p.1 ne).trans e, n, ne, nf, d⟩
  · refine (I.hok b ob e).stay (fun c w' hc q => (hs.2 c ?_).trans q) (fun _ q => q) fun _ _ q => q
    rintro rfl
    rcases hc with z | hc
    · rw [← z, I.free] at e; cases e
    · rw [I.free] at hc; cases hc
end
/-- the exception as the suite finds it -/
structure Caught (H : Hp) (ea C : Addr) (oe : Obj) : Prop where
  cls : oe.cls = .ref C
  dict : oe.dict = none
  no : PySem.W.notCls oe = true
  free : H ea = none
  ctx : ∃ vs, oe.data = .fields vs ∧ vs[2]? = some .none
/-- the context of the suite -/
abbrev Cx.su (X : Cx) (ea : Addr) (pn : List (Addr × Obj)) : Cx := X.alt (X.A.mark (some (.ref ea))) false pn (fun _ _ => False)
section
variable {X : Cx} {x n : Str} {B : Addr} {i : Nat} {np hpos pos : Pos} {body suite : List Stmt} {b₀ : Stmt} {tb : XK → TS} {ts : Addr → Addr → List (Addr × Obj) → TS} {PC : Addr → Prop}
def eTry (K : PySem.W.Frag) (PC : Addr → Prop) (N i : Nat) (B : Addr) (ts : Addr → Addr → List (Addr × Obj) → TS) (D : Ends) : XK := fun cls _ H => ∃ C, cls = .ref C ∧ PC C ∧ PySem.W.exmOne K (.ref C) (.ref B) = some true ∧
  ∀ ea pn, H ea = none → ts ea C pn { nx := fun _ _ => False, rt := D.rt } ((List.replicate N none).set i (some (.ref ea))) H
def sTry (K : PySem.W.Frag) (PC : Addr → Prop) (N i : Nat) (B : Addr) (tb : XK → TS) (ts : Addr → Addr → List (Addr × Obj) → TS) : TS := fun D σ H => tb (eTry K PC N i B ts D) D σ H
theorem catch_ok {pins pins' : List (Addr × Obj)} {σ' : St} {H1 : Hp} {s1 s1' : Shared} {e : Value} {D : Ends} {xe : Value → Shared → Prop} (ok : X.Ok) (hstk : X.stack = X.env :: X.outer) (hf : X.env.frame = some X.env.locals) (hex : X.ex = []) (hN : X.N.Nodup) (hi : X.N[i]? = some n) (hl : X.env.kindOf n = some .local)
    (hg : Gl X x) (hm : X.mg x = some (.ref B))
    (hs : ∀ ea C oe pn H, (ea, oe) ∈ pn → PC C → Caught H ea C oe → PSs (X.su ea pn) (b₀ :: suite) (ts ea C pn)) (hd : (x == ("__debug__" : Str)) = false)
    (I1 : Inv (X.alt X.A X.calm (X.pn ++ pins) xe) pins' σ' H1 s1) (q : CX1 X.prog X.w X.stack H1 s1 (eTry X.K PC X.N.length i B ts D) e s1') :
    wpAny (model X.prog X.w) X.A (noteFrame e X.env) (fun _ s₂ => wpAny (model X.prog X.w) X.A (setFlight e none) (fun _ s₃ =>
      wpAny (model X.prog X.w) X.A (handleBy e X.env [.ExceptHandler (some (.Name x np)) (some n) (b₀ :: suite) hpos]) (SP X pins D) X.xe s₃) X.xe s₂) X.xe s1' := by
  obtain ⟨ea, C, H', T, rfl, os, bare, u, hok, ht, hne, hnT, hHe, hHT, C', hC', hPC, hmt, q⟩ := q
  cases hC'
  have J0 := I1.call' os u hok bare (fun b z => absurd z (by simp))
  have fl := J0.stack
  have fl : s1'.heap.FunFrames X.base (X.env :: X.outer) := hstk ▸ fl
  refine note_ok (base := X.base) (by rw [ok.frames, hstk]) fl hf ht fun h2 T2 t2 n2 c2 => ?_
  rw [← hstk] at c2
  have J1 := J0.chg (h' := h2) (xs := ea :: trs (some T)) c2 fun b hb => by
    rcases List.mem_cons.mp hb with z | z
    · subst z
      obtain ⟨a1, a2, a3, a4⟩ := I1.new hex hne
      exact ⟨a1, hHe, a2, a3, a4⟩
    · have e : b = T := by simpa [trs] using z
      subst e
      obtain ⟨a1, a2, a3, a4⟩ := I1.new hex hnT
      exact ⟨a1, hHT, a2, a3, a4⟩
  have hT2 : H' T2 = none := J0.hok.none n2
  obtain ⟨b1, b2, b3, b4⟩ := J0.new hex n2
  refine flight_ok t2 fun h3 t3 c3 => ?_
  have J2 := J1.chg (h' := h3) (xs := [T2]) (c3.mono (fun _ z => nomatch z) fun _ z => z) fun b hb => by
    have e : b = T2 := by simpa using hb
    subst e
    exact ⟨b1, hT2, b2, b3, b4⟩
  obtain ⟨oe, vs, he, hcl, hdc, hda, hv2, _⟩ := id t3
  have hno : PySem.W.notCls oe = true := by unfold PySem.W.notCls; rw [hda]
  -- the class is tried
  have okS : ∀ pn, (X.su ea pn).Ok := fun pn => ok.alt rfl fun z => nomatch z
  have K2 : Inv (X.su ea (X.pn ++ pins)) [] σ' H' _ := J2.alt (okS _) fun p hp => J2.pin p (by
    rcases List.mem_append.mp hp with z | z
    · exact List.mem_append_left _ z
    · exact nomatch z)
  refine wpAny_handleBy_cons (codeAny_handlers_test (ld_glob (X := X.su ea (X.pn ++ pins)) K2 hg hm ?_ hd)) (by intro q; cases q)
  have IA : PySem.W.InstAt h3 ea oe C none := ⟨he, hcl, hno, by rw [hdc]; trivial⟩
  refine (PySem.W.exm_one (M := model X.prog X.w) K2.kIn IA.type hmt).here ?_
  -- the suite
  refine codeAny_handlers_suite_as (flight_ok t3 fun h4 t4 c4 => ?_)
  have J3 := J2.chg (h' := h4) (xs := [T2]) (c4.mono (fun _ z => nomatch z) fun _ z => z) fun b hb => by
    have e : b = T2 := by simpa using hb
    subst e
    exact ⟨b1, hT2, b2, b3, b4⟩
  obtain ⟨a1, a2, a3, a4⟩ := I1.new hex hne
  have hTe : ea ≠ T2 := by obtain ⟨_, _, _, _, _, _, _, _, z, _⟩ := t3; exact Ne.symm z
  have he4 : h4.get? ea = some oe := c4.keep ea oe (by simp) (by simpa using hTe) he
  have K3 : Inv (X.su ea (X.pn ++ pins ++ [(ea, oe)])) [] σ' H' _ := J3.alt (okS _) fun p hp => by
    rcases List.mem_append.mp hp with z | z
    · rcases List.mem_append.mp z with z | z
      · exact J3.pin p (List.mem_append_left _ z)
      · have e : p = (ea, oe) := by simpa using z
        subst e
        refine ⟨he4, hHe, a2, fun z => ?_, fun v z => by rw [hda] at z; cases z⟩
        obtain ⟨_, o, ho, hnf⟩ := J3.funs.mem z
        have e := ho.symm.trans he4
        cases e
        exact hnf vs hda
    · exact nomatch z
  refine store_ok (X := X.su ea (X.pn ++ pins ++ [(ea, oe)])) K3 hN hi (.inl hl) (v := .ref ea) (u := .ref ea) rfl (fun s5 K5 => ?_) (.inr hl)
  have K6 : Inv (X.su ea (X.pn ++ pins ++ [(ea, oe)])) [] ((List.replicate X.N.length none).set i (some (.ref ea))) H' s5 := K5.weak (by simp [K3.len]) fun j v e => by
    by_cases hj : j = i
    · subst hj
      rw [List.getElem?_set] at e ⊢
      have hlen := K3.len
      simp at e
      simp [e] at *
      omega
    · rw [List.getElem?_set_ne (Ne.symm hj), List.getElem?_replicate] at e
      split at e <;> cases e
  refine wpAny_mono (hs ea C oe _ H' (by simp) hPC ⟨hcl, hdc, hno, hHe, vs, hda, hv2⟩ [] s5 _ H' _ K6 (q ea _ hHe)) (fun f s6 z => ?_) fun _ _ z => z.elim
  cases f with
  | next => obtain ⟨_, _, _, z⟩ := z; exact z.elim
  | brk => obtain ⟨_, _, _, z⟩ := z; exact z.elim
  | cont => obtain ⟨_, _, _, z⟩ := z; exact z.elim
  | ret u =>
    obtain ⟨v, σ7, H7, K7, rv, z⟩ := z
    obtain ⟨m7, hn7, _⟩ := K7.loc
    have L7 : Inv X pins σ7 H7 s6 := Inv.alt (X := X) (A' := X.A) (calm' := X.calm) (pn' := X.pn) (xe' := X.xe) K7 ok fun p hp => K7.pin p (by simp only [List.append_nil]; exact List.mem_append_left _ hp)
    exact wpAny_nameGoes hl hn7 (by rw [ok.kind]; rfl) fun h8 m8 hn8 hs8 => ⟨v, _, H7, L7.forget hn8 hs8, rv, z⟩
theorem ps_try (hstk : X.stack = X.env :: X.outer) (hf : X.env.frame = some X.env.locals) (hex : X.ex = []) (hN : X.N.Nodup) (hi : X.N[i]? = some n) (hl : X.env.kindOf n = some .local)
    (hg : Gl X x) (hm : X.mg x = some (.ref B)) (hc : X.calm = true)
    (hb : ∀ pn xe E, Passes (CX1 X.prog X.w) (X.alt X.A X.calm pn xe) E → PSs (X.alt X.A X.calm pn xe) body (tb E))
    (hs : ∀ ea C oe pn H, (ea, oe) ∈ pn → PC C → Caught H ea C oe → PSs (X.su ea pn) (b₀ :: suite) (ts ea C pn)) (hd : (x == ("__debug__" : Str)) = false := by decide) :
    PS X (.Try body [.ExceptHandler (some (.Name x np)) (some n) (b₀ :: suite) hpos] [] [] pos) (sTry X.K PC X.N.length i B tb ts) := by
  intro pins s σ H D I h
  refine wpAny_Try_except ?_
  have okA : (X.A.mark none).frames = X.A.frames := rfl
  have I' : ∀ xe, Inv (X.alt X.A X.calm (X.pn ++ pins) xe) [] σ H s := fun xe => Inv.alt (X := X) (A := X.A) (calm := X.calm) (pn := X.pn) (xe := X.xe) I (I.ok.alt rfl I.ok.hd) fun p hp => I.pin p (by simpa using hp)
  refine wpAny_mono (hb (X.pn ++ pins) _ _ ?_ [] s σ H D (I' _) h) (fun f s1 q => ?_) (fun e s1 z => z)
  · intro pins' σ' H1 s1 e s1' I1 q
    exact catch_ok I.ok hstk hf hex hN hi hl hg hm hs hd I1 q
  · have back : ∀ xe σ' H', Inv (X.alt X.A X.calm (X.pn ++ pins) xe) [] σ' H' s1 → Inv X pins σ' H' s1 := fun xe σ' H' J => Inv.alt (X := X) (A' := X.A) (calm' := X.calm) (pn' := X.pn) (xe' := X.xe) J I.ok fun p hp => J.pin p (by simpa using hp)
    cases f with
    | next => obtain ⟨σ', H', J, q⟩ := q; exact wpAny_execs_nil ⟨σ', H', back _ _ _ J, q⟩
    | brk => obtain ⟨σ', H', J, q⟩ := q; exact ⟨σ', H', back _ _ _ J, q⟩
    | cont => obtain ⟨σ', H', J, q⟩ := q; exact ⟨σ', H', back _ _ _ J, q⟩
    | ret u => obtain ⟨v, σ', H', J, r, q⟩ := q; exact ⟨v, σ', H', back _ _ _ J, r, q⟩
end
end L2

namespace L2
open PySem PySem.Spec PyProof.Rows
/-! ### a list walked to its end within an except suite -/
section
variable {prog : Program} {w : World} {A : Around} {E : Value → Shared → Prop} {s : Shared} {ea : Addr} {oe : Obj} {vs : Array Value}
end
section
variable {X : Cx} {C ea : Addr} {oe : Obj} {H0 : Hp}
end
end L2

namespace L2
open PySem PySem.Spec PyProof.Rows
/-! ### defs that raise -/
structure CalleeX (P : Program) (w : World) (K : PySem.W.Frag) (mg : Str → Option Value) (base : Heap) (k : Nat) (x : Str) (ps : List Str) (sp : Sp) : Prop where
  ex : ∃ (f : Addr) (fd : FuncData), FnOk P w K mg base (CX1 P w) k f fd ps sp ∧ mg x = some (.ref f) ∧ PySem.W.keepIn K (.ref f) = true ∧ Binds K fd ps []
section
variable {X : Cx} {k : Nat} {x : Str} {ps : List Str} {sp : Sp} {p pos : Pos} {e : Expr} {es : List Expr} {t : TA} {E : XK}
theorem pass1 : Passes (CX1 X.prog X.w) X E0 := fun _ _ _ _ _ _ _ h => by obtain ⟨_, _, _, _, _, _, _, _, _, _, _, _, _, _, h⟩ := h; exact h.elim
theorem pe_fnx (c : CalleeX X.prog X.w X.K X.mg X.base k x ps sp) (hx : Passes (CX1 X.prog X.w) X E) (hr : Room k X.A) (hg : Gl X x) (ha : PA X (e :: es) t) (hdb : (x == ("__debug__" : Str)) = false := by decide)
    (he : starEach (e :: es) X.env = (false, eval e X.env) :: starEach es X.env := by rfl) (hpl : (backTo pos (starEach es X.env)).any (·.1) = false := by rfl) : PE X (.Call (.Name x p) (e :: es) [] pos) (tCall sp [] E t) := by
  obtain ⟨f, fd, G, hm, hk, hb⟩ := c.ex
  exact pe_call G hr hg hm hk hb .nil hx ha hdb he hpl
end
theorem CalleeX.of {P : Program} {w : World} {K : PySem.W.Frag} {mg : Str → Option Value} {base : Heap} {k : Nat} {x qual : Str} {st : Stmt} {f : Addr} {fd : FuncData} {ps : List Str} {sp : Sp} (F : Fun K x qual st f fd) (G : FnOk P w K mg base (CX1 P w) k f fd ps sp) (hm : mg x = some (.ref f)) (b : Binds K fd ps []) : CalleeX P w K mg base k x ps sp := ⟨f, fd, G, hm, F.kp, b⟩
theorem Fun.okx {P : Program} {w : World} {K : PySem.W.Frag} {mg : Str → Option Value} {base : Heap} {x qual : Str} {st : Stmt} {f : Addr} {fd : FuncData} {N ps : List Str} {k : Nat} {sp : Sp} (F : Fun K x qual st f fd) (S : FnScope N ps (defScope st)) (len : ∀ vs H Q E, sp vs H Q E → vs.length = ps.length)
    (hbody : ∀ (cdv : Value) (A : Around) (outer : List Env) (s : Shared) (H : Hp) (vs : List V) (Q : VK) (E : XK), Room k (A.deeper (envOfC qual (defScope st) s.heap.objs.size f cdv)) → sp vs H Q E →
      ∃ t, PSs (cxOf (CX1 P w) P w K mg base N qual (defScope st) f cdv A outer s H E) (defBody st) t ∧ t { nx := fun _ H' => Q .non H', rt := Q } (start N vs) H) : FnOk P w K mg base (CX1 P w) (k + 1) f fd ps sp := by
  obtain ⟨oc, od, kV, doc, pm, an, cdv, ct, osl, rfl, lk, hcd⟩ := F.ex
  exact fn_of lk hcd S len fun A outer s H vs Q E hr hsp => hbody cdv A outer s H vs Q E hr hsp
/-- the facts of an own class of exceptions below ValueError -/
structure ExC (K : PySem.W.Frag) (C : Addr) : Prop where
  raises : PySem.W.excIn K C [.type "ValueError", .type "Exception", .type "BaseException", .type "object"] "ValueError.__new__" = true
  asks : PySem.W.ExcC K C
end L2
namespace Sky
open PySem L2
theorem iteNegT {p : Prop} [Decidable p] {A B : Prop} (h : ¬ p) (a : A) : if (!decide p) = true then A else B := by rw [if_pos (by simp [h])]; exact a
def spBarsOf7 (C : Addr) : Sp := fun vs H Q E => ∃ (a : Addr) (P : List Int), vs = [.ref a] ∧ IL H a P ∧ P.length ≤ 100 ∧ PV P ∧
  ∀ D : List Int, IsDep P D → (treeL D = P → newL H Q D) ∧ (treeL D ≠ P → ∀ H', Same H H' → E (.ref C) none H')
end Sky

namespace Sky
/-! ### the tree by the first lowest bar -/
/-! ### the walk up -/
theorem not_tree {P D : List Int} {i : Nat} (hi : i < P.length) (hn : ∀ d, ¬ Dep P i d) (h : IsDep P D) : treeL D ≠ P := fun e => by
  have hl := h.1
  obtain ⟨d, hd⟩ := tree_deps (b := D) (fun i hi => h.ge hi) (i := i) (by omega)
  rw [e] at hd
  exact hn d hd
end Sky

namespace PySem.W
theorem exm_of {K : Frag} {t c : Value} (h1 : subIn K c (.type "BaseException") = some true) (hne : (t == c) = false) (h2 : kitOne K t c = some true) : exmOne K t c = some true := by
  unfold exmOne
  rw [if_pos (by rw [h1]; rfl)]
  unfold kitOne at h2
  rw [if_neg (by rw [hne]; decide)] at h2
  exact h2
end PySem.W
namespace L2
open PySem PySem.Spec PyProof.Rows
/-! ### lists of triples -/
end L2
namespace Sky
open PySem L2
theorem iteNegF {p : Prop} [Decidable p] {A B : Prop} (h : p) (b : B) : if (!decide p) = true then A else B := by rw [if_neg (by simp [h])]; exact b
end Sky

namespace Sky
open PySem L2
/-! ### values of any kind -/
def tyS : List String := ["NoneType", "bool", "int", "str", "tuple"]
/-- a value whose type is known -/
def Kd (K : PySem.W.Frag) (H : Hp) (v : V) : Prop := ∃ T ∈ tyS, TyOf K H v (.type T)
def wh (v : V) (lo hi : Int) : Bool := match v with
  | .int i => decide (lo ≤ i ∧ i ≤ hi)
  | _ => false
theorem kit_ni (K : PySem.W.Frag) : PySem.W.kitOne K (.type "NoneType") (.type "int") = some false := by with_unfolding_all rfl
theorem kit_bi (K : PySem.W.Frag) : PySem.W.kitOne K (.type "bool") (.type "int") = some true := by with_unfolding_all rfl
theorem kit_si (K : PySem.W.Frag) : PySem.W.kitOne K (.type "str") (.type "int") = some false := by with_unfolding_all rfl
theorem kit_ti (K : PySem.W.Frag) : PySem.W.kitOne K (.type "tuple") (.type "int") = some false := by with_unfolding_all rfl
theorem kit_nl (K : PySem.W.Frag) : PySem.W.kitOne K (.type "NoneType") (.type "list") = some false := by with_unfolding_all rfl
theorem kit_il (K : PySem.W.Frag) : PySem.W.kitOne K (.type "int") (.type "list") = some false := by with_unfolding_all rfl
theorem kit_sl (K : PySem.W.Frag) : PySem.W.kitOne K (.type "str") (.type "list") = some false := by with_unfolding_all rfl
theorem kit_tl (K : PySem.W.Frag) : PySem.W.kitOne K (.type "tuple") (.type "list") = some false := by with_unfolding_all rfl
theorem kit_bl (K : PySem.W.Frag) : PySem.W.kitOne K (.type "bool") (.type "list") = some false := by with_unfolding_all rfl
theorem kd_list {K : PySem.W.Frag} {T : String} (h : T ∈ tyS) : PySem.W.kitOne K (.type T) (.type "list") = some false := by
  simp only [tyS, List.mem_cons, List.not_mem_nil, or_false] at h
  rcases h with rfl | rfl | rfl | rfl | rfl
  · exact kit_nl K
  · exact kit_bl K
  · exact kit_il K
  · exact kit_sl K
  · exact kit_tl K
def spWithin9 (K : PySem.W.Frag) : Sp := fun vs H Q _ => ∃ (v : V) (lo hi : Int), vs = [v, .int lo, .int hi] ∧ Kd K H v ∧ Q (.bl (wh v lo hi)) H
/-- bars that are no bars -/
def BadB (K : PySem.W.Frag) (H : Hp) (ok : List V → Nat → V → Bool) (v : V) : Prop := Kd K H v ∨ ∃ (a : Addr) (xs : List V), v = .ref a ∧ H a = some (.lst xs) ∧ xs.length ≤ 100 ∧ (∀ x ∈ xs, Kd K H x) ∧ ∃ i x, xs[i]? = some x ∧ ok xs i x = false
def okBv : List V → Nat → V → Bool := fun _ _ x => wh x 0 10000000
def okLv : List V → Nat → V → Bool := fun _ i x => wh x (-1) ((i : Int) - 1)
def okPv : List V → Nat → V → Bool := fun xs _ x => wh x (-1) ((xs.length : Int) - 1)
/-- an exception of class C, whatever is asked -/
def spBad (K : PySem.W.Frag) (ok : List V → Nat → V → Bool) (C : Addr) : Sp := fun vs H Q E => ∃ v : V, vs = [v] ∧ BadB K H ok v ∧ ∀ H', Same H H' → E (.ref C) none H'
theorem _root_.L2.TyOf.same {K : PySem.W.Frag} {H H' : Hp} {v : V} {t : Value} (h : TyOf K H v t) (s : Same H H') : TyOf K H' v t := by
  cases h with
  | non => exact .non
  | bl x => exact .bl x
  | int i => exact .int i
  | str x => exact .str x
  | flt x => exact .flt x
  | lst e => exact .lst (s _ _ e)
  | frz e => exact .frz (s _ _ e)
  | tup e => exact .tup (s _ _ e)
  | dK e => exact .dK (s _ _ e)
  | dT e => exact .dT (s _ _ e)
  | ins e a b c d f => exact .ins (s _ _ e) a b c d f
theorem Kd.same {K : PySem.W.Frag} {H H' : Hp} {v : V} (h : Kd K H v) (s : Same H H') : Kd K H' v := let ⟨T, a, b⟩ := h; ⟨T, a, b.same s⟩
theorem BadB.same {K : PySem.W.Frag} {H H' : Hp} {v : V} {ok : List V → Nat → V → Bool} (h : BadB K H ok v) (s : Same H H') : BadB K H' ok v := by
  rcases h with h | ⟨a, xs, rfl, e, h1, h2, h3⟩
  · exact .inl (h.same s)
  · exact .inr ⟨a, xs, rfl, s _ _ e, h1, fun x hx => (h2 x hx).same s, h3⟩
def spPlace9 (K : PySem.W.Frag) : Sp := fun vs H Q _ => ∃ (a : Addr) (xs : List Int) (v : V), vs = [.ref a, v] ∧ IL H a xs ∧ Kd K H v ∧ Q (.bl (wh v 0 ((xs.length : Int) - 1))) H
/-- two places of n bars that are refused -/
def BadTwo (n : Nat) (x y : V) : Prop := wh x 0 ((n : Int) - 1) = false ∨ wh y 0 ((n : Int) - 1) = false ∨ ∃ i : Int, x = .int i ∧ y = .int i
def spTwo9 (K : PySem.W.Frag) (C : Addr) : Sp := fun vs H Q E => ∃ (a : Addr) (xs : List Int) (x y : V), vs = [.ref a, x, y] ∧ IL H a xs ∧ Kd K H x ∧ Kd K H y ∧ BadTwo xs.length x y ∧ ∀ H', Same H H' → E (.ref C) none H'
def spSeesB (K : PySem.W.Frag) (C : Addr) : Sp := fun vs H Q E => ∃ (v x y : V), vs = [v, x, y] ∧ BadB K H okBv v ∧ ∀ H', Same H H' → E (.ref C) none H'
def spSeesP (K : PySem.W.Frag) (C : Addr) : Sp := fun vs H Q E => ∃ (a : Addr) (xs : List Int) (x y : V), vs = [.ref a, x, y] ∧ IL H a xs ∧ Hts xs ∧ Kd K H x ∧ Kd K H y ∧ BadTwo xs.length x y ∧ ∀ H', Same H H' → E (.ref C) none H'
def spBelow9 (K : PySem.W.Frag) : Sp := fun vs H Q _ => ∃ (a : Addr) (xs : List V), vs = [.ref a] ∧ H a = some (.lst xs) ∧ xs.length ≤ 100 ∧ (∀ x ∈ xs, Kd K H x) ∧ (∃ i x, xs[i]? = some x ∧ okLv xs i x = false) ∧ ∀ H', Same H H' → Q (.bl false) H'
theorem pe_never {X : Cx} {e : Expr} : PE X e (fun _ _ _ => False) := fun _ _ _ _ _ _ h => h.elim
def spBoard0 (C : Addr) : Sp := fun vs H Q E => ∃ a : Addr, vs = [.ref a] ∧ IL H a [] ∧ ∀ H', Same H H' → E (.ref C) none H'
def spAsk (C : Addr) : Sp := fun vs H Q E => ∃ wi mo : Int, vs = [.int wi, .int mo] ∧ 0 ≤ wi ∧ 0 ≤ mo ∧ mo < 1000 ∧ ∀ H', Same H H' → E (.ref C) none H'
end Sky
namespace L2
open PySem PySem.Spec PyProof.Rows
section
variable {X : Cx} {E : XK} {fe e : Expr} {es : List Expr} {pos : Pos} {tf : TE} {t : TA}
/-- a call of whatever an expression gives -/
def tCallE (X : Cx) (E : XK) (tf : TE) (t : TA) : TE := fun σ H Q => tf σ H fun x H1 => ∃ (fa : Addr) (fd : FuncData) (k : Nat) (ps : List Str) (sp : Sp), x = .ref fa ∧ FnOk X.prog X.w X.K X.mg X.base (CX1 X.prog X.w) k fa fd ps sp ∧ Room k X.A ∧
  PySem.W.keepIn X.K (.ref fa) = true ∧ Binds X.K fd ps [] ∧ t σ H1 fun vs H2 => sp (vs ++ []) H2 Q E
theorem pe_callE (hf : PE X fe tf) (hx : Passes (CX1 X.prog X.w) X E) (ha : PA X (e :: es) t)
    (he0 : eval (.Call fe (e :: es) [] pos) X.env = (do callWith pos (← eval fe X.env) [] (backTo pos (starEach (e :: es) X.env)) (backToKw pos (keywordEach [] X.env))) := by rfl)
    (he : starEach (e :: es) X.env = (false, eval e X.env) :: starEach es X.env := by rfl) (hpl : (backTo pos (starEach es X.env)).any (·.1) = false := by rfl) : PE X (.Call fe (e :: es) [] pos) (tCallE X E tf t) := by
  intro pins s σ H Q I h
  refine Call_ (thn (hf pins s σ H _ I h) fun u s1 ⟨x, H1, I1, r1, fa, fd, k, ps, sp, ex, G, hr, hk, hb, q⟩ => ?_) he0
  subst ex
  cases (show u = Value.ref fa from r1)
  refine PySem.W.callWith_K (h₀ := X.base) I.ok.mod.kin hk (thn (ha pos pins s1 σ H1 _ I1 q) fun us s2 ⟨vs, H2, I2, r, q2⟩ => ⟨I2.kIn, ?_⟩) he hpl
  exact run_fn G hr hb .nil hx I2 r q2
end
end L2
namespace L2
open PySem PySem.Spec PyProof.Rows
/-- one of two promises -/
def spOr (a b : Sp) : Sp := fun vs H Q E => a vs H Q E ∨ b vs H Q E
theorem FnOk.or {P : Program} {w : World} {K : PySem.W.Frag} {mg : Str → Option Value} {base : Heap} {CX : CXT} {k : Nat} {f : Addr} {fd : FuncData} {ps : List Str} {a b : Sp} (A : FnOk P w K mg base CX k f fd ps a) (B : FnOk P w K mg base CX k f fd ps b) : FnOk P w K mg base CX k f fd ps (spOr a b) :=
  ⟨fun vs H Q E h => h.elim (A.len vs H Q E) (B.len vs H Q E), fun A' outer s H args us vs Q E hr e0 hb hv h => h.elim (fun z => A.run A' outer s H args us vs Q E hr e0 hb hv z) fun z => B.run A' outer s H args us vs Q E hr e0 hb hv z⟩
end L2
namespace Sky
open PySem L2
theorem no_dep0 : ∀ d, ¬ Dep [0] 0 d
  | 0 => fun z => by cases z with | root _ h => simp at h
  | d + 1 => fun z => by
    cases z with
    | @under _ j _ _ h t =>
      have e : j = 0 := by simp at h; omega
      subst e
      exact no_dep0 d t
theorem no_dep10 : ∀ d, ¬ Dep [1, 0] 0 d ∧ ¬ Dep [1, 0] 1 d
  | 0 => ⟨fun z => by cases z with | root _ h => simp at h, fun z => by cases z with | root _ h => simp at h⟩
  | d + 1 => ⟨fun z => by
      cases z with
      | @under _ j _ _ h t =>
        have e : j = 1 := by simp at h; omega
        subst e
        exact (no_dep10 d).2 t, fun z => by
      cases z with
      | @under _ j _ _ h t =>
        have e : j = 0 := by simp at h; omega
        subst e
        exact (no_dep10 d).1 t⟩
theorem no_tree11 {D : List Int} (h : IsDep [-1, -1] D) : treeL D ≠ [-1, -1] := by
  have h0 : IsDep [-1, -1] [0, 0] := ⟨rfl, fun i hi => by
    match i, hi with
    | 0, _ => exact .inl ⟨0, .root (by decide) rfl, rfl⟩
    | 1, _ => exact .inl ⟨0, .root (by decide) rfl, rfl⟩⟩
  rw [h.uniq h0]
  decide
end Sky
namespace Sky
open PySem L2
def dueL (c : Nat) : List V := [.bl (decide (c = 0)), .bl (decide (c = 1)), .bl (decide (c = 2)), .bl (decide (c = 3)), .bl (decide (c = 4)), .bl true]
def spTold : Sp := fun vs H Q _ => ∃ (c : Nat) (wi mo : Int), vs = [.int (c : Nat), .int wi, .int mo] ∧ c < 5 ∧ 0 ≤ wi ∧ 0 ≤ mo ∧ mo < 1000 ∧ ∀ (l : Addr) (H' : Hp), H l = none → Same H H' → H' l = some (.lst (dueL c)) → Q (.ref l) H'
end Sky
namespace Sky
open PySem L2
/-- lists of bools compared, both the same -/
def rNeB (K : PySem.W.Frag) : R2 := fun x y H Q => ∃ (a b : Addr) (bs : List Bool), x = .ref a ∧ y = .ref b ∧ H a = some (.lst (bs.map V.bl)) ∧ H b = some (.lst (bs.map V.bl)) ∧ Q (.bl false) H
theorem datAll_bl {K : PySem.W.Frag} {H : Hp} : ∀ bs : List Bool, DatAll K H (bs.map V.bl) (bs.map PyData.bool)
  | [] => .nil
  | b :: r => .cons (.bl b) (datAll_bl r)
theorem blD_lay : ∀ bs : List Bool, PyData.canLayAll0 (bs.map PyData.bool) = true
  | [] => rfl
  | _ :: r => by simp [PyData.canLayAll0, PyData.canLay0, blD_lay r]
theorem blD_deep : ∀ bs : List Bool, PyData.depthAll (bs.map PyData.bool) = 0
  | [] => by simp [PyData.depthAll]
  | _ :: r => by simp [PyData.depthAll, PyData.depth, blD_deep r]
theorem blD_shaped (bs : List Bool) : SeqAt.shaped (.list (bs.map PyData.bool)) = true := by
  simp [SeqAt.shaped, PyData.canLay0, PyData.depth, blD_lay, blD_deep]
theorem blD_same : ∀ bs : List Bool, PySem.Spec.sameAll (bs.map PyData.bool) (bs.map PyData.bool) = true
  | [] => by simp [PySem.Spec.sameAll]
  | b :: r => by simp [PySem.Spec.sameAll, PySem.Spec.same, blD_same r]
theorem blD_has (bs : List Bool) : (PySem.Spec.Shape.list .bool).has (.list (bs.map PyData.bool)) = true := by
  simp [PySem.Spec.Shape.has]
theorem op_neB {X : Cx} (hu : X.A.units + 64 < cLine) : OpR X (compareOp .NotEq) (rNeB X.K) := by
  intro pins s σ H x y v u Q I rx ry h
  obtain ⟨a, b, bs, rfl, rfl, ha, hb, q⟩ := h
  refine op_neD hu pins s σ H _ _ v u Q I rx ry ⟨.list (bs.map PyData.bool), .list (bs.map PyData.bool), .list .bool, .lst (SqL.of ha) (datAll_bl bs), .lst (SqL.of hb) (datAll_bl bs), rfl, blD_has bs, blD_has bs, blD_shaped bs, blD_shaped bs, ?_⟩
  rw [show PySem.Spec.same (.list (bs.map PyData.bool)) (.list (bs.map PyData.bool)) = true by rw [PySem.Spec.same]; exact blD_same bs]
  exact q
end Sky

namespace Sky
open PySem L2
def top (i : Nat) : Stmt := PySem.Challenge.pw_skybars_k09_refused.main.body.getD i (.Pass ⟨0, 0, 0, 0⟩)
abbrev sWithin : Stmt := top 10
abbrev sPlace : Stmt := top 11
abbrev sChk : Stmt := top 12
abbrev sChk2 : Stmt := top 13
abbrev sBelow : Stmt := top 14
abbrev sChkL : Stmt := top 15
abbrev sChkP : Stmt := top 16
abbrev sStarts : Stmt := top 18
abbrev sTurned : Stmt := top 19
abbrev sEnds : Stmt := top 20
abbrev sReach : Stmt := top 21
abbrev sAhead : Stmt := top 22
abbrev sShown : Stmt := top 23
abbrev sSees : Stmt := top 24
abbrev sBoard : Stmt := top 29
abbrev sRInit : Stmt := inClass (top 31) 0
abbrev sCInit : Stmt := inClass (top 32) 0
abbrev sNear : Stmt := top 33
abbrev sLinks : Stmt := top 34
abbrev sCrossA : Stmt := top 35
abbrev sRowOf : Stmt := top 36
abbrev sPar : Stmt := top 38
abbrev sTree : Stmt := top 39
abbrev sDepths : Stmt := top 40
abbrev sBarsOf : Stmt := top 41
abbrev sRimA : Stmt := top 43
abbrev sRimB : Stmt := top 44
abbrev sRims : Stmt := top 45
abbrev sLevels : Stmt := top 46
abbrev sWater : Stmt := top 47
abbrev sAskB : Stmt := top 49
abbrev sAskP : Stmt := top 50
abbrev sAskL : Stmt := top 51
abbrev sAskT : Stmt := top 52
abbrev sTold : Stmt := top 53
abbrev sLaw : Stmt := top 54
end Sky

namespace Sky
open PySem L2
section
variable {P : Program} {w : World} {K : PySem.W.Frag} {mg : Str → Option Value} {base : Heap}
theorem scWithin : FnScope ["value", "least", "most"] ["value", "least", "most"] (defScope sWithin) := ⟨rfl, rfl, rfl, by decide +kernel, rfl, by decide +kernel, by decide +kernel⟩
theorem ok_within {f : Addr} {fd : FuncData} (F : Fun K "is_whole_within" "is_whole_within" sWithin f fd) (B : Blt mg) : FnOk P w K mg base CX0 1 f fd ["value", "least", "most"] spWithin := by
  refine F.ok scWithin (fun vs H Q E h => ?_) (fun cdv A outer s H vs Q E hr h => ?_)
  · obtain ⟨i, lo, hi, rfl, _⟩ := h
    rfl
  · obtain ⟨i, lo, hi, rfl, k⟩ := h
    refine ⟨_, pss_one (ps_ret (pe_and (pe_callB call_isinst rfl B.isinstance boot_isinst' (pa_cons (pv 0) (pa_cons (pe_bltn rfl B.int boot_int' (v := .ty "int") rfl) pa_nil)))
      (pe_and (pe_not (pe_callB call_isinst rfl B.isinstance boot_isinst' (pa_cons (pv 0) (pa_cons (pe_bltn rfl B.bool boot_bool' (v := .ty "bool") rfl) pa_nil)))) (pe_one (pe_chain op_le op_le (pv 1) (pv 0) (pv 2)))))), ?_⟩
    refine ⟨_, rfl, _, _, _, _, _, rfl, .int i, rfl, kit_ii _, true, rfl, iteT ?_⟩
    refine ⟨_, rfl, _, _, _, _, _, rfl, .int i, rfl, kit_ib _, false, rfl, true, rfl, iteT ?_⟩
    refine ⟨_, rfl, _, rfl, lo, i, rfl, rfl, _, rfl, ite2 (fun h => ⟨_, rfl, i, hi, rfl, rfl, ?_⟩) (fun h => ?_)⟩
    · have h' : lo ≤ i := of_decide_eq_true h
      have e : decide (i ≤ hi) = decide (lo ≤ i ∧ i ≤ hi) := by simp [h']
      show Q (.bl (decide (i ≤ hi))) H
      rw [e]; exact k
    · have h' : ¬ lo ≤ i := fun z => h (decide_eq_true z)
      have e : false = decide (lo ≤ i ∧ i ≤ hi) := by simp [h']
      show Q (.bl false) H
      rw [e]; exact k
end
end Sky

namespace Sky
open PySem L2
section
variable {P : Program} {w : World} {K : PySem.W.Frag} {mg : Str → Option Value} {base : Heap}
theorem scWithin9 : FnScope ["value", "least", "most"] ["value", "least", "most"] (defScope sWithin) := ⟨rfl, rfl, rfl, by decide +kernel, rfl, by decide +kernel, by decide +kernel⟩
theorem ok_within9 {f : Addr} {fd : FuncData} (F : Fun K "is_whole_within" "is_whole_within" sWithin f fd) (B : Blt mg)  : FnOk P w K mg base CX0 1 f fd ["value", "least", "most"] (spWithin9 K) := by
  refine F.ok scWithin9 (fun vs H Q E h => ?_) (fun cdv A outer s H vs Q E hr h => ?_)
  · obtain ⟨v, lo, hi, rfl, _⟩ := h
    rfl
  · obtain ⟨v, lo, hi, rfl, ⟨T, hT, ty⟩, k⟩ := h
    refine ⟨_, (pss_one (ps_ret (pe_and (pe_callB call_isinst rfl B.isinstance boot_isinst' (pa_cons (pv 0) (pa_cons (pe_bltn rfl B.int boot_int' (v := .ty "int") rfl) pa_nil))) (pe_and (pe_not (pe_callB call_isinst rfl B.isinstance boot_isinst' (pa_cons (pv 0) (pa_cons (pe_bltn rfl B.bool boot_bool' (v := .ty "bool") rfl) pa_nil)))) (pe_one (pe_chain op_le op_le (pv 1) (pv 0) (pv 2))))))), ?_⟩
    simp only [tyS, List.mem_cons, List.not_mem_nil, or_false] at hT
    cases ty with
    | non => exact ⟨_, rfl, _, _, _, _, _, rfl, .non, rfl, kit_ni _, false, rfl, iteF k⟩
    | bl x => exact ⟨_, rfl, _, _, _, _, _, rfl, .bl x, rfl, kit_bi _, true, rfl, iteT ⟨_, rfl, _, _, _, _, _, rfl, .bl x, rfl, kit_bb _, true, rfl, false, rfl, iteF k⟩⟩
    | str x => exact ⟨_, rfl, _, _, _, _, _, rfl, .str x, rfl, kit_si _, false, rfl, iteF k⟩
    | tup e => exact ⟨_, rfl, _, _, _, _, _, rfl, .tup e, rfl, kit_ti _, false, rfl, iteF k⟩
    | flt x => simp at hT
    | lst e => simp at hT
    | frz e => simp at hT
    | dK e => simp at hT
    | dT e => simp at hT
    | int i =>
      refine ⟨_, rfl, _, _, _, _, _, rfl, .int i, rfl, kit_ii _, true, rfl, iteT ?_⟩
      refine ⟨_, rfl, _, _, _, _, _, rfl, .int i, rfl, kit_ib _, false, rfl, true, rfl, iteT ?_⟩
      refine ⟨_, rfl, _, rfl, lo, i, rfl, rfl, _, rfl, ite2 (fun h => ⟨_, rfl, i, hi, rfl, rfl, ?_⟩) (fun h => ?_)⟩
      · have h' : lo ≤ i := of_decide_eq_true h
        have e : decide (i ≤ hi) = decide (lo ≤ i ∧ i ≤ hi) := by simp [h']
        show Q (.bl (decide (i ≤ hi))) H
        rw [e]; exact k
      · have h' : ¬ lo ≤ i := fun z => h (decide_eq_true z)
        have e : false = decide (lo ≤ i ∧ i ≤ hi) := by simp [h']
        show Q (.bl false) H
        rw [e]; exact k
end
end Sky

namespace Sky
open PySem L2
section
variable {P : Program} {w : World} {K : PySem.W.Frag} {mg : Str → Option Value} {base : Heap}
theorem scChk : FnScope ["bars"] ["bars"] (defScope sChk) := ⟨rfl, rfl, rfl, by decide +kernel, rfl, by decide +kernel, by decide +kernel⟩
theorem ok_chk {f : Addr} {fd : FuncData} (F : Fun K "check_bars" "check_bars" sChk f fd) (B : Blt mg) (hh : Hi mg) (cW : Callee P w K mg base 1 "is_whole_within" ["value", "least", "most"] spWithin) : FnOk P w K mg base CX0 3 f fd ["bars"] spChk := by
  refine F.ok scChk (fun vs H Q E h => ?_) (fun cdv A outer s H vs Q E hr h => ?_)
  · obtain ⟨a, xs, rfl, _⟩ := h
    rfl
  · obtain ⟨t, hh⟩ := hh
    obtain ⟨a, xs, rfl, hS, hb, k⟩ := h
    refine ⟨_, pss_cons (ps_if (pt_not (pt_val (pe_callB call_isinst rfl B.isinstance boot_isinst' (pa_cons (pv 0) (pa_cons (pe_bltn rfl B.list boot_list' (v := .ty "list") rfl) pa_nil))))) pss_never pss_nil)
      (pss_one (ps_if (pt_not (pt_val (pe_callB (call_all rfl) rfl B.all boot_all' (pa_cons (pe_lc (cap := []) ["value"] rfl (CompOk.of (defScope sChk) ["bars"] rfl rfl (by decide +kernel)) (pi_list (pv 0)) (fun C s H fp => pg_name (i := 0) (show List.Nodup (["value"] : List Str) from by decide +kernel) rfl (Or.inl rfl)) (fun C s H fp => pf_nil)
        (fun C s H fp => pe_fn cW (hr.mono (by decide)) rfl (pa_cons (pv 0) (pa_cons pe_int (pa_cons (pe_glob rfl hh (v := .int 10000000) ⟨t, rfl⟩) pa_nil))))) pa_nil)))) pss_never pss_nil)), ?_⟩
    refine ⟨_, rfl, _, _, _, _, _, rfl, .lst hS, rfl, kit_ll _, true, rfl, iteF ?_⟩
    have hz : xs.length ≤ sizeLine := Nat.le_of_lt (small100 hb.1)
    refine ⟨_, rfl, a, rfl, ⟨_, SqL.of hS⟩, fun D hD => lc_listP (xs := xs.map V.int) (fun v => match v with | .int i => .bl (decide (0 ≤ i ∧ i ≤ 10000000)) | _ => .non) hD (SqL.of hS) (by rw [List.length_map]; exact hz) ?_ ?_⟩
    · intro i x ys C s H0 fp R hx hR
      obtain ⟨z, rfl, _⟩ := get_mapM hx
      exact ⟨_, rfl, z, 0, 10000000, rfl, hR⟩
    · refine ⟨D, xs.map (fun i => decide (0 ≤ i ∧ i ≤ 10000000)), rfl, SqL.of (by rw [upd_same, List.map_map, List.map_map]; rfl), _, rfl, ?_⟩
      have e : (xs.map (fun i => decide (0 ≤ i ∧ i ≤ 10000000))).all id = true := by
        rw [List.all_eq_true]
        intro b hb'
        obtain ⟨z, hz, rfl⟩ := List.mem_map.mp hb'
        exact decide_eq_true (hb.2 z hz)
      rw [e]
      exact iteF (k _ (Same.new hD _))
end
end Sky

namespace Sky
open PySem L2
section
variable {P : Program} {w : World} {K : PySem.W.Frag} {mg : Str → Option Value} {base : Heap}
theorem scChk9 : FnScope ["bars"] ["bars"] (defScope sChk) := ⟨rfl, rfl, rfl, by decide +kernel, rfl, by decide +kernel, by decide +kernel⟩
theorem ok_chk9 {f C : Addr} {fd : FuncData} (F : Fun K "check_bars" "check_bars" sChk f fd) (B : Blt mg) (xC : ExC K C) (mgC : mg "BadBars" = some (.ref C)) (hh : Hi mg) (cW : Callee P w K mg base 1 "is_whole_within" ["value", "least", "most"] (spWithin9 K)) : FnOk P w K mg base (CX1 P w) 3 f fd ["bars"] (spBad K okBv C) := by
  refine F.okx scChk9 (fun vs H Q E h => ?_) (fun cdv A outer s H vs Q E hr h => ?_)
  · obtain ⟨v, rfl, _⟩ := h
    rfl
  · obtain ⟨v, rfl, hb, k⟩ := h
    obtain ⟨t, hh⟩ := hh
    refine ⟨_, (pss_cons (ps_if (pt_not (pt_val (pe_callB call_isinst rfl B.isinstance boot_isinst' (pa_cons (pv 0) (pa_cons (pe_bltn rfl B.list boot_list' (v := .ty "list") rfl) pa_nil))))) (pss_one (ps_raise cx_raise PySem.F.excBase_ValueError xC.raises rfl rfl mgC (pa_cons pe_str pa_nil))) pss_nil)
      (pss_one (ps_if (pt_not (pt_val (pe_callB (call_all rfl) rfl B.all boot_all' (pa_cons (pe_lc (cap := []) ["value"] rfl (CompOk.of (defScope sChk) ["bars"] rfl rfl (by decide +kernel)) (pi_list (pv 0)) (fun C s H fp => (pg_name (i := 0) (show List.Nodup (["value"] : List Str) from by decide +kernel) rfl (Or.inl rfl))) (fun C s H fp => pf_nil)
        (fun C s H fp => (pe_fn cW (hr.mono (by decide)) rfl (pa_cons (pv 0) (pa_cons pe_int (pa_cons (pe_glob rfl hh (v := .int 10000000) ⟨t, rfl⟩) pa_nil)))))) pa_nil)))) (pss_one (ps_raise cx_raise PySem.F.excBase_ValueError xC.raises rfl rfl mgC (pa_cons pe_str pa_nil))) pss_nil))), ?_⟩
    rcases hb with ⟨T, hT, ty⟩ | ⟨a, xs, rfl, hS, hl, hk, i0, x0, hx0, hw0⟩
    · exact ⟨_, rfl, _, _, _, _, _, rfl, ty, rfl, kd_list hT, false, rfl, iteT ⟨by show 1 ≤ sizeLine; decide, k H (Same.refl _)⟩⟩
    refine ⟨_, rfl, _, _, _, _, _, rfl, .lst hS, rfl, kit_ll _, true, rfl, iteF ?_⟩
    have hz : xs.length ≤ sizeLine := Nat.le_of_lt (small100 hl)
    refine ⟨_, rfl, a, rfl, ⟨_, SqL.of hS⟩, fun D hD => lc_listP (xs := xs) (fun v => .bl (wh v 0 10000000)) hD (SqL.of hS) hz ?_ ?_⟩
    · intro i x ys C s H0 fp R hx hR
      exact ⟨_, rfl, x, 0, 10000000, rfl, (hk x (List.mem_of_getElem? hx)).same (Same.new hD _), hR⟩
    · refine ⟨D, xs.map (fun x => wh x 0 10000000), rfl, SqL.of (by rw [upd_same, List.map_map]; rfl), _, rfl, ?_⟩
      have e : (xs.map (fun x => wh x 0 10000000)).all id = false := by
        rw [List.all_eq_false]
        exact ⟨_, List.mem_map.mpr ⟨x0, List.mem_of_getElem? hx0, rfl⟩, by rw [show wh x0 0 10000000 = false from hw0]; decide⟩
      rw [e]
      exact iteT ⟨by show 1 ≤ sizeLine; decide, k _ (Same.new hD _)⟩
end
end Sky

namespace Sky
open PySem L2
section
variable {P : Program} {w : World} {K : PySem.W.Frag} {mg : Str → Option Value} {base : Heap}
theorem scChkP : FnScope ["parents", "final"] ["parents"] (defScope sChkP) := ⟨rfl, rfl, rfl, by decide +kernel, rfl, by decide +kernel, by decide +kernel⟩
theorem ok_chkP {f : Addr} {fd : FuncData} (F : Fun K "check_parents" "check_parents" sChkP f fd) (B : Blt mg) (cW : Callee P w K mg base 1 "is_whole_within" ["value", "least", "most"] spWithin) : FnOk P w K mg base CX0 2 f fd ["parents"] spChkP := by
  refine F.ok scChkP (fun vs H Q E h => ?_) (fun cdv A outer s H vs Q E hr h => ?_)
  · obtain ⟨a, Pa, rfl, _⟩ := h
    rfl
  · obtain ⟨a, Pa, rfl, hS, hl, hv, k⟩ := h
    refine ⟨_, (pss_cons (ps_if (pt_not (pt_val (pe_callB call_isinst rfl B.isinstance boot_isinst' (pa_cons (pv 0) (pa_cons (pe_bltn rfl B.list boot_list' (v := .ty "list") rfl) pa_nil))))) pss_never pss_nil)
      (pss_cons (ps_set (i := 1) scChkP.nd rfl (Or.inr rfl) (pe_op op_sub (pe_callB call_len_seq rfl B.len PySem.boot_len (pa_cons (pv 0) pa_nil)) pe_int))
      (pss_one (ps_if (pt_not (pt_val (pe_callB (call_all rfl) rfl B.all boot_all' (pa_cons (pe_lc (cap := [1]) ["value"] rfl (CompOk.of (defScope sChkP) ["parents", "final"] rfl rfl (by decide +kernel)) (pi_list (pv 0)) (fun C s H fp => (pg_name (i := 0) (show List.Nodup (["value", "final"] : List Str) from by decide +kernel) rfl (Or.inl rfl))) (fun C s H fp => pf_nil)
        (fun C s H fp => (pe_fn cW hr rfl (pa_cons (pv 0) (pa_cons (pe_un un_neg pe_int) (pa_cons (pv 1) pa_nil)))))) pa_nil)))) pss_never pss_nil)))), ?_⟩
    refine ⟨_, rfl, _, _, _, _, _, rfl, .lst hS, rfl, kit_ll _, true, rfl, iteF ?_⟩
    refine ⟨_, rfl, a, _, rfl, .inl (SqL.of hS), _, 1, rfl, rfl, ?_⟩
    refine ⟨_, rfl, a, rfl, ⟨_, SqL.of hS⟩, fun D hD => lc_listP (xs := Pa.map V.int) (fun v => .bl true) hD (SqL.of hS) (by rw [List.length_map]; exact Nat.le_of_lt (small100 hl)) ?_ ?_⟩
    · intro i x ys C s H0 fp R hx hR
      obtain ⟨z, rfl, b1⟩ := get_mapM hx
      have hi : i < Pa.length := (List.getElem?_eq_some_iff.mp b1).1
      have e : Pa.getD i 0 = z := by rw [List.getD_eq_getElem?_getD, b1]; rfl
      have v := hv i hi
      rw [e] at v
      refine ⟨_, rfl, 1, rfl, _, rfl, z, -1, _, rfl, ?_⟩
      rw [List.length_map, decide_eq_true (show -1 ≤ z ∧ z ≤ (Pa.length : Int) - 1 by omega)]
      exact hR
    · refine ⟨D, Pa.map (fun _ => true), rfl, SqL.of (by rw [upd_same, List.map_map, List.map_map]; rfl), _, rfl, ?_⟩
      have e : (Pa.map (fun _ => true)).all id = true := by
        rw [List.all_eq_true]
        intro b hb'
        obtain ⟨z, hz, rfl⟩ := List.mem_map.mp hb'
        rfl
      rw [e]
      exact iteF (k _ (Same.new hD _))
end
end Sky

namespace Sky
open PySem L2
section
variable {P : Program} {w : World} {K : PySem.W.Frag} {mg : Str → Option Value} {base : Heap}
theorem scChkP9 : FnScope ["parents", "final"] ["parents"] (defScope sChkP) := ⟨rfl, rfl, rfl, by decide +kernel, rfl, by decide +kernel, by decide +kernel⟩
theorem ok_chkP9 {f C : Addr} {fd : FuncData} (F : Fun K "check_parents" "check_parents" sChkP f fd) (B : Blt mg) (xC : ExC K C) (mgC : mg "BadTree" = some (.ref C)) (cW : Callee P w K mg base 1 "is_whole_within" ["value", "least", "most"] (spWithin9 K)) : FnOk P w K mg base (CX1 P w) 2 f fd ["parents"] (spBad K okPv C) := by
  refine F.okx scChkP9 (fun vs H Q E h => ?_) (fun cdv A outer s H vs Q E hr h => ?_)
  · obtain ⟨v, rfl, _⟩ := h
    rfl
  · obtain ⟨v, rfl, hb, k⟩ := h
    refine ⟨_, (pss_cons (ps_if (pt_not (pt_val (pe_callB call_isinst rfl B.isinstance boot_isinst' (pa_cons (pv 0) (pa_cons (pe_bltn rfl B.list boot_list' (v := .ty "list") rfl) pa_nil))))) (pss_one (ps_raise cx_raise PySem.F.excBase_ValueError xC.raises rfl rfl mgC (pa_cons pe_str pa_nil))) pss_nil)
      (pss_cons (ps_set (i := 1) scChkP9.nd rfl (Or.inr rfl) (pe_op op_sub (pe_callB call_len_seq rfl B.len PySem.boot_len (pa_cons (pv 0) pa_nil)) pe_int))
      (pss_one (ps_if (pt_not (pt_val (pe_callB (call_all rfl) rfl B.all boot_all' (pa_cons (pe_lc (cap := [1]) ["value"] rfl (CompOk.of (defScope sChkP) ["parents", "final"] rfl rfl (by decide +kernel)) (pi_list (pv 0)) (fun C s H fp => (pg_name (i := 0) (show List.Nodup (["value", "final"] : List Str) from by decide +kernel) rfl (Or.inl rfl))) (fun C s H fp => pf_nil)
        (fun C s H fp => (pe_fn cW (hr.mono (by decide)) rfl (pa_cons (pv 0) (pa_cons (pe_un un_neg pe_int) (pa_cons (pv 1) pa_nil)))))) pa_nil)))) (pss_one (ps_raise cx_raise PySem.F.excBase_ValueError xC.raises rfl rfl mgC (pa_cons pe_str pa_nil))) pss_nil)))), ?_⟩
    rcases hb with ⟨T, hT, ty⟩ | ⟨a, xs, rfl, hS, hl, hk, i0, x0, hx0, hw0⟩
    · exact ⟨_, rfl, _, _, _, _, _, rfl, ty, rfl, kd_list hT, false, rfl, iteT ⟨by show 1 ≤ sizeLine; decide, k H (Same.refl _)⟩⟩
    refine ⟨_, rfl, _, _, _, _, _, rfl, .lst hS, rfl, kit_ll _, true, rfl, iteF ?_⟩
    have hz : xs.length ≤ sizeLine := Nat.le_of_lt (small100 hl)
    refine ⟨_, rfl, a, _, rfl, .inl (SqL.of hS), _, 1, rfl, rfl, ?_⟩
    refine ⟨_, rfl, a, rfl, ⟨_, SqL.of hS⟩, fun D hD => lc_listP (xs := xs) (fun v => .bl (wh v (-1) ((xs.length : Int) - 1))) hD (SqL.of hS) hz ?_ ?_⟩
    · intro i x ys C s H0 fp R hx hR
      exact ⟨_, rfl, _, rfl, _, rfl, x, -1, ((xs.length : Int) - 1), rfl, (hk x (List.mem_of_getElem? hx)).same (Same.new hD _), hR⟩
    · refine ⟨D, xs.map (fun x => wh x (-1) ((xs.length : Int) - 1)), rfl, SqL.of (by rw [upd_same, List.map_map]; rfl), _, rfl, ?_⟩
      have e : (xs.map (fun x => wh x (-1) ((xs.length : Int) - 1))).all id = false := by
        rw [List.all_eq_false]
        exact ⟨_, List.mem_map.mpr ⟨x0, List.mem_of_getElem? hx0, rfl⟩, by rw [show wh x0 (-1) ((xs.length : Int) - 1) = false from hw0]; decide⟩
      rw [e]
      exact iteT ⟨by show 1 ≤ sizeLine; decide, k _ (Same.new hD _)⟩
end
end Sky

namespace Sky
open PySem L2
section
variable {P : Program} {w : World} {K : PySem.W.Frag} {mg : Str → Option Value} {base : Heap}
theorem scBelow : FnScope ["links"] ["links"] (defScope sBelow) := ⟨rfl, rfl, rfl, by decide +kernel, rfl, by decide +kernel, by decide +kernel⟩
theorem ok_below {f : Addr} {fd : FuncData} (F : Fun K "all_below_their_places" "all_below_their_places" sBelow f fd) (B : Blt mg) (cW : Callee P w K mg base 1 "is_whole_within" ["value", "least", "most"] spWithin) : FnOk P w K mg base CX0 2 f fd ["links"] spBelow := by
  refine F.ok scBelow (fun vs H Q E h => ?_) (fun cdv A outer s H vs Q E hr h => ?_)
  · obtain ⟨a, ls, rfl, _⟩ := h
    rfl
  · obtain ⟨a, ls, rfl, hS, hl, k⟩ := h
    refine ⟨_, (pss_one (ps_ret (pe_callB (call_all rfl) rfl B.all boot_all' (pa_cons (pe_lc (cap := []) ["place", "value"] rfl (CompOk.of (defScope sBelow) ["links"] rfl rfl (by decide +kernel)) (pi_enum rfl B.enumerate (pa_cons (pv 0) pa_nil)) (fun C s H fp => (pg_tup rfl (pgs_cons (pg_name (i := 0) (show List.Nodup (["place", "value"] : List Str) from by decide +kernel) rfl (Or.inl rfl)) (pgs_cons (pg_name (i := 1) (show List.Nodup (["place", "value"] : List Str) from by decide +kernel) rfl (Or.inl rfl)) pgs_nil)))) (fun C s H fp => pf_nil)
        (fun C s H fp => (pe_fn cW hr rfl (pa_cons (pv 1) (pa_cons (pe_un un_neg pe_int) (pa_cons (pe_op op_sub (pv 0) pe_int) pa_nil)))))) pa_nil)))), ?_⟩
    refine ⟨_, rfl, a, rfl, ⟨_, SqL.of hS⟩, fun D hD => lc_enum (xs := ls.map V.int) (fun C s H0 fp p x z σ H Q' hp hq => ⟨p, _, rfl, SqT.of hp, rfl, _, _, rfl, _, _, rfl, rfl, hq⟩)
      (fun i H2 ys => i ≤ ls.length ∧ Same H H2 ∧ H2 D = some (.lst ys) ∧ ys = ((List.range i).map fun j => decide (-1 ≤ ls.getD j 0 ∧ ls.getD j 0 ≤ (j : Int) - 1)).map V.bl) ⟨Nat.zero_le _, Same.new hD _, upd_same, rfl⟩ (fun i H2 ys _ h => ⟨SqL.of (h.2.1 _ _ hS), h.2.2.1⟩) ?_ ?_⟩
    · rintro i x t H2 ys hx ⟨_, s2, hD2, rfl⟩ ht C s H0 fp
      obtain ⟨z, rfl, b1⟩ := get_mapM hx
      have hi : i < ls.length := (List.getElem?_eq_some_iff.mp b1).1
      have e : ls.getD i 0 = z := by rw [List.getD_eq_getElem?_getD, b1]; rfl
      refine ⟨_, rfl, 1, rfl, _, rfl, _, 1, rfl, rfl, z, -1, _, rfl, (Same.new ht _) _ _ hD2, by rw [List.length_map, List.length_map, List.length_range]; exact small100 (by omega), hi, (s2.put (s2.free ht)).put hD, upd_same, ?_⟩
      rw [List.range_succ, List.map_append, List.map_append]
      show _ ++ [V.bl (decide (-1 ≤ z ∧ z ≤ (i : Int) - 1))] = _ ++ [V.bl (decide (-1 ≤ ls.getD i 0 ∧ ls.getD i 0 ≤ (i : Int) - 1))]
      rw [e]
    · rintro H2 ys ⟨_, s2, hD2, rfl⟩
      refine ⟨D, _, rfl, SqL.of hD2, ?_⟩
      have e : (((List.range (ls.map V.int).length).map fun j => decide (-1 ≤ ls.getD j 0 ∧ ls.getD j 0 ≤ (j : Int) - 1)).all id) = validB ls := by
        rw [List.length_map, List.all_map]; rfl
      rw [e]
      exact k _ s2
end
end Sky

namespace Sky
open PySem L2
section
variable {P : Program} {w : World} {K : PySem.W.Frag} {mg : Str → Option Value} {base : Heap}
theorem scBelow9 : FnScope ["links"] ["links"] (defScope sBelow) := ⟨rfl, rfl, rfl, by decide +kernel, rfl, by decide +kernel, by decide +kernel⟩
theorem ok_below9 {f : Addr} {fd : FuncData} (F : Fun K "all_below_their_places" "all_below_their_places" sBelow f fd) (B : Blt mg) (cW : Callee P w K mg base 1 "is_whole_within" ["value", "least", "most"] (spWithin9 K)) : FnOk P w K mg base CX0 2 f fd ["links"] (spBelow9 K) := by
  refine F.ok scBelow9 (fun vs H Q E h => ?_) (fun cdv A outer s H vs Q E hr h => ?_)
  · obtain ⟨a, xs, rfl, _⟩ := h
    rfl
  · obtain ⟨a, xs, rfl, hS, hl, hk, ⟨i0, x0, hx0, hw0⟩, k⟩ := h
    refine ⟨_, (pss_one (ps_ret (pe_callB (call_all rfl) rfl B.all boot_all' (pa_cons (pe_lc (cap := []) ["place", "value"] rfl (CompOk.of (defScope sBelow) ["links"] rfl rfl (by decide +kernel)) (pi_enum rfl B.enumerate (pa_cons (pv 0) pa_nil)) (fun C s H fp => (pg_tup rfl (pgs_cons (pg_name (i := 0) (show List.Nodup (["place", "value"] : List Str) from by decide +kernel) rfl (Or.inl rfl)) (pgs_cons (pg_name (i := 1) (show List.Nodup (["place", "value"] : List Str) from by decide +kernel) rfl (Or.inl rfl)) pgs_nil)))) (fun C s H fp => pf_nil)
        (fun C s H fp => (pe_fn cW hr rfl (pa_cons (pv 1) (pa_cons (pe_un un_neg pe_int) (pa_cons (pe_op op_sub (pv 0) pe_int) pa_nil)))))) pa_nil)))), ?_⟩
    refine ⟨_, rfl, a, rfl, ⟨_, SqL.of hS⟩, fun D hD => lc_enum (xs := xs) (fun C s H0 fp p x z σ H Q' hp hq => ⟨p, _, rfl, SqT.of hp, rfl, _, _, rfl, _, _, rfl, rfl, hq⟩)
      (fun i H2 ys => i ≤ xs.length ∧ Same H H2 ∧ H2 D = some (.lst ys) ∧ ys = ((List.range i).map fun j => wh (xs.getD j .non) (-1) ((j : Int) - 1)).map V.bl) ⟨Nat.zero_le _, Same.new hD _, upd_same, rfl⟩ (fun i H2 ys _ h => ⟨SqL.of (h.2.1 _ _ hS), h.2.2.1⟩) ?_ ?_⟩
    · rintro i x t H2 ys hx ⟨_, s2, hD2, rfl⟩ ht C s H0 fp
      have hi : i < xs.length := (List.getElem?_eq_some_iff.mp hx).1
      have e : xs.getD i .non = x := by rw [List.getD_eq_getElem?_getD, hx]; rfl
      refine ⟨_, rfl, 1, rfl, _, rfl, _, 1, rfl, rfl, x, -1, _, rfl, (hk x (List.mem_of_getElem? hx)).same (s2.trans (Same.new ht _)), (Same.new ht _) _ _ hD2, by rw [List.length_map, List.length_map, List.length_range]; exact small100 (by omega), hi, (s2.put (s2.free ht)).put hD, upd_same, ?_⟩
      rw [List.range_succ, List.map_append, List.map_append]
      show _ ++ [V.bl (wh x (-1) ((i : Int) - 1))] = _ ++ [V.bl (wh (xs.getD i .non) (-1) ((i : Int) - 1))]
      rw [e]
    · rintro H2 ys ⟨_, s2, hD2, rfl⟩
      refine ⟨D, _, rfl, SqL.of hD2, ?_⟩
      have e : (((List.range xs.length).map fun j => wh (xs.getD j .non) (-1) ((j : Int) - 1)).all id) = false := by
        rw [List.all_eq_false]
        refine ⟨_, List.mem_map.mpr ⟨i0, List.mem_range.mpr (List.getElem?_eq_some_iff.mp hx0).1, rfl⟩, ?_⟩
        rw [show xs.getD i0 .non = x0 by rw [List.getD_eq_getElem?_getD, hx0]; rfl, show wh x0 (-1) ((i0 : Int) - 1) = false from hw0]
        decide
      rw [e]
      exact k _ s2
end
end Sky

namespace Sky
open PySem L2
section
variable {P : Program} {w : World} {K : PySem.W.Frag} {mg : Str → Option Value} {base : Heap}
theorem scChkL : FnScope ["links"] ["links"] (defScope sChkL) := ⟨rfl, rfl, rfl, by decide +kernel, rfl, by decide +kernel, by decide +kernel⟩
theorem ok_chkL {f : Addr} {fd : FuncData} (F : Fun K "check_links" "check_links" sChkL f fd) (B : Blt mg) (cA : Callee P w K mg base 2 "all_below_their_places" ["links"] spBelow) : FnOk P w K mg base CX0 3 f fd ["links"] spChkL := by
  refine F.ok scChkL (fun vs H Q E h => ?_) (fun cdv A outer s H vs Q E hr h => ?_)
  · obtain ⟨a, ls, rfl, _⟩ := h
    rfl
  · obtain ⟨a, ls, rfl, hS, hl, hv, k⟩ := h
    refine ⟨_, (pss_cons (ps_if (pt_not (pt_val (pe_callB call_isinst rfl B.isinstance boot_isinst' (pa_cons (pv 0) (pa_cons (pe_bltn rfl B.list boot_list' (v := .ty "list") rfl) pa_nil))))) pss_never pss_nil)
      (pss_one (ps_if (pt_not (pt_val (pe_fn cA hr rfl (pa_cons (pv 0) pa_nil)))) pss_never pss_nil))), ?_⟩
    refine ⟨_, rfl, _, _, _, _, _, rfl, .lst hS, rfl, kit_ll _, true, rfl, iteF ?_⟩
    refine ⟨_, rfl, a, ls, rfl, hS, hl, fun H1 s1 => ?_⟩
    rw [validB_of hv]
    exact ⟨true, rfl, iteF (k _ s1)⟩
end
end Sky

namespace Sky
open PySem L2
section
variable {P : Program} {w : World} {K : PySem.W.Frag} {mg : Str → Option Value} {base : Heap}
theorem scChkL9 : FnScope ["links"] ["links"] (defScope sChkL) := ⟨rfl, rfl, rfl, by decide +kernel, rfl, by decide +kernel, by decide +kernel⟩
theorem ok_chkL9 {f C : Addr} {fd : FuncData} (F : Fun K "check_links" "check_links" sChkL f fd) (B : Blt mg) (xC : ExC K C) (mgC : mg "BadLinks" = some (.ref C)) (cA : Callee P w K mg base 2 "all_below_their_places" ["links"] (spBelow9 K)) : FnOk P w K mg base (CX1 P w) 3 f fd ["links"] (spBad K okLv C) := by
  refine F.okx scChkL9 (fun vs H Q E h => ?_) (fun cdv A outer s H vs Q E hr h => ?_)
  · obtain ⟨v, rfl, _⟩ := h
    rfl
  · obtain ⟨v, rfl, hb, k⟩ := h
    refine ⟨_, (pss_cons (ps_if (pt_not (pt_val (pe_callB call_isinst rfl B.isinstance boot_isinst' (pa_cons (pv 0) (pa_cons (pe_bltn rfl B.list boot_list' (v := .ty "list") rfl) pa_nil))))) (pss_one (ps_raise cx_raise PySem.F.excBase_ValueError xC.raises rfl rfl mgC (pa_cons pe_str pa_nil))) pss_nil)
      (pss_one (ps_if (pt_not (pt_val (pe_fn cA (hr.mono (by decide)) rfl (pa_cons (pv 0) pa_nil)))) (pss_one (ps_raise cx_raise PySem.F.excBase_ValueError xC.raises rfl rfl mgC (pa_cons pe_str pa_nil))) pss_nil))), ?_⟩
    rcases hb with ⟨T, hT, ty⟩ | ⟨a, xs, rfl, hS, hl, hk, i0, x0, hx0, hw0⟩
    · exact ⟨_, rfl, _, _, _, _, _, rfl, ty, rfl, kd_list hT, false, rfl, iteT ⟨by show 1 ≤ sizeLine; decide, k H (Same.refl _)⟩⟩
    refine ⟨_, rfl, _, _, _, _, _, rfl, .lst hS, rfl, kit_ll _, true, rfl, iteF ?_⟩
    exact ⟨_, rfl, a, xs, rfl, hS, hl, hk, ⟨i0, x0, hx0, hw0⟩, fun H1 s1 => ⟨false, rfl, iteT ⟨by show 1 ≤ sizeLine; decide, k H1 s1⟩⟩⟩
end
end Sky

namespace Sky
open PySem L2
section
variable {P : Program} {w : World} {K : PySem.W.Frag} {mg : Str → Option Value} {base : Heap}
theorem scPlace9 : FnScope ["bars", "value"] ["bars", "value"] (defScope sPlace) := ⟨rfl, rfl, rfl, by decide +kernel, rfl, by decide +kernel, by decide +kernel⟩
theorem ok_place9 {f : Addr} {fd : FuncData} (F : Fun K "is_place" "is_place" sPlace f fd) (B : Blt mg) (cW : Callee P w K mg base 1 "is_whole_within" ["value", "least", "most"] (spWithin9 K)) : FnOk P w K mg base CX0 2 f fd ["bars", "value"] (spPlace9 K) := by
  refine F.ok scPlace9 (fun vs H Q E h => ?_) (fun cdv A outer s H vs Q E hr h => ?_)
  · obtain ⟨a, xs, v, rfl, _⟩ := h
    rfl
  · obtain ⟨a, xs, v, rfl, hS, hk, k⟩ := h
    refine ⟨_, (pss_one (ps_ret (pe_fn cW hr rfl (pa_cons (pv 1) (pa_cons pe_int (pa_cons (pe_op op_sub (pe_callB call_len_seq rfl B.len PySem.boot_len (pa_cons (pv 0) pa_nil)) pe_int) pa_nil)))))), ?_⟩
    refine ⟨_, rfl, _, rfl, a, _, rfl, .inl (SqL.of hS), _, 1, rfl, rfl, v, 0, _, rfl, hk, ?_⟩
    rw [List.length_map]
    exact k
end
end Sky

namespace Sky
open PySem L2
section
variable {P : Program} {w : World} {K : PySem.W.Frag} {mg : Str → Option Value} {base : Heap}
theorem scChk29 : FnScope ["bars", "one", "other"] ["bars", "one", "other"] (defScope sChk2) := ⟨rfl, rfl, rfl, by decide +kernel, rfl, by decide +kernel, by decide +kernel⟩
theorem ok_two9 {f C : Addr} {fd : FuncData} (F : Fun K "check_two_places" "check_two_places" sChk2 f fd) (B : Blt mg) (xC : ExC K C) (mgC : mg "BadPlace" = some (.ref C)) (cP : Callee P w K mg base 2 "is_place" ["bars", "value"] (spPlace9 K)) : FnOk P w K mg base (CX1 P w) 3 f fd ["bars", "one", "other"] (spTwo9 K C) := by
  refine F.okx scChk29 (fun vs H Q E h => ?_) (fun cdv A outer s H vs Q E hr h => ?_)
  · obtain ⟨a, xs, x, y, rfl, _⟩ := h
    rfl
  · obtain ⟨a, xs, x, y, rfl, hS, hx, hy, hb, k⟩ := h
    refine ⟨_, (pss_cons (ps_if (PW.pt (pw_or (pt_not (pt_val (pe_fn cP hr rfl (pa_cons (pv 0) (pa_cons (pv 1) pa_nil))))) (pw_or1 (pt_not (pt_val (pe_fn cP hr rfl (pa_cons (pv 0) (pa_cons (pv 2) pa_nil)))))))) (pss_one (ps_raise cx_raise PySem.F.excBase_ValueError xC.raises rfl rfl mgC (pa_cons pe_str pa_nil))) pss_nil)
      (pss_one (ps_if (pt_cmpR op_eq (pv 1) (pv 2) (nomark _)) (pss_one (ps_raise cx_raise PySem.F.excBase_ValueError xC.raises rfl rfl mgC (pa_cons pe_str pa_nil))) pss_nil))), ?_⟩
    refine ⟨_, rfl, _, rfl, a, xs, x, rfl, hS, hx, _, rfl, ?_⟩
    cases hwx : wh x 0 ((xs.length : Int) - 1) with
    | false => exact iteT ⟨by show 1 ≤ sizeLine; decide, k H (Same.refl _)⟩
    | true =>
      refine iteF ⟨_, rfl, _, rfl, a, xs, y, rfl, hS, hy, _, rfl, ?_⟩
      cases hwy : wh y 0 ((xs.length : Int) - 1) with
      | false => exact iteT ⟨by show 1 ≤ sizeLine; decide, k H (Same.refl _)⟩
      | true =>
        rcases hb with z | z | ⟨i, rfl, rfl⟩
        · rw [hwx] at z; cases z
        · rw [hwy] at z; cases z
        · exact iteF ⟨_, rfl, _, rfl, rfl, _, rfl, iteE rfl ⟨by show 1 ≤ sizeLine; decide, k H (Same.refl _)⟩⟩
end
end Sky

namespace Sky
open PySem L2
section
variable {P : Program} {w : World} {K : PySem.W.Frag} {mg : Str → Option Value} {base : Heap}
theorem scStarts : FnScope ["bars", "starts", "rising", "place", "height"] ["bars"] (defScope sStarts) := ⟨rfl, rfl, rfl, by decide +kernel, rfl, by decide +kernel, by decide +kernel⟩
theorem ok_starts {f : Addr} {fd : FuncData} (F : Fun K "reach_starts" "reach_starts" sStarts f fd) (B : Blt mg) : FnOk P w K mg base CX0 1 f fd ["bars"] spStarts := by
  refine F.ok scStarts (fun vs H Q E h => ?_) (fun cdv A outer s H vs Q E hr h => ?_)
  · obtain ⟨a, xs, rfl, _⟩ := h
    rfl
  · obtain ⟨a, xs, rfl, hS, hl, k⟩ := h
    refine ⟨_, pss_cons (ps_set (i := 1) scStarts.nd rfl (Or.inl rfl) (pe_lst pa_nil))
      (pss_cons (ps_set (i := 2) scStarts.nd rfl (Or.inl rfl) (pe_lst pa_nil))
      (pss_cons (ps_for PassesOwn.never rfl (pi_enum rfl B.enumerate (pa_cons (pv 0) pa_nil)) (pg_tup rfl (pgs_cons (pg_name (i := 3) scStarts.nd rfl (Or.inl rfl)) (pgs_cons (pg_name (i := 4) scStarts.nd rfl (Or.inl rfl)) pgs_nil)))
        (pss_cons (ps_while PassesOwn.never (PW.pt (pw_and (pt_truth (pv 2) (fun _ => rfl)) (pw_and1 (pt_cmpR op_ge (pe_ix ix_list (pv 0) (pe_ix ix_list (pv 2) (pe_un un_neg pe_int) (fun _ _ => rfl)) (fun _ _ => rfl)) (pv 4) (nomark _)))))
          (pss_one (ps_expr (pe_bm0 PySem.F.plainAttrs_list PySem.F.slot_list_pop PySem.F.type_list_pop mt_pop (pv 2)))))
        (pss_cons (ps_expr (pe_bm PySem.F.plainAttrs_list PySem.F.slot_list_append PySem.F.type_list_append mt_append (pv 1) (pa_cons (pe_ifExp (pt_truth (pv 2) (fun _ => rfl)) (pe_op op_add (pe_ix ix_list (pv 2) (pe_un un_neg pe_int) (fun _ _ => rfl)) pe_int) pe_int) pa_nil)))
        (pss_one (ps_expr (pe_bm PySem.F.plainAttrs_list PySem.F.slot_list_append PySem.F.type_list_append mt_append (pv 2) (pa_cons (pv 3) pa_nil)))))))
      (pss_one (ps_ret (pv 1))))), ?_⟩
    refine ⟨Nat.zero_le _, fun c hc => ⟨Nat.zero_le _, fun q hq => ?_⟩⟩
    have hcq : c ≠ q := ne_of_none upd_same hq
    have nq : H q = none := (Same.new hc _).free hq
    have s3 : Same H (upd (upd H c (.lst [])) q (.lst [])) := (Same.new hc _).put nq
    refine ⟨_, rfl, a, rfl, ⟨_, SqL.of (s3 _ _ hS)⟩, for_enum (K := K) (a := a) (xs := xs.map V.int) (fun i σ H2 => ∃ v3 v4, σ = [some (.ref a), some (.ref c), some (.ref q), v3, v4] ∧ Same H H2 ∧ IL H2 c ((starts xs).take i) ∧ IL H2 q (cst (stkP xs i)).reverse)
      ⟨none, none, rfl, s3, (upd_ne hcq).trans upd_same, upd_same⟩ (fun i σ H2 _ ⟨_, _, _, s2, _⟩ => SqL.of (s2 _ _ hS)) ?_ ?_⟩
    · rintro i y σ H2 p hi ⟨v3, v4, rfl, s2, hC, hQ⟩ hp
      obtain ⟨h, rfl, hx⟩ := get_mapM hi
      have hil : i < xs.length := (List.getElem?_eq_some_iff.mp hx).1
      have hxd : xs.getD i 0 = h := by rw [List.getD_eq_getElem?_getD, hx]; rfl
      have s4 : Same H2 (upd H2 p (.tup [.int (i : Nat), .int h])) := Same.new hp _
      refine ⟨p, _, rfl, SqT.of upd_same, rfl, _, _, rfl, _, _, rfl, rfl, ?_⟩
      have s2' := s2.trans s4
      have hC' := s4 _ _ hC
      have hQ' := s4 _ _ hQ
      generalize upd H2 p (.tup [.int (i : Nat), .int h]) = H3 at s2' hC' hQ'
      have hcl : ((starts xs).take i).length ≤ 100 := by rw [List.length_take]; omega
      have fin : ∀ (st : List Nat) (H4 : Hp), Same H H4 → IL H4 c ((starts xs).take i) → IL H4 q (cst st).reverse → st = (stkP xs i).dropWhile (fun j => decide (h ≤ xs.getD j 0)) →
          ∃ v3 v4, ([some (.ref a), some (.ref c), some (.ref q), some (.int (i : Nat)), some (.int h)] : St) = [some (.ref a), some (.ref c), some (.ref q), v3, v4] ∧ Same H (upd (upd H4 c (.lst (((starts xs).take i).map V.int ++ [.int (stN xs i : Nat)]))) q (.lst ((cst st).reverse.map V.int ++ [.int (i : Nat)]))) ∧
            IL (upd (upd H4 c (.lst (((starts xs).take i).map V.int ++ [.int (stN xs i : Nat)]))) q (.lst ((cst st).reverse.map V.int ++ [.int (i : Nat)]))) c ((starts xs).take (i + 1)) ∧
            IL (upd (upd H4 c (.lst (((starts xs).take i).map V.int ++ [.int (stN xs i : Nat)]))) q (.lst ((cst st).reverse.map V.int ++ [.int (i : Nat)]))) q (cst (stkP xs (i + 1))).reverse := by
        intro st H4 s4 hC4 hQ4 hst
        refine ⟨_, _, rfl, (s4.put hc).put nq, (upd_ne hcq).trans (upd_same.trans ?_), upd_same.trans ?_⟩
        · rw [starts_take hil, List.map_append]; rfl
        · have : stkP xs (i + 1) = i :: st := by rw [hst, ← hxd]; rfl
          rw [this]
          show some (HO.lst _) = some (HO.lst (((cst (i :: st)).reverse).map V.int))
          rw [show cst (i :: st) = (i : Int) :: cst st from rfl, List.reverse_cons, List.map_append]; rfl
      refine ⟨fun m σ H4 => ∃ (st : List Nat), σ = [some (.ref a), some (.ref c), some (.ref q), some (.int (i : Nat)), some (.int h)] ∧ Same H H4 ∧ IL H4 c ((starts xs).take i) ∧ IL H4 q (cst st).reverse ∧ m = st.length ∧
        st.dropWhile (fun j => decide (h ≤ xs.getD j 0)) = (stkP xs i).dropWhile (fun j => decide (h ≤ xs.getD j 0)) ∧ (∀ j ∈ st, j < i) ∧ st.length ≤ i,
        ⟨_, stkP xs i, rfl, s2', hC', hQ', rfl, rfl, stkP_lt xs i, stkP_length xs i⟩, ?_⟩
      rintro m σ H4 ⟨st, rfl, s4, hC, hQ, rfl, hd, hj, hsl⟩
      refine ⟨_, rfl, _, .inl ⟨_, SqL.of hQ, rfl⟩, ?_⟩
      cases st with
      | nil =>
        refine iteF (iteF ?_)
        refine ⟨_, rfl, .inl ⟨rfl, _, SqL.of hC⟩, ⟨_, rfl, _, .inl ⟨_, SqL.of hQ, rfl⟩, iteF ?_⟩⟩
        refine ⟨c, _, _, rfl, rfl, hC, by rw [List.length_map]; exact small100 hcl, ?_⟩
        have hQ5 : ∀ o, (upd H4 c o) q = some (.lst ((cst []).reverse.map V.int)) := fun o => (upd_ne hcq.symm).trans hQ
        refine ⟨_, rfl, .inl ⟨rfl, _, SqL.of (hQ5 _)⟩, _, rfl, q, _, _, rfl, rfl, hQ5 _, small1000 (Nat.zero_le _), ?_⟩
        have e0 : stN xs i = 0 := stN_nil (by rw [hxd]; exact hd)
        have := fin [] H4 s4 hC hQ hd
        rw [e0] at this
        exact this
      | cons y st =>
        have hem : (!((cst (y :: st)).reverse.map V.int).isEmpty) = true := by simp
        rw [hem]
        refine iteT ?_
        have hyi : y < i := hj y List.mem_cons_self
        refine ⟨_, rfl, _, rfl, 1, rfl, q, _, -1, _, rfl, rfl, SqL.of hQ, atI_lastM (cst st) y, a, _, _, _, rfl, rfl, SqL.of (s4 _ _ hS), atI_mapM (by omega), _, rfl, _, h, rfl, rfl, _, rfl, ite2 (fun hy => ?_) (fun hy => ?_)⟩
        · refine ⟨_, fun _ _ z => z, ?_⟩
          refine ⟨_, rfl, .inl ⟨rfl, _, SqL.of hQ⟩, q, _, _, rfl, rfl, hQ, get_lastM (cst st) y, ?_⟩
          refine ⟨st.length, Nat.lt_succ_self _, st, rfl, s4.put nq, (upd_ne hcq).trans hC, upd_same.trans ?_, rfl, ?_, fun j hj' => hj j (List.mem_cons_of_mem _ hj'), Nat.le_of_succ_le hsl⟩
          · show some (HO.lst ((((y : Int) :: cst st).reverse.map V.int).dropLast)) = _
            rw [dropLastM]
          · rw [← hd, List.dropWhile_cons, if_pos hy]
        · have hy' : (y :: st).dropWhile (fun j => decide (h ≤ xs.getD j 0)) = y :: st := by rw [List.dropWhile_cons, if_neg hy]
          rw [hy'] at hd
          refine ⟨_, rfl, .inl ⟨rfl, _, SqL.of hC⟩, ⟨_, rfl, _, .inl ⟨_, SqL.of hQ, rfl⟩, ?_⟩⟩
          rw [hem]
          refine iteT ?_
          refine ⟨_, rfl, 1, rfl, q, _, -1, _, rfl, rfl, SqL.of hQ, atI_lastM (cst st) y, _, 1, rfl, rfl, c, _, _, rfl, rfl, hC, by rw [List.length_map]; exact small100 hcl, ?_⟩
          have hQ5 : ∀ o, (upd H4 c o) q = some (.lst ((cst (y :: st)).reverse.map V.int)) := fun o => (upd_ne hcq.symm).trans hQ
          refine ⟨_, rfl, .inl ⟨rfl, _, SqL.of (hQ5 _)⟩, _, rfl, q, _, _, rfl, rfl, hQ5 _, by rw [List.length_map, List.length_reverse, List.length_map]; exact small100 (by omega), ?_⟩
          have e0 : stN xs i = y + 1 := stN_cons (by rw [hxd]; exact hd)
          have := fin (y :: st) H4 s4 hC hQ hd
          rw [e0] at this
          exact this
    · rintro σ H2 ⟨v3, v4, rfl, s2, hC, hQ⟩
      refine ⟨_, rfl, k c H2 hc s2 ?_⟩
      rw [List.length_map] at hC
      have e : (starts xs).take xs.length = starts xs := List.take_of_length_le (by rw [starts_length]; exact Nat.le_refl _)
      rw [e] at hC
      exact hC
end
end Sky

namespace Sky
open PySem L2
section
variable {P : Program} {w : World} {K : PySem.W.Frag} {mg : Str → Option Value} {base : Heap}
theorem scTurned : FnScope ["places", "final"] ["places"] (defScope sTurned) := ⟨rfl, rfl, rfl, by decide +kernel, rfl, by decide +kernel, by decide +kernel⟩
theorem ok_turned {f : Addr} {fd : FuncData} (F : Fun K "turned" "turned" sTurned f fd) (B : Blt mg) : FnOk P w K mg base CX0 1 f fd ["places"] spTurned := by
  refine F.ok scTurned (fun vs H Q E h => ?_) (fun cdv A outer s H vs Q E hr h => ?_)
  · obtain ⟨a, xs, rfl, _⟩ := h
    rfl
  · obtain ⟨a, xs, rfl, hS, hl, k⟩ := h
    refine ⟨_, pss_cons (ps_set (i := 1) scTurned.nd rfl (Or.inr rfl) (pe_op op_sub (pe_callB call_len_seq rfl B.len PySem.boot_len (pa_cons (pv 0) pa_nil)) pe_int))
      (pss_one (ps_ret (pe_lc (cap := [1]) ["place"] rfl (CompOk.of (defScope sTurned) ["places", "final"] rfl rfl (by decide +kernel)) (PIV.pi (piv_rev rfl B.reversed (pa_cons (pv 0) pa_nil))) (fun C s H fp => pg_name (i := 0) (show List.Nodup (["place", "final"] : List Str) from by decide +kernel) rfl (Or.inl rfl)) (fun C s H fp => pf_nil)
        (fun C s H fp => pe_op op_sub (pv 1) (pv 0))))), ?_⟩
    refine ⟨_, rfl, a, _, rfl, .inl (SqL.of hS), _, 1, rfl, rfl, ?_⟩
    refine ⟨_, rfl, a, _, rfl, SqL.of hS, fun D hD => lc_revP (xs := xs.map V.int) (fun v => match v with | .int x => .int ((((xs.map V.int).length : Nat) : Int) - 1 - x) | _ => .non) hD (SqL.of hS) (by rw [List.length_map]; exact Nat.le_of_lt (small100 hl)) ?_ ?_⟩
    · intro i x ys C s H0 fp R hx hR
      obtain ⟨z, rfl, _⟩ := get_mapM hx
      exact ⟨_, rfl, _, rfl, _, z, rfl, rfl, hR⟩
    · refine k D _ hD (Same.new hD _) (upd_same.trans ?_)
      rw [List.map_map, ← List.map_reverse, List.map_map]
      congr 2
      apply List.map_congr_left
      intro z hz
      simp
end
end Sky

namespace Sky
open PySem L2
section
variable {P : Program} {w : World} {K : PySem.W.Frag} {mg : Str → Option Value} {base : Heap}
theorem scEnds : FnScope ["bars"] ["bars"] (defScope sEnds) := ⟨rfl, rfl, rfl, by decide +kernel, rfl, by decide +kernel, by decide +kernel⟩
theorem ok_ends {f : Addr} {fd : FuncData} (F : Fun K "reach_ends" "reach_ends" sEnds f fd) (B : Blt mg) (cS : Callee P w K mg base 1 "reach_starts" ["bars"] spStarts) (cT : Callee P w K mg base 1 "turned" ["places"] spTurned) : FnOk P w K mg base CX0 2 f fd ["bars"] spEnds := by
  refine F.ok scEnds (fun vs H Q E h => ?_) (fun cdv A outer s H vs Q E hr h => ?_)
  · obtain ⟨a, xs, rfl, _⟩ := h
    rfl
  · obtain ⟨a, xs, rfl, hS, hl, k⟩ := h
    refine ⟨_, pss_one (ps_ret (pe_fn cT hr rfl (pa_cons (pe_fn cS hr rfl (pa_cons (pe_listV (x := "x") (p2 := ⟨0, 0, 0, 0⟩) rfl (piv_rev rfl B.reversed (pa_cons (pv 0) pa_nil)) rfl B.list) pa_nil)) pa_nil))), ?_⟩
    have hz : (xs.map V.int).length ≤ sizeLine := by rw [List.length_map]; exact Nat.le_of_lt (small100 hl)
    refine ⟨_, rfl, a, xs.map V.int, rfl, SqL.of hS, fun D hD => li_rev hD (SqL.of hS) hz ?_⟩
    have hD2 : IL (upd H D (.lst (xs.map V.int).reverse)) D xs.reverse := upd_same.trans (by rw [List.map_reverse])
    have s1 : Same H (upd H D (.lst (xs.map V.int).reverse)) := Same.new hD _
    refine ⟨D, xs.reverse, rfl, hD2, by rw [List.length_reverse]; exact hl, fun l H2 nl s2 hL => ?_⟩
    refine ⟨l, _, rfl, hL, by rw [starts_length, List.length_reverse]; exact hl, fun l2 H3 nl2 s3 hL2 => ?_⟩
    have sA := (s1.trans s2).trans s3
    refine k l2 H3 ((s1.trans s2).free nl2) sA ?_
    have e := ends_eq xs
    rw [starts_length, List.length_reverse, e] at hL2
    exact hL2
end
end Sky

namespace Sky
open PySem L2
section
variable {P : Program} {w : World} {K : PySem.W.Frag} {mg : Str → Option Value} {base : Heap}
theorem scReach : FnScope ["bars"] ["bars"] (defScope sReach) := ⟨rfl, rfl, rfl, by decide +kernel, rfl, by decide +kernel, by decide +kernel⟩
theorem ok_reach {f : Addr} {fd : FuncData} (F : Fun K "reaches" "reaches" sReach f fd) (B : Blt mg) (cC : Callee P w K mg base 3 "check_bars" ["bars"] spChk) (cS : Callee P w K mg base 1 "reach_starts" ["bars"] spStarts) (cE : Callee P w K mg base 2 "reach_ends" ["bars"] spEnds) : FnOk P w K mg base CX0 4 f fd ["bars"] spReach := by
  refine F.ok scReach (fun vs H Q E h => ?_) (fun cdv A outer s H vs Q E hr h => ?_)
  · obtain ⟨a, xs, rfl, _⟩ := h
    rfl
  · obtain ⟨a, xs, rfl, hS, hh, k⟩ := h
    refine ⟨_, pss_cons (ps_expr (pe_fn cC hr rfl (pa_cons (pv 0) pa_nil)))
      (pss_one (ps_ret (pe_listV (x := "x") (p2 := ⟨0, 0, 0, 0⟩) rfl (piv_zip rfl B.zip (pa_cons (pe_fn cS (hr.mono (by decide)) rfl (pa_cons (pv 0) pa_nil)) (pa_cons (pe_fn cE (hr.mono (by decide)) rfl (pa_cons (pv 0) pa_nil)) pa_nil))) rfl B.list))), ?_⟩
    refine ⟨_, rfl, a, xs, rfl, hS, hh, fun H1 s1 => ?_⟩
    refine ⟨_, rfl, a, xs, rfl, s1 _ _ hS, hh.1, fun l1 H2 n1 s2 hL1 => ?_⟩
    refine ⟨_, rfl, a, xs, rfl, s2 _ _ (s1 _ _ hS), hh.1, fun l2 H3 n2 s3 hL2 => ?_⟩
    refine ⟨l1, l2, rfl, ⟨_, SqL.of (s3 _ _ hL1)⟩, ⟨_, SqL.of hL2⟩, fun D hD => li_zip hD (SqL.of (s3 _ _ hL1)) (SqL.of hL2) (by rw [List.length_map, List.length_map, starts_length, ends_length]; exact Nat.le_refl _) (by rw [List.length_map, starts_length]; exact Nat.le_of_lt (small100 hh.1)) fun H4 ps s4 hD4 hpl hps => ?_⟩
    have sA := (s1.trans s2).trans s3
    refine k D H4 (sA.free hD) (sA.trans s4) ⟨ps, hD4, by rw [hpl, List.length_map, starts_length, reachP_length], fun j p e => ?_⟩
    obtain ⟨x, z, a1, a2, a3, _⟩ := hps j p e
    obtain ⟨x', rfl, b1⟩ := get_mapM a1
    obtain ⟨z', rfl, b2⟩ := get_mapM a2
    have hj : j < xs.length := by have := (List.getElem?_eq_some_iff.mp b1).1; rw [starts_length] at this; exact this
    refine ⟨_, reachP_get hj, ?_⟩
    unfold starts at b1
    unfold ends at b2
    rw [List.getElem?_map, List.getElem?_range hj] at b1 b2
    have e1 := Option.some.inj b1
    have e2 := Option.some.inj b2
    rw [a3, ← e1, ← e2]
end
end Sky

namespace Sky
open PySem L2
section
variable {P : Program} {w : World} {K : PySem.W.Frag} {mg : Str → Option Value} {base : Heap}
theorem scReach9 : FnScope ["bars"] ["bars"] (defScope sReach) := ⟨rfl, rfl, rfl, by decide +kernel, rfl, by decide +kernel, by decide +kernel⟩
theorem ok_reach9 {f C : Addr} {fd : FuncData} (F : Fun K "reaches" "reaches" sReach f fd) (B : Blt mg) (cC : CalleeX P w K mg base 3 "check_bars" ["bars"] (spBad K okBv C)) : FnOk P w K mg base (CX1 P w) 4 f fd ["bars"] (spBad K okBv C) := by
  refine F.okx scReach9 (fun vs H Q E h => ?_) (fun cdv A outer s H vs Q E hr h => ?_)
  · obtain ⟨v, rfl, _⟩ := h
    rfl
  · obtain ⟨v, rfl, hb, k⟩ := h
    refine ⟨_, (pss_cons (ps_expr (pe_fnx cC cx_pass (hr.mono (by decide)) rfl (pa_cons (pv 0) pa_nil))) pss_never), ?_⟩
    exact ⟨_, rfl, v, rfl, hb, k⟩
end
end Sky

namespace Sky
open PySem L2
section
variable {P : Program} {w : World} {K : PySem.W.Frag} {mg : Str → Option Value} {base : Heap}
theorem scAhead9 : FnScope ["bars", "counts", "falling", "height", "seen"] ["bars"] (defScope sAhead) := ⟨rfl, rfl, rfl, by decide +kernel, rfl, by decide +kernel, by decide +kernel⟩
theorem ok_ahead9 {f C : Addr} {fd : FuncData} (F : Fun K "seen_ahead" "seen_ahead" sAhead f fd) (B : Blt mg) (cC : CalleeX P w K mg base 3 "check_bars" ["bars"] (spBad K okBv C)) : FnOk P w K mg base (CX1 P w) 4 f fd ["bars"] (spBad K okBv C) := by
  refine F.okx scAhead9 (fun vs H Q E h => ?_) (fun cdv A outer s H vs Q E hr h => ?_)
  · obtain ⟨v, rfl, _⟩ := h
    rfl
  · obtain ⟨v, rfl, hb, k⟩ := h
    refine ⟨_, (pss_cons (ps_expr (pe_fnx cC cx_pass (hr.mono (by decide)) rfl (pa_cons (pv 0) pa_nil))) pss_never), ?_⟩
    exact ⟨_, rfl, v, rfl, hb, k⟩
end
end Sky

namespace Sky
open PySem L2
section
variable {P : Program} {w : World} {K : PySem.W.Frag} {mg : Str → Option Value} {base : Heap}
theorem scShown9 : FnScope ["bars", "places", "highest", "place", "height"] ["bars"] (defScope sShown) := ⟨rfl, rfl, rfl, by decide +kernel, rfl, by decide +kernel, by decide +kernel⟩
theorem ok_shown9 {f C : Addr} {fd : FuncData} (F : Fun K "shown" "shown" sShown f fd) (B : Blt mg) (cC : CalleeX P w K mg base 3 "check_bars" ["bars"] (spBad K okBv C)) : FnOk P w K mg base (CX1 P w) 4 f fd ["bars"] (spBad K okBv C) := by
  refine F.okx scShown9 (fun vs H Q E h => ?_) (fun cdv A outer s H vs Q E hr h => ?_)
  · obtain ⟨v, rfl, _⟩ := h
    rfl
  · obtain ⟨v, rfl, hb, k⟩ := h
    refine ⟨_, (pss_cons (ps_expr (pe_fnx cC cx_pass (hr.mono (by decide)) rfl (pa_cons (pv 0) pa_nil))) pss_never), ?_⟩
    exact ⟨_, rfl, v, rfl, hb, k⟩
end
end Sky

namespace Sky
open PySem L2
section
variable {P : Program} {w : World} {K : PySem.W.Frag} {mg : Str → Option Value} {base : Heap}
theorem scNear : FnScope ["bars"] ["bars"] (defScope sNear) := ⟨rfl, rfl, rfl, by decide +kernel, rfl, by decide +kernel, by decide +kernel⟩
theorem ok_near {f : Addr} {fd : FuncData} (F : Fun K "nearest_lower" "nearest_lower" sNear f fd) (B : Blt mg) (cS : Callee P w K mg base 1 "reach_starts" ["bars"] spStarts) : FnOk P w K mg base CX0 2 f fd ["bars"] spNear := by
  refine F.ok scNear (fun vs H Q E h => ?_) (fun cdv A outer s H vs Q E hr h => ?_)
  · obtain ⟨a, xs, rfl, _⟩ := h
    rfl
  · obtain ⟨a, xs, rfl, hS, hl, k⟩ := h
    refine ⟨_, (pss_one (ps_ret (pe_lc (cap := []) ["start"] rfl (CompOk.of (defScope sNear) ["bars"] rfl rfl (by decide +kernel)) (pi_list (pe_fn cS hr rfl (pa_cons (pv 0) pa_nil))) (fun C s H fp => (pg_name (i := 0) (show List.Nodup (["start"] : List Str) from by decide +kernel) rfl (Or.inl rfl))) (fun C s H fp => pf_nil)
        (fun C s H fp => (pe_op op_sub (pv 0) pe_int))))), ?_⟩
    refine ⟨_, rfl, a, xs, rfl, hS, hl, fun l H1 nl s1 hL => ?_⟩
    refine ⟨l, rfl, ⟨_, SqL.of hL⟩, fun D hD => lc_listP (xs := (starts xs).map V.int) (fun v => match v with | .int x => .int (x - 1) | _ => .non) hD (SqL.of hL) (by rw [List.length_map, starts_length]; exact Nat.le_of_lt (small100 hl)) ?_ ?_⟩
    · intro i x ys C s H0 fp R hx hR
      obtain ⟨z, rfl, _⟩ := get_mapM hx
      exact ⟨_, rfl, z, 1, rfl, rfl, hR⟩
    · refine k D _ (s1.free hD) (s1.put (s1.free hD)) (upd_same.trans ?_)
      unfold linksL
      rw [List.map_map, List.map_map]; rfl
end
end Sky

namespace Sky
open PySem L2
section
variable {P : Program} {w : World} {K : PySem.W.Frag} {mg : Str → Option Value} {base : Heap}
theorem scLinks : FnScope ["bars"] ["bars"] (defScope sLinks) := ⟨rfl, rfl, rfl, by decide +kernel, rfl, by decide +kernel, by decide +kernel⟩
theorem ok_links {f : Addr} {fd : FuncData} (F : Fun K "links" "links" sLinks f fd) (B : Blt mg) (cC : Callee P w K mg base 3 "check_bars" ["bars"] spChk) (cN : Callee P w K mg base 2 "nearest_lower" ["bars"] spNear) : FnOk P w K mg base CX0 4 f fd ["bars"] spLinks := by
  refine F.ok scLinks (fun vs H Q E h => ?_) (fun cdv A outer s H vs Q E hr h => ?_)
  · obtain ⟨a, xs, rfl, _⟩ := h
    rfl
  · obtain ⟨a, xs, rfl, hS, hh, k⟩ := h
    refine ⟨_, (pss_cons (ps_expr (pe_fn cC hr rfl (pa_cons (pv 0) pa_nil)))
      (pss_one (ps_ret (pe_fn cN (hr.mono (by decide)) rfl (pa_cons (pv 0) pa_nil))))), ?_⟩
    refine ⟨_, rfl, a, xs, rfl, hS, hh, fun H1 s1 => ?_⟩
    exact ⟨_, rfl, a, xs, rfl, s1 _ _ hS, hh.1, fun l H2 nl s2 hL => k l H2 (s1.free nl) (s1.trans s2) hL⟩
end
end Sky

namespace Sky
open PySem L2
section
variable {P : Program} {w : World} {K : PySem.W.Frag} {mg : Str → Option Value} {base : Heap}
theorem scLinks9 : FnScope ["bars"] ["bars"] (defScope sLinks) := ⟨rfl, rfl, rfl, by decide +kernel, rfl, by decide +kernel, by decide +kernel⟩
theorem ok_links9 {f C : Addr} {fd : FuncData} (F : Fun K "links" "links" sLinks f fd) (B : Blt mg) (cC : CalleeX P w K mg base 3 "check_bars" ["bars"] (spBad K okBv C)) : FnOk P w K mg base (CX1 P w) 4 f fd ["bars"] (spBad K okBv C) := by
  refine F.okx scLinks9 (fun vs H Q E h => ?_) (fun cdv A outer s H vs Q E hr h => ?_)
  · obtain ⟨v, rfl, _⟩ := h
    rfl
  · obtain ⟨v, rfl, hb, k⟩ := h
    refine ⟨_, (pss_cons (ps_expr (pe_fnx cC cx_pass (hr.mono (by decide)) rfl (pa_cons (pv 0) pa_nil))) pss_never), ?_⟩
    exact ⟨_, rfl, v, rfl, hb, k⟩
end
end Sky

namespace Sky
open PySem L2
section
variable {P : Program} {w : World} {K : PySem.W.Frag} {mg : Str → Option Value} {base : Heap}
theorem scPar : FnScope ["bars", "parents", "rising", "place", "height", "topmost"] ["bars"] (defScope sPar) := ⟨rfl, rfl, rfl, by decide +kernel, rfl, by decide +kernel, by decide +kernel⟩
theorem ok_par {f : Addr} {fd : FuncData} (F : Fun K "parents_in_tree" "parents_in_tree" sPar f fd) (B : Blt mg)  : FnOk P w K mg base CX0 1 f fd ["bars"] spPar := by
  refine F.ok scPar (fun vs H Q E h => ?_) (fun cdv A outer s H vs Q E hr h => ?_)
  · obtain ⟨a, xs, rfl, _⟩ := h
    rfl
  · obtain ⟨a, xs, rfl, hS, hl, k⟩ := h
    refine ⟨_, (pss_cons (ps_set (i := 1) scPar.nd rfl (Or.inl rfl) (pe_lst pa_nil))
      (pss_cons (ps_set (i := 2) scPar.nd rfl (Or.inl rfl) (pe_lst pa_nil))
      (pss_cons (ps_for PassesOwn.never rfl (pi_enum rfl B.enumerate (pa_cons (pv 0) pa_nil)) (pg_tup rfl (pgs_cons (pg_name (i := 3) scPar.nd rfl (Or.inl rfl)) (pgs_cons (pg_name (i := 4) scPar.nd rfl (Or.inl rfl)) pgs_nil)))
      (pss_cons (ps_set (i := 5) scPar.nd rfl (Or.inl rfl) (pe_un un_neg pe_int))
      (pss_cons (ps_while PassesOwn.never (PW.pt (pw_and (pt_truth (pv 2) (fun _ => rfl)) (pw_and1 (pt_cmpR op_gt (pe_ix ix_list (pv 0) (pe_ix ix_list (pv 2) (pe_un un_neg pe_int) (fun _ _ => rfl)) (fun _ _ => rfl)) (pv 4) (nomark _)))))
      (pss_one (ps_set (i := 5) scPar.nd rfl (Or.inl rfl) (pe_bm0 PySem.F.plainAttrs_list PySem.F.slot_list_pop PySem.F.type_list_pop mt_pop (pv 2)))))
      (pss_cons (ps_expr (pe_bm PySem.F.plainAttrs_list PySem.F.slot_list_append PySem.F.type_list_append mt_append (pv 1) (pa_cons (pe_ifExp (pt_truth (pv 2) (fun _ => rfl)) (pe_ix ix_list (pv 2) (pe_un un_neg pe_int) (fun _ _ => rfl)) (pe_un un_neg pe_int)) pa_nil)))
      (pss_cons (ps_if (pt_cmpR op_ge (pv 5) pe_int (nomark _)) (pss_one (ps_asg (pv 3) (pg_sub (pv 1) (pv 5) set_list))) pss_nil)
      (pss_one (ps_expr (pe_bm PySem.F.plainAttrs_list PySem.F.slot_list_append PySem.F.type_list_append mt_append (pv 2) (pa_cons (pv 3) pa_nil)))))))))
      (pss_one (ps_ret (pv 1)))))), ?_⟩
    refine ⟨Nat.zero_le _, fun c hc => ⟨Nat.zero_le _, fun q hq => ?_⟩⟩
    have hcq : c ≠ q := ne_of_none upd_same hq
    have nq : H q = none := (Same.new hc _).free hq
    have s3 : Same H (upd (upd H c (.lst [])) q (.lst [])) := (Same.new hc _).put nq
    refine ⟨_, rfl, a, rfl, ⟨_, SqL.of (s3 _ _ hS)⟩, for_enum (K := K) (a := a) (xs := xs.map V.int) (fun i σ H2 => ∃ v3 v4 v5, σ = [some (.ref a), some (.ref c), some (.ref q), v3, v4, v5] ∧ Same H H2 ∧ IL H2 c (parL xs i) ∧ IL H2 q (cst (stkT xs i)).reverse)
      ⟨none, none, none, rfl, s3, (upd_ne hcq).trans upd_same, upd_same⟩ (fun i σ H2 _ ⟨_, _, _, _, s2, _⟩ => SqL.of (s2 _ _ hS)) ?_ ?_⟩
    · rintro i y σ H2 p hi ⟨v3, v4, v5, rfl, s2, hC, hQ⟩ hp
      obtain ⟨h, rfl, hx⟩ := get_mapM hi
      have hil : i < xs.length := (List.getElem?_eq_some_iff.mp hx).1
      have hxd : xs.getD i 0 = h := by rw [List.getD_eq_getElem?_getD, hx]; rfl
      have s4 : Same H2 (upd H2 p (.tup [.int (i : Nat), .int h])) := Same.new hp _
      refine ⟨p, _, rfl, SqT.of upd_same, rfl, _, _, rfl, _, _, rfl, rfl, ?_⟩
      have s2' := s2.trans s4
      have hC' := s4 _ _ hC
      have hQ' := s4 _ _ hQ
      generalize upd H2 p (.tup [.int (i : Nat), .int h]) = H3 at s2' hC' hQ'
      have hcl : ((parL xs i).map V.int).length < sizeLine := by rw [List.length_map, parL_length]; exact small100 (by omega)
      refine ⟨1, rfl, ?_⟩
      refine ⟨fun m σ H4 => ∃ (pop st : List Nat), σ = [some (.ref a), some (.ref c), some (.ref q), some (.int (i : Nat)), some (.int h), some (.int (lastI pop))] ∧ Same H H4 ∧ IL H4 c (parL xs i) ∧ IL H4 q (cst st).reverse ∧ m = st.length ∧ pop ++ st = stkT xs i ∧ (∀ x ∈ pop, h < xs.getD x 0),
        ⟨_, [], stkT xs i, rfl, s2', hC', hQ', rfl, rfl, fun x hx => by simp at hx⟩, ?_⟩
      rintro m σ H4 ⟨pop, st, rfl, s4, hC, hQ, rfl, hd, hp⟩
      have hsl : st.length ≤ i := by have := congrArg List.length hd; rw [List.length_append] at this; have := stkT_length xs i; omega
      refine ⟨_, rfl, _, .inl ⟨_, SqL.of hQ, rfl⟩, ?_⟩
      cases st with
      | nil =>
        refine iteF (iteF ?_)
        have hst : ∀ (x : Nat) (r : List Nat), ([] : List Nat) = x :: r → xs.getD x 0 ≤ xs.getD i 0 := fun x r z => by cases z
        obtain ⟨hA, hstep⟩ := parL_step hd (fun x hx => by rw [hxd]; exact hp x hx) hst
        refine ⟨_, rfl, .inl ⟨rfl, _, SqL.of hC⟩, ⟨_, rfl, _, .inl ⟨_, SqL.of hQ, rfl⟩, iteF ⟨1, rfl, c, _, V.int (aN xs i), rfl, (by rw [← hA]; rfl), hC, hcl, ?_⟩⟩⟩
        -- behind the loop: the list c grew by the bar beneath which this one hangs so far
        have hcl2 : ((parL xs i).map V.int ++ [V.int (aN xs i)]).length = i + 1 := by rw [List.length_append, List.length_map, parL_length]; rfl
        have hC5 : (upd H4 c (.lst ((parL xs i).map V.int ++ [.int (aN xs i)]))) c = some (.lst ((parL xs i ++ [aN xs i]).map V.int)) := upd_same.trans (by rw [List.map_append]; rfl)
        have hQ5 : (upd H4 c (.lst ((parL xs i).map V.int ++ [.int (aN xs i)]))) q = some (.lst ((cst ([] : List Nat)).reverse.map V.int)) := (upd_ne hcq.symm).trans hQ
        have s5 : Same H (upd H4 c (.lst ((parL xs i).map V.int ++ [.int (aN xs i)]))) := s4.put hc
        generalize upd H4 c (.lst ((parL xs i).map V.int ++ [.int (aN xs i)])) = H5 at hC5 hQ5 s5
        have hstk : stkT xs (i + 1) = i :: ([] : List Nat) := by
          show i :: _ = _
          rw [← hd, drop_app (fun x hx => decide_eq_true (by rw [hxd]; exact hp x hx)) (fun x r hx => decide_eq_false (by have := hst x r hx; omega))]
        have hrl : ((cst ([] : List Nat)).reverse.map V.int).length < sizeLine := by rw [List.length_map, List.length_reverse, cst_length]; exact small100 (by omega)
        have hnew : ∀ o, (upd H5 q (.lst ((cst ([] : List Nat)).reverse.map V.int ++ [.int (i : Nat)]))) q = o → (∃ w, o = w) := fun o _ => ⟨o, rfl⟩
        have eR : (.lst ((cst ([] : List Nat)).reverse.map V.int ++ [.int (i : Nat)]) : HO) = .lst ((cst (stkT xs (i + 1))).reverse.map V.int) := by
          rw [hstk, show cst (i :: ([] : List Nat)) = (i : Int) :: cst ([] : List Nat) from rfl, List.reverse_cons, List.map_append]; rfl
        refine ⟨_, rfl, _, 0, rfl, rfl, _, rfl, ite2 (fun ht0 => ?_) (fun ht0 => ?_)⟩
        · have ht0' : 0 ≤ lastI pop := of_decide_eq_true ht0
          rw [if_pos ht0'] at hstep
          have htl : (lastI pop).toNat < i := stkT_lt xs i _ (hd ▸ List.mem_append_left _ (lastI_mem ht0'))
          refine ⟨_, rfl, _, rfl, _, rfl, c, _, _, (lastI pop).toNat, rfl, rfl, hC5, ?_, ?_⟩
          · have := ixN_nat (n := ((parL xs i ++ [aN xs i]).map V.int).length) (i := (lastI pop).toNat) (by rw [List.length_map, List.length_append, parL_length]; simp; omega)
            rwa [show (((lastI pop).toNat : Nat) : Int) = lastI pop by omega] at this
          have hC6 : (upd H5 c (.lst (((parL xs i ++ [aN xs i]).map V.int).set (lastI pop).toNat (.int (i : Nat))))) c = some (.lst ((parL xs (i + 1)).map V.int)) := upd_same.trans (by rw [hstep, List.map_set])
          have hQ6 : (upd H5 c (.lst (((parL xs i ++ [aN xs i]).map V.int).set (lastI pop).toNat (.int (i : Nat))))) q = some (.lst ((cst ([] : List Nat)).reverse.map V.int)) := (upd_ne hcq.symm).trans hQ5
          exact ⟨_, rfl, .inl ⟨rfl, _, SqL.of hQ6⟩, _, rfl, q, _, _, rfl, rfl, hQ6, hrl, _, _, _, rfl, (s5.put hc).put nq, (upd_ne hcq).trans hC6, upd_same.trans (congrArg some eR)⟩
        · have ht0' : ¬ 0 ≤ lastI pop := fun z => ht0 (decide_eq_true z)
          rw [if_neg ht0'] at hstep
          exact ⟨_, rfl, .inl ⟨rfl, _, SqL.of hQ5⟩, _, rfl, q, _, _, rfl, rfl, hQ5, hrl, _, _, _, rfl, s5.put nq, (upd_ne hcq).trans (by rw [hstep]; exact hC5), upd_same.trans (congrArg some eR)⟩

      | cons y st =>
        have hem : (!((cst (y :: st)).reverse.map V.int).isEmpty) = true := by simp
        rw [hem]
        refine iteT ?_
        have hyi : y < i := stkT_lt xs i y (hd ▸ List.mem_append_right _ List.mem_cons_self)
        refine ⟨_, rfl, _, rfl, 1, rfl, q, _, -1, _, rfl, rfl, SqL.of hQ, atI_lastM (cst st) y, a, _, _, _, rfl, rfl, SqL.of (s4 _ _ hS), atI_mapM (by omega), _, rfl, _, h, rfl, rfl, _, rfl, ite2 (fun hy => ?_) (fun hy => ?_)⟩
        · have hy' : h < xs.getD y 0 := of_decide_eq_true hy
          refine ⟨_, fun _ _ z => z, ?_⟩
          refine ⟨_, rfl, .inl ⟨rfl, _, SqL.of hQ⟩, q, _, _, rfl, rfl, hQ, get_lastM (cst st) y, ?_⟩
          refine ⟨st.length, Nat.lt_succ_self _, pop ++ [y], st, ?_, s4.put nq, (upd_ne hcq).trans hC, upd_same.trans ?_, rfl, by rw [List.append_assoc]; exact hd, fun x hx => ?_⟩
          · rw [lastI_snoc]; rfl
          · show some (HO.lst ((((y : Int) :: cst st).reverse.map V.int).dropLast)) = _
            rw [dropLastM]
          · rcases List.mem_append.mp hx with hx | hx
            · exact hp x hx
            · rw [List.mem_singleton.mp hx]; exact hy'
        · have hy' : ¬ h < xs.getD y 0 := fun z => hy (decide_eq_true z)
          have hst : ∀ (x : Nat) (r : List Nat), (y :: st) = x :: r → xs.getD x 0 ≤ xs.getD i 0 := fun x r z => by
            obtain ⟨rfl, _⟩ := List.cons.inj z
            omega
          obtain ⟨hA, hstep⟩ := parL_step hd (fun x hx => by rw [hxd]; exact hp x hx) hst
          refine ⟨_, rfl, .inl ⟨rfl, _, SqL.of hC⟩, ⟨_, rfl, _, .inl ⟨_, SqL.of hQ, rfl⟩, ?_⟩⟩
          rw [hem]
          refine iteT ⟨_, rfl, 1, rfl, q, _, -1, _, rfl, rfl, SqL.of hQ, atI_lastM (cst st) y, c, _, V.int (aN xs i), rfl, (by rw [← hA]; rfl), hC, hcl, ?_⟩
          -- behind the loop: the list c grew by the bar beneath which this one hangs so far
          have hcl2 : ((parL xs i).map V.int ++ [V.int (aN xs i)]).length = i + 1 := by rw [List.length_append, List.length_map, parL_length]; rfl
          have hC5 : (upd H4 c (.lst ((parL xs i).map V.int ++ [.int (aN xs i)]))) c = some (.lst ((parL xs i ++ [aN xs i]).map V.int)) := upd_same.trans (by rw [List.map_append]; rfl)
          have hQ5 : (upd H4 c (.lst ((parL xs i).map V.int ++ [.int (aN xs i)]))) q = some (.lst ((cst (y :: st)).reverse.map V.int)) := (upd_ne hcq.symm).trans hQ
          have s5 : Same H (upd H4 c (.lst ((parL xs i).map V.int ++ [.int (aN xs i)]))) := s4.put hc
          generalize upd H4 c (.lst ((parL xs i).map V.int ++ [.int (aN xs i)])) = H5 at hC5 hQ5 s5
          have hstk : stkT xs (i + 1) = i :: (y :: st) := by
            show i :: _ = _
            rw [← hd, drop_app (fun x hx => decide_eq_true (by rw [hxd]; exact hp x hx)) (fun x r hx => decide_eq_false (by have := hst x r hx; omega))]
          have hrl : ((cst (y :: st)).reverse.map V.int).length < sizeLine := by rw [List.length_map, List.length_reverse, cst_length]; exact small100 (by omega)
          have hnew : ∀ o, (upd H5 q (.lst ((cst (y :: st)).reverse.map V.int ++ [.int (i : Nat)]))) q = o → (∃ w, o = w) := fun o _ => ⟨o, rfl⟩
          have eR : (.lst ((cst (y :: st)).reverse.map V.int ++ [.int (i : Nat)]) : HO) = .lst ((cst (stkT xs (i + 1))).reverse.map V.int) := by
            rw [hstk, show cst (i :: (y :: st)) = (i : Int) :: cst (y :: st) from rfl, List.reverse_cons, List.map_append]; rfl
          refine ⟨_, rfl, _, 0, rfl, rfl, _, rfl, ite2 (fun ht0 => ?_) (fun ht0 => ?_)⟩
          · have ht0' : 0 ≤ lastI pop := of_decide_eq_true ht0
            rw [if_pos ht0'] at hstep
            have htl : (lastI pop).toNat < i := stkT_lt xs i _ (hd ▸ List.mem_append_left _ (lastI_mem ht0'))
            refine ⟨_, rfl, _, rfl, _, rfl, c, _, _, (lastI pop).toNat, rfl, rfl, hC5, ?_, ?_⟩
            · have := ixN_nat (n := ((parL xs i ++ [aN xs i]).map V.int).length) (i := (lastI pop).toNat) (by rw [List.length_map, List.length_append, parL_length]; simp; omega)
              rwa [show (((lastI pop).toNat : Nat) : Int) = lastI pop by omega] at this
            have hC6 : (upd H5 c (.lst (((parL xs i ++ [aN xs i]).map V.int).set (lastI pop).toNat (.int (i : Nat))))) c = some (.lst ((parL xs (i + 1)).map V.int)) := upd_same.trans (by rw [hstep, List.map_set])
            have hQ6 : (upd H5 c (.lst (((parL xs i ++ [aN xs i]).map V.int).set (lastI pop).toNat (.int (i : Nat))))) q = some (.lst ((cst (y :: st)).reverse.map V.int)) := (upd_ne hcq.symm).trans hQ5
            exact ⟨_, rfl, .inl ⟨rfl, _, SqL.of hQ6⟩, _, rfl, q, _, _, rfl, rfl, hQ6, hrl, _, _, _, rfl, (s5.put hc).put nq, (upd_ne hcq).trans hC6, upd_same.trans (congrArg some eR)⟩
          · have ht0' : ¬ 0 ≤ lastI pop := fun z => ht0 (decide_eq_true z)
            rw [if_neg ht0'] at hstep
            exact ⟨_, rfl, .inl ⟨rfl, _, SqL.of hQ5⟩, _, rfl, q, _, _, rfl, rfl, hQ5, hrl, _, _, _, rfl, s5.put nq, (upd_ne hcq).trans (by rw [hstep]; exact hC5), upd_same.trans (congrArg some eR)⟩

    · rintro σ H2 ⟨v3, v4, v5, rfl, s2, hC, hQ⟩
      rw [List.length_map, parL_all] at hC
      exact ⟨_, rfl, k c H2 hc s2 hC⟩
end
end Sky

namespace Sky
open PySem L2
section
variable {P : Program} {w : World} {K : PySem.W.Frag} {mg : Str → Option Value} {base : Heap}
theorem scTree : FnScope ["bars"] ["bars"] (defScope sTree) := ⟨rfl, rfl, rfl, by decide +kernel, rfl, by decide +kernel, by decide +kernel⟩
theorem ok_tree {f : Addr} {fd : FuncData} (F : Fun K "tree" "tree" sTree f fd) (B : Blt mg) (cC : Callee P w K mg base 3 "check_bars" ["bars"] spChk) (cP : Callee P w K mg base 1 "parents_in_tree" ["bars"] spPar) : FnOk P w K mg base CX0 4 f fd ["bars"] spTree := by
  refine F.ok scTree (fun vs H Q E h => ?_) (fun cdv A outer s H vs Q E hr h => ?_)
  · obtain ⟨a, xs, rfl, _⟩ := h
    rfl
  · obtain ⟨a, xs, rfl, hS, hh, k⟩ := h
    refine ⟨_, (pss_cons (ps_expr (pe_fn cC hr rfl (pa_cons (pv 0) pa_nil)))
      (pss_one (ps_ret (pe_fn cP (hr.mono (by decide)) rfl (pa_cons (pv 0) pa_nil))))), ?_⟩
    refine ⟨_, rfl, a, xs, rfl, hS, hh, fun H1 s1 => ?_⟩
    exact ⟨_, rfl, a, xs, rfl, s1 _ _ hS, hh.1, fun l H2 nl s2 hL => k l H2 (s1.free nl) (s1.trans s2) hL⟩
end
end Sky

namespace Sky
open PySem L2
section
variable {P : Program} {w : World} {K : PySem.W.Frag} {mg : Str → Option Value} {base : Heap}
theorem scTree9 : FnScope ["bars"] ["bars"] (defScope sTree) := ⟨rfl, rfl, rfl, by decide +kernel, rfl, by decide +kernel, by decide +kernel⟩
theorem ok_tree9 {f C : Addr} {fd : FuncData} (F : Fun K "tree" "tree" sTree f fd) (B : Blt mg) (cC : CalleeX P w K mg base 3 "check_bars" ["bars"] (spBad K okBv C)) : FnOk P w K mg base (CX1 P w) 4 f fd ["bars"] (spBad K okBv C) := by
  refine F.okx scTree9 (fun vs H Q E h => ?_) (fun cdv A outer s H vs Q E hr h => ?_)
  · obtain ⟨v, rfl, _⟩ := h
    rfl
  · obtain ⟨v, rfl, hb, k⟩ := h
    refine ⟨_, (pss_cons (ps_expr (pe_fnx cC cx_pass (hr.mono (by decide)) rfl (pa_cons (pv 0) pa_nil))) pss_never), ?_⟩
    exact ⟨_, rfl, v, rfl, hb, k⟩
end
end Sky

namespace Sky
open PySem L2
section
variable {P : Program} {w : World} {K : PySem.W.Frag} {mg : Str → Option Value} {base : Heap}
theorem scDepths : FnScope ["parents", "beneath", "deep", "waiting", "place", "parent", "above"] ["parents"] (defScope sDepths) := ⟨rfl, rfl, rfl, by decide +kernel, rfl, by decide +kernel, by decide +kernel⟩
theorem ok_depths {f : Addr} {fd : FuncData} (F : Fun K "depths" "depths" sDepths f fd) (B : Blt mg)  : FnOk P w K mg base CX0 1 f fd ["parents"] spDepths := by
  refine F.ok scDepths (fun vs H Q E h => ?_) (fun cdv A outer s H vs Q E hr h => ?_)
  · obtain ⟨a, Pa, rfl, _⟩ := h
    rfl
  · obtain ⟨a, Pa, rfl, hS, hl, hv, k⟩ := h
    refine ⟨_, (pss_cons (ps_lc (i := 1) (cap := []) ["parent"] rfl (CompOk.of (defScope sDepths) ["parents", "beneath", "deep", "waiting", "place", "parent", "above"] rfl rfl (by decide +kernel)) scDepths.nd rfl (Or.inl rfl) (pi_list (pv 0)) (fun C s H fp => (pg_name (i := 0) (show List.Nodup (["parent"] : List Str) from by decide +kernel) rfl (Or.inl rfl))) (fun C s H fp => pf_nil)
        (fun C s H fp => (pe_lst pa_nil)) rfl)
      (pss_cons (ps_lc (i := 2) (cap := []) ["parent"] rfl (CompOk.of (defScope sDepths) ["parents", "beneath", "deep", "waiting", "place", "parent", "above"] rfl rfl (by decide +kernel)) scDepths.nd rfl (Or.inl rfl) (pi_list (pv 0)) (fun C s H fp => (pg_name (i := 0) (show List.Nodup (["parent"] : List Str) from by decide +kernel) rfl (Or.inl rfl))) (fun C s H fp => pf_nil)
        (fun C s H fp => (pe_un un_neg pe_int)) rfl)
      (pss_cons (ps_set (i := 3) scDepths.nd rfl (Or.inl rfl) (pe_lst pa_nil))
      (pss_cons (ps_for PassesOwn.never rfl (pi_enum rfl B.enumerate (pa_cons (pv 0) pa_nil)) (pg_tup rfl (pgs_cons (pg_name (i := 4) scDepths.nd rfl (Or.inl rfl)) (pgs_cons (pg_name (i := 5) scDepths.nd rfl (Or.inl rfl)) pgs_nil)))
      (pss_one (ps_if (pt_cmpR op_eq (pv 5) (pe_un un_neg pe_int) (nomark _)) (pss_cons (ps_asg pe_int (pg_sub (pv 2) (pv 4) set_list))
      (pss_one (ps_expr (pe_bm PySem.F.plainAttrs_list PySem.F.slot_list_append PySem.F.type_list_append mt_append (pv 3) (pa_cons (pv 4) pa_nil))))) (pss_one (ps_expr (pe_bm PySem.F.plainAttrs_list PySem.F.slot_list_append PySem.F.type_list_append mt_append (pe_ix ix_list (pv 1) (pv 5) (fun _ _ => rfl)) (pa_cons (pv 4) pa_nil)))))))
      (pss_cons (ps_while PassesOwn.never (pt_truth (pv 3) (fun _ => rfl))
      (pss_cons (ps_set (i := 6) scDepths.nd rfl (Or.inl rfl) (pe_bm0 PySem.F.plainAttrs_list PySem.F.slot_list_pop PySem.F.type_list_pop mt_pop (pv 3)))
      (pss_one (ps_for PassesOwn.never rfl (pi_list (pe_ix ix_list (pv 1) (pv 6) (fun _ _ => rfl))) (pg_name (i := 4) scDepths.nd rfl (Or.inl rfl))
      (pss_cons (ps_asg (pe_op op_add (pe_ix ix_list (pv 2) (pv 6) (fun _ _ => rfl)) pe_int) (pg_sub (pv 2) (pv 4) set_list))
      (pss_one (ps_expr (pe_bm PySem.F.plainAttrs_list PySem.F.slot_list_append PySem.F.type_list_append mt_append (pv 3) (pa_cons (pv 4) pa_nil)))))))))
      (pss_one (ps_ret (pv 2)))))))), ?_⟩
    -- a list for each place
    refine ⟨_, rfl, a, rfl, ⟨_, SqL.of hS⟩, fun bn hbn => lc_list (xs := Pa.map V.int) (fun i H2 ys => Same H H2 ∧ H2 bn = some (.lst ys) ∧ ∃ ps : List Addr, ys = ps.map V.ref ∧ ps.length = i ∧ ps.Nodup ∧ ∀ p ∈ ps, H2 p = some (.lst []) ∧ p ≠ bn ∧ H p = none)
      ⟨Same.new hbn _, upd_same, [], rfl, rfl, List.nodup_nil, fun p hp => by simp at hp⟩ (fun i H2 ys _ h => ⟨SqL.of (h.1 _ _ hS), h.2.1⟩) ?_ ?_⟩
    · rintro i x H2 ys hx ⟨s2, hb2, ps, rfl, hpl, hnd, hps⟩ C s H0 fp
      have hi : i < Pa.length := by have := (List.getElem?_eq_some_iff.mp hx).1; rwa [List.length_map] at this
      refine ⟨Nat.zero_le _, fun p hp => ?_⟩
      have npb : p ≠ bn := fun z => by rw [z, hb2] at hp; cases hp
      refine ⟨(upd_ne (Ne.symm npb)).trans hb2, by rw [List.length_map, hpl]; exact small100 (by omega), (s2.put (s2.free hp)).put hbn, upd_same, ps ++ [p], by rw [List.map_append]; rfl, by rw [List.length_append, hpl]; rfl, ?_, fun p2 hp2 => ?_⟩
      · rw [List.nodup_append]
        refine ⟨hnd, by simp, fun x hx y hy e => ?_⟩
        rw [List.mem_singleton.mp hy] at e
        subst e
        rw [(hps x hx).1] at hp; cases hp
      · rcases List.mem_append.mp hp2 with hp2 | hp2
        · obtain ⟨z1, z2, z3⟩ := hps p2 hp2
          refine ⟨?_, z2, z3⟩
          rw [upd_ne z2, upd_ne (ne_of_none z1 hp)]; exact z1
        · rw [List.mem_singleton.mp hp2]
          exact ⟨by rw [upd_ne npb, upd_same], npb, s2.free hp⟩
    rintro H2 ys ⟨s2, hb2, ps, rfl, hpl, hnd, hps⟩
    rw [List.length_map] at hpl
    have K2 : KL H2 bn ps fun j => kidN Pa (j : Int) 0 := ⟨hb2, hnd, fun j p e => ⟨(hps p (List.mem_of_getElem? e)).1, (hps p (List.mem_of_getElem? e)).2.1⟩⟩
    have hps0 : ∀ p ∈ ps, H p = none := fun p hp => (hps p hp).2.2
    have hps2 : ∀ p ∈ ps, ∃ o, H2 p = some o := fun p hp => ⟨_, (hps p hp).1⟩
    -- the depths so far
    refine ⟨_, rfl, a, rfl, ⟨_, SqL.of (s2 _ _ hS)⟩, fun dn hdn => lc_listP (xs := Pa.map V.int) (fun _ => .int (-1)) hdn (SqL.of (s2 _ _ hS)) (by rw [List.length_map]; exact Nat.le_of_lt (small100 hl)) (fun i x ys C s H0 fp R hx hR => ⟨1, rfl, hR⟩) ?_⟩
    have ndb : dn ≠ bn := fun z => by rw [z, hb2] at hdn; cases hdn
    have ndp : dn ∉ ps := fun z => by rw [(hps dn z).1] at hdn; cases hdn
    have hd0 : H dn = none := s2.free hdn
    have s3 : Same H2 (upd H2 dn (.lst ((Pa.map V.int).map fun _ => V.int (-1)))) := Same.new hdn _
    have hD3 : IL (upd H2 dn (.lst ((Pa.map V.int).map fun _ => V.int (-1)))) dn (dep0 Pa 0) := upd_same.trans (by
      rw [dep0_zero, List.map_map, List.map_replicate]
      congr 2
      apply List.ext_getElem?
      intro i
      by_cases hi : i < Pa.length
      · rw [List.getElem?_map, List.getElem?_eq_getElem hi, List.getElem?_replicate, if_pos hi]; rfl
      · rw [List.getElem?_eq_none (by rw [List.length_map]; omega), List.getElem?_eq_none (by rw [List.length_replicate]; omega)])
    have K3 := K2.keep (H' := upd H2 dn (.lst ((Pa.map V.int).map fun _ => V.int (-1)))) fun b o e _ => s3 b o e
    have s03 := s2.trans s3
    generalize upd H2 dn (.lst ((Pa.map V.int).map fun _ => V.int (-1))) = H3 at s3 hD3 K3 s03
    -- the places that wait
    refine ⟨Nat.zero_le _, fun wn hwn => ?_⟩
    have nwb : wn ≠ bn := fun z => by rw [z, K3.at_] at hwn; cases hwn
    have nwd : wn ≠ dn := fun z => by rw [z, hD3] at hwn; cases hwn
    have nwp : wn ∉ ps := fun z => by obtain ⟨o, e⟩ := hps2 wn z; rw [s3 _ _ e] at hwn; cases hwn
    have hw0 : H wn = none := s03.free hwn
    have s04 : Same H (upd H3 wn (.lst [])) := s03.put hw0
    have hD4 : IL (upd H3 wn (.lst [])) dn (dep0 Pa 0) := (upd_ne (Ne.symm nwd)).trans hD3
    have K4 := K3.keep (H' := upd H3 wn (.lst [])) fun b o e _ => (Same.new hwn _) b o e
    have hW4 : IL (upd H3 wn (.lst [])) wn (cst (kidN Pa (-1) 0)) := upd_same
    generalize upd H3 wn (.lst []) = H4 at s04 hD4 K4 hW4
    refine ⟨_, rfl, a, rfl, ⟨_, SqL.of (s04 _ _ hS)⟩, for_enum (K := K) (a := a) (xs := Pa.map V.int) (fun i σ H5 => i ≤ Pa.length ∧ ∃ v4 v5, σ = [some (.ref a), some (.ref bn), some (.ref dn), some (.ref wn), v4, v5, none] ∧ Same H H5 ∧ IL H5 dn (dep0 Pa i) ∧ IL H5 wn (cst (kidN Pa (-1) i)) ∧ KL H5 bn ps fun j => kidN Pa (j : Int) i)
      ⟨Nat.zero_le _, none, none, rfl, s04, hD4, hW4, K4⟩ (fun i σ H5 _ ⟨_, _, _, _, s5, _⟩ => SqL.of (s5 _ _ hS)) ?_ ?_⟩
    · rintro i y σ H5 t hi ⟨_, v4, v5, rfl, s5, hD5, hW5, K5⟩ ht
      obtain ⟨h, rfl, hx⟩ := get_mapM hi
      have hil : i < Pa.length := (List.getElem?_eq_some_iff.mp hx).1
      have hxd : Pa.getD i 0 = h := by rw [List.getD_eq_getElem?_getD, hx]; rfl
      have hvi := hv i hil
      rw [hxd] at hvi
      have st : Same H5 (upd H5 t (.tup [.int (i : Nat), .int h])) := Same.new ht _
      refine ⟨t, _, rfl, SqT.of upd_same, rfl, _, _, rfl, _, _, rfl, rfl, ?_⟩
      have s6 := s5.trans st
      have hD6 := st _ _ hD5
      have hW6 := st _ _ hW5
      have K6 := K5.keep fun b o e _ => st b o e
      generalize upd H5 t (.tup [.int (i : Nat), .int h]) = H6 at s6 hD6 hW6 K6
      refine ⟨_, rfl, 1, rfl, rfl, _, rfl, ?_⟩
      rw [dec_int']
      refine ite2 (fun h1 => ?_) (fun h1 => ?_)
      · have h1' : h = -1 := of_decide_eq_true h1
        have hxm : Pa.getD i 0 = -1 := by rw [hxd]; exact h1'
        refine ⟨_, rfl, _, rfl, dn, _, _, i, rfl, rfl, hD6, ixN_nat (by rw [List.length_map, dep0_length]; exact hil), ?_⟩
        have hD7 : IL (upd H6 dn (.lst (((dep0 Pa i).map V.int).set i (.int 0)))) dn (dep0 Pa (i + 1)) := upd_same.trans (by rw [← dep0_set hil hxm, List.map_set])
        have hW7 : IL (upd H6 dn (.lst (((dep0 Pa i).map V.int).set i (.int 0)))) wn (cst (kidN Pa (-1) i)) := (upd_ne nwd).trans hW6
        have K7 := K6.keep (H' := upd H6 dn (.lst (((dep0 Pa i).map V.int).set i (.int 0)))) fun b o e z => by
          rw [upd_ne]; exact e
          rcases z with z | z
          · rw [z]; exact Ne.symm ndb
          · exact fun w => ndp (w ▸ z)
        have s7 := s6.put (q := dn) (o := .lst (((dep0 Pa i).map V.int).set i (.int 0))) hd0
        generalize upd H6 dn (.lst (((dep0 Pa i).map V.int).set i (.int 0))) = H7 at hD7 hW7 K7 s7
        have hkl := kidN_length Pa (-1) i
        refine ⟨_, rfl, .inl ⟨rfl, _, SqL.of hW7⟩, _, rfl, wn, _, _, rfl, rfl, hW7, by rw [List.length_map, cst_length]; exact small100 (by omega), hil, _, _, rfl, s7.put hw0, (upd_ne (Ne.symm nwd)).trans hD7, upd_same.trans ?_, ?_⟩
        · rw [kidN_succ, if_pos hxm, cst_snoc, List.map_append]; rfl
        · have e : (fun j : Nat => kidN Pa (j : Int) (i + 1)) = fun j : Nat => kidN Pa (j : Int) i := by
            funext j
            rw [kidN_succ, if_neg (by omega)]
          rw [e]
          refine K7.keep fun b o e z => ?_
          rw [upd_ne]; exact e
          rcases z with z | z
          · rw [z]; exact Ne.symm nwb
          · exact fun w => nwp (w ▸ z)
      · have h1' : ¬ h = -1 := fun z => h1 (decide_eq_true z)
        have hxm : ¬ Pa.getD i 0 = -1 := by rw [hxd]; exact h1'
        have hjl : h.toNat < ps.length := by omega
        obtain ⟨g1, g2⟩ := K6.get hjl
        rw [show ((h.toNat : Nat) : Int) = h by omega] at g1
        have hkl := kidN_length Pa ((h.toNat : Nat) : Int) i
        have hne : ps[h.toNat] ≠ dn ∧ ps[h.toNat] ≠ wn := ⟨fun z => ndp (z ▸ List.getElem_mem hjl), fun z => nwp (z ▸ List.getElem_mem hjl)⟩
        refine ⟨_, rfl, _, rfl, bn, _, _, _, rfl, rfl, SqL.of K6.at_, g1, .inl ⟨rfl, _, SqL.of g2⟩, _, rfl, ps[h.toNat], _, _, rfl, rfl, g2, by rw [List.length_map, cst_length]; exact small100 (by omega), hil, _, _, rfl, s6.put (hps0 _ (List.getElem_mem hjl)), ?_, ?_, ?_⟩
        · rw [dep0_skip hxm]; exact (upd_ne (Ne.symm hne.1)).trans hD6
        · rw [kidN_succ, if_neg hxm]; exact (upd_ne (Ne.symm hne.2)).trans hW6
        · refine K6.grow hjl fun k hk => ?_
          rw [kidN_succ, hxd]
          by_cases hkj : k = h.toNat
          · rw [if_pos hkj, if_pos (by omega)]
          · rw [if_neg hkj, if_neg (by omega)]
    rintro σ H5 ⟨_, v4, v5, rfl, s5, hD5, hW5, K5⟩
    rw [List.length_map] at hD5 hW5 K5
    -- from above
    refine ⟨fun m σ H6 => ∃ (D : List Int) (Pd Wt : List Nat) (v4 v6 : Option V), σ = [some (.ref a), some (.ref bn), some (.ref dn), some (.ref wn), v4, v5, v6] ∧ Same H H6 ∧ IL H6 dn D ∧ IL H6 wn (cst Wt) ∧ (KL H6 bn ps fun j => kidN Pa (j : Int) Pa.length) ∧ DInv Pa D Pd Wt ∧ m = Pa.length - Pd.length,
      ⟨_, dep0 Pa Pa.length, [], kidN Pa (-1) Pa.length, v4, none, rfl, s5, hD5, hW5, K5, DInv.start Pa, rfl⟩, ?_⟩
    rintro m σ H6 ⟨D, Pd, Wt, v4, v6, rfl, s6, hD6, hW6, K6, I6, rfl⟩
    refine ⟨_, rfl, _, .inl ⟨_, SqL.of hW6, rfl⟩, ?_⟩
    rcases List.eq_nil_or_concat Wt with rfl | ⟨Wt, ab, rfl⟩
    · refine iteF ?_
      exact ⟨_, rfl, k D I6.done dn H6 hd0 s6 hD6⟩
    · rw [List.concat_eq_append] at hW6 I6
      have hem : (!((cst (Wt.concat ab)).map V.int).isEmpty) = true := by rw [List.concat_eq_append, cst_snoc]; simp
      rw [hem]
      refine iteT ⟨_, fun _ _ z => z, ?_⟩
      have few := I6.few
      obtain ⟨hal, hkd⟩ := I6.kids
      have hgl : ((cst (Wt ++ [ab])).map V.int)[((cst (Wt ++ [ab])).map V.int).length - 1]? = some (V.int (ab : Nat)) := by rw [cst_snoc, List.map_append, List.length_append]; simp
      refine ⟨_, rfl, .inl ⟨rfl, _, SqL.of hW6⟩, wn, _, _, rfl, rfl, hW6, hgl, ?_⟩
      have hW7 : IL (upd H6 wn (.lst ((cst (Wt ++ [ab])).map V.int).dropLast)) wn (cst Wt) := upd_same.trans (by rw [cst_snoc, List.map_append]; simp)
      have hD7 : IL (upd H6 wn (.lst ((cst (Wt ++ [ab])).map V.int).dropLast)) dn D := (upd_ne (Ne.symm nwd)).trans hD6
      have K7 := K6.keep (H' := upd H6 wn (.lst ((cst (Wt ++ [ab])).map V.int).dropLast)) fun b o e z => by
        rw [upd_ne]; exact e
        rcases z with z | z
        · rw [z]; exact Ne.symm nwb
        · exact fun w => nwp (w ▸ z)
      have s7 := s6.put (q := wn) (o := .lst ((cst (Wt ++ [ab])).map V.int).dropLast) hw0
      generalize upd H6 wn (.lst ((cst (Wt ++ [ab])).map V.int).dropLast) = H7 at hW7 hD7 K7 s7
      have hjl : ab < ps.length := by omega
      obtain ⟨g1, g2⟩ := K7.get hjl
      have hkl := kidN_length Pa (ab : Int) Pa.length
      have hDl := I6.len
      -- those beneath it
      have loop : ∀ H8 : Hp, Same H H8 → IL H8 wn (cst Wt) → IL H8 dn D → (KL H8 bn ps fun j => kidN Pa (j : Int) Pa.length) → IL H8 ps[ab] (cst (kidN Pa (ab : Int) Pa.length)) := fun H8 _ _ _ K8 => (K8.get hjl).2
      refine ⟨_, rfl, _, rfl, bn, _, _, _, rfl, rfl, SqL.of K7.at_, g1, ps[ab], rfl, ⟨_, SqL.of g2⟩, for_list (K := K) (a := ps[ab]) (xs := (cst (kidN Pa (ab : Int) Pa.length)).map V.int) (fun i σ H8 => i ≤ (kidN Pa (ab : Int) Pa.length).length ∧ ∃ v4 : Option V, σ = [some (.ref a), some (.ref bn), some (.ref dn), some (.ref wn), v4, v5, some (.int (ab : Nat))] ∧ Same H H8 ∧ IL H8 dn (setAll D (D.getD ab 0 + 1) ((kidN Pa (ab : Int) Pa.length).take i)) ∧ IL H8 wn (cst (Wt ++ (kidN Pa (ab : Int) Pa.length).take i)) ∧ (KL H8 bn ps fun j => kidN Pa (j : Int) Pa.length))
        ⟨Nat.zero_le _, v4, rfl, s7, hD7, by rw [List.take_zero, List.append_nil]; exact hW7, K7⟩ (fun i σ H8 _ ⟨_, _, _, _, _, _, K8⟩ => SqL.of (K8.get hjl).2) ?_ ?_⟩
      · rintro i y σ H8 hi ⟨_, v4, rfl, s8, hD8, hW8, K8⟩
        obtain ⟨z, rfl, hz⟩ := get_mapM hi
        rw [List.getElem?_map] at hz
        cases ez : (kidN Pa (ab : Int) Pa.length)[i]? with
        | none => rw [ez] at hz; cases hz
        | some c =>
          rw [ez] at hz
          cases Option.some.inj hz
          have hik : i < (kidN Pa (ab : Int) Pa.length).length := (List.getElem?_eq_some_iff.mp ez).1
          have hck := kidN_mem.mp (List.mem_of_getElem? ez)
          have hsl : (setAll D (D.getD ab 0 + 1) ((kidN Pa (ab : Int) Pa.length).take i)).length = Pa.length := by rw [setAll_length, hDl]
          have htk : (kidN Pa (ab : Int) Pa.length).take (i + 1) = (kidN Pa (ab : Int) Pa.length).take i ++ [c] := by rw [List.take_add_one, ez]; rfl
          have hva : (setAll D (D.getD ab 0 + 1) ((kidN Pa (ab : Int) Pa.length).take i)).getD ab 0 = D.getD ab 0 := by
            rw [setAll_getD _ _ _ _ (by omega), if_neg fun z => ?_]
            exact hkd ab (List.mem_of_mem_take z) (List.mem_append_right _ (List.mem_append_right _ (by simp)))
          refine ⟨_, rfl, _, rfl, dn, _, _, _, rfl, rfl, SqL.of hD8, atI_mapM (by omega), _, 1, rfl, rfl, _, rfl, _, rfl, dn, _, _, c, rfl, rfl, hD8, ixN_nat (by rw [List.length_map]; omega), ?_⟩
          rw [hva]
          have hD9 : IL (upd H8 dn (.lst (((setAll D (D.getD ab 0 + 1) ((kidN Pa (ab : Int) Pa.length).take i)).map V.int).set c (.int (D.getD ab 0 + 1))))) dn (setAll D (D.getD ab 0 + 1) ((kidN Pa (ab : Int) Pa.length).take (i + 1))) := upd_same.trans (by rw [htk, setAll_snoc, List.map_set])
          have hW9 : IL (upd H8 dn (.lst (((setAll D (D.getD ab 0 + 1) ((kidN Pa (ab : Int) Pa.length).take i)).map V.int).set c (.int (D.getD ab 0 + 1))))) wn (cst (Wt ++ (kidN Pa (ab : Int) Pa.length).take i)) := (upd_ne nwd).trans hW8
          have K9 := K8.keep (H' := upd H8 dn (.lst (((setAll D (D.getD ab 0 + 1) ((kidN Pa (ab : Int) Pa.length).take i)).map V.int).set c (.int (D.getD ab 0 + 1))))) fun b o e z => by
            rw [upd_ne]; exact e
            rcases z with z | z
            · rw [z]; exact Ne.symm ndb
            · exact fun w => ndp (w ▸ z)
          have s9 := s8.put (q := dn) (o := .lst (((setAll D (D.getD ab 0 + 1) ((kidN Pa (ab : Int) Pa.length).take i)).map V.int).set c (.int (D.getD ab 0 + 1)))) hd0
          dsimp only
          generalize upd H8 dn (.lst (((setAll D (D.getD ab 0 + 1) ((kidN Pa (ab : Int) Pa.length).take i)).map V.int).set c (.int (D.getD ab 0 + 1)))) = H9 at hD9 hW9 K9 s9
          refine ⟨_, rfl, .inl ⟨rfl, _, SqL.of hW9⟩, _, rfl, wn, _, _, rfl, rfl, hW9, ?_, hik, _, rfl, s9.put hw0, (upd_ne (Ne.symm nwd)).trans hD9, upd_same.trans ?_, ?_⟩
          · rw [List.length_map, cst_length, List.length_append, List.length_take]
            rw [List.length_append] at few
            exact small1000 (by omega)
          · rw [htk, ← List.append_assoc, cst_snoc, List.map_append]; rfl
          · refine K9.keep fun b o e z => ?_
            rw [upd_ne]; exact e
            rcases z with z | z
            · rw [z]; exact Ne.symm nwb
            · exact fun w => nwp (w ▸ z)
      · rintro σ H8 ⟨_, v4, rfl, s8, hD8, hW8, K8⟩
        have hlen : ((cst (kidN Pa (ab : Int) Pa.length)).map V.int).length = (kidN Pa (ab : Int) Pa.length).length := by rw [List.length_map, cst_length]
        rw [hlen, List.take_of_length_le (Nat.le_refl _)] at hD8 hW8
        rw [List.length_append, List.length_singleton] at few
        exact ⟨Pa.length - (ab :: Pd).length, by simp only [List.length_cons]; omega, _, ab :: Pd, _, v4, _, rfl, s8, hD8, hW8, K8, I6.step, rfl⟩
end
end Sky

namespace Sky
open PySem L2
section
variable {P : Program} {w : World} {K : PySem.W.Frag} {mg : Str → Option Value} {base : Heap}
theorem scBarsOf : FnScope ["parents", "bars"] ["parents"] (defScope sBarsOf) := ⟨rfl, rfl, rfl, by decide +kernel, rfl, by decide +kernel, by decide +kernel⟩
theorem ok_barsOf7 {f C : Addr} {fd : FuncData} (F : Fun K "bars_of" "bars_of" sBarsOf f fd) (B : Blt mg) (xT : ExC K C) (mgT : mg "BadTree" = some (.ref C)) (cK : Callee P w K mg base 2 "check_parents" ["parents"] spChkP) (cD : Callee P w K mg base 1 "depths" ["parents"] spDepths) (cP : Callee P w K mg base 1 "parents_in_tree" ["bars"] spPar) : FnOk P w K mg base (CX1 P w) 4 f fd ["parents"] (spBarsOf7 C) := by
  refine F.okx scBarsOf (fun vs H Q E h => ?_) (fun cdv A outer s H vs Q E hr h => ?_)
  · obtain ⟨a, Pa, rfl, _⟩ := h
    rfl
  · obtain ⟨a, Pa, rfl, hS, hl, hv, k⟩ := h
    have hu := hr.units
    refine ⟨_, (pss_cons (ps_expr (pe_fn cK (hr.mono (by decide)) rfl (pa_cons (pv 0) pa_nil)))
      (pss_cons (ps_set (i := 1) scBarsOf.nd rfl (Or.inl rfl) (pe_fn cD (hr.mono (by decide)) rfl (pa_cons (pv 0) pa_nil)))
      (pss_cons (ps_if (pt_cmpR (op_neI hu) (pe_fn cP (hr.mono (by decide)) rfl (pa_cons (pv 1) pa_nil)) (pv 0) (nomark _)) (pss_one (ps_raise cx_raise PySem.F.excBase_ValueError xT.raises rfl rfl mgT (pa_cons pe_str pa_nil))) pss_nil)
      (pss_one (ps_ret (pv 1)))))), ?_⟩
    refine ⟨_, rfl, a, Pa, rfl, hS, hl, hv, fun H1 s1 => ?_⟩
    refine ⟨_, rfl, a, Pa, rfl, s1 _ _ hS, hl, hv, fun D hD l H2 nl s2 hL => ?_⟩
    have s02 := s1.trans s2
    refine ⟨_, rfl, l, D, rfl, hL, by rw [hD.1]; exact hl, fun l2 H3 nl2 s3 hL2 => ?_⟩
    have s03 := s02.trans s3
    refine ⟨_, rfl, l2, a, _, _, rfl, rfl, SqL.of hL2, SqL.of (s03 _ _ hS), _, rfl, ?_⟩
    by_cases ht : treeL D = Pa
    · refine iteNeg ht ?_
      exact ⟨_, rfl, (k D hD).1 ht l H3 (s1.free nl) s03 (s3 _ _ hL)⟩
    · exact iteNegT ht ⟨by decide, (k D hD).2 ht H3 s03⟩
end
end Sky

namespace Sky
open PySem L2
section
variable {P : Program} {w : World} {K : PySem.W.Frag} {mg : Str → Option Value} {base : Heap}
theorem scBarsOf9 : FnScope ["parents", "bars"] ["parents"] (defScope sBarsOf) := ⟨rfl, rfl, rfl, by decide +kernel, rfl, by decide +kernel, by decide +kernel⟩
theorem ok_barsOf9 {f C : Addr} {fd : FuncData} (F : Fun K "bars_of" "bars_of" sBarsOf f fd) (B : Blt mg) (cC : CalleeX P w K mg base 2 "check_parents" ["parents"] (spBad K okPv C)) : FnOk P w K mg base (CX1 P w) 4 f fd ["parents"] (spBad K okPv C) := by
  refine F.okx scBarsOf9 (fun vs H Q E h => ?_) (fun cdv A outer s H vs Q E hr h => ?_)
  · obtain ⟨v, rfl, _⟩ := h
    rfl
  · obtain ⟨v, rfl, hb, k⟩ := h
    refine ⟨_, (pss_cons (ps_expr (pe_fnx cC cx_pass (hr.mono (by decide)) rfl (pa_cons (pv 0) pa_nil))) pss_never), ?_⟩
    exact ⟨_, rfl, v, rfl, hb, k⟩
end
end Sky

namespace Sky
open PySem L2
section
variable {P : Program} {w : World} {K : PySem.W.Frag} {mg : Str → Option Value} {base : Heap}
theorem ok_barsOfX {f C : Addr} {fd : FuncData} (F : Fun K "bars_of" "bars_of" sBarsOf f fd) (B : Blt mg) (xT : ExC K C) (mgT : mg "BadTree" = some (.ref C)) (c9 : CalleeX P w K mg base 2 "check_parents" ["parents"] (spBad K okPv C)) (cK : Callee P w K mg base 2 "check_parents" ["parents"] spChkP) (cD : Callee P w K mg base 1 "depths" ["parents"] spDepths) (cP : Callee P w K mg base 1 "parents_in_tree" ["bars"] spPar) : FnOk P w K mg base (CX1 P w) 4 f fd ["parents"] (spOr (spBad K okPv C) (spBarsOf7 C)) :=
  FnOk.or (ok_barsOf9 F B c9) (ok_barsOf7 F B xT mgT cK cD cP)
end
end Sky

namespace Sky
open PySem L2
section
variable {P : Program} {w : World} {K : PySem.W.Frag} {mg : Str → Option Value} {base : Heap}
theorem scRimA : FnScope ["bars", "places", "highest", "place", "height"] ["bars"] (defScope sRimA) := ⟨rfl, rfl, rfl, by decide +kernel, rfl, by decide +kernel, by decide +kernel⟩
theorem ok_rimA {f : Addr} {fd : FuncData} (F : Fun K "rims_ahead" "rims_ahead" sRimA f fd) (B : Blt mg)  : FnOk P w K mg base CX0 1 f fd ["bars"] spRimA := by
  refine F.ok scRimA (fun vs H Q E h => ?_) (fun cdv A outer s H vs Q E hr h => ?_)
  · obtain ⟨a, xs, rfl, _⟩ := h
    rfl
  · obtain ⟨a, xs, rfl, hS, hl, k⟩ := h
    refine ⟨_, (pss_cons (ps_set (i := 1) scRimA.nd rfl (Or.inl rfl) (pe_lst pa_nil))
      (pss_cons (ps_set (i := 2) scRimA.nd rfl (Or.inl rfl) pe_int)
      (pss_cons (ps_for PassesOwn.never rfl (pi_enum rfl B.enumerate (pa_cons (pv 0) pa_nil)) (pg_tup rfl (pgs_cons (pg_name (i := 3) scRimA.nd rfl (Or.inl rfl)) (pgs_cons (pg_name (i := 4) scRimA.nd rfl (Or.inl rfl)) pgs_nil)))
      (pss_cons (ps_if (pt_cmpR op_gt (pv 4) (pe_ix ix_list (pv 0) (pv 2) (fun _ _ => rfl)) (nomark _)) (pss_one (ps_set (i := 2) scRimA.nd rfl (Or.inl rfl) (pv 3))) pss_nil)
      (pss_one (ps_expr (pe_bm PySem.F.plainAttrs_list PySem.F.slot_list_append PySem.F.type_list_append mt_append (pv 1) (pa_cons (pv 2) pa_nil))))))
      (pss_one (ps_ret (pv 1)))))), ?_⟩
    refine ⟨Nat.zero_le _, fun c hc => ?_⟩
    have s1 : Same H (upd H c (.lst [])) := Same.new hc _
    refine ⟨_, rfl, a, rfl, ⟨_, SqL.of (s1 _ _ hS)⟩, for_enum (K := K) (a := a) (xs := xs.map V.int) (fun i σ H2 => i ≤ xs.length ∧ ∃ v3 v4, σ = [some (.ref a), some (.ref c), some (.int ((rimA xs (i - 1) : Nat) : Int)), v3, v4] ∧ Same H H2 ∧ IL H2 c ((rimAL xs).take i))
      ⟨Nat.zero_le _, none, none, rfl, s1, upd_same⟩ (fun i σ H2 _ ⟨_, _, _, _, s2, _⟩ => SqL.of (s2 _ _ hS)) ?_ ?_⟩
    · rintro i y σ H2 t hi ⟨_, v3, v4, rfl, s2, hC⟩ ht
      obtain ⟨h, rfl, hx⟩ := get_mapM hi
      have hil : i < xs.length := (List.getElem?_eq_some_iff.mp hx).1
      have hxd : xs.getD i 0 = h := by rw [List.getD_eq_getElem?_getD, hx]; rfl
      have s3 : Same H (upd H2 t (.tup [.int (i : Nat), .int h])) := s2.put (s2.free ht)
      have hC3 : IL (upd H2 t (.tup [.int (i : Nat), .int h])) c ((rimAL xs).take i) := (Same.new ht _) _ _ hC
      refine ⟨t, _, rfl, SqT.of upd_same, rfl, _, _, rfl, _, _, rfl, rfl, ?_⟩
      generalize upd H2 t (.tup [.int (i : Nat), .int h]) = H3 at s3 hC3
      have hra := rimA_le xs (i - 1)
      have hcl : (((rimAL xs).take i).map V.int).length < sizeLine := by rw [List.length_map, List.length_take, rimAL_length]; exact small100 (by omega)
      have key : rimA xs i = if xs.getD (rimA xs (i - 1)) 0 < h then i else rimA xs (i - 1) := by
        cases i with
        | zero =>
          show 0 = if xs.getD 0 0 < h then 0 else 0
          split <;> rfl
        | succ n => rw [← hxd]; rfl
      refine ⟨_, rfl, _, rfl, _, rfl, a, _, _, _, rfl, rfl, SqL.of (s3 _ _ hS), atI_mapM (by omega), h, _, rfl, rfl, _, rfl, ite2 (fun h1 => ?_) (fun h1 => ?_)⟩
      · have h1' : xs.getD (rimA xs (i - 1)) 0 < h := of_decide_eq_true h1
        rw [if_pos h1'] at key
        refine ⟨_, rfl, ?_⟩
        refine ⟨_, rfl, .inl ⟨rfl, _, SqL.of hC3⟩, _, rfl, c, _, _, rfl, rfl, hC3, hcl, hil, some (.int (i : Nat)), some (.int h), ?_, s3.put hc, upd_same.trans ?_⟩
        · rw [Nat.add_sub_cancel, key]; rfl
        · rw [rimAL_take hil, key, List.map_append]; rfl
      · have h1' : ¬ xs.getD (rimA xs (i - 1)) 0 < h := fun z => h1 (decide_eq_true z)
        rw [if_neg h1'] at key
        refine ⟨_, rfl, .inl ⟨rfl, _, SqL.of hC3⟩, _, rfl, c, _, _, rfl, rfl, hC3, hcl, hil, some (.int (i : Nat)), some (.int h), ?_, s3.put hc, upd_same.trans ?_⟩
        · rw [Nat.add_sub_cancel, key]; rfl
        · rw [rimAL_take hil, key, List.map_append]; rfl
    · rintro σ H2 ⟨_, v3, v4, rfl, s2, hC⟩
      rw [List.length_map, List.take_of_length_le (by rw [rimAL_length]; exact Nat.le_refl _)] at hC
      exact ⟨_, rfl, k c H2 hc s2 hC⟩
end
end Sky

namespace Sky
open PySem L2
section
variable {P : Program} {w : World} {K : PySem.W.Frag} {mg : Str → Option Value} {base : Heap}
theorem scRimB : FnScope ["bars"] ["bars"] (defScope sRimB) := ⟨rfl, rfl, rfl, by decide +kernel, rfl, by decide +kernel, by decide +kernel⟩
theorem ok_rimB {f : Addr} {fd : FuncData} (F : Fun K "rims_behind" "rims_behind" sRimB f fd) (B : Blt mg) (cA : Callee P w K mg base 1 "rims_ahead" ["bars"] spRimA) (cT : Callee P w K mg base 1 "turned" ["places"] spTurned) : FnOk P w K mg base CX0 2 f fd ["bars"] spRimB := by
  refine F.ok scRimB (fun vs H Q E h => ?_) (fun cdv A outer s H vs Q E hr h => ?_)
  · obtain ⟨a, xs, rfl, _⟩ := h
    rfl
  · obtain ⟨a, xs, rfl, hS, hl, k⟩ := h
    refine ⟨_, (pss_one (ps_ret (pe_fn cT hr rfl (pa_cons (pe_fn cA hr rfl (pa_cons (pe_listV (x := "x") (p2 := ⟨0, 0, 0, 0⟩) rfl (piv_rev rfl B.reversed (pa_cons (pv 0) pa_nil)) rfl B.list) pa_nil)) pa_nil)))), ?_⟩
    have hz : (xs.map V.int).length ≤ sizeLine := by rw [List.length_map]; exact Nat.le_of_lt (small100 hl)
    refine ⟨_, rfl, a, xs.map V.int, rfl, SqL.of hS, fun D hD => li_rev hD (SqL.of hS) hz ?_⟩
    have hD2 : IL (upd H D (.lst (xs.map V.int).reverse)) D xs.reverse := upd_same.trans (by rw [List.map_reverse])
    have s1 : Same H (upd H D (.lst (xs.map V.int).reverse)) := Same.new hD _
    refine ⟨D, xs.reverse, rfl, hD2, by rw [List.length_reverse]; exact hl, fun l H2 nl s2 hL => ?_⟩
    refine ⟨l, _, rfl, hL, by rw [rimAL_length, List.length_reverse]; exact hl, fun l2 H3 nl2 s3 hL2 => ?_⟩
    refine k l2 H3 ((s1.trans s2).free nl2) ((s1.trans s2).trans s3) ?_
    rw [rimAL_length, List.length_reverse, rimBL_eq xs] at hL2
    exact hL2
end
end Sky

namespace Sky
open PySem L2
section
variable {P : Program} {w : World} {K : PySem.W.Frag} {mg : Str → Option Value} {base : Heap}
theorem scRims : FnScope ["bars"] ["bars"] (defScope sRims) := ⟨rfl, rfl, rfl, by decide +kernel, rfl, by decide +kernel, by decide +kernel⟩
theorem ok_rims {f : Addr} {fd : FuncData} (F : Fun K "rims" "rims" sRims f fd) (B : Blt mg) (cC : Callee P w K mg base 3 "check_bars" ["bars"] spChk) (cA : Callee P w K mg base 1 "rims_ahead" ["bars"] spRimA) (cB : Callee P w K mg base 2 "rims_behind" ["bars"] spRimB) : FnOk P w K mg base CX0 4 f fd ["bars"] spRims := by
  refine F.ok scRims (fun vs H Q E h => ?_) (fun cdv A outer s H vs Q E hr h => ?_)
  · obtain ⟨a, xs, rfl, _⟩ := h
    rfl
  · obtain ⟨a, xs, rfl, hS, hh, k⟩ := h
    refine ⟨_, (pss_cons (ps_expr (pe_fn cC hr rfl (pa_cons (pv 0) pa_nil)))
      (pss_one (ps_ret (pe_listV (x := "x") (p2 := ⟨0, 0, 0, 0⟩) rfl (piv_zip rfl B.zip (pa_cons (pe_fn cA (hr.mono (by decide)) rfl (pa_cons (pv 0) pa_nil)) (pa_cons (pe_fn cB (hr.mono (by decide)) rfl (pa_cons (pv 0) pa_nil)) pa_nil))) rfl B.list)))), ?_⟩
    refine ⟨_, rfl, a, xs, rfl, hS, hh, fun H1 s1 => ?_⟩
    refine ⟨_, rfl, a, xs, rfl, s1 _ _ hS, hh.1, fun l1 H2 n1 s2 hL1 => ?_⟩
    refine ⟨_, rfl, a, xs, rfl, s2 _ _ (s1 _ _ hS), hh.1, fun l2 H3 n2 s3 hL2 => ?_⟩
    refine ⟨l1, l2, rfl, ⟨_, SqL.of (s3 _ _ hL1)⟩, ⟨_, SqL.of hL2⟩, fun D hD => li_zip hD (SqL.of (s3 _ _ hL1)) (SqL.of hL2) (by rw [List.length_map, List.length_map, rimAL_length, rimBL_length]; exact Nat.le_refl _) (by rw [List.length_map, rimAL_length]; exact Nat.le_of_lt (small100 hh.1)) fun H4 ps s4 hD4 hpl hps => ?_⟩
    have sA := (s1.trans s2).trans s3
    refine k D H4 (sA.free hD) (sA.trans s4) ⟨ps, hD4, by rw [hpl, List.length_map, rimAL_length, rimsP_length], fun j p e => ?_⟩
    obtain ⟨x, z, a1, a2, a3, _⟩ := hps j p e
    obtain ⟨x', rfl, b1⟩ := get_mapM a1
    obtain ⟨z', rfl, b2⟩ := get_mapM a2
    have hj : j < xs.length := by have := (List.getElem?_eq_some_iff.mp b1).1; rw [rimAL_length] at this; exact this
    rw [rimAL_get hj] at b1
    rw [rimBL_get hj] at b2
    exact ⟨_, rimsP_get hj, by rw [a3, ← Option.some.inj b1, ← Option.some.inj b2]⟩
end
end Sky

namespace Sky
open PySem L2
section
variable {P : Program} {w : World} {K : PySem.W.Frag} {mg : Str → Option Value} {base : Heap}
theorem scRims9 : FnScope ["bars"] ["bars"] (defScope sRims) := ⟨rfl, rfl, rfl, by decide +kernel, rfl, by decide +kernel, by decide +kernel⟩
theorem ok_rims9 {f C : Addr} {fd : FuncData} (F : Fun K "rims" "rims" sRims f fd) (B : Blt mg) (cC : CalleeX P w K mg base 3 "check_bars" ["bars"] (spBad K okBv C)) : FnOk P w K mg base (CX1 P w) 4 f fd ["bars"] (spBad K okBv C) := by
  refine F.okx scRims9 (fun vs H Q E h => ?_) (fun cdv A outer s H vs Q E hr h => ?_)
  · obtain ⟨v, rfl, _⟩ := h
    rfl
  · obtain ⟨v, rfl, hb, k⟩ := h
    refine ⟨_, (pss_cons (ps_expr (pe_fnx cC cx_pass (hr.mono (by decide)) rfl (pa_cons (pv 0) pa_nil))) pss_never), ?_⟩
    exact ⟨_, rfl, v, rfl, hb, k⟩
end
end Sky

namespace Sky
open PySem L2
section
variable {P : Program} {w : World} {K : PySem.W.Frag} {mg : Str → Option Value} {base : Heap}
theorem scLevels : FnScope ["bars"] ["bars"] (defScope sLevels) := ⟨rfl, rfl, rfl, by decide +kernel, rfl, by decide +kernel, by decide +kernel⟩
theorem ok_levels {f : Addr} {fd : FuncData} (F : Fun K "levels" "levels" sLevels f fd) (B : Blt mg) (cR : Callee P w K mg base 4 "rims" ["bars"] spRims) : FnOk P w K mg base CX0 5 f fd ["bars"] spLevels := by
  refine F.ok scLevels (fun vs H Q E h => ?_) (fun cdv A outer s H vs Q E hr h => ?_)
  · obtain ⟨a, xs, rfl, _⟩ := h
    rfl
  · obtain ⟨a, xs, rfl, hS, hh, k⟩ := h
    refine ⟨_, (pss_one (ps_ret (pe_lc (cap := [0]) ["ahead", "behind"] rfl (CompOk.of (defScope sLevels) ["bars"] rfl rfl (by decide +kernel)) (pi_list (pe_fn cR hr rfl (pa_cons (pv 0) pa_nil))) (fun C s H fp => (pg_tup rfl (pgs_cons (pg_name (i := 0) (show List.Nodup (["ahead", "behind", "bars"] : List Str) from by decide +kernel) rfl (Or.inl rfl)) (pgs_cons (pg_name (i := 1) (show List.Nodup (["ahead", "behind", "bars"] : List Str) from by decide +kernel) rfl (Or.inl rfl)) pgs_nil)))) (fun C s H fp => pf_nil)
        (fun C s H fp => (pe_callB (call_min2 rfl) rfl B.min PyProof.Rows.boot_min (pa_cons (pe_ix ix_list (pv 2) (pv 0) (fun _ _ => rfl)) (pa_cons (pe_ix ix_list (pv 2) (pv 1) (fun _ _ => rfl)) pa_nil))))))), ?_⟩
    refine ⟨_, rfl, a, xs, rfl, hS, hh, fun l H1 nl s1 hT => ?_⟩
    obtain ⟨ps, hps, hpl, hpI⟩ := id hT
    have hpl' : ps.length = xs.length := by rw [hpl, rimsP_length]
    have hx := hh.1
    refine ⟨l, rfl, ⟨_, SqL.of hps⟩, fun D hD => lc_list2 (ps := ps) (fun C s H0 fp p x z σ H Q' hp hq => ⟨p, _, rfl, SqT.of hp, rfl, _, _, rfl, _, _, rfl, rfl, hq⟩)
      (fun i H2 ys => Same H1 H2 ∧ H2 D = some (.lst ys) ∧ ys = ((levL xs).take i).map V.int) ⟨Same.new hD _, upd_same, by simp⟩ (fun i H2 ys _ h => ⟨SqL.of (h.1 _ _ hps), h.2.1⟩) ?_ ?_⟩
    · rintro i p H2 ys hp ⟨s2, hD2, rfl⟩
      have hi : i < xs.length := by have := (List.getElem?_eq_some_iff.mp hp).1; omega
      obtain ⟨q, q1, q2⟩ := hpI i p hp
      rw [rimsP_get hi] at q1
      cases Option.some.inj q1
      have hS2 : IL H2 a xs := s2 _ _ (s1 _ _ hS)
      have b1 := rimA_le xs i
      have b2 := rimB_bounds hi
      refine ⟨_, _, s2 _ _ q2, fun C s H0 fp => ?_⟩
      refine ⟨_, rfl, _, rfl, a, _, _, _, rfl, rfl, SqL.of hS2, atI_mapM (by omega), _, rfl, _, rfl, a, _, _, _, rfl, rfl, SqL.of hS2, atI_mapM b2.2, _, _, rfl, ?_⟩
      refine ⟨hD2, by rw [List.length_map, List.length_take, levL_length]; exact small100 (by omega), by omega, s2.put hD, upd_same, ?_⟩
      have e : (if xs.getD (rimB xs i) 0 < xs.getD (rimA xs i) 0 then xs.getD (rimB xs i) 0 else xs.getD (rimA xs i) 0) = lev xs i := by unfold lev; split <;> omega
      rw [e, levL_take hi, List.map_append]; rfl
    · rintro H2 ys ⟨s2, hD2, rfl⟩
      rw [List.take_of_length_le (by rw [levL_length]; omega)] at hD2
      exact k D H2 (s1.free hD) (s1.trans s2) hD2
end
end Sky

namespace Sky
open PySem L2
section
variable {P : Program} {w : World} {K : PySem.W.Frag} {mg : Str → Option Value} {base : Heap}
theorem scLevels9 : FnScope ["bars"] ["bars"] (defScope sLevels) := ⟨rfl, rfl, rfl, by decide +kernel, rfl, by decide +kernel, by decide +kernel⟩
theorem ok_levels9 {f C : Addr} {fd : FuncData} (F : Fun K "levels" "levels" sLevels f fd) (B : Blt mg) (cR : CalleeX P w K mg base 4 "rims" ["bars"] (spBad K okBv C)) : FnOk P w K mg base (CX1 P w) 5 f fd ["bars"] (spBad K okBv C) := by
  refine F.okx scLevels9 (fun vs H Q E h => ?_) (fun cdv A outer s H vs Q E hr h => ?_)
  · obtain ⟨v, rfl, _⟩ := h
    rfl
  · obtain ⟨v, rfl, hb, k⟩ := h
    refine ⟨_, (pss_one (ps_ret (pe_lc (cap := [0]) ["ahead", "behind"] rfl (CompOk.of (defScope sLevels) ["bars"] rfl rfl (by decide +kernel)) (pi_list (pe_fnx cR cx_pass hr rfl (pa_cons (pv 0) pa_nil))) (fun C s H fp => (pg_tup rfl (pgs_cons (pg_name (i := 0) (show List.Nodup (["ahead", "behind", "bars"] : List Str) from by decide +kernel) rfl (Or.inl rfl)) (pgs_cons (pg_name (i := 1) (show List.Nodup (["ahead", "behind", "bars"] : List Str) from by decide +kernel) rfl (Or.inl rfl)) pgs_nil)))) (fun C s H fp => pf_nil)
        (fun C s H fp => pe_never)))), ?_⟩
    exact ⟨_, rfl, v, rfl, hb, k⟩
end
end Sky

namespace Sky
open PySem L2
section
variable {P : Program} {w : World} {K : PySem.W.Frag} {mg : Str → Option Value} {base : Heap}
theorem scWater : FnScope ["bars"] ["bars"] (defScope sWater) := ⟨rfl, rfl, rfl, by decide +kernel, rfl, by decide +kernel, by decide +kernel⟩
theorem ok_water {f : Addr} {fd : FuncData} (F : Fun K "water" "water" sWater f fd) (B : Blt mg) (cL : Callee P w K mg base 5 "levels" ["bars"] spLevels) : FnOk P w K mg base CX0 6 f fd ["bars"] spWater := by
  refine F.ok scWater (fun vs H Q E h => ?_) (fun cdv A outer s H vs Q E hr h => ?_)
  · obtain ⟨a, xs, rfl, _⟩ := h
    rfl
  · obtain ⟨a, xs, rfl, hS, hh, k⟩ := h
    refine ⟨_, (pss_one (ps_ret (pe_callB (call_sum rfl) rfl B.sum boot_sum' (pa_cons (pe_lc (cap := []) ["level", "height"] rfl (CompOk.of (defScope sWater) ["bars"] rfl rfl (by decide +kernel)) (PIV.pi (piv_zip rfl B.zip (pa_cons (pe_fn cL hr rfl (pa_cons (pv 0) pa_nil)) (pa_cons (pv 0) pa_nil)))) (fun C s H fp => (pg_tup rfl (pgs_cons (pg_name (i := 0) (show List.Nodup (["level", "height"] : List Str) from by decide +kernel) rfl (Or.inl rfl)) (pgs_cons (pg_name (i := 1) (show List.Nodup (["level", "height"] : List Str) from by decide +kernel) rfl (Or.inl rfl)) pgs_nil)))) (fun C s H fp => pf_nil)
        (fun C s H fp => (pe_op op_sub (pv 0) (pv 1)))) pa_nil)))), ?_⟩
    refine ⟨_, rfl, a, xs, rfl, hS, hh, fun l H1 nl s1 hL => ?_⟩
    have hx := hh.1
    have hS1 : IL H1 a xs := s1 _ _ hS
    refine ⟨_, rfl, l, a, rfl, ⟨_, SqL.of hL⟩, ⟨_, SqL.of hS1⟩, fun D hD => lc_zip (xs := (levL xs).map V.int) (zs := xs.map V.int) (fun C s H0 fp p x z σ H Q' hp hq => ⟨p, _, rfl, SqT.of hp, rfl, _, _, rfl, _, _, rfl, rfl, hq⟩) (by rw [List.length_map, List.length_map, levL_length]; exact Nat.le_refl _)
      (fun i H2 ys => Same H1 H2 ∧ H2 D = some (.lst ys) ∧ ys = ((watL xs).take i).map V.int) ⟨Same.new hD _, upd_same, by simp⟩ (fun i H2 ys _ h => ⟨SqL.of (h.1 _ _ hL), SqL.of (h.1 _ _ hS1), h.2.1⟩) ?_ ?_⟩
    · rintro i x z t H2 ys hx1 hz1 ⟨s2, hD2, rfl⟩ ht C s H0 fp
      obtain ⟨x', rfl, b1⟩ := get_mapM hx1
      obtain ⟨z', rfl, b2⟩ := get_mapM hz1
      have hi : i < xs.length := (List.getElem?_eq_some_iff.mp b2).1
      rw [levL_get hi] at b1
      rw [getD_get hi] at b2
      refine ⟨_, rfl, _, rfl, x', z', rfl, rfl, (Same.new ht _) _ _ hD2, by rw [List.length_map, List.length_take, watL_length]; exact small100 (by omega), (s2.put (s2.free ht)).put hD, upd_same, ?_⟩
      rw [watL_take hi, ← Option.some.inj b1, ← Option.some.inj b2, List.map_append]; rfl
    · rintro H2 ys ⟨s2, hD2, rfl⟩
      rw [List.length_map, List.take_of_length_le (by rw [levL_length, watL_length]; exact Nat.le_refl _)] at hD2
      refine ⟨D, watL xs, rfl, SqL.of hD2, ?_⟩
      rw [watL_sum]
      exact k _ (s1.trans s2)
end
end Sky

namespace Sky
open PySem L2
section
variable {P : Program} {w : World} {K : PySem.W.Frag} {mg : Str → Option Value} {base : Heap}
theorem scWater9 : FnScope ["bars"] ["bars"] (defScope sWater) := ⟨rfl, rfl, rfl, by decide +kernel, rfl, by decide +kernel, by decide +kernel⟩
theorem ok_water9 {f C : Addr} {fd : FuncData} (F : Fun K "water" "water" sWater f fd) (B : Blt mg) (cL : CalleeX P w K mg base 5 "levels" ["bars"] (spBad K okBv C)) : FnOk P w K mg base (CX1 P w) 6 f fd ["bars"] (spBad K okBv C) := by
  refine F.okx scWater9 (fun vs H Q E h => ?_) (fun cdv A outer s H vs Q E hr h => ?_)
  · obtain ⟨v, rfl, _⟩ := h
    rfl
  · obtain ⟨v, rfl, hb, k⟩ := h
    refine ⟨_, (pss_one (ps_ret (pe_callB (call_sum rfl) rfl B.sum boot_sum' (pa_cons (pe_lc (cap := []) ["level", "height"] rfl (CompOk.of (defScope sWater) ["bars"] rfl rfl (by decide +kernel)) (PIV.pi (piv_zip rfl B.zip (pa_cons (pe_fnx cL cx_pass hr rfl (pa_cons (pv 0) pa_nil)) (pa_cons (pv 0) pa_nil)))) (fun C s H fp => (pg_tup rfl (pgs_cons (pg_name (i := 0) (show List.Nodup (["level", "height"] : List Str) from by decide +kernel) rfl (Or.inl rfl)) (pgs_cons (pg_name (i := 1) (show List.Nodup (["level", "height"] : List Str) from by decide +kernel) rfl (Or.inl rfl)) pgs_nil)))) (fun C s H fp => pf_nil)
        (fun C s H fp => pe_never)) pa_nil)))), ?_⟩
    exact ⟨_, rfl, v, rfl, hb, k⟩
end
end Sky

namespace Sky
open PySem L2
section
variable {P : Program} {w : World} {K : PySem.W.Frag} {mg : Str → Option Value} {base : Heap}
theorem scBoard9 : FnScope ["bars", "around", "sizes", "best"] ["bars"] (defScope sBoard) := ⟨rfl, rfl, rfl, by decide +kernel, rfl, by decide +kernel, by decide +kernel⟩
theorem ok_board9 {f C : Addr} {fd : FuncData} (F : Fun K "board" "board" sBoard f fd) (B : Blt mg) (cR : CalleeX P w K mg base 4 "reaches" ["bars"] (spBad K okBv C)) : FnOk P w K mg base (CX1 P w) 5 f fd ["bars"] (spBad K okBv C) := by
  refine F.okx scBoard9 (fun vs H Q E h => ?_) (fun cdv A outer s H vs Q E hr h => ?_)
  · obtain ⟨v, rfl, _⟩ := h
    rfl
  · obtain ⟨v, rfl, hb, k⟩ := h
    refine ⟨_, (pss_cons (ps_set (i := 1) scBoard9.nd rfl (Or.inl rfl) (pe_fnx cR cx_pass hr rfl (pa_cons (pv 0) pa_nil))) pss_never), ?_⟩
    exact ⟨_, rfl, v, rfl, hb, k⟩
end
end Sky

namespace Sky
open PySem L2
section
variable {P : Program} {w : World} {K : PySem.W.Frag} {mg : Str → Option Value} {base : Heap}
theorem scBoard0 : FnScope ["bars", "around", "sizes", "best"] ["bars"] (defScope sBoard) := ⟨rfl, rfl, rfl, by decide +kernel, rfl, by decide +kernel, by decide +kernel⟩
theorem ok_board0 {f C : Addr} {fd : FuncData} (F : Fun K "board" "board" sBoard f fd) (B : Blt mg) (xC : ExC K C) (mgC : mg "NoBar" = some (.ref C)) (cR : Callee P w K mg base 4 "reaches" ["bars"] spReach) : FnOk P w K mg base (CX1 P w) 5 f fd ["bars"] (spBoard0 C) := by
  refine F.okx scBoard0 (fun vs H Q E h => ?_) (fun cdv A outer s H vs Q E hr h => ?_)
  · obtain ⟨a, rfl, _⟩ := h
    rfl
  · obtain ⟨a, rfl, hS, k⟩ := h
    refine ⟨_, (pss_cons (ps_set (i := 1) scBoard0.nd rfl (Or.inl rfl) (pe_fn cR hr rfl (pa_cons (pv 0) pa_nil))) (pss_cons (ps_if (pt_not (pt_truth (pv 1) (fun _ => rfl))) (pss_one (ps_raise cx_raise PySem.F.excBase_ValueError xC.raises rfl rfl mgC (pa_cons pe_str pa_nil))) pss_nil) pss_never)), ?_⟩
    refine ⟨_, rfl, a, [], rfl, hS, ⟨by decide, fun x hx => by simp at hx⟩, fun l H1 nl s1 hT => ?_⟩
    obtain ⟨ps, hps, hpl, hpI⟩ := id hT
    have e : ps = [] := List.eq_nil_of_length_eq_zero (by rw [hpl, reachP_length]; rfl)
    subst e
    exact ⟨_, rfl, false, .inl ⟨[], SqL.of hps, rfl⟩, iteT ⟨by show 1 ≤ sizeLine; decide, k H1 s1⟩⟩
end
end Sky

namespace Sky
open PySem L2
section
variable {P : Program} {w : World} {K : PySem.W.Frag} {mg : Str → Option Value} {base : Heap}
theorem scSees9 : FnScope ["bars", "one", "other", "between", "lesser"] ["bars", "one", "other"] (defScope sSees) := ⟨rfl, rfl, rfl, by decide +kernel, rfl, by decide +kernel, by decide +kernel⟩
theorem ok_seesB {f C : Addr} {fd : FuncData} (F : Fun K "sees" "sees" sSees f fd) (B : Blt mg) (cC : CalleeX P w K mg base 3 "check_bars" ["bars"] (spBad K okBv C)) : FnOk P w K mg base (CX1 P w) 4 f fd ["bars", "one", "other"] (spSeesB K C) := by
  refine F.okx scSees9 (fun vs H Q E h => ?_) (fun cdv A outer s H vs Q E hr h => ?_)
  · obtain ⟨v, x, y, rfl, _⟩ := h
    rfl
  · obtain ⟨v, x, y, rfl, hb, k⟩ := h
    refine ⟨_, (pss_cons (ps_expr (pe_fnx cC cx_pass (hr.mono (by decide)) rfl (pa_cons (pv 0) pa_nil))) pss_never), ?_⟩
    exact ⟨_, rfl, v, rfl, hb, k⟩
end
end Sky

namespace Sky
open PySem L2
section
variable {P : Program} {w : World} {K : PySem.W.Frag} {mg : Str → Option Value} {base : Heap}
theorem scSeesP : FnScope ["bars", "one", "other", "between", "lesser"] ["bars", "one", "other"] (defScope sSees) := ⟨rfl, rfl, rfl, by decide +kernel, rfl, by decide +kernel, by decide +kernel⟩
theorem ok_seesP {f C : Addr} {fd : FuncData} (F : Fun K "sees" "sees" sSees f fd) (B : Blt mg) (cG : Callee P w K mg base 3 "check_bars" ["bars"] spChk) (c2 : CalleeX P w K mg base 3 "check_two_places" ["bars", "one", "other"] (spTwo9 K C)) : FnOk P w K mg base (CX1 P w) 4 f fd ["bars", "one", "other"] (spSeesP K C) := by
  refine F.okx scSeesP (fun vs H Q E h => ?_) (fun cdv A outer s H vs Q E hr h => ?_)
  · obtain ⟨a, xs, x, y, rfl, _⟩ := h
    rfl
  · obtain ⟨a, xs, x, y, rfl, hS, hh, hx, hy, hb, k⟩ := h
    refine ⟨_, (pss_cons (ps_expr (pe_fn cG hr rfl (pa_cons (pv 0) pa_nil))) (pss_cons (ps_expr (pe_fnx c2 cx_pass hr rfl (pa_cons (pv 0) (pa_cons (pv 1) (pa_cons (pv 2) pa_nil))))) pss_never)), ?_⟩
    refine ⟨_, rfl, a, xs, rfl, hS, hh, fun H1 s1 => ?_⟩
    exact ⟨_, rfl, _, rfl, _, rfl, a, xs, x, y, rfl, s1 _ _ hS, hx.same s1, hy.same s1, hb, fun H2 s2 => k H2 (s1.trans s2)⟩
end
end Sky

namespace Sky
open PySem L2
section
variable {P : Program} {w : World} {K : PySem.W.Frag} {mg : Str → Option Value} {base : Heap}
theorem scCrossA : FnScope ["links", "place", "ahead"] ["links", "place"] (defScope sCrossA) := ⟨rfl, rfl, rfl, by decide +kernel, rfl, by decide +kernel, by decide +kernel⟩
theorem ok_crossA {f : Addr} {fd : FuncData} (F : Fun K "crossed_ahead" "crossed_ahead" sCrossA f fd) (B : Blt mg)  : FnOk P w K mg base CX0 1 f fd ["links", "place"] spCrossA := by
  refine F.ok scCrossA (fun vs H Q E h => ?_) (fun cdv A outer s H vs Q E hr h => ?_)
  · obtain ⟨a, ls, p, rfl, _⟩ := h
    rfl
  · obtain ⟨a, ls, p, rfl, hS, hv, hp, k1, k2⟩ := h
    refine ⟨_, (pss_cons (ps_set (i := 2) scCrossA.nd rfl (Or.inl rfl) (pe_op op_sub (pv 1) pe_int))
      (pss_cons (ps_while PassesOwn.never (pt_cmpR op_gt (pv 2) (pe_ix ix_list (pv 0) (pv 1) (fun _ _ => rfl)) (nomark _))
      (pss_cons (ps_if (pt_cmpR op_lt (pe_ix ix_list (pv 0) (pv 2) (fun _ _ => rfl)) (pe_ix ix_list (pv 0) (pv 1) (fun _ _ => rfl)) (nomark _)) (pss_one (ps_ret (pv 2))) pss_nil)
      (pss_one (ps_set (i := 2) scCrossA.nd rfl (Or.inl rfl) (pe_ix ix_list (pv 0) (pv 2) (fun _ _ => rfl))))))
      (pss_one (ps_ret (pe_un un_neg pe_int))))), ?_⟩
    have vp := hv p hp
    refine ⟨_, rfl, (p : Int), 1, rfl, rfl, ?_⟩
    refine ⟨fun m σ H3 => ∃ c : Int, H3 = H ∧ σ = [some (.ref a), some (.int (p : Nat)), some (.int c)] ∧ m = (c + 1).toNat ∧ ls.getD p 0 ≤ c ∧ c < p ∧ (OnCh ls c (ls.getD p 0) → OnCh ls ((p : Int) - 1) (ls.getD p 0)), ⟨_, (p : Int) - 1, rfl, rfl, rfl, by omega, by omega, id⟩, ?_⟩
    rintro m σ H3 ⟨c, rfl, rfl, rfl, h1, h2, h3⟩
    refine ⟨_, rfl, _, rfl, _, rfl, a, _, _, _, rfl, rfl, SqL.of hS, atI_mapM hp, c, _, rfl, rfl, _, rfl, ite2 (fun hc => ?_) (fun hc => ?_)⟩
    · have hc' : ls.getD p 0 < c := of_decide_eq_true hc
      have vc := hv c.toNat (by omega)
      have hat : atI (ls.map V.int) c = some (V.int (ls.getD c.toNat 0)) := atI_map' c.toNat (by omega) (by omega)
      refine ⟨_, fun _ _ z => z, ?_⟩
      refine ⟨_, rfl, _, rfl, a, _, _, _, rfl, rfl, SqL.of hS, hat, _, rfl, _, rfl, a, _, _, _, rfl, rfl, SqL.of hS, atI_mapM hp, _, _, rfl, rfl, _, rfl, ite2 (fun hd => ?_) (fun hd => ?_)⟩
      · have hd' : ls.getD c.toNat 0 < ls.getD p 0 := of_decide_eq_true hd
        refine ⟨_, rfl, ?_⟩
        have := k1 c.toNat ⟨by omega, by omega, by omega, hd', by show ls.getD p 0 < ((c.toNat : Nat) : Int); omega⟩
        rw [show ((c.toNat : Nat) : Int) = c by omega] at this
        exact this
      · have hd' : ¬ ls.getD c.toNat 0 < ls.getD p 0 := fun z => hd (decide_eq_true z)
        exact ⟨_, rfl, _, rfl, a, _, _, _, rfl, rfl, SqL.of hS, hat, (ls.getD c.toNat 0 + 1).toNat, by omega, _, rfl, rfl, rfl, by omega, by omega, fun z => h3 (.step (by omega) z)⟩
    · have hc' : ¬ ls.getD p 0 < c := fun z => hc (decide_eq_true z)
      have e : c = ls.getD p 0 := by omega
      exact ⟨1, rfl, k2 (h3 (e ▸ OnCh.refl _))⟩
end
end Sky

namespace Sky
open PySem L2
section
variable {P : Program} {w : World} {K : PySem.W.Frag} {mg : Str → Option Value} {base : Heap}
theorem scRInit : FnScope ["self", "bars"] ["self", "bars"] (defScope sRInit) := ⟨rfl, rfl, rfl, by decide +kernel, rfl, by decide +kernel, by decide +kernel⟩
theorem ok_rInit {f C : Addr} {fd : FuncData} (F : Fun K "__init__" "Row.__init__" sRInit f fd) (B : Blt mg) (T : RCls K C) : FnOk P w K mg base CX0 1 f fd ["self", "bars"] (spRInit C) := by
  refine F.ok scRInit (fun vs H Q E h => ?_) (fun cdv A outer s H vs Q E hr h => ?_)
  · obtain ⟨p, dx, l, xs, rfl, _⟩ := h
    rfl
  · obtain ⟨p, dx, l, xs, rfl, hp, hl, k⟩ := h
    refine ⟨_, (pss_one (ps_fld (pv 0) (pe_callTy call_list_of rfl B.list boot_list' (pa_cons (pv 1) pa_nil)) rfl)), ?_⟩
    have npl : l ≠ p := ne_of hl hp (by intro z; cases z)
    refine ⟨_, rfl, l, _, rfl, .inl (SqL.of hl), fun ar har => ?_⟩
    have npa : p ≠ ar := ne_of_none hp har
    refine ⟨_, rfl, p, C, dx, _, rfl, (upd_ne npa).trans hp, T.cl, T.n1, (by show 0 < 1000; decide), ?_⟩
    refine k ar _ har upd_same ((upd_ne npa.symm).trans upd_same) fun b o e hb => ?_
    rw [upd_ne hb, upd_ne (ne_of_none e har)]
    exact e
end
end Sky

namespace Sky
open PySem L2
section
variable {P : Program} {w : World} {K : PySem.W.Frag} {mg : Str → Option Value} {base : Heap}
theorem scCInit : FnScope ["self", "first", "second"] ["self", "first", "second"] (defScope sCInit) := ⟨rfl, rfl, rfl, by decide +kernel, rfl, by decide +kernel, by decide +kernel⟩
theorem ok_cInit {f C : Addr} {fd : FuncData} (F : Fun K "__init__" "Crossed.__init__" sCInit f fd) (B : Blt mg) (T : CCls K C) : FnOk P w K mg base CX0 1 f fd ["self", "first", "second"] (spCInit C) := by
  refine F.ok scCInit (fun vs H Q E h => ?_) (fun cdv A outer s H vs Q E hr h => ?_)
  · obtain ⟨p, dx, f, s, rfl, _⟩ := h
    rfl
  · obtain ⟨p, dx, f, s, rfl, hp, k⟩ := h
    refine ⟨_, (pss_cons (ps_fld (pv 0) (pv 1) rfl)
      (pss_one (ps_fld (pv 0) (pv 2) rfl))), ?_⟩
    refine ⟨_, rfl, _, rfl, p, C, dx, _, rfl, hp, T.cl, T.n1, (by show 0 < 1000; decide), ?_⟩
    refine ⟨_, rfl, _, rfl, p, C, dx, _, rfl, upd_same, T.cl, T.n2, (by show 1 < 1000; decide), ?_⟩
    refine k _ upd_same fun b o e hb => ?_
    rw [upd_ne hb, upd_ne hb]
    exact e
end
end Sky

namespace Sky
open PySem L2
section
variable {P : Program} {w : World} {K : PySem.W.Frag} {mg : Str → Option Value} {base : Heap}
theorem scRowOf : FnScope ["links", "bars", "place", "link", "first"] ["links"] (defScope sRowOf) := ⟨rfl, rfl, rfl, by decide +kernel, rfl, by decide +kernel, by decide +kernel⟩
theorem ok_rowOf {f CR CC fRI fCI : Addr} {fd : FuncData} (F : Fun K "row_of" "row_of" sRowOf f fd) (B : Blt mg) {fdR fdC : FuncData} (cK : Callee P w K mg base 3 "check_links" ["links"] spChkL) (cX : Callee P w K mg base 1 "crossed_ahead" ["links", "place"] spCrossA) (MR : Mk K CR fRI) (GR : FnOk P w K mg base CX0 1 fRI fdR ["self", "bars"] (spRInit CR)) (bR : Binds K fdR ["self", "bars"] []) (mgR : mg "Row" = some (.ref CR)) (MC : Mk K CC fCI) (GC : FnOk P w K mg base CX0 1 fCI fdC ["self", "first", "second"] (spCInit CC)) (bC : Binds K fdC ["self", "first", "second"] []) (mgX : mg "Crossed" = some (.ref CC)) : FnOk P w K mg base CX0 5 f fd ["links"] (spRowOf CR CC) := by
  refine F.ok scRowOf (fun vs H Q E h => ?_) (fun cdv A outer s H vs Q E hr h => ?_)
  · obtain ⟨a, ls, rfl, _⟩ := h
    rfl
  · obtain ⟨a, ls, rfl, hS, hl, hv, kR, kC⟩ := h
    refine ⟨_, (pss_cons (ps_expr (pe_fn cK (hr.mono (by decide)) rfl (pa_cons (pv 0) pa_nil)))
      (pss_cons (ps_set (i := 1) scRowOf.nd rfl (Or.inl rfl) (pe_lst pa_nil))
      (pss_cons (ps_for PassesOwn.never rfl (pi_enum rfl B.enumerate (pa_cons (pv 0) pa_nil)) (pg_tup rfl (pgs_cons (pg_name (i := 2) scRowOf.nd rfl (Or.inl rfl)) (pgs_cons (pg_name (i := 3) scRowOf.nd rfl (Or.inl rfl)) pgs_nil)))
      (pss_cons (ps_set (i := 4) scRowOf.nd rfl (Or.inl rfl) (pe_fn cX (hr.mono (by decide)) rfl (pa_cons (pv 0) (pa_cons (pv 2) pa_nil))))
      (pss_cons (ps_if (pt_cmpR op_ge (pv 4) pe_int (nomark _)) (pss_one (ps_ret (pe_make MC GC (hr.mono (by decide)) rfl mgX bC .nil pass0 (pa_cons (pv 4) (pa_cons (pv 2) pa_nil))))) pss_nil)
      (pss_one (ps_expr (pe_bm PySem.F.plainAttrs_list PySem.F.slot_list_append PySem.F.type_list_append mt_append (pv 1) (pa_cons (pe_ifExp (pt_cmpR op_ge (pv 3) pe_int (nomark _)) (pe_op op_add (pe_ix ix_list (pv 1) (pv 3) (fun _ _ => rfl)) pe_int) pe_int) pa_nil)))))))
      (pss_one (ps_ret (pe_make MR GR (hr.mono (by decide)) rfl mgR bR .nil pass0 (pa_cons (pv 1) pa_nil))))))), ?_⟩
    refine ⟨_, rfl, a, ls, rfl, hS, hl, hv, fun H1 s1 => ?_⟩
    refine ⟨Nat.zero_le _, fun c hc => ?_⟩
    have nc : H c = none := s1.free hc
    have s2 : Same H (upd H1 c (.lst [])) := s1.put nc
    refine ⟨_, rfl, a, rfl, ⟨_, SqL.of (s2 _ _ hS)⟩, for_enum (K := K) (a := a) (xs := ls.map V.int) (fun i σ H2 => ∃ v2 v3 v4, σ = [some (.ref a), some (.ref c), v2, v3, v4] ∧ Same H H2 ∧ IL H2 c (dpL ls i) ∧ ∀ p, p < i → OnCh ls ((p : Int) - 1) (ls.getD p 0))
      ⟨none, none, none, rfl, s2, upd_same, fun p hp => by omega⟩ (fun i σ H2 _ ⟨_, _, _, _, s3, _⟩ => SqL.of (s3 _ _ hS)) ?_ ?_⟩
    · rintro i y σ H2 t hi ⟨v2, v3, v4, rfl, s3, hC, hch⟩ ht
      obtain ⟨h, rfl, hx⟩ := get_mapM hi
      have hil : i < ls.length := (List.getElem?_eq_some_iff.mp hx).1
      have hxd : ls.getD i 0 = h := by rw [List.getD_eq_getElem?_getD, hx]; rfl
      have s4 : Same H (upd H2 t (.tup [.int (i : Nat), .int h])) := s3.put (s3.free ht)
      have hC4 : IL (upd H2 t (.tup [.int (i : Nat), .int h])) c (dpL ls i) := (Same.new ht _) _ _ hC
      refine ⟨t, _, rfl, SqT.of upd_same, rfl, _, _, rfl, _, _, rfl, rfl, ?_⟩
      generalize upd H2 t (.tup [.int (i : Nat), .int h]) = H3 at s4 hC4
      have hv' := hv i hil
      rw [hxd] at hv'
      refine ⟨_, rfl, _, rfl, a, ls, i, rfl, s4 _ _ hS, hv, hil, fun cr hcr => ?_, fun hon => ?_⟩
      · -- crossed
        refine ⟨_, rfl, _, 0, rfl, rfl, _, rfl, iteE (by omega) ?_⟩
        refine ⟨_, rfl, _, rfl, fun x dx nx ndx nex => ⟨x, dx, _, _, rfl, upd_same, fun H4 hx4 keep => ⟨rfl, ?_⟩⟩⟩
        have s5 : Same H3 (upd (upd H3 dx (.own x)) x (.ins CC dx [])) := fun b o e => by rw [upd_ne (ne_of_none e nx), upd_ne (ne_of_none e ndx)]; exact e
        exact kC x dx H4 _ _ (s4.free nx) (fun b o e => keep b o (s5 b o (s4 b o e)) (ne_of_none e (s4.free nx))) hx4 hcr
      · refine ⟨_, rfl, _, 0, rfl, rfl, _, rfl, iteD (by omega) ?_⟩
        have hcl : ((dpL ls i).map V.int).length < sizeLine := by rw [List.length_map, dpL_length]; exact small100 (by omega)
        have edp : dpL ls (i + 1) = dpL ls i ++ [if 0 ≤ h then (dpL ls i).getD h.toNat 0 + 1 else 0] := by rw [dpL_succ, hxd]
        have hch' : ∀ p, p < i + 1 → OnCh ls ((p : Int) - 1) (ls.getD p 0) := fun p hp => by
          by_cases hpi : p = i
          · rw [hpi]; exact hon
          · exact hch p (by omega)
        refine ⟨_, rfl, .inl ⟨rfl, _, SqL.of hC4⟩, _, rfl, h, 0, rfl, rfl, _, rfl, ite2 (fun h0 => ?_) (fun h0 => ?_)⟩
        · have h0' : 0 ≤ h := of_decide_eq_true h0
          rw [if_pos h0'] at edp
          refine ⟨_, rfl, _, rfl, c, _, _, _, rfl, rfl, SqL.of hC4, atI_map' h.toNat (by omega) (by rw [dpL_length]; omega), _, 1, rfl, rfl, c, _, _, rfl, rfl, hC4, hcl, _, _, _, rfl, s4.put nc, upd_same.trans ?_, hch'⟩
          rw [edp, List.map_append]; rfl
        · have h0' : ¬ 0 ≤ h := fun z => h0 (decide_eq_true z)
          rw [if_neg h0'] at edp
          refine ⟨c, _, _, rfl, rfl, hC4, hcl, _, _, _, rfl, s4.put nc, upd_same.trans ?_, hch'⟩
          rw [edp, List.map_append]; rfl
    · rintro σ H2 ⟨v2, v3, v4, rfl, s3, hC, hch⟩
      rw [List.length_map] at hC hch
      have hlk := dpL_links hv hch
      have hbd : ∀ x ∈ dpL ls ls.length, 0 ≤ x ∧ x ≤ 100 := fun x hx => by
        obtain ⟨j, hj, e⟩ := List.getElem_of_mem hx
        rw [dpL_length] at hj
        have e2 : (dpL ls ls.length).getD j 0 = x := by
          rw [List.getD_eq_getElem?_getD, List.getElem?_eq_getElem (by rw [dpL_length]; exact hj), ← e]; rfl
        rw [dpL_dp ls hj] at e2
        have := dp_nn hv hj
        omega
      refine ⟨_, rfl, fun x dx nx ndx nex => ?_⟩
      have s5 : Same H2 (upd (upd H2 dx (.own x)) x (.ins CR dx [])) := fun b o e => by rw [upd_ne (ne_of_none e nx), upd_ne (ne_of_none e ndx)]; exact e
      refine ⟨x, dx, c, _, rfl, upd_same, s5 _ _ hC, fun ar H4 nar hx4 hA keep => ⟨rfl, ?_⟩⟩
      refine kR x dx ar H4 _ (s3.free nx) ((s3.trans s5).free nar) (fun b o e => keep b o (s5 b o (s3 b o e)) (ne_of_none e (s3.free nx))) hx4 hA (dpL_length ls _) hbd hlk
end
end Sky

namespace Sky
open PySem L2
section
variable {P : Program} {w : World} {K : PySem.W.Frag} {mg : Str → Option Value} {base : Heap}
theorem scRowOf9 : FnScope ["links", "bars", "place", "link", "first"] ["links"] (defScope sRowOf) := ⟨rfl, rfl, rfl, by decide +kernel, rfl, by decide +kernel, by decide +kernel⟩
theorem ok_rowOf9 {f C : Addr} {fd : FuncData} (F : Fun K "row_of" "row_of" sRowOf f fd) (B : Blt mg) (cC : CalleeX P w K mg base 3 "check_links" ["links"] (spBad K okLv C)) : FnOk P w K mg base (CX1 P w) 5 f fd ["links"] (spBad K okLv C) := by
  refine F.okx scRowOf9 (fun vs H Q E h => ?_) (fun cdv A outer s H vs Q E hr h => ?_)
  · obtain ⟨v, rfl, _⟩ := h
    rfl
  · obtain ⟨v, rfl, hb, k⟩ := h
    refine ⟨_, (pss_cons (ps_expr (pe_fnx cC cx_pass (hr.mono (by decide)) rfl (pa_cons (pv 0) pa_nil))) pss_never), ?_⟩
    exact ⟨_, rfl, v, rfl, hb, k⟩
end
end Sky

namespace Sky
open PySem L2
section
variable {P : Program} {w : World} {K : PySem.W.Frag} {mg : Str → Option Value} {base : Heap}
seal L2.PS L2.PSs L2.PE L2.PA L2.PT
theorem scAskB : FnScope ["_law_which", "_law_more", "_law_bad", "_law_door"] ["_law_which", "_law_more"] (defScope sAskB) := ⟨rfl, rfl, rfl, by decide +kernel, rfl, by decide +kernel, by decide +kernel⟩
theorem ok_askB {f C : Addr} {fd : FuncData} (F : Fun K "_law_bars_asked" "_law_bars_asked" sAskB f fd) (B : Blt mg) (c0 : CalleeX P w K mg base 4 "reaches" ["bars"] (spBad K okBv C)) (c1 : CalleeX P w K mg base 4 "seen_ahead" ["bars"] (spBad K okBv C)) (c2 : CalleeX P w K mg base 4 "shown" ["bars"] (spBad K okBv C)) (c3 : CalleeX P w K mg base 5 "board" ["bars"] (spBad K okBv C)) (c4 : CalleeX P w K mg base 5 "levels" ["bars"] (spBad K okBv C)) (c5 : CalleeX P w K mg base 6 "water" ["bars"] (spBad K okBv C)) (c6 : CalleeX P w K mg base 4 "rims" ["bars"] (spBad K okBv C)) (c7 : CalleeX P w K mg base 4 "links" ["bars"] (spBad K okBv C)) (c8 : CalleeX P w K mg base 4 "tree" ["bars"] (spBad K okBv C)) (cS : CalleeX P w K mg base 4 "sees" ["bars", "one", "other"] (spSeesB K C)) : FnOk P w K mg base (CX1 P w) 7 f fd ["_law_which", "_law_more"] (spAsk C) := by
  refine F.okx scAskB (fun vs H Q E h => ?_) (fun cdv A outer s H vs Q E hr h => ?_)
  · obtain ⟨wi, mo, rfl, _⟩ := h
    rfl
  · obtain ⟨wi, mo, rfl, hw, hm, hm2, k⟩ := h
    obtain ⟨f0, fd0, G0, m0, k0, b0⟩ := c0.ex
    obtain ⟨f1, fd1, G1, m1, k1, b1⟩ := c1.ex
    obtain ⟨f2, fd2, G2, m2, k2, b2⟩ := c2.ex
    obtain ⟨f3, fd3, G3, m3, k3, b3⟩ := c3.ex
    obtain ⟨f4, fd4, G4, m4, k4, b4⟩ := c4.ex
    obtain ⟨f5, fd5, G5, m5, k5, b5⟩ := c5.ex
    obtain ⟨f6, fd6, G6, m6, k6, b6⟩ := c6.ex
    obtain ⟨f7, fd7, G7, m7, k7, b7⟩ := c7.ex
    obtain ⟨f8, fd8, G8, m8, k8, b8⟩ := c8.ex
    refine ⟨_, (pss_cons (ps_set (i := 2) scAskB.nd rfl (Or.inl rfl) (pe_ix ix_list (by exact (pe_lst (pa_cons pe_non (pa_cons (pe_tup (pa_cons pe_int (pa_cons pe_int pa_nil))) (pa_cons pe_str (pa_cons pe_int (pa_cons (pe_lst (pa_cons (pe_op op_sub (pe_un un_neg pe_int) (pv 1)) pa_nil)) (pa_cons (pe_lst (pa_cons (pe_op op_add pe_int (pv 1)) pa_nil)) (pa_cons (pe_lst (pa_cons pe_bl pa_nil)) (pa_cons (pe_lst (pa_cons pe_str pa_nil)) (pa_cons (pe_lst (pa_cons pe_non pa_nil)) pa_nil))))))))))) (pe_op op_mod (pv 0) pe_int) (fun _ _ => rfl)))
      (pss_cons (ps_if (pt_val (pe_callB call_isinst rfl B.isinstance boot_isinst' (pa_cons (pv 2) (pa_cons (pe_bltn rfl B.list boot_list' (v := .ty "list") rfl) pa_nil)))) (pss_one (ps_set (i := 2) scAskB.nd rfl (Or.inl rfl) (pe_op op_cat (pe_op op_rep (pe_lst (pa_cons pe_int pa_nil)) (pe_op op_mod (pv 1) pe_int)) (pv 2)))) pss_nil)
      (pss_cons (ps_set (i := 3) scAskB.nd rfl (Or.inl rfl) (pe_op op_mod (pe_op op_fdiv (pv 0) pe_int) pe_int))
      (pss_cons (ps_if (pt_cmpR op_eq (pv 3) pe_int (nomark _)) (pss_one (ps_ret (pe_fnx cS cx_pass (hr.mono (by decide)) rfl (pa_cons (pv 2) (pa_cons pe_non (pa_cons pe_non pa_nil)))))) pss_nil)
      (pss_one (ps_ret (pe_callE (by exact (pe_ix ix_list (by exact (pe_lst (pa_cons (by exact pe_glob rfl m0 (v := .ref f0) rfl) (pa_cons (by exact pe_glob rfl m1 (v := .ref f1) rfl) (pa_cons (by exact pe_glob rfl m2 (v := .ref f2) rfl) (pa_cons (by exact pe_glob rfl m3 (v := .ref f3) rfl) (pa_cons (by exact pe_glob rfl m4 (v := .ref f4) rfl) (pa_cons (by exact pe_glob rfl m5 (v := .ref f5) rfl) (pa_cons (by exact pe_glob rfl m6 (v := .ref f6) rfl) (pa_cons (by exact pe_glob rfl m7 (v := .ref f7) rfl) (pa_cons (by exact pe_glob rfl m8 (v := .ref f8) rfl) pa_nil))))))))))) (pv 3) (fun _ _ => rfl))) cx_pass (pa_cons (pv 2) pa_nil)))))))), ?_⟩
    refine ⟨by show 2 ≤ sizeLine; decide, fun t ht => ?_⟩
    have s1 := Same.new ht (.tup [.int 1, .int 2])
    have hT : upd H t (.tup [.int 1, .int 2]) t = some (.tup [.int 1, .int 2]) := upd_same
    generalize upd H t (.tup [.int 1, .int 2]) = H1 at s1 hT
    refine ⟨_, rfl, _, rfl, _, _, rfl, rfl, by show 1 ≤ sizeLine; decide, fun l1 h1 => ?_⟩
    have s2 := Same.new h1 (.lst [.int (-1 - mo)])
    have e1 : upd H1 l1 (.lst [.int (-1 - mo)]) l1 = some (.lst [.int (-1 - mo)]) := upd_same
    generalize upd H1 l1 (.lst [.int (-1 - mo)]) = H2 at s2 e1
    refine ⟨_, rfl, _, _, rfl, rfl, by show 1 ≤ sizeLine; decide, fun l2 h2 => ?_⟩
    have s3 := Same.new h2 (.lst [.int (10000001 + mo)])
    have e2 : upd H2 l2 (.lst [.int (10000001 + mo)]) l2 = some (.lst [.int (10000001 + mo)]) := upd_same
    generalize upd H2 l2 (.lst [.int (10000001 + mo)]) = H3 at s3 e2
    refine ⟨by show 1 ≤ sizeLine; decide, fun l3 h3 => ?_⟩
    have s4 := Same.new h3 (.lst [.bl true])
    have e3 : upd H3 l3 (.lst [.bl true]) l3 = some (.lst [.bl true]) := upd_same
    generalize upd H3 l3 (.lst [.bl true]) = H4 at s4 e3
    refine ⟨by show 1 ≤ sizeLine; decide, fun l4 h4 => ?_⟩
    have s5 := Same.new h4 (.lst [.str "1"])
    have e4 : upd H4 l4 (.lst [.str "1"]) l4 = some (.lst [.str "1"]) := upd_same
    generalize upd H4 l4 (.lst [.str "1"]) = H5 at s5 e4
    refine ⟨by show 1 ≤ sizeLine; decide, fun l5 h5 => ?_⟩
    have s6 := Same.new h5 (.lst [.non])
    have e5 : upd H5 l5 (.lst [.non]) l5 = some (.lst [.non]) := upd_same
    generalize upd H5 l5 (.lst [.non]) = H6 at s6 e5
    refine ⟨by show 9 ≤ sizeLine; decide, fun L hL => ?_⟩
    have s7 := Same.new hL (.lst [.non, .ref t, .str "12", .int 5, .ref l1, .ref l2, .ref l3, .ref l4, .ref l5])
    have eL : upd H6 L (.lst [.non, .ref t, .str "12", .int 5, .ref l1, .ref l2, .ref l3, .ref l4, .ref l5]) L = some (.lst [.non, .ref t, .str "12", .int 5, .ref l1, .ref l2, .ref l3, .ref l4, .ref l5]) := upd_same
    generalize upd H6 L (.lst [.non, .ref t, .str "12", .int 5, .ref l1, .ref l2, .ref l3, .ref l4, .ref l5]) = H7 at s7 eL
    have r67 := s6.trans s7
    have r57 := s5.trans r67
    have r47 := s4.trans r57
    have r37 := s3.trans r47
    have r27 := s2.trans r37
    have r17 := s1.trans r27
    obtain ⟨j, ej, hj⟩ : ∃ j : Nat, wi % 9 = (j : Int) ∧ j < 9 := ⟨(wi % 9).toNat, by omega, by omega⟩
    have cand : ∃ v, atI [V.non, .ref t, .str "12", .int 5, .ref l1, .ref l2, .ref l3, .ref l4, .ref l5] (j : Int) = some v ∧ (Kd K H7 v ∨ ∃ a x, v = .ref a ∧ H7 a = some (.lst [x]) ∧ Kd K H7 x ∧ wh x 0 10000000 = false) := by
      match j, hj with
      | 0, _ => exact ⟨_, rfl, .inl ⟨_, by simp [tyS], .non⟩⟩
      | 1, _ => exact ⟨_, rfl, .inl ⟨"tuple", by simp [tyS], .tup (r27 _ _ hT)⟩⟩
      | 2, _ => exact ⟨_, rfl, .inl ⟨"str", by simp [tyS], .str _⟩⟩
      | 3, _ => exact ⟨_, rfl, .inl ⟨"int", by simp [tyS], .int _⟩⟩
      | 4, _ => exact ⟨_, rfl, .inr ⟨l1, _, rfl, r37 _ _ e1, ⟨"int", by simp [tyS], .int _⟩, decide_eq_false (by omega)⟩⟩
      | 5, _ => exact ⟨_, rfl, .inr ⟨l2, _, rfl, r47 _ _ e2, ⟨"int", by simp [tyS], .int _⟩, decide_eq_false (by omega)⟩⟩
      | 6, _ => exact ⟨_, rfl, .inr ⟨l3, _, rfl, r57 _ _ e3, ⟨"bool", by simp [tyS], .bl _⟩, rfl⟩⟩
      | 7, _ => exact ⟨_, rfl, .inr ⟨l4, _, rfl, r67 _ _ e4, ⟨"str", by simp [tyS], .str _⟩, rfl⟩⟩
      | 8, _ => exact ⟨_, rfl, .inr ⟨l5, _, rfl, s7 _ _ e5, ⟨"NoneType", by simp [tyS], .non⟩, rfl⟩⟩
    obtain ⟨v, hv, hc⟩ := cand
    refine ⟨_, rfl, _, _, rfl, rfl, (by show (0 : Int) < 9; decide), L, _, _, v, rfl, rfl, SqL.of eL, by rw [ej]; exact hv, ?_⟩
    dsimp only [gName]
    refine seq_cut (t := tIfS _ _ _) (fun σ H8 => ∃ v, σ = [some (.int wi), some (.int mo), some v, none] ∧ Same H H8 ∧ BadB K H8 okBv v) (fun N hN => ?_) ?_
    · rcases hc with ⟨T, hT2, ty⟩ | ⟨a, x, rfl, ha, hx, hwx⟩
      · exact ⟨_, rfl, _, _, _, _, _, rfl, ty, rfl, kd_list hT2, false, rfl, iteF (hN _ _ ⟨v, rfl, r17, .inl ⟨T, hT2, ty⟩⟩)⟩
      · refine ⟨_, rfl, _, _, _, _, _, rfl, .lst ha, rfl, kit_ll _, true, rfl, iteT ?_⟩
        have q0 := Int.emod_nonneg mo (show (6 : Int) ≠ 0 by decide)
        have q1 := Int.emod_lt_of_pos mo (show (0 : Int) < 6 by decide)
        refine ⟨by show 1 ≤ sizeLine; decide, fun q hq => ?_⟩
        have sq := Same.new hq (.lst [.int 3])
        have eq3 : upd H7 q (.lst [.int 3]) q = some (.lst [.int 3]) := upd_same
        have haq := sq _ _ ha
        have hxq := hx.same sq
        have s18 := r17.trans sq
        generalize upd H7 q (.lst [.int 3]) = H8 at sq eq3 haq hxq s18
        refine ⟨_, rfl, _, _, rfl, rfl, (by show (0 : Int) < 6; decide), q, _, _, rfl, rfl, eq3, by omega, by omega, Nat.le_of_lt (small100 (by simp; omega)), fun r hr0 => ?_⟩
        have sr := Same.new hr0 (.lst (List.replicate (mo % 6).toNat [V.int 3]).flatten)
        have er : upd H8 r (.lst (List.replicate (mo % 6).toNat [V.int 3]).flatten) r = some (.lst (List.replicate (mo % 6).toNat [V.int 3]).flatten) := upd_same
        have har := sr _ _ haq
        have hxr := hxq.same sr
        have s19 := s18.trans sr
        generalize upd H8 r (.lst (List.replicate (mo % 6).toNat [V.int 3]).flatten) = H9 at sr er har hxr s19
        have hlen : (List.replicate (mo % 6).toNat [V.int 3]).flatten.length = (mo % 6).toNat := by rw [len_rep]; simp
        refine ⟨_, rfl, r, a, _, _, rfl, rfl, er, har, Nat.le_of_lt (small100 (by rw [hlen]; simp; omega)), fun z hz => ?_⟩
        refine hN _ _ ⟨.ref z, rfl, s19.trans (Same.new hz _), .inr ⟨z, _, rfl, upd_same, by rw [List.length_append, hlen]; simp; omega, fun y hy => ?_, (mo % 6).toNat, x, ?_, hwx⟩⟩
        · rcases List.mem_append.mp hy with hy | hy
          · obtain ⟨l, hl, hy⟩ := List.mem_flatten.mp hy
            rw [List.eq_of_mem_replicate hl] at hy
            rw [List.mem_singleton.mp hy]
            exact ⟨"int", by simp [tyS], .int _⟩
          · rw [List.mem_singleton.mp hy]
            exact hxr.same (Same.new hz _)
        · rw [List.getElem?_append_right (by rw [hlen]; exact Nat.le_refl _), hlen, Nat.sub_self]; rfl
    rintro σ H8 ⟨v, rfl, s8, hb⟩
    obtain ⟨d, ed, hd⟩ : ∃ d : Nat, wi / 9 % 10 = (d : Int) ∧ d < 10 := ⟨(wi / 9 % 10).toNat, by omega, by omega⟩
    refine ⟨_, rfl, _, _, rfl, rfl, ⟨by decide, by decide⟩, _, _, rfl, rfl, (by show (0 : Int) < 10; decide), ?_⟩
    dsimp only
    rw [ed]
    refine ⟨_, rfl, rfl, _, rfl, ite2 (fun _ => ?_) (fun hne => ?_)⟩
    · exact ⟨_, rfl, v, .non, .non, rfl, hb, fun H9 s9 => k H9 (s8.trans s9)⟩
    refine ⟨by show 9 ≤ sizeLine; decide, fun F hF => ?_⟩
    have sF := Same.new hF (.lst [.ref f0, .ref f1, .ref f2, .ref f3, .ref f4, .ref f5, .ref f6, .ref f7, .ref f8])
    have hbF := hb.same sF
    have kF : ∀ H', Same (upd H8 F (.lst [.ref f0, .ref f1, .ref f2, .ref f3, .ref f4, .ref f5, .ref f6, .ref f7, .ref f8])) H' → E (.ref C) none H' := fun H9 s9 => k H9 ((s8.trans sF).trans s9)
    match d, hd with
    | 0, _ => exact ⟨_, rfl, F, _, _, _, rfl, rfl, SqL.of upd_same, rfl, _, _, _, _, _, rfl, G0, hr.mono (by decide), k0, b0, _, rfl, v, rfl, hbF, kF⟩
    | 1, _ => exact ⟨_, rfl, F, _, _, _, rfl, rfl, SqL.of upd_same, rfl, _, _, _, _, _, rfl, G1, hr.mono (by decide), k1, b1, _, rfl, v, rfl, hbF, kF⟩
    | 2, _ => exact ⟨_, rfl, F, _, _, _, rfl, rfl, SqL.of upd_same, rfl, _, _, _, _, _, rfl, G2, hr.mono (by decide), k2, b2, _, rfl, v, rfl, hbF, kF⟩
    | 3, _ => exact ⟨_, rfl, F, _, _, _, rfl, rfl, SqL.of upd_same, rfl, _, _, _, _, _, rfl, G3, hr.mono (by decide), k3, b3, _, rfl, v, rfl, hbF, kF⟩
    | 4, _ => exact ⟨_, rfl, F, _, _, _, rfl, rfl, SqL.of upd_same, rfl, _, _, _, _, _, rfl, G4, hr.mono (by decide), k4, b4, _, rfl, v, rfl, hbF, kF⟩
    | 5, _ => exact ⟨_, rfl, F, _, _, _, rfl, rfl, SqL.of upd_same, rfl, _, _, _, _, _, rfl, G5, hr.mono (by decide), k5, b5, _, rfl, v, rfl, hbF, kF⟩
    | 6, _ => exact ⟨_, rfl, F, _, _, _, rfl, rfl, SqL.of upd_same, rfl, _, _, _, _, _, rfl, G6, hr.mono (by decide), k6, b6, _, rfl, v, rfl, hbF, kF⟩
    | 7, _ => exact ⟨_, rfl, F, _, _, _, rfl, rfl, SqL.of upd_same, rfl, _, _, _, _, _, rfl, G7, hr.mono (by decide), k7, b7, _, rfl, v, rfl, hbF, kF⟩
    | 8, _ => exact ⟨_, rfl, F, _, _, _, rfl, rfl, SqL.of upd_same, rfl, _, _, _, _, _, rfl, G8, hr.mono (by decide), k8, b8, _, rfl, v, rfl, hbF, kF⟩
    | 9, _ => exact absurd rfl hne
end
end Sky

namespace Sky
open PySem L2
section
variable {P : Program} {w : World} {K : PySem.W.Frag} {mg : Str → Option Value} {base : Heap}
seal L2.PS L2.PSs L2.PE L2.PA L2.PT
theorem scAskP : FnScope ["_law_which", "_law_more", "_law_bad"] ["_law_which", "_law_more"] (defScope sAskP) := ⟨rfl, rfl, rfl, by decide +kernel, rfl, by decide +kernel, by decide +kernel⟩
theorem ok_askP {f C : Addr} {fd : FuncData} (F : Fun K "_law_places_asked" "_law_places_asked" sAskP f fd) (B : Blt mg) (cS : CalleeX P w K mg base 4 "sees" ["bars", "one", "other"] (spSeesP K C)) : FnOk P w K mg base (CX1 P w) 5 f fd ["_law_which", "_law_more"] (spAsk C) := by
  refine F.okx scAskP (fun vs H Q E h => ?_) (fun cdv A outer s H vs Q E hr h => ?_)
  · obtain ⟨wi, mo, rfl, _⟩ := h
    rfl
  · obtain ⟨wi, mo, rfl, hw, hm, hm2, k⟩ := h
    refine ⟨_, (pss_cons (ps_set (i := 2) scAskP.nd rfl (Or.inl rfl) (pe_ix ix_list (by exact (pe_lst (pa_cons (pe_tup (pa_cons pe_non (pa_cons pe_int pa_nil))) (pa_cons (pe_tup (pa_cons pe_int (pa_cons pe_str pa_nil))) (pa_cons (pe_tup (pa_cons (pe_op op_sub (pe_un un_neg pe_int) (pv 1)) (pa_cons pe_int pa_nil))) (pa_cons (pe_tup (pa_cons pe_int (pa_cons (pe_op op_add pe_int (pv 1)) pa_nil))) (pa_cons (pe_tup (pa_cons pe_int (pa_cons pe_int pa_nil))) (pa_cons (pe_tup (pa_cons pe_bl (pa_cons pe_int pa_nil))) (pa_cons (pe_tup (pa_cons pe_int (pa_cons pe_bl pa_nil))) (pa_cons (pe_tup (pa_cons (pe_tup (pa_cons pe_int pa_nil)) (pa_cons pe_int pa_nil))) pa_nil)))))))))) (pe_op op_mod (pv 0) pe_int) (fun _ _ => rfl)))
      (pss_one (ps_ret (pe_fnx cS cx_pass hr rfl (pa_cons (pe_lst (pa_cons pe_int (pa_cons pe_int (pa_cons pe_int pa_nil)))) (pa_cons (pe_ix ix_tup (pv 2) pe_int (fun _ _ => rfl)) (pa_cons (pe_ix ix_tup (pv 2) pe_int (fun _ _ => rfl)) pa_nil))))))), ?_⟩
    refine ⟨by show 2 ≤ sizeLine; decide, fun t1 g1 => ?_⟩
    have s1 := Same.new g1 (.tup [.non, .int 0])
    have e1 : upd H t1 (.tup [.non, .int 0]) t1 = some (.tup [.non, .int 0]) := upd_same
    generalize upd H t1 (.tup [.non, .int 0]) = H1 at s1 e1
    refine ⟨by show 2 ≤ sizeLine; decide, fun t2 g2 => ?_⟩
    have s2 := Same.new g2 (.tup [.int 0, .str "1"])
    have e2 : upd H1 t2 (.tup [.int 0, .str "1"]) t2 = some (.tup [.int 0, .str "1"]) := upd_same
    generalize upd H1 t2 (.tup [.int 0, .str "1"]) = H2 at s2 e2
    refine ⟨_, rfl, _, rfl, _, _, rfl, rfl, by show 2 ≤ sizeLine; decide, fun t3 g3 => ?_⟩
    have s3 := Same.new g3 (.tup [.int (-1 - mo), .int 0])
    have e3 : upd H2 t3 (.tup [.int (-1 - mo), .int 0]) t3 = some (.tup [.int (-1 - mo), .int 0]) := upd_same
    generalize upd H2 t3 (.tup [.int (-1 - mo), .int 0]) = H3 at s3 e3
    refine ⟨_, rfl, _, _, rfl, rfl, by show 2 ≤ sizeLine; decide, fun t4 g4 => ?_⟩
    have s4 := Same.new g4 (.tup [.int 0, .int (3 + mo)])
    have e4 : upd H3 t4 (.tup [.int 0, .int (3 + mo)]) t4 = some (.tup [.int 0, .int (3 + mo)]) := upd_same
    generalize upd H3 t4 (.tup [.int 0, .int (3 + mo)]) = H4 at s4 e4
    refine ⟨by show 2 ≤ sizeLine; decide, fun t5 g5 => ?_⟩
    have s5 := Same.new g5 (.tup [.int 1, .int 1])
    have e5 : upd H4 t5 (.tup [.int 1, .int 1]) t5 = some (.tup [.int 1, .int 1]) := upd_same
    generalize upd H4 t5 (.tup [.int 1, .int 1]) = H5 at s5 e5
    refine ⟨by show 2 ≤ sizeLine; decide, fun t6 g6 => ?_⟩
    have s6 := Same.new g6 (.tup [.bl true, .int 0])
    have e6 : upd H5 t6 (.tup [.bl true, .int 0]) t6 = some (.tup [.bl true, .int 0]) := upd_same
    generalize upd H5 t6 (.tup [.bl true, .int 0]) = H6 at s6 e6
    refine ⟨by show 2 ≤ sizeLine; decide, fun t7 g7 => ?_⟩
    have s7 := Same.new g7 (.tup [.int 0, .bl true])
    have e7 : upd H6 t7 (.tup [.int 0, .bl true]) t7 = some (.tup [.int 0, .bl true]) := upd_same
    generalize upd H6 t7 (.tup [.int 0, .bl true]) = H7 at s7 e7
    refine ⟨by show 1 ≤ sizeLine; decide, fun t0 g0 => ?_⟩
    have s8 := Same.new g0 (.tup [.int 0])
    have e0 : upd H7 t0 (.tup [.int 0]) t0 = some (.tup [.int 0]) := upd_same
    generalize upd H7 t0 (.tup [.int 0]) = H8 at s8 e0
    refine ⟨by show 2 ≤ sizeLine; decide, fun t8 g8 => ?_⟩
    have s9 := Same.new g8 (.tup [.ref t0, .int 1])
    have e8 : upd H8 t8 (.tup [.ref t0, .int 1]) t8 = some (.tup [.ref t0, .int 1]) := upd_same
    generalize upd H8 t8 (.tup [.ref t0, .int 1]) = H9 at s9 e8
    refine ⟨by show 8 ≤ sizeLine; decide, fun L hL => ?_⟩
    have s10 := Same.new hL (.lst [.ref t1, .ref t2, .ref t3, .ref t4, .ref t5, .ref t6, .ref t7, .ref t8])
    have eL : upd H9 L (.lst [.ref t1, .ref t2, .ref t3, .ref t4, .ref t5, .ref t6, .ref t7, .ref t8]) L = some (.lst [.ref t1, .ref t2, .ref t3, .ref t4, .ref t5, .ref t6, .ref t7, .ref t8]) := upd_same
    generalize upd H9 L (.lst [.ref t1, .ref t2, .ref t3, .ref t4, .ref t5, .ref t6, .ref t7, .ref t8]) = Hx at s10 eL
    have r9 := s9.trans s10
    have r8 := s8.trans r9
    have r7 := s7.trans r8
    have r6 := s6.trans r7
    have r5 := s5.trans r6
    have r4 := s4.trans r5
    have r3 := s3.trans r4
    have r2 := s2.trans r3
    have r1 := s1.trans r2
    obtain ⟨j, ej, hj⟩ : ∃ j : Nat, wi % 8 = (j : Int) ∧ j < 8 := ⟨(wi % 8).toNat, by omega, by omega⟩
    have kn : Kd K Hx .non := ⟨_, by simp [tyS], .non⟩
    have ki : ∀ z, Kd K Hx (.int z) := fun z => ⟨"int", by simp [tyS], .int _⟩
    have ks : ∀ z, Kd K Hx (.str z) := fun z => ⟨"str", by simp [tyS], .str _⟩
    have kb : ∀ z, Kd K Hx (.bl z) := fun z => ⟨"bool", by simp [tyS], .bl _⟩
    have cand : ∃ tt x y, atI [V.ref t1, .ref t2, .ref t3, .ref t4, .ref t5, .ref t6, .ref t7, .ref t8] (j : Int) = some (.ref tt) ∧ Hx tt = some (.tup [x, y]) ∧ Kd K Hx x ∧ Kd K Hx y ∧ BadTwo 3 x y := by
      match j, hj with
      | 0, _ => exact ⟨_, _, _, rfl, r2 _ _ e1, kn, ki _, .inl rfl⟩
      | 1, _ => exact ⟨_, _, _, rfl, r3 _ _ e2, ki _, ks _, .inr (.inl rfl)⟩
      | 2, _ => exact ⟨_, _, _, rfl, r4 _ _ e3, ki _, ki _, .inl (decide_eq_false (by omega))⟩
      | 3, _ => exact ⟨_, _, _, rfl, r5 _ _ e4, ki _, ki _, .inr (.inl (decide_eq_false (by omega)))⟩
      | 4, _ => exact ⟨_, _, _, rfl, r6 _ _ e5, ki _, ki _, .inr (.inr ⟨1, rfl, rfl⟩)⟩
      | 5, _ => exact ⟨_, _, _, rfl, r7 _ _ e6, kb _, ki _, .inl rfl⟩
      | 6, _ => exact ⟨_, _, _, rfl, r8 _ _ e7, ki _, kb _, .inr (.inl rfl)⟩
      | 7, _ => exact ⟨_, _, _, rfl, s10 _ _ e8, ⟨"tuple", by simp [tyS], .tup (r9 _ _ e0)⟩, ki _, .inl rfl⟩
    obtain ⟨tt, x, y, hv, htt, hx, hy, hb⟩ := cand
    refine ⟨_, rfl, _, _, rfl, rfl, (by show (0 : Int) < 8; decide), L, _, _, _, rfl, rfl, SqL.of eL, by rw [ej]; exact hv, ?_⟩
    refine ⟨by show 3 ≤ sizeLine; decide, fun b hb0 => ?_⟩
    have sb := Same.new hb0 (.lst [.int 3, .int 1, .int 2])
    have eb : IL (upd Hx b (.lst [.int 3, .int 1, .int 2])) b [3, 1, 2] := upd_same
    generalize upd Hx b (.lst [.int 3, .int 1, .int 2]) = Hy at sb eb
    refine ⟨_, rfl, tt, _, _, _, rfl, rfl, SqT.of (sb _ _ htt), rfl, ?_⟩
    refine ⟨_, rfl, tt, _, _, _, rfl, rfl, SqT.of (sb _ _ htt), rfl, ?_⟩
    exact ⟨b, [3, 1, 2], x, y, rfl, eb, ⟨by decide, fun z hz => by simp at hz; omega⟩, hx.same sb, hy.same sb, hb, fun H' s' => k H' ((r1.trans sb).trans s')⟩
end
end Sky

namespace Sky
open PySem L2
section
variable {P : Program} {w : World} {K : PySem.W.Frag} {mg : Str → Option Value} {base : Heap}
seal L2.PS L2.PSs L2.PE L2.PA L2.PT
theorem scAskT : FnScope ["_law_which", "_law_more", "_law_bad"] ["_law_which", "_law_more"] (defScope sAskT) := ⟨rfl, rfl, rfl, by decide +kernel, rfl, by decide +kernel, by decide +kernel⟩
theorem ok_askT {f C : Addr} {fd : FuncData} (F : Fun K "_law_trees_asked" "_law_trees_asked" sAskT f fd) (B : Blt mg) (cO : CalleeX P w K mg base 4 "bars_of" ["parents"] (spOr (spBad K okPv C) (spBarsOf7 C))) : FnOk P w K mg base (CX1 P w) 5 f fd ["_law_which", "_law_more"] (spAsk C) := by
  refine F.okx scAskT (fun vs H Q E h => ?_) (fun cdv A outer s H vs Q E hr h => ?_)
  · obtain ⟨wi, mo, rfl, _⟩ := h
    rfl
  · obtain ⟨wi, mo, rfl, hw, hm, hm2, k⟩ := h
    refine ⟨_, (pss_cons (ps_set (i := 2) scAskT.nd rfl (Or.inl rfl) (pe_ix ix_list (by exact (pe_lst (pa_cons pe_non (pa_cons (pe_tup pa_nil) (pa_cons pe_str (pa_cons pe_int (pa_cons (pe_lst (pa_cons pe_int pa_nil)) (pa_cons (pe_lst (pa_cons (pe_un un_neg pe_int) (pa_cons (pe_op op_add pe_int (pv 1)) pa_nil))) (pa_cons (pe_lst (pa_cons (pe_op op_sub (pe_un un_neg pe_int) (pv 1)) pa_nil)) (pa_cons (pe_lst (pa_cons pe_bl pa_nil)) (pa_cons (pe_lst (pa_cons (pe_un un_neg pe_int) (pa_cons (pe_un un_neg pe_int) pa_nil))) (pa_cons (pe_lst (pa_cons pe_int (pa_cons pe_int pa_nil))) pa_nil)))))))))))) (pe_op op_mod (pv 0) pe_int) (fun _ _ => rfl)))
      (pss_one (ps_ret (pe_fnx cO cx_pass hr rfl (pa_cons (pv 2) pa_nil))))), ?_⟩
    refine ⟨Nat.zero_le _, fun t0 g0 => ?_⟩
    have s1 := Same.new g0 (.tup [])
    have e0 : upd H t0 (.tup []) t0 = some (.tup []) := upd_same
    generalize upd H t0 (.tup []) = H1 at s1 e0
    refine ⟨by show 1 ≤ sizeLine; decide, fun l1 g1 => ?_⟩
    have s2 := Same.new g1 (.lst [.int 0])
    have e1 : upd H1 l1 (.lst [.int 0]) l1 = some (.lst [.int 0]) := upd_same
    generalize upd H1 l1 (.lst [.int 0]) = H2 at s2 e1
    refine ⟨_, rfl, _, rfl, _, _, rfl, rfl, by show 2 ≤ sizeLine; decide, fun l2 g2 => ?_⟩
    have s3 := Same.new g2 (.lst [.int (-1), .int (2 + mo)])
    have e2 : upd H2 l2 (.lst [.int (-1), .int (2 + mo)]) l2 = some (.lst [.int (-1), .int (2 + mo)]) := upd_same
    generalize upd H2 l2 (.lst [.int (-1), .int (2 + mo)]) = H3 at s3 e2
    refine ⟨_, rfl, _, rfl, _, _, rfl, rfl, by show 1 ≤ sizeLine; decide, fun l3 g3 => ?_⟩
    have s4 := Same.new g3 (.lst [.int (-2 - mo)])
    have e3 : upd H3 l3 (.lst [.int (-2 - mo)]) l3 = some (.lst [.int (-2 - mo)]) := upd_same
    generalize upd H3 l3 (.lst [.int (-2 - mo)]) = H4 at s4 e3
    refine ⟨by show 1 ≤ sizeLine; decide, fun l4 g4 => ?_⟩
    have s5 := Same.new g4 (.lst [.bl true])
    have e4 : upd H4 l4 (.lst [.bl true]) l4 = some (.lst [.bl true]) := upd_same
    generalize upd H4 l4 (.lst [.bl true]) = H5 at s5 e4
    refine ⟨_, rfl, _, rfl, by show 2 ≤ sizeLine; decide, fun l5 g5 => ?_⟩
    have s6 := Same.new g5 (.lst [.int (-1), .int (-1)])
    have e5 : upd H5 l5 (.lst [.int (-1), .int (-1)]) l5 = some (.lst [.int (-1), .int (-1)]) := upd_same
    generalize upd H5 l5 (.lst [.int (-1), .int (-1)]) = H6 at s6 e5
    refine ⟨by show 2 ≤ sizeLine; decide, fun l6 g6 => ?_⟩
    have s7 := Same.new g6 (.lst [.int 1, .int 0])
    have e6 : upd H6 l6 (.lst [.int 1, .int 0]) l6 = some (.lst [.int 1, .int 0]) := upd_same
    generalize upd H6 l6 (.lst [.int 1, .int 0]) = H7 at s7 e6
    refine ⟨by show 10 ≤ sizeLine; decide, fun L hL => ?_⟩
    have s8 := Same.new hL (.lst [.non, .ref t0, .str "", .int 5, .ref l1, .ref l2, .ref l3, .ref l4, .ref l5, .ref l6])
    have eL : upd H7 L (.lst [.non, .ref t0, .str "", .int 5, .ref l1, .ref l2, .ref l3, .ref l4, .ref l5, .ref l6]) L = some (.lst [.non, .ref t0, .str "", .int 5, .ref l1, .ref l2, .ref l3, .ref l4, .ref l5, .ref l6]) := upd_same
    generalize upd H7 L (.lst [.non, .ref t0, .str "", .int 5, .ref l1, .ref l2, .ref l3, .ref l4, .ref l5, .ref l6]) = Hx at s8 eL
    have r7 := s7.trans s8
    have r6 := s6.trans r7
    have r5 := s5.trans r6
    have r4 := s4.trans r5
    have r3 := s3.trans r4
    have r2 := s2.trans r3
    have r1 := s1.trans r2
    obtain ⟨j, ej, hj⟩ : ∃ j : Nat, wi % 10 = (j : Int) ∧ j < 10 := ⟨(wi % 10).toNat, by omega, by omega⟩
    have ki : ∀ z, Kd K Hx (.int z) := fun z => ⟨"int", by simp [tyS], .int _⟩
    have kb : ∀ z, Kd K Hx (.bl z) := fun z => ⟨"bool", by simp [tyS], .bl _⟩
    have cand : ∃ v, atI ([V.non, .ref t0, .str "", .int 5, .ref l1, .ref l2, .ref l3, .ref l4, .ref l5, .ref l6]) (j : Int) = some v ∧ (BadB K Hx okPv v ∨ ∃ a P, v = .ref a ∧ IL Hx a P ∧ P.length ≤ 100 ∧ PV P ∧ ∀ D, IsDep P D → treeL D ≠ P) := by
      match j, hj with
      | 0, _ => exact ⟨_, rfl, .inl (.inl ⟨_, by simp [tyS], .non⟩)⟩
      | 1, _ => exact ⟨_, rfl, .inl (.inl ⟨"tuple", by simp [tyS], .tup (r2 _ _ e0)⟩)⟩
      | 2, _ => exact ⟨_, rfl, .inl (.inl ⟨"str", by simp [tyS], .str _⟩)⟩
      | 3, _ => exact ⟨_, rfl, .inl (.inl (ki _))⟩
      | 4, _ => exact ⟨_, rfl, .inr ⟨l1, [0], rfl, r3 _ _ e1, by decide, fun i hi => by (match i, hi with | 0, _ => exact ⟨by decide, by decide⟩), fun D hD => not_tree (i := 0) (by decide) no_dep0 hD⟩⟩
      | 5, _ => exact ⟨_, rfl, .inl (.inr ⟨l2, _, rfl, r4 _ _ e2, by show 2 ≤ 100; decide, fun x hx => by simp at hx; rcases hx with rfl | rfl <;> exact ki _, 1, _, rfl, decide_eq_false (by show ¬ (_ ∧ 2 + mo ≤ (2 : Int) - 1); omega)⟩)⟩
      | 6, _ => exact ⟨_, rfl, .inl (.inr ⟨l3, _, rfl, r5 _ _ e3, by show 1 ≤ 100; decide, fun x hx => by simp at hx; subst hx; exact ki _, 0, _, rfl, decide_eq_false (by show ¬ (-1 ≤ -2 - mo ∧ _); omega)⟩)⟩
      | 7, _ => exact ⟨_, rfl, .inl (.inr ⟨l4, _, rfl, r6 _ _ e4, by show 1 ≤ 100; decide, fun x hx => by simp at hx; subst hx; exact kb _, 0, _, rfl, rfl⟩)⟩
      | 8, _ => exact ⟨_, rfl, .inr ⟨l5, [-1, -1], rfl, r7 _ _ e5, by decide, fun i hi => by (match i, hi with | 0, _ => exact ⟨by decide, by decide⟩ | 1, _ => exact ⟨by decide, by decide⟩), fun D hD => no_tree11 hD⟩⟩
      | 9, _ => exact ⟨_, rfl, .inr ⟨l6, [1, 0], rfl, s8 _ _ e6, by decide, fun i hi => by (match i, hi with | 0, _ => exact ⟨by decide, by decide⟩ | 1, _ => exact ⟨by decide, by decide⟩), fun D hD => not_tree (i := 0) (by decide) (fun d => (no_dep10 d).1) hD⟩⟩
    obtain ⟨v, hv, hc⟩ := cand
    refine ⟨_, rfl, _, _, rfl, rfl, (by show (0 : Int) < 10; decide), L, _, _, _, rfl, rfl, SqL.of eL, by rw [ej]; exact hv, ?_⟩
    rcases hc with hb | ⟨a, P, rfl, hP, hl, hpv, hno⟩
    · exact ⟨_, rfl, .inl ⟨v, rfl, hb, fun H' s' => k H' (r1.trans s')⟩⟩
    · exact ⟨_, rfl, .inr ⟨a, P, rfl, hP, hl, hpv, fun D hD => ⟨fun z => absurd z (hno D hD), fun _ H' s' => k H' (r1.trans s')⟩⟩⟩
end
end Sky

namespace Sky
open PySem L2
section
variable {P : Program} {w : World} {K : PySem.W.Frag} {mg : Str → Option Value} {base : Heap}
seal L2.PS L2.PSs L2.PE L2.PA L2.PT
theorem scAskL : FnScope ["_law_which", "_law_more", "_law_good", "_law_bad"] ["_law_which", "_law_more"] (defScope sAskL) := ⟨rfl, rfl, rfl, by decide +kernel, rfl, by decide +kernel, by decide +kernel⟩
theorem ok_askL {f C : Addr} {fd : FuncData} (F : Fun K "_law_links_asked" "_law_links_asked" sAskL f fd) (B : Blt mg) (cO : CalleeX P w K mg base 5 "row_of" ["links"] (spBad K okLv C)) : FnOk P w K mg base (CX1 P w) 6 f fd ["_law_which", "_law_more"] (spAsk C) := by
  refine F.okx scAskL (fun vs H Q E h => ?_) (fun cdv A outer s H vs Q E hr h => ?_)
  · obtain ⟨wi, mo, rfl, _⟩ := h
    rfl
  · obtain ⟨wi, mo, rfl, hw, hm, hm2, k⟩ := h
    refine ⟨_, (pss_cons (ps_lc (i := 2) (cap := []) ["_law_place"] rfl (CompOk.of (defScope sAskL) ["_law_which", "_law_more", "_law_good", "_law_bad"] rfl rfl (by decide +kernel)) scAskL.nd rfl (Or.inl rfl) (pi_range1 rfl B.range (pa_cons (pe_op op_mod (pv 1) pe_int) pa_nil)) (fun C s H fp => (pg_name (i := 0) (show List.Nodup (["_law_place"] : List Str) from by decide +kernel) rfl (Or.inl rfl))) (fun C s H fp => pf_nil)
        (fun C s H fp => (pe_op op_sub (pv 0) pe_int)) rfl)
      (pss_cons (ps_set (i := 3) scAskL.nd rfl (Or.inl rfl) (pe_ix ix_list (by exact (pe_lst (pa_cons (pe_callB call_len_seq rfl B.len PySem.boot_len (pa_cons (pv 2) pa_nil)) (pa_cons (pe_op op_add (pe_callB call_len_seq rfl B.len PySem.boot_len (pa_cons (pv 2) pa_nil)) (pv 1)) (pa_cons (pe_op op_sub (pe_un un_neg pe_int) (pv 1)) (pa_cons pe_bl (pa_cons pe_str (pa_cons pe_non pa_nil)))))))) (pe_op op_mod (pv 0) pe_int) (fun _ _ => rfl)))
      (pss_cons (ps_if (pt_cmpR op_lt (pe_op op_mod (pv 0) pe_int) pe_int (nomark _)) (pss_one (ps_ret (pe_fnx cO cx_pass hr rfl (pa_cons (pe_ix ix_list (by exact (pe_lst (pa_cons pe_non (pa_cons (pe_tup pa_nil) (pa_cons pe_str (pa_cons pe_int pa_nil)))))) (pe_op op_mod (pv 0) pe_int) (fun _ _ => rfl)) pa_nil)))) pss_nil)
      (pss_one (ps_ret (pe_fnx cO cx_pass hr rfl (pa_cons (pe_op op_cat (pe_op op_cat (pv 2) (pe_lst (pa_cons (pv 3) pa_nil))) (pv 2)) pa_nil))))))), ?_⟩
    have q0 := Int.emod_nonneg mo (show (5 : Int) ≠ 0 by decide)
    have q1 := Int.emod_lt_of_pos mo (show (0 : Int) < 5 by decide)
    obtain ⟨n, en⟩ : ∃ n : Nat, mo % 5 = (n : Int) := ⟨(mo % 5).toNat, by omega⟩
    refine ⟨_, rfl, _, _, rfl, rfl, (by show (0 : Int) < 5; decide), mo % 5, rfl, by omega, by omega, fun D hD => ?_⟩
    rw [show (mo % 5).toNat = n by omega]
    refine lc_range (fun i H2 ys => Same H H2 ∧ H2 D = some (.lst ys) ∧ ys = (List.range i).map fun j : Nat => V.int ((j : Int) - 1)) ⟨Same.new hD _, upd_same, rfl⟩ (fun i H2 ys _ h => h.2.1) ?_ ?_
    · rintro i H2 ys hi ⟨s2, hD2, rfl⟩ C s H0 fp
      refine ⟨_, rfl, _, 1, rfl, rfl, hD2, by rw [List.length_map, List.length_range]; exact small100 (by omega), s2.put hD, upd_same, ?_⟩
      rw [List.range_succ, List.map_append]
      simp
    rintro H2 ys ⟨s2, hD2, rfl⟩
    have hgl : ((List.range n).map fun j : Nat => V.int ((j : Int) - 1)).length = n := by simp
    have hgk : ∀ (H' : Hp), ∀ y ∈ ((List.range n).map fun j : Nat => V.int ((j : Int) - 1)), Kd K H' y := fun H' y hy => by
      obtain ⟨z, _, rfl⟩ := List.mem_map.mp hy
      exact ⟨"int", by simp [tyS], .int _⟩
    generalize ((List.range n).map fun j : Nat => V.int ((j : Int) - 1)) = gs at hgl hgk hD2
    refine ⟨_, rfl, D, _, rfl, .inl (SqL.of hD2), _, rfl, D, _, rfl, .inl (SqL.of hD2), _, rfl, _, _, rfl, rfl, _, rfl, _, rfl, _, _, rfl, rfl, by show 6 ≤ sizeLine; decide, fun L hL => ?_⟩
    rw [hgl]
    have s3 := s2.trans (Same.new hL (.lst [.int (n : Nat), .int ((n : Int) + mo), .int (-2 - mo), .bl true, .str "-1", .non]))
    have hD3 := (Same.new hL (.lst [.int (n : Nat), .int ((n : Int) + mo), .int (-2 - mo), .bl true, .str "-1", .non])) _ _ hD2
    have eL : upd H2 L (.lst [.int (n : Nat), .int ((n : Int) + mo), .int (-2 - mo), .bl true, .str "-1", .non]) L = some (.lst [.int (n : Nat), .int ((n : Int) + mo), .int (-2 - mo), .bl true, .str "-1", .non]) := upd_same
    generalize upd H2 L (.lst [.int (n : Nat), .int ((n : Int) + mo), .int (-2 - mo), .bl true, .str "-1", .non]) = H3 at s3 hD3 eL
    obtain ⟨j, ej, hj⟩ : ∃ j : Nat, wi % 6 = (j : Int) ∧ j < 6 := ⟨(wi % 6).toNat, by omega, by omega⟩
    have cand : ∃ v, atI [V.int (n : Nat), .int ((n : Int) + mo), .int (-2 - mo), .bl true, .str "-1", .non] (j : Int) = some v ∧ (∀ H', Kd K H' v) ∧ wh v (-1) ((n : Int) - 1) = false := by
      match j, hj with
      | 0, _ => exact ⟨_, rfl, fun _ => ⟨"int", by simp [tyS], .int _⟩, decide_eq_false (by omega)⟩
      | 1, _ => exact ⟨_, rfl, fun _ => ⟨"int", by simp [tyS], .int _⟩, decide_eq_false (by omega)⟩
      | 2, _ => exact ⟨_, rfl, fun _ => ⟨"int", by simp [tyS], .int _⟩, decide_eq_false (by omega)⟩
      | 3, _ => exact ⟨_, rfl, fun _ => ⟨"bool", by simp [tyS], .bl _⟩, rfl⟩
      | 4, _ => exact ⟨_, rfl, fun _ => ⟨"str", by simp [tyS], .str _⟩, rfl⟩
      | 5, _ => exact ⟨_, rfl, fun _ => ⟨"NoneType", by simp [tyS], .non⟩, rfl⟩
    obtain ⟨v, hv, hkv, hwv⟩ := cand
    refine ⟨_, rfl, _, _, rfl, rfl, (by show (0 : Int) < 6; decide), L, _, _, v, rfl, rfl, SqL.of eL, by rw [ej]; exact hv, ?_⟩
    refine ⟨_, rfl, _, _, rfl, rfl, (by show (0 : Int) < 10; decide), _, _, rfl, rfl, _, rfl, ite2 (fun h => ?_) (fun _ => ?_)⟩
    · have h' : wi % 10 < 4 := of_decide_eq_true h
      obtain ⟨d, ed, hd⟩ : ∃ d : Nat, wi % 10 = (d : Int) ∧ d < 4 := ⟨(wi % 10).toNat, by omega, by omega⟩
      refine ⟨Nat.zero_le _, fun t g => ⟨by show 4 ≤ sizeLine; decide, fun L2 hL2 => ?_⟩⟩
      have s4 := (s3.trans (Same.new g (.tup []))).trans (Same.new hL2 (.lst [.non, .ref t, .str "", .int 5]))
      have et : upd (upd H3 t (.tup [])) L2 (.lst [.non, .ref t, .str "", .int 5]) t = some (.tup []) := (Same.new hL2 _) _ _ upd_same
      have eL2 : upd (upd H3 t (.tup [])) L2 (.lst [.non, .ref t, .str "", .int 5]) L2 = some (.lst [.non, .ref t, .str "", .int 5]) := upd_same
      generalize upd (upd H3 t (.tup [])) L2 (.lst [.non, .ref t, .str "", .int 5]) = H4 at s4 et eL2
      have c2 : ∃ v2, atI [V.non, .ref t, .str "", .int 5] (d : Int) = some v2 ∧ Kd K H4 v2 := by
        match d, hd with
        | 0, _ => exact ⟨_, rfl, ⟨"NoneType", by simp [tyS], .non⟩⟩
        | 1, _ => exact ⟨_, rfl, ⟨"tuple", by simp [tyS], .tup et⟩⟩
        | 2, _ => exact ⟨_, rfl, ⟨"str", by simp [tyS], .str _⟩⟩
        | 3, _ => exact ⟨_, rfl, ⟨"int", by simp [tyS], .int _⟩⟩
      obtain ⟨v2, hv2, hk2⟩ := c2
      exact ⟨_, rfl, _, _, rfl, rfl, (by show (0 : Int) < 10; decide), L2, _, _, v2, rfl, rfl, SqL.of eL2, by rw [ed]; exact hv2, v2, rfl, .inl hk2, fun H' s' => k H' (s4.trans s')⟩
    refine ⟨_, rfl, _, rfl, by show 1 ≤ sizeLine; decide, fun b1 hb1 => ?_⟩
    have s4 := s3.trans (Same.new hb1 (.lst [v]))
    have hD4 := (Same.new hb1 (.lst [v])) _ _ hD3
    have eb : upd H3 b1 (.lst [v]) b1 = some (.lst [v]) := upd_same
    generalize upd H3 b1 (.lst [v]) = H4 at s4 hD4 eb
    refine ⟨D, b1, _, _, rfl, rfl, hD4, eb, Nat.le_of_lt (small100 (by rw [hgl]; simp; omega)), fun c1 hc1 => ?_⟩
    have s5 := s4.trans (Same.new hc1 (.lst (gs ++ [v])))
    have hD5 := (Same.new hc1 (.lst (gs ++ [v]))) _ _ hD4
    have ec : upd H4 c1 (.lst (gs ++ [v])) c1 = some (.lst (gs ++ [v])) := upd_same
    generalize upd H4 c1 (.lst (gs ++ [v])) = H5 at s5 hD5 ec
    refine ⟨_, rfl, c1, D, _, _, rfl, rfl, ec, hD5, Nat.le_of_lt (small100 (by rw [List.length_append, hgl]; simp; omega)), fun c2 hc2 => ?_⟩
    refine ⟨.ref c2, rfl, .inr ⟨c2, _, rfl, upd_same, by rw [List.length_append, List.length_append, hgl]; simp; omega, fun y hy => ?_, n, v, ?_, hwv⟩, fun H' s' => k H' ((s5.trans (Same.new hc2 _)).trans s')⟩
    · rcases List.mem_append.mp hy with hy | hy
      · rcases List.mem_append.mp hy with hy | hy
        · exact hgk _ y hy
        · rw [List.mem_singleton.mp hy]; exact hkv _
      · exact hgk _ y hy
    · rw [List.getElem?_append_left (by rw [List.length_append, hgl]; simp), List.getElem?_append_right (by rw [hgl]; exact Nat.le_refl _), hgl, Nat.sub_self]; rfl
end
end Sky

namespace Sky
open PySem L2
section
seal L2.PS L2.PSs L2.PE L2.PA L2.PT
variable {P : Program} {w : World} {K : PySem.W.Frag} {mg : Str → Option Value} {base : Heap}
theorem scTold : FnScope ["_law_kind", "_law_which", "_law_more", "error", "_law_found"] ["_law_kind", "_law_which", "_law_more"] (defScope sTold) := ⟨rfl, rfl, rfl, by decide +kernel, rfl, by decide +kernel, by decide +kernel⟩
theorem ok_told {f CB CN CP CT CL CE : Addr} {fd : FuncData} (F : Fun K "_law_told" "_law_told" sTold f fd) (B : Blt mg) (xB : ExC K CB) (mgB : mg "BadBars" = some (.ref CB)) (xN : ExC K CN) (mgN : mg "NoBar" = some (.ref CN)) (xP : ExC K CP) (mgP : mg "BadPlace" = some (.ref CP)) (xT : ExC K CT) (mgT : mg "BadTree" = some (.ref CT)) (xL : ExC K CL) (mgL : mg "BadLinks" = some (.ref CL)) (mgE : mg "BarError" = some (.ref CE)) (mgV : mg "ValueError" = none) (hEB : PySem.W.exmOne K (.ref CB) (.ref CE) = some true) (hEN : PySem.W.exmOne K (.ref CN) (.ref CE) = some true) (hEP : PySem.W.exmOne K (.ref CP) (.ref CE) = some true) (hET : PySem.W.exmOne K (.ref CT) (.ref CE) = some true) (hEL : PySem.W.exmOne K (.ref CL) (.ref CE) = some true) (kBB : PySem.W.kitOne K (.ref CB) (.ref CB) = some true) (kBN : PySem.W.kitOne K (.ref CB) (.ref CN) = some false) (kBP : PySem.W.kitOne K (.ref CB) (.ref CP) = some false) (kBT : PySem.W.kitOne K (.ref CB) (.ref CT) = some false) (kBL : PySem.W.kitOne K (.ref CB) (.ref CL) = some false) (kBV : PySem.W.kitOne K (.ref CB) (.type "ValueError") = some true) (kNB : PySem.W.kitOne K (.ref CN) (.ref CB) = some false) (kNN : PySem.W.kitOne K (.ref CN) (.ref CN) = some true) (kNP : PySem.W.kitOne K (.ref CN) (.ref CP) = some false) (kNT : PySem.W.kitOne K (.ref CN) (.ref CT) = some false) (kNL : PySem.W.kitOne K (.ref CN) (.ref CL) = some false) (kNV : PySem.W.kitOne K (.ref CN) (.type "ValueError") = some true) (kPB : PySem.W.kitOne K (.ref CP) (.ref CB) = some false) (kPN : PySem.W.kitOne K (.ref CP) (.ref CN) = some false) (kPP : PySem.W.kitOne K (.ref CP) (.ref CP) = some true) (kPT : PySem.W.kitOne K (.ref CP) (.ref CT) = some false) (kPL : PySem.W.kitOne K (.ref CP) (.ref CL) = some false) (kPV : PySem.W.kitOne K (.ref CP) (.type "ValueError") = some true) (kTB : PySem.W.kitOne K (.ref CT) (.ref CB) = some false) (kTN : PySem.W.kitOne K (.ref CT) (.ref CN) = some false) (kTP : PySem.W.kitOne K (.ref CT) (.ref CP) = some false) (kTT : PySem.W.kitOne K (.ref CT) (.ref CT) = some true) (kTL : PySem.W.kitOne K (.ref CT) (.ref CL) = some false) (kTV : PySem.W.kitOne K (.ref CT) (.type "ValueError") = some true) (kLB : PySem.W.kitOne K (.ref CL) (.ref CB) = some false) (kLN : PySem.W.kitOne K (.ref CL) (.ref CN) = some false) (kLP : PySem.W.kitOne K (.ref CL) (.ref CP) = some false) (kLT : PySem.W.kitOne K (.ref CL) (.ref CT) = some false) (kLL : PySem.W.kitOne K (.ref CL) (.ref CL) = some true) (kLV : PySem.W.kitOne K (.ref CL) (.type "ValueError") = some true) (cB : CalleeX P w K mg base 7 "_law_bars_asked" ["_law_which", "_law_more"] (spAsk CB)) (cN : CalleeX P w K mg base 5 "board" ["bars"] (spBoard0 CN)) (cP : CalleeX P w K mg base 5 "_law_places_asked" ["_law_which", "_law_more"] (spAsk CP)) (cT : CalleeX P w K mg base 5 "_law_trees_asked" ["_law_which", "_law_more"] (spAsk CT)) (cL : CalleeX P w K mg base 6 "_law_links_asked" ["_law_which", "_law_more"] (spAsk CL)) : FnOk P w K mg base CX0 8 f fd ["_law_kind", "_law_which", "_law_more"] spTold := by
  refine F.ok scTold (fun vs H Q E h => ?_) (fun cdv A outer s H vs Q E hr h => ?_)
  · obtain ⟨c, wi, mo, rfl, _⟩ := h
    rfl
  · obtain ⟨c, wi, mo, rfl, hc, hw, hm, hm2, k⟩ := h
    refine' ⟨_, (pss_cons (ps_try (i := 3) (PC := fun C => C = CB ∨ C = CN ∨ C = CP ∨ C = CT ∨ C = CL) rfl rfl rfl scTold.nd rfl rfl rfl mgE rfl (fun pn xe E hp => (pss_one (ps_if (pt_cmpR op_eq (pv 0) pe_int (nomark _)) (pss_one (ps_expr (pe_fnx cB hp (hr.mono (by decide)) rfl (pa_cons (pv 1) (pa_cons (pv 2) pa_nil))))) (pss_one (ps_if (pt_cmpR op_eq (pv 0) pe_int (nomark _)) (pss_one (ps_expr (pe_fnx cN hp (hr.mono (by decide)) rfl (pa_cons (pe_lst pa_nil) pa_nil)))) (pss_one (ps_if (pt_cmpR op_eq (pv 0) pe_int (nomark _)) (pss_one (ps_expr (pe_fnx cP hp (hr.mono (by decide)) rfl (pa_cons (pv 1) (pa_cons (pv 2) pa_nil))))) (pss_one (ps_if (pt_cmpR op_eq (pv 0) pe_int (nomark _)) (pss_one (ps_expr (pe_fnx cT hp (hr.mono (by decide)) rfl (pa_cons (pv 1) (pa_cons (pv 2) pa_nil))))) (pss_one (ps_expr (pe_fnx cL hp (hr.mono (by decide)) rfl (pa_cons (pv 1) (pa_cons (pv 2) pa_nil))))))))))))))
        (fun ea C oe pn H0 hm hC ct => ?su)) (pss_one (ps_ret (pe_lst pa_nil)))), ?_⟩
    case su =>
      have xC : PySem.W.ExcC K C := by
        rcases hC with rfl | rfl | rfl | rfl | rfl
        · exact xB.asks
        · exact xN.asks
        · exact xP.asks
        · exact xT.asks
        · exact xL.asks
      have ie := call_isexc (X := Cx.su (cxOf CX0 P w K mg base ["_law_kind", "_law_which", "_law_more", "error", "_law_found"] "_law_told" (defScope sTold) f cdv A outer s H E).nox ea pn) hm xC ct.cls ct.dict ct.no
      exact (pss_cons (ps_set (i := 4) scTold.nd rfl (Or.inl rfl) (pe_lst (pa_cons (pe_callB ie rfl B.isinstance boot_isinst' (pa_cons (pv 3) (pa_cons (pe_glob rfl mgB (v := .ref CB) rfl) pa_nil))) (pa_cons (pe_callB ie rfl B.isinstance boot_isinst' (pa_cons (pv 3) (pa_cons (pe_glob rfl mgN (v := .ref CN) rfl) pa_nil))) (pa_cons (pe_callB ie rfl B.isinstance boot_isinst' (pa_cons (pv 3) (pa_cons (pe_glob rfl mgP (v := .ref CP) rfl) pa_nil))) pa_nil)))))
        (pss_one (ps_ret (pe_op op_cat (pv 4) (by exact (pe_lst (pa_cons (pe_callB ie rfl B.isinstance boot_isinst' (pa_cons (pv 3) (pa_cons (pe_glob rfl mgT (v := .ref CT) rfl) pa_nil))) (pa_cons (pe_callB ie rfl B.isinstance boot_isinst' (pa_cons (pv 3) (pa_cons (pe_glob rfl mgL (v := .ref CL) rfl) pa_nil))) (pa_cons (pe_callB ie rfl B.isinstance boot_isinst' (pa_cons (pv 3) (pa_cons (pe_bltn rfl mgV PyProof.Rows.Boot.«ValueError» (v := .ty "ValueError") rfl) pa_nil))) pa_nil)))))))))
    match c, hc with
    | 0, _ =>
      refine ⟨_, rfl, rfl, _, rfl, iteE rfl ⟨_, rfl, _, rfl, wi, mo, rfl, hw, hm, hm2, fun H1 s1 => ⟨CB, rfl, .inl rfl, hEB, fun ea pn hea => ?_⟩⟩⟩
      refine ⟨_, rfl, _, _, _, rfl, rfl, kBB, _, rfl, _, _, _, rfl, rfl, kBN, _, rfl, _, _, _, rfl, rfl, kBP, by show 3 ≤ sizeLine; decide, fun l1 g1 => ?_⟩
      have s2 := s1.trans (Same.new g1 (.lst [.bl true, .bl false, .bl false]))
      have e1 : upd H1 l1 (.lst [.bl true, .bl false, .bl false]) l1 = some (.lst [.bl true, .bl false, .bl false]) := upd_same
      generalize upd H1 l1 (.lst [.bl true, .bl false, .bl false]) = H2 at s2 e1
      refine ⟨_, rfl, _, rfl, _, _, _, rfl, rfl, kBT, _, rfl, _, _, _, rfl, rfl, kBL, _, rfl, _, _, _, rfl, rfl, kBV, by show 3 ≤ sizeLine; decide, fun l2 g2 => ⟨l1, l2, _, _, rfl, rfl, (Same.new g2 _) _ _ e1, upd_same, by show 6 ≤ sizeLine; decide, fun z hz => ?_⟩⟩
      exact k z _ ((s2.trans (Same.new g2 _)).free hz) ((s2.trans (Same.new g2 _)).trans (Same.new hz _)) upd_same
    | 1, _ =>
      refine ⟨_, rfl, rfl, _, rfl, iteD (by decide) ⟨_, rfl, rfl, _, rfl, iteE rfl ⟨Nat.zero_le _, fun a ga => ⟨a, rfl, upd_same, fun H1 s0 => ⟨CN, rfl, .inr (.inl rfl), hEN, fun ea pn hea => ?_⟩⟩⟩⟩⟩
      have s1 := (Same.new ga (.lst [])).trans s0
      refine ⟨_, rfl, _, _, _, rfl, rfl, kNB, _, rfl, _, _, _, rfl, rfl, kNN, _, rfl, _, _, _, rfl, rfl, kNP, by show 3 ≤ sizeLine; decide, fun l1 g1 => ?_⟩
      have s2 := s1.trans (Same.new g1 (.lst [.bl false, .bl true, .bl false]))
      have e1 : upd H1 l1 (.lst [.bl false, .bl true, .bl false]) l1 = some (.lst [.bl false, .bl true, .bl false]) := upd_same
      generalize upd H1 l1 (.lst [.bl false, .bl true, .bl false]) = H2 at s2 e1
      refine ⟨_, rfl, _, rfl, _, _, _, rfl, rfl, kNT, _, rfl, _, _, _, rfl, rfl, kNL, _, rfl, _, _, _, rfl, rfl, kNV, by show 3 ≤ sizeLine; decide, fun l2 g2 => ⟨l1, l2, _, _, rfl, rfl, (Same.new g2 _) _ _ e1, upd_same, by show 6 ≤ sizeLine; decide, fun z hz => ?_⟩⟩
      exact k z _ ((s2.trans (Same.new g2 _)).free hz) ((s2.trans (Same.new g2 _)).trans (Same.new hz _)) upd_same
    | 2, _ =>
      refine ⟨_, rfl, rfl, _, rfl, iteD (by decide) ⟨_, rfl, rfl, _, rfl, iteD (by decide) ⟨_, rfl, rfl, _, rfl, iteE rfl ⟨_, rfl, _, rfl, wi, mo, rfl, hw, hm, hm2, fun H1 s1 => ⟨CP, rfl, .inr (.inr (.inl rfl)), hEP, fun ea pn hea => ?_⟩⟩⟩⟩⟩
      refine ⟨_, rfl, _, _, _, rfl, rfl, kPB, _, rfl, _, _, _, rfl, rfl, kPN, _, rfl, _, _, _, rfl, rfl, kPP, by show 3 ≤ sizeLine; decide, fun l1 g1 => ?_⟩
      have s2 := s1.trans (Same.new g1 (.lst [.bl false, .bl false, .bl true]))
      have e1 : upd H1 l1 (.lst [.bl false, .bl false, .bl true]) l1 = some (.lst [.bl false, .bl false, .bl true]) := upd_same
      generalize upd H1 l1 (.lst [.bl false, .bl false, .bl true]) = H2 at s2 e1
      refine ⟨_, rfl, _, rfl, _, _, _, rfl, rfl, kPT, _, rfl, _, _, _, rfl, rfl, kPL, _, rfl, _, _, _, rfl, rfl, kPV, by show 3 ≤ sizeLine; decide, fun l2 g2 => ⟨l1, l2, _, _, rfl, rfl, (Same.new g2 _) _ _ e1, upd_same, by show 6 ≤ sizeLine; decide, fun z hz => ?_⟩⟩
      exact k z _ ((s2.trans (Same.new g2 _)).free hz) ((s2.trans (Same.new g2 _)).trans (Same.new hz _)) upd_same
    | 3, _ =>
      refine ⟨_, rfl, rfl, _, rfl, iteD (by decide) ⟨_, rfl, rfl, _, rfl, iteD (by decide) ⟨_, rfl, rfl, _, rfl, iteD (by decide) ⟨_, rfl, rfl, _, rfl, iteE rfl ⟨_, rfl, _, rfl, wi, mo, rfl, hw, hm, hm2, fun H1 s1 => ⟨CT, rfl, .inr (.inr (.inr (.inl rfl))), hET, fun ea pn hea => ?_⟩⟩⟩⟩⟩⟩
      refine ⟨_, rfl, _, _, _, rfl, rfl, kTB, _, rfl, _, _, _, rfl, rfl, kTN, _, rfl, _, _, _, rfl, rfl, kTP, by show 3 ≤ sizeLine; decide, fun l1 g1 => ?_⟩
      have s2 := s1.trans (Same.new g1 (.lst [.bl false, .bl false, .bl false]))
      have e1 : upd H1 l1 (.lst [.bl false, .bl false, .bl false]) l1 = some (.lst [.bl false, .bl false, .bl false]) := upd_same
      generalize upd H1 l1 (.lst [.bl false, .bl false, .bl false]) = H2 at s2 e1
      refine ⟨_, rfl, _, rfl, _, _, _, rfl, rfl, kTT, _, rfl, _, _, _, rfl, rfl, kTL, _, rfl, _, _, _, rfl, rfl, kTV, by show 3 ≤ sizeLine; decide, fun l2 g2 => ⟨l1, l2, _, _, rfl, rfl, (Same.new g2 _) _ _ e1, upd_same, by show 6 ≤ sizeLine; decide, fun z hz => ?_⟩⟩
      exact k z _ ((s2.trans (Same.new g2 _)).free hz) ((s2.trans (Same.new g2 _)).trans (Same.new hz _)) upd_same
    | 4, _ =>
      refine ⟨_, rfl, rfl, _, rfl, iteD (by decide) ⟨_, rfl, rfl, _, rfl, iteD (by decide) ⟨_, rfl, rfl, _, rfl, iteD (by decide) ⟨_, rfl, rfl, _, rfl, iteD (by decide) ⟨_, rfl, _, rfl, wi, mo, rfl, hw, hm, hm2, fun H1 s1 => ⟨CL, rfl, .inr (.inr (.inr (.inr rfl))), hEL, fun ea pn hea => ?_⟩⟩⟩⟩⟩⟩
      refine ⟨_, rfl, _, _, _, rfl, rfl, kLB, _, rfl, _, _, _, rfl, rfl, kLN, _, rfl, _, _, _, rfl, rfl, kLP, by show 3 ≤ sizeLine; decide, fun l1 g1 => ?_⟩
      have s2 := s1.trans (Same.new g1 (.lst [.bl false, .bl false, .bl false]))
      have e1 : upd H1 l1 (.lst [.bl false, .bl false, .bl false]) l1 = some (.lst [.bl false, .bl false, .bl false]) := upd_same
      generalize upd H1 l1 (.lst [.bl false, .bl false, .bl false]) = H2 at s2 e1
      refine ⟨_, rfl, _, rfl, _, _, _, rfl, rfl, kLT, _, rfl, _, _, _, rfl, rfl, kLL, _, rfl, _, _, _, rfl, rfl, kLV, by show 3 ≤ sizeLine; decide, fun l2 g2 => ⟨l1, l2, _, _, rfl, rfl, (Same.new g2 _) _ _ e1, upd_same, by show 6 ≤ sizeLine; decide, fun z hz => ?_⟩⟩
      exact k z _ ((s2.trans (Same.new g2 _)).free hz) ((s2.trans (Same.new g2 _)).trans (Same.new hz _)) upd_same
end
end Sky

namespace Sky
open PySem L2
section
variable {P : Program} {w : World} {K : PySem.W.Frag} {mg : Str → Option Value} {base : Heap}
seal L2.PS L2.PSs L2.PE L2.PA L2.PT
theorem scLaw : FnScope ["_law_script", "_law_cell", "_law_kind", "_law_due"] ["_law_script"] (defScope sLaw) := ⟨rfl, rfl, rfl, by decide +kernel, rfl, by decide +kernel, by decide +kernel⟩
theorem ok_law {f CR CC CT : Addr} {fd : FuncData} (F : Fun K "law" "law" sLaw f fd) (B : Blt mg) (iR : IsC K CR) (mgR : mg "Row" = some (.ref CR)) (kR : PySem.W.kitOne K (.ref CR) (.ref CR) = some true) (cTo : Callee P w K mg base 8 "_law_told" ["_law_kind", "_law_which", "_law_more"] spTold) (cR : Callee P w K mg base 4 "reaches" ["bars"] spReach) (cT : Callee P w K mg base 4 "tree" ["bars"] spTree) (cL : Callee P w K mg base 4 "links" ["bars"] spLinks) (cLv : Callee P w K mg base 5 "levels" ["bars"] spLevels) (cWa : Callee P w K mg base 6 "water" ["bars"] spWater) (cRo : Callee P w K mg base 5 "row_of" ["links"] (spRowOf CR CC)) (cO : CalleeX P w K mg base 4 "bars_of" ["parents"] (spOr (spBad K okPv CT) (spBarsOf7 CT))) : FnOk P w K mg base CX0 9 f fd ["_law_script"] (spLaw K) := by
  refine F.ok scLaw (fun vs H Q E h => ?_) (fun cdv A outer s H vs Q E hr h => ?_)
  · obtain ⟨a, ns, rfl, _⟩ := h
    rfl
  · obtain ⟨a, ns, rfl, hS, hl, k⟩ := h
    have hu := hr.units
    refine ⟨_, (pss_cons (ps_for PassesOwn.never rfl (pi_list (pv 0)) (pg_name (i := 1) scLaw.nd rfl (Or.inl rfl))
      (pss_cons (ps_set (i := 2) scLaw.nd rfl (Or.inl rfl) (pe_op op_mod (pv 1) pe_int))
      (pss_cons (ps_set (i := 3) scLaw.nd rfl (Or.inl rfl) (pe_lst (pa_cons (pe_cmpR op_eq (pv 2) pe_int (nomark _)) (pa_cons (pe_cmpR op_eq (pv 2) pe_int (nomark _)) (pa_cons (pe_cmpR op_eq (pv 2) pe_int (nomark _)) (pa_cons (pe_cmpR op_eq (pv 2) pe_int (nomark _)) (pa_cons (pe_cmpR op_eq (pv 2) pe_int (nomark _)) (pa_cons pe_bl pa_nil))))))))
      (pss_one (ps_if (pt_cmpR (op_neB hu) (pe_fn cTo hr rfl (pa_cons (pv 2) (pa_cons (pe_op op_mod (pe_op op_fdiv (pv 1) pe_int) pe_int) (pa_cons (pe_op op_mod (pe_op op_fdiv (pv 1) pe_int) pe_int) pa_nil)))) (pv 3) (nomark _)) pss_never pss_nil)))))
      (pss_cons (ps_if (PW.pt (pw_or (pt_cmpR (op_neP hu) (pe_fn cR (hr.mono (by decide)) rfl (pa_cons (pe_lst pa_nil) pa_nil)) (pe_lst pa_nil) (nomark _)) (pw_or (pt_cmpR (op_neI hu) (pe_fn cT (hr.mono (by decide)) rfl (pa_cons (pe_lst pa_nil) pa_nil)) (pe_lst pa_nil) (nomark _)) (pw_or (pt_cmpR (op_neI hu) (pe_fn cL (hr.mono (by decide)) rfl (pa_cons (pe_lst pa_nil) pa_nil)) (pe_lst pa_nil) (nomark _)) (pw_or (pt_cmpR (op_neI hu) (pe_fn cLv (hr.mono (by decide)) rfl (pa_cons (pe_lst pa_nil) pa_nil)) (pe_lst pa_nil) (nomark _)) (pw_or1 (pt_cmpR op_ne (pe_fn cWa (hr.mono (by decide)) rfl (pa_cons (pe_lst pa_nil) pa_nil)) pe_int (nomark _)))))))) pss_never pss_nil)
      (pss_one (ps_ret (pe_and (pe_cmpR (op_eqP hu) (pe_fn cR (hr.mono (by decide)) rfl (pa_cons (pe_lst (pa_cons pe_int (pa_cons pe_int pa_nil))) pa_nil)) (pe_lst (pa_cons (pe_tup (pa_cons pe_int (pa_cons pe_int pa_nil))) (pa_cons (pe_tup (pa_cons pe_int (pa_cons pe_int pa_nil))) pa_nil))) (nomark _)) (pe_and (pe_callB call_isinst rfl B.isinstance boot_isinst' (pa_cons (pe_fn cRo (hr.mono (by decide)) rfl (pa_cons (pe_lst (pa_cons (pe_un un_neg pe_int) pa_nil)) pa_nil)) (pa_cons (pe_glob rfl mgR (v := .ref CR) rfl) pa_nil))) (pe_one (pe_cmpR (op_eqI hu) (pe_fnx cO pass1 (hr.mono (by decide)) rfl (pa_cons (pe_lst (pa_cons (pe_un un_neg pe_int) pa_nil)) pa_nil)) (pe_lst (pa_cons pe_int pa_nil)) (nomark _))))))))), ?_⟩
    refine ⟨_, rfl, a, rfl, ⟨_, hS⟩, for_list (K := K) (a := a) (xs := ns.map V.int) (fun i σ H2 => ∃ v1 v2 v3, σ = [some (.ref a), v1, v2, v3] ∧ Same H H2) ⟨none, none, none, rfl, Same.refl _⟩ (fun i σ H2 _ h => by obtain ⟨_, _, _, _, s2⟩ := h; exact s2.seq hS) ?_ ?_⟩
    · rintro i y σ H2 hi ⟨v1, v2, v3, rfl, s2⟩
      obtain ⟨z, rfl, hz⟩ := get_mapM hi
      obtain ⟨c, ec, hc⟩ : ∃ c : Nat, z % 5 = (c : Int) ∧ c < 5 := ⟨(z % 5).toNat, by omega, by omega⟩
      refine ⟨_, rfl, _, _, rfl, rfl, (by show (0 : Int) < 5; decide), ?_⟩
      dsimp only [gName]
      rw [ec]
      refine ⟨_, rfl, rfl, _, rfl, rfl, _, rfl, rfl, _, rfl, rfl, _, rfl, rfl, by show 6 ≤ sizeLine; decide, fun d gd => ?_⟩
      have ed : [V.bl (decide (V.int (c : Nat) = V.int 0)), V.bl (decide (V.int (c : Nat) = V.int 1)), V.bl (decide (V.int (c : Nat) = V.int 2)), V.bl (decide (V.int (c : Nat) = V.int 3)), V.bl (decide (V.int (c : Nat) = V.int 4)), V.bl true] = dueL c := by
        match c, hc with
        | 0, _ => rfl
        | 1, _ => rfl
        | 2, _ => rfl
        | 3, _ => rfl
        | 4, _ => rfl
      rw [ed]
      have s3 := s2.trans (Same.new gd (.lst (dueL c)))
      have eD : upd H2 d (.lst (dueL c)) d = some (.lst (dueL c)) := upd_same
      generalize upd H2 d (.lst (dueL c)) = H3 at s3 eD
      refine ⟨_, rfl, _, rfl, _, _, rfl, rfl, ⟨by decide, by decide⟩, _, _, rfl, rfl, (by show (0 : Int) < 100000; decide), _, rfl, _, _, rfl, rfl, ⟨by decide, by decide⟩, _, _, rfl, rfl, (by show (0 : Int) < 1000; decide), c, _, _, rfl, hc, Int.emod_nonneg _ (by decide), Int.emod_nonneg _ (by decide), Int.emod_lt_of_pos _ (by decide), fun l H4 nl s4 hL => ?_⟩
      exact ⟨_, rfl, l, d, [decide (c = 0), decide (c = 1), decide (c = 2), decide (c = 3), decide (c = 4), true], rfl, rfl, hL, s4 _ _ eD, _, rfl, iteF ⟨_, _, _, rfl, s3.trans s4⟩⟩
    rintro σ H2 ⟨v1, v2, v3, rfl, s2⟩
    have h0 : Hts [] := ⟨by decide, fun x hx => by simp at hx⟩
    refine ⟨Nat.zero_le _, fun b1 g1 => ⟨b1, [], rfl, upd_same, h0, fun l1 H3 n1 s3 hT1 => ⟨Nat.zero_le _, fun b2 g2 => ⟨l1, b2, [], [], rfl, rfl, (TL.tp (hT1.same (Same.new g2 _))), ⟨[], SqL.of upd_same, rfl, fun j p e => by simp at e⟩, _, rfl, iteNeg rfl ?_⟩⟩⟩⟩
    refine ⟨Nat.zero_le _, fun b3 g3 => ⟨b3, [], rfl, upd_same, h0, fun l3 H4 n3 s4 hL3 => ⟨Nat.zero_le _, fun b4 g4 => ⟨l3, b4, [], [], rfl, rfl, SqL.of ((Same.new g4 _) _ _ hL3), SqL.of (xs := ([] : List Int).map V.int) upd_same, _, rfl, iteNeg rfl ?_⟩⟩⟩⟩
    refine ⟨Nat.zero_le _, fun b5 g5 => ⟨b5, [], rfl, upd_same, h0, fun l5 H5 n5 s5 hL5 => ⟨Nat.zero_le _, fun b6 g6 => ⟨l5, b6, [], [], rfl, rfl, SqL.of ((Same.new g6 _) _ _ hL5), SqL.of (xs := ([] : List Int).map V.int) upd_same, _, rfl, iteNeg rfl ?_⟩⟩⟩⟩
    refine ⟨Nat.zero_le _, fun b7 g7 => ⟨b7, [], rfl, upd_same, h0, fun l7 H6 n7 s6 hL7 => ⟨Nat.zero_le _, fun b8 g8 => ⟨l7, b8, [], [], rfl, rfl, SqL.of ((Same.new g8 _) _ _ hL7), SqL.of (xs := ([] : List Int).map V.int) upd_same, _, rfl, iteNeg rfl ?_⟩⟩⟩⟩
    refine ⟨Nat.zero_le _, fun b9 g9 => ⟨b9, [], rfl, upd_same, h0, fun H7 s7 => ⟨rfl, _, rfl, iteNegF rfl ?_⟩⟩⟩
    refine ⟨by show 2 ≤ sizeLine; decide, fun c1 gc1 => ⟨c1, [0, 10000000], rfl, upd_same, ⟨by decide, fun x hx => by simp at hx; omega⟩, fun r1 H8 nr1 s8 hR1 => ?_⟩⟩
    refine ⟨by show 2 ≤ sizeLine; decide, fun p1 gp1 => ⟨by show 2 ≤ sizeLine; decide, fun p2 gp2 => ⟨by show 2 ≤ sizeLine; decide, fun q gq => ?_⟩⟩⟩
    have t1 := Same.new gp1 (.tup [.int 0, .int 1])
    have t2 := Same.new gp2 (.tup [.int 1, .int 1])
    have t3 := Same.new gq (.lst [.ref p1, .ref p2])
    refine ⟨r1, q, reachP [0, 10000000], [(0, 1), (1, 1)], rfl, rfl, TL.tp (hR1.same ((t1.trans t2).trans t3)), ⟨[p1, p2], SqL.of upd_same, rfl, fun j p e => ?_⟩, _, rfl, ?_⟩
    · match j with
      | 0 => cases Option.some.inj (show some p1 = some p from e); exact ⟨_, rfl, SqT.of ((t2.trans t3) _ _ upd_same)⟩
      | 1 => cases Option.some.inj (show some p2 = some p from e); exact ⟨_, rfl, SqT.of (t3 _ _ upd_same)⟩
      | j + 2 => simp at e
    rw [ifF]
    refine iteE (by decide) ?_
    refine ⟨_, rfl, by show 1 ≤ sizeLine; decide, fun m1 gm1 => ⟨m1, [-1], rfl, upd_same, by decide, fun i hi => by (match i, hi with | 0, _ => exact ⟨by decide, by decide⟩), fun pr dx ar H9 bs npr nar s9 hpr hbs hbl hbr hlk => ?_, fun pr dx H9 f s npr s9 hpr hcr => absurd hcr (by intro z; unfold Cross at z; simp at z; omega)⟩⟩
    refine ⟨_, _, _, _, _, rfl, iR.ty hpr, rfl, kR, true, rfl, iteT ?_⟩
    refine ⟨_, rfl, by show 1 ≤ sizeLine; decide, fun m2 gm2 => .inr ⟨m2, [-1], rfl, upd_same, by decide, fun i hi => by (match i, hi with | 0, _ => exact ⟨by decide, by decide⟩), fun D hD => ?_⟩⟩
    have hI : IsDep [-1] [0] := ⟨rfl, fun i hi => by (match i, hi with | 0, _ => exact .inl ⟨0, .root (by decide) rfl, rfl⟩)⟩
    have eDD := hD.uniq hI
    subst eDD
    refine ⟨fun _ w1 H10 nw s10 hW => ⟨by show 1 ≤ sizeLine; decide, fun w2 gw2 => ⟨w1, w2, [0], [0], rfl, rfl, SqL.of ((Same.new gw2 _) _ _ hW), SqL.of (xs := ([0] : List Int).map V.int) upd_same, ?_⟩⟩, fun z => absurd (by decide) z⟩
    exact k _
end
end Sky

namespace Sky
open PySem L2
set_option maxHeartbeats 0 in
theorem all_mk {l : PySem.W.OpenLaw} {w : World} {K : PySem.W.Frag} {h : Heap} {mg : Str → Option Value} {fa fL f_is_whole_within9 f_check_bars9 f_reaches9 f_seen_ahead9 f_shown9 f_board9 f_rims9 f_levels9 f_water9 f_links9 f_tree9 f_sees9 f__law_bars_asked f_is_whole_within f_check_bars f_reach_starts f_turned f_reach_ends f_reaches f_board0 f_is_place9 f_check_two_places9 f_sees8 f__law_places_asked f_check_parents9 f_check_parents f_depths f_parents_in_tree f_bars_of9 f__law_trees_asked f_all_below_their_places9 f_check_links9 f_row_of9 f__law_links_asked f__law_told f_tree f_nearest_lower f_links f_rims_ahead f_rims_behind f_rims f_levels f_water f_all_below_their_places f_check_links f_crossed_ahead f_row_of f_Row___init__ f_Crossed___init__ Row BadBars NoBar BadPlace BadTree BadLinks BarError Crossed : Addr} (X : K.In h) (G : h.Ns mainGlobals mg) (hfa : mg "law" = some (.ref fa))
    (d_is_whole_within9 : DefIn K "is_whole_within" sWithin f_is_whole_within9)
    (d_check_bars9 : DefIn K "check_bars" sChk f_check_bars9)
    (d_reaches9 : DefIn K "reaches" sReach f_reaches9)
    (d_seen_ahead9 : DefIn K "seen_ahead" sAhead f_seen_ahead9)
    (d_shown9 : DefIn K "shown" sShown f_shown9)
    (d_board9 : DefIn K "board" sBoard f_board9)
    (d_rims9 : DefIn K "rims" sRims f_rims9)
    (d_levels9 : DefIn K "levels" sLevels f_levels9)
    (d_water9 : DefIn K "water" sWater f_water9)
    (d_links9 : DefIn K "links" sLinks f_links9)
    (d_tree9 : DefIn K "tree" sTree f_tree9)
    (d_sees9 : DefIn K "sees" sSees f_sees9)
    (d__law_bars_asked : DefIn K "_law_bars_asked" sAskB f__law_bars_asked)
    (d_is_whole_within : DefIn K "is_whole_within" sWithin f_is_whole_within)
    (d_check_bars : DefIn K "check_bars" sChk f_check_bars)
    (d_reach_starts : DefIn K "reach_starts" sStarts f_reach_starts)
    (d_turned : DefIn K "turned" sTurned f_turned)
    (d_reach_ends : DefIn K "reach_ends" sEnds f_reach_ends)
    (d_reaches : DefIn K "reaches" sReach f_reaches)
    (d_board0 : DefIn K "board" sBoard f_board0)
    (d_is_place9 : DefIn K "is_place" sPlace f_is_place9)
    (d_check_two_places9 : DefIn K "check_two_places" sChk2 f_check_two_places9)
    (d_sees8 : DefIn K "sees" sSees f_sees8)
    (d__law_places_asked : DefIn K "_law_places_asked" sAskP f__law_places_asked)
    (d_check_parents9 : DefIn K "check_parents" sChkP f_check_parents9)
    (d_check_parents : DefIn K "check_parents" sChkP f_check_parents)
    (d_depths : DefIn K "depths" sDepths f_depths)
    (d_parents_in_tree : DefIn K "parents_in_tree" sPar f_parents_in_tree)
    (d_bars_of9 : DefIn K "bars_of" sBarsOf f_bars_of9)
    (d__law_trees_asked : DefIn K "_law_trees_asked" sAskT f__law_trees_asked)
    (d_all_below_their_places9 : DefIn K "all_below_their_places" sBelow f_all_below_their_places9)
    (d_check_links9 : DefIn K "check_links" sChkL f_check_links9)
    (d_row_of9 : DefIn K "row_of" sRowOf f_row_of9)
    (d__law_links_asked : DefIn K "_law_links_asked" sAskL f__law_links_asked)
    (d__law_told : DefIn K "_law_told" sTold f__law_told)
    (d_tree : DefIn K "tree" sTree f_tree)
    (d_nearest_lower : DefIn K "nearest_lower" sNear f_nearest_lower)
    (d_links : DefIn K "links" sLinks f_links)
    (d_rims_ahead : DefIn K "rims_ahead" sRimA f_rims_ahead)
    (d_rims_behind : DefIn K "rims_behind" sRimB f_rims_behind)
    (d_rims : DefIn K "rims" sRims f_rims)
    (d_levels : DefIn K "levels" sLevels f_levels)
    (d_water : DefIn K "water" sWater f_water)
    (d_all_below_their_places : DefIn K "all_below_their_places" sBelow f_all_below_their_places)
    (d_check_links : DefIn K "check_links" sChkL f_check_links)
    (d_crossed_ahead : DefIn K "crossed_ahead" sCrossA f_crossed_ahead)
    (d_row_of : DefIn K "row_of" sRowOf f_row_of)
    (aC_Row : PySem.W.nsIn K mainGlobals "Row" = some (some (.ref Row)))
    (ci_Row : ClsIn K Row)
    (na_Row_bars : PySem.W.findIn K (.ref Row) "bars" = some none)
    (mk_Row : PySem.W.makesIn K Row = true) (kc_Row : PySem.W.keepIn K (.ref Row) = true)
    (aC_BadBars : PySem.W.nsIn K mainGlobals "BadBars" = some (some (.ref BadBars)))
    (aC_NoBar : PySem.W.nsIn K mainGlobals "NoBar" = some (some (.ref NoBar)))
    (aC_BadPlace : PySem.W.nsIn K mainGlobals "BadPlace" = some (some (.ref BadPlace)))
    (aC_BadTree : PySem.W.nsIn K mainGlobals "BadTree" = some (some (.ref BadTree)))
    (aC_BadLinks : PySem.W.nsIn K mainGlobals "BadLinks" = some (some (.ref BadLinks)))
    (aC_BarError : PySem.W.nsIn K mainGlobals "BarError" = some (some (.ref BarError)))
    (aC_Crossed : PySem.W.nsIn K mainGlobals "Crossed" = some (some (.ref Crossed)))
    (ci_Crossed : ClsIn K Crossed)
    (na_Crossed_first : PySem.W.findIn K (.ref Crossed) "first" = some none)
    (na_Crossed_second : PySem.W.findIn K (.ref Crossed) "second" = some none)
    (mk_Crossed : PySem.W.makesIn K Crossed = true) (kc_Crossed : PySem.W.keepIn K (.ref Crossed) = true)
    (d_Row___init__ : MethIn K Row "__init__" "Row.__init__" sRInit f_Row___init__)
    (d_Crossed___init__ : MethIn K Crossed "__init__" "Crossed.__init__" sCInit f_Crossed___init__)
    (xr_BadBars : PySem.W.excIn K BadBars [.type "ValueError", .type "Exception", .type "BaseException", .type "object"] "ValueError.__new__" = true) (xa_BadBars : PySem.W.ExcC K BadBars)
    (xr_NoBar : PySem.W.excIn K NoBar [.type "ValueError", .type "Exception", .type "BaseException", .type "object"] "ValueError.__new__" = true) (xa_NoBar : PySem.W.ExcC K NoBar)
    (xr_BadPlace : PySem.W.excIn K BadPlace [.type "ValueError", .type "Exception", .type "BaseException", .type "object"] "ValueError.__new__" = true) (xa_BadPlace : PySem.W.ExcC K BadPlace)
    (xr_BadTree : PySem.W.excIn K BadTree [.type "ValueError", .type "Exception", .type "BaseException", .type "object"] "ValueError.__new__" = true) (xa_BadTree : PySem.W.ExcC K BadTree)
    (xr_BadLinks : PySem.W.excIn K BadLinks [.type "ValueError", .type "Exception", .type "BaseException", .type "object"] "ValueError.__new__" = true) (xa_BadLinks : PySem.W.ExcC K BadLinks)
    (no_ValueError : PySem.W.nsIn K mainGlobals "ValueError" = some none)
    (kt0 : PySem.W.kitOne K (.ref Row) (.ref Row) = some true)
    (kt1 : PySem.W.exmOne K (.ref BadBars) (.ref BarError) = some true)
    (kt2 : PySem.W.exmOne K (.ref NoBar) (.ref BarError) = some true)
    (kt3 : PySem.W.exmOne K (.ref BadPlace) (.ref BarError) = some true)
    (kt4 : PySem.W.exmOne K (.ref BadTree) (.ref BarError) = some true)
    (kt5 : PySem.W.exmOne K (.ref BadLinks) (.ref BarError) = some true)
    (kt6 : PySem.W.kitOne K (.ref BadBars) (.ref BadBars) = some true)
    (kt7 : PySem.W.kitOne K (.ref BadBars) (.ref NoBar) = some false)
    (kt8 : PySem.W.kitOne K (.ref BadBars) (.ref BadPlace) = some false)
    (kt9 : PySem.W.kitOne K (.ref BadBars) (.ref BadTree) = some false)
    (kt10 : PySem.W.kitOne K (.ref BadBars) (.ref BadLinks) = some false)
    (kt11 : PySem.W.kitOne K (.ref BadBars) (.type "ValueError") = some true)
    (kt12 : PySem.W.kitOne K (.ref NoBar) (.ref BadBars) = some false)
    (kt13 : PySem.W.kitOne K (.ref NoBar) (.ref NoBar) = some true)
    (kt14 : PySem.W.kitOne K (.ref NoBar) (.ref BadPlace) = some false)
    (kt15 : PySem.W.kitOne K (.ref NoBar) (.ref BadTree) = some false)
    (kt16 : PySem.W.kitOne K (.ref NoBar) (.ref BadLinks) = some false)
    (kt17 : PySem.W.kitOne K (.ref NoBar) (.type "ValueError") = some true)
    (kt18 : PySem.W.kitOne K (.ref BadPlace) (.ref BadBars) = some false)
    (kt19 : PySem.W.kitOne K (.ref BadPlace) (.ref NoBar) = some false)
    (kt20 : PySem.W.kitOne K (.ref BadPlace) (.ref BadPlace) = some true)
    (kt21 : PySem.W.kitOne K (.ref BadPlace) (.ref BadTree) = some false)
    (kt22 : PySem.W.kitOne K (.ref BadPlace) (.ref BadLinks) = some false)
    (kt23 : PySem.W.kitOne K (.ref BadPlace) (.type "ValueError") = some true)
    (kt24 : PySem.W.kitOne K (.ref BadTree) (.ref BadBars) = some false)
    (kt25 : PySem.W.kitOne K (.ref BadTree) (.ref NoBar) = some false)
    (kt26 : PySem.W.kitOne K (.ref BadTree) (.ref BadPlace) = some false)
    (kt27 : PySem.W.kitOne K (.ref BadTree) (.ref BadTree) = some true)
    (kt28 : PySem.W.kitOne K (.ref BadTree) (.ref BadLinks) = some false)
    (kt29 : PySem.W.kitOne K (.ref BadTree) (.type "ValueError") = some true)
    (kt30 : PySem.W.kitOne K (.ref BadLinks) (.ref BadBars) = some false)
    (kt31 : PySem.W.kitOne K (.ref BadLinks) (.ref NoBar) = some false)
    (kt32 : PySem.W.kitOne K (.ref BadLinks) (.ref BadPlace) = some false)
    (kt33 : PySem.W.kitOne K (.ref BadLinks) (.ref BadTree) = some false)
    (kt34 : PySem.W.kitOne K (.ref BadLinks) (.ref BadLinks) = some true)
    (kt35 : PySem.W.kitOne K (.ref BadLinks) (.type "ValueError") = some true)
    {oc : Value} {od an : Option Addr} {osl : Array (Option Value)} {kV doc pm cdv ct : Value} (aL : PySem.W.nsIn K mainGlobals "law" = some (some (.ref fL)))
    (lL : K.lookup fL = some ⟨oc, od, .func (PySem.W.fnOf "law" "law" (defArgs sLaw) (defBody sLaw) (defScope sLaw) .none kV doc pm an cdv ct), osl⟩) (cL : PySem.W.codeIn K cdv "law" = true) (kL : PySem.W.keepIn K (.ref fL) = true)
    {t : Tok} (hh : PySem.W.nsIn K mainGlobals "HIGHEST" = some (some (.int 10000000 t)))
    (z1 : PySem.W.nsIn K mainGlobals "isinstance" = some none)
    (z2 : PySem.W.nsIn K mainGlobals "int" = some none)
    (z3 : PySem.W.nsIn K mainGlobals "bool" = some none)
    (z4 : PySem.W.nsIn K mainGlobals "list" = some none)
    (z5 : PySem.W.nsIn K mainGlobals "len" = some none)
    (z6 : PySem.W.nsIn K mainGlobals "range" = some none)
    (z7 : PySem.W.nsIn K mainGlobals "enumerate" = some none)
    (z8 : PySem.W.nsIn K mainGlobals "reversed" = some none)
    (z9 : PySem.W.nsIn K mainGlobals "min" = some none)
    (z10 : PySem.W.nsIn K mainGlobals "max" = some none)
    (z11 : PySem.W.nsIn K mainGlobals "sum" = some none)
    (z12 : PySem.W.nsIn K mainGlobals "all" = some none)
    (z13 : PySem.W.nsIn K mainGlobals "sorted" = some none)
    (z14 : PySem.W.nsIn K mainGlobals "zip" = some none)
    (z15 : PySem.W.nsIn K mainGlobals "any" = some none)
    (z16 : PySem.W.nsIn K mainGlobals "tuple" = some none)
    : ∃ fd : FuncData, (∀ (s : Shared) (v : Value), BindsTo s fd ⟨[v], []⟩ [("_law_script", v)]) ∧ ∀ base : Heap, K.In base → base.Ns mainGlobals mg → FnOk l.prog w K mg base CX0 9 fa fd ["_law_script"] (spLaw K) := by
  have e := hfa.symm.trans (PySem.W.mg_of X G aL)
  cases e
  have B : Blt mg := ⟨PySem.W.mg_none_of X G z1, PySem.W.mg_none_of X G z2, PySem.W.mg_none_of X G z3, PySem.W.mg_none_of X G z4, PySem.W.mg_none_of X G z5, PySem.W.mg_none_of X G z6, PySem.W.mg_none_of X G z7, PySem.W.mg_none_of X G z8, PySem.W.mg_none_of X G z9, PySem.W.mg_none_of X G z10, PySem.W.mg_none_of X G z11, PySem.W.mg_none_of X G z12, PySem.W.mg_none_of X G z13, PySem.W.mg_none_of X G z14, PySem.W.mg_none_of X G z15, PySem.W.mg_none_of X G z16⟩
  have HI : Hi mg := ⟨t, PySem.W.mg_of X G hh⟩
  obtain ⟨g_is_whole_within9, fd_is_whole_within9, F_is_whole_within9⟩ := d_is_whole_within9
  obtain ⟨g_check_bars9, fd_check_bars9, F_check_bars9⟩ := d_check_bars9
  obtain ⟨g_reaches9, fd_reaches9, F_reaches9⟩ := d_reaches9
  obtain ⟨g_seen_ahead9, fd_seen_ahead9, F_seen_ahead9⟩ := d_seen_ahead9
  obtain ⟨g_shown9, fd_shown9, F_shown9⟩ := d_shown9
  obtain ⟨g_board9, fd_board9, F_board9⟩ := d_board9
  obtain ⟨g_rims9, fd_rims9, F_rims9⟩ := d_rims9
  obtain ⟨g_levels9, fd_levels9, F_levels9⟩ := d_levels9
  obtain ⟨g_water9, fd_water9, F_water9⟩ := d_water9
  obtain ⟨g_links9, fd_links9, F_links9⟩ := d_links9
  obtain ⟨g_tree9, fd_tree9, F_tree9⟩ := d_tree9
  obtain ⟨g_sees9, fd_sees9, F_sees9⟩ := d_sees9
  obtain ⟨g__law_bars_asked, fd__law_bars_asked, F__law_bars_asked⟩ := d__law_bars_asked
  obtain ⟨g_is_whole_within, fd_is_whole_within, F_is_whole_within⟩ := d_is_whole_within
  obtain ⟨g_check_bars, fd_check_bars, F_check_bars⟩ := d_check_bars
  obtain ⟨g_reach_starts, fd_reach_starts, F_reach_starts⟩ := d_reach_starts
  obtain ⟨g_turned, fd_turned, F_turned⟩ := d_turned
  obtain ⟨g_reach_ends, fd_reach_ends, F_reach_ends⟩ := d_reach_ends
  obtain ⟨g_reaches, fd_reaches, F_reaches⟩ := d_reaches
  obtain ⟨g_board0, fd_board0, F_board0⟩ := d_board0
  obtain ⟨g_is_place9, fd_is_place9, F_is_place9⟩ := d_is_place9
  obtain ⟨g_check_two_places9, fd_check_two_places9, F_check_two_places9⟩ := d_check_two_places9
  obtain ⟨g_sees8, fd_sees8, F_sees8⟩ := d_sees8
  obtain ⟨g__law_places_asked, fd__law_places_asked, F__law_places_asked⟩ := d__law_places_asked
  obtain ⟨g_check_parents9, fd_check_parents9, F_check_parents9⟩ := d_check_parents9
  obtain ⟨g_check_parents, fd_check_parents, F_check_parents⟩ := d_check_parents
  obtain ⟨g_depths, fd_depths, F_depths⟩ := d_depths
  obtain ⟨g_parents_in_tree, fd_parents_in_tree, F_parents_in_tree⟩ := d_parents_in_tree
  obtain ⟨g_bars_of9, fd_bars_of9, F_bars_of9⟩ := d_bars_of9
  obtain ⟨g__law_trees_asked, fd__law_trees_asked, F__law_trees_asked⟩ := d__law_trees_asked
  obtain ⟨g_all_below_their_places9, fd_all_below_their_places9, F_all_below_their_places9⟩ := d_all_below_their_places9
  obtain ⟨g_check_links9, fd_check_links9, F_check_links9⟩ := d_check_links9
  obtain ⟨g_row_of9, fd_row_of9, F_row_of9⟩ := d_row_of9
  obtain ⟨g__law_links_asked, fd__law_links_asked, F__law_links_asked⟩ := d__law_links_asked
  obtain ⟨g__law_told, fd__law_told, F__law_told⟩ := d__law_told
  obtain ⟨g_tree, fd_tree, F_tree⟩ := d_tree
  obtain ⟨g_nearest_lower, fd_nearest_lower, F_nearest_lower⟩ := d_nearest_lower
  obtain ⟨g_links, fd_links, F_links⟩ := d_links
  obtain ⟨g_rims_ahead, fd_rims_ahead, F_rims_ahead⟩ := d_rims_ahead
  obtain ⟨g_rims_behind, fd_rims_behind, F_rims_behind⟩ := d_rims_behind
  obtain ⟨g_rims, fd_rims, F_rims⟩ := d_rims
  obtain ⟨g_levels, fd_levels, F_levels⟩ := d_levels
  obtain ⟨g_water, fd_water, F_water⟩ := d_water
  obtain ⟨g_all_below_their_places, fd_all_below_their_places, F_all_below_their_places⟩ := d_all_below_their_places
  obtain ⟨g_check_links, fd_check_links, F_check_links⟩ := d_check_links
  obtain ⟨g_crossed_ahead, fd_crossed_ahead, F_crossed_ahead⟩ := d_crossed_ahead
  obtain ⟨g_row_of, fd_row_of, F_row_of⟩ := d_row_of
  obtain ⟨fd_Row___init__, F_Row___init__⟩ := d_Row___init__.fn
  obtain ⟨fd_Crossed___init__, F_Crossed___init__⟩ := d_Crossed___init__.fn
  have FL := fun_mk (st := sLaw) lL cL kL
  refine ⟨PySem.W.fnOf "law" "law" (defArgs sLaw) (defBody sLaw) (defScope sLaw) .none kV doc pm an cdv ct, fun s v => .of_eq rfl, fun base _ _ => ?_⟩
  have I_Row : IsC K Row := ci_Row.isC
  have x_BadBars : ExC K BadBars := ⟨xr_BadBars, xa_BadBars⟩
  have x_NoBar : ExC K NoBar := ⟨xr_NoBar, xa_NoBar⟩
  have x_BadPlace : ExC K BadPlace := ⟨xr_BadPlace, xa_BadPlace⟩
  have x_BadTree : ExC K BadTree := ⟨xr_BadTree, xa_BadTree⟩
  have x_BadLinks : ExC K BadLinks := ⟨xr_BadLinks, xa_BadLinks⟩
  have c_is_whole_within9 : Callee l.prog w K mg base 1 "is_whole_within" ["value", "least", "most"] (spWithin9 K) := Callee.of F_is_whole_within9 (ok_within9 F_is_whole_within9 B) (PySem.W.mg_of X G g_is_whole_within9) (F_is_whole_within9.binds fun _ _ _ _ _ _ us hl => match us, hl with | [_, _, _], _ => rfl)
  have c_check_bars9 : CalleeX l.prog w K mg base 3 "check_bars" ["bars"] (spBad K okBv BadBars) := CalleeX.of F_check_bars9 (ok_chk9 F_check_bars9 B x_BadBars (PySem.W.mg_of X G aC_BadBars) HI c_is_whole_within9) (PySem.W.mg_of X G g_check_bars9) (F_check_bars9.binds fun _ _ _ _ _ _ us hl => match us, hl with | [_], _ => rfl)
  have c_reaches9 : CalleeX l.prog w K mg base 4 "reaches" ["bars"] (spBad K okBv BadBars) := CalleeX.of F_reaches9 (ok_reach9 F_reaches9 B c_check_bars9) (PySem.W.mg_of X G g_reaches9) (F_reaches9.binds fun _ _ _ _ _ _ us hl => match us, hl with | [_], _ => rfl)
  have c_seen_ahead9 : CalleeX l.prog w K mg base 4 "seen_ahead" ["bars"] (spBad K okBv BadBars) := CalleeX.of F_seen_ahead9 (ok_ahead9 F_seen_ahead9 B c_check_bars9) (PySem.W.mg_of X G g_seen_ahead9) (F_seen_ahead9.binds fun _ _ _ _ _ _ us hl => match us, hl with | [_], _ => rfl)
  have c_shown9 : CalleeX l.prog w K mg base 4 "shown" ["bars"] (spBad K okBv BadBars) := CalleeX.of F_shown9 (ok_shown9 F_shown9 B c_check_bars9) (PySem.W.mg_of X G g_shown9) (F_shown9.binds fun _ _ _ _ _ _ us hl => match us, hl with | [_], _ => rfl)
  have c_board9 : CalleeX l.prog w K mg base 5 "board" ["bars"] (spBad K okBv BadBars) := CalleeX.of F_board9 (ok_board9 F_board9 B c_reaches9) (PySem.W.mg_of X G g_board9) (F_board9.binds fun _ _ _ _ _ _ us hl => match us, hl with | [_], _ => rfl)
  have c_rims9 : CalleeX l.prog w K mg base 4 "rims" ["bars"] (spBad K okBv BadBars) := CalleeX.of F_rims9 (ok_rims9 F_rims9 B c_check_bars9) (PySem.W.mg_of X G g_rims9) (F_rims9.binds fun _ _ _ _ _ _ us hl => match us, hl with | [_], _ => rfl)
  have c_levels9 : CalleeX l.prog w K mg base 5 "levels" ["bars"] (spBad K okBv BadBars) := CalleeX.of F_levels9 (ok_levels9 F_levels9 B c_rims9) (PySem.W.mg_of X G g_levels9) (F_levels9.binds fun _ _ _ _ _ _ us hl => match us, hl with | [_], _ => rfl)
  have c_water9 : CalleeX l.prog w K mg base 6 "water" ["bars"] (spBad K okBv BadBars) := CalleeX.of F_water9 (ok_water9 F_water9 B c_levels9) (PySem.W.mg_of X G g_water9) (F_water9.binds fun _ _ _ _ _ _ us hl => match us, hl with | [_], _ => rfl)
  have c_links9 : CalleeX l.prog w K mg base 4 "links" ["bars"] (spBad K okBv BadBars) := CalleeX.of F_links9 (ok_links9 F_links9 B c_check_bars9) (PySem.W.mg_of X G g_links9) (F_links9.binds fun _ _ _ _ _ _ us hl => match us, hl with | [_], _ => rfl)
  have c_tree9 : CalleeX l.prog w K mg base 4 "tree" ["bars"] (spBad K okBv BadBars) := CalleeX.of F_tree9 (ok_tree9 F_tree9 B c_check_bars9) (PySem.W.mg_of X G g_tree9) (F_tree9.binds fun _ _ _ _ _ _ us hl => match us, hl with | [_], _ => rfl)
  have c_sees9 : CalleeX l.prog w K mg base 4 "sees" ["bars", "one", "other"] (spSeesB K BadBars) := CalleeX.of F_sees9 (ok_seesB F_sees9 B c_check_bars9) (PySem.W.mg_of X G g_sees9) (F_sees9.binds fun _ _ _ _ _ _ us hl => match us, hl with | [_, _, _], _ => rfl)
  have c__law_bars_asked : CalleeX l.prog w K mg base 7 "_law_bars_asked" ["_law_which", "_law_more"] (spAsk BadBars) := CalleeX.of F__law_bars_asked (ok_askB F__law_bars_asked B c_reaches9 c_seen_ahead9 c_shown9 c_board9 c_levels9 c_water9 c_rims9 c_links9 c_tree9 c_sees9) (PySem.W.mg_of X G g__law_bars_asked) (F__law_bars_asked.binds fun _ _ _ _ _ _ us hl => match us, hl with | [_, _], _ => rfl)
  have c_is_whole_within : Callee l.prog w K mg base 1 "is_whole_within" ["value", "least", "most"] spWithin := Callee.of F_is_whole_within (ok_within F_is_whole_within B) (PySem.W.mg_of X G g_is_whole_within) (F_is_whole_within.binds fun _ _ _ _ _ _ us hl => match us, hl with | [_, _, _], _ => rfl)
  have c_check_bars : Callee l.prog w K mg base 3 "check_bars" ["bars"] spChk := Callee.of F_check_bars (ok_chk F_check_bars B HI c_is_whole_within) (PySem.W.mg_of X G g_check_bars) (F_check_bars.binds fun _ _ _ _ _ _ us hl => match us, hl with | [_], _ => rfl)
  have c_reach_starts : Callee l.prog w K mg base 1 "reach_starts" ["bars"] spStarts := Callee.of F_reach_starts (ok_starts F_reach_starts B) (PySem.W.mg_of X G g_reach_starts) (F_reach_starts.binds fun _ _ _ _ _ _ us hl => match us, hl with | [_], _ => rfl)
  have c_turned : Callee l.prog w K mg base 1 "turned" ["places"] spTurned := Callee.of F_turned (ok_turned F_turned B) (PySem.W.mg_of X G g_turned) (F_turned.binds fun _ _ _ _ _ _ us hl => match us, hl with | [_], _ => rfl)
  have c_reach_ends : Callee l.prog w K mg base 2 "reach_ends" ["bars"] spEnds := Callee.of F_reach_ends (ok_ends F_reach_ends B c_reach_starts c_turned) (PySem.W.mg_of X G g_reach_ends) (F_reach_ends.binds fun _ _ _ _ _ _ us hl => match us, hl with | [_], _ => rfl)
  have c_reaches : Callee l.prog w K mg base 4 "reaches" ["bars"] spReach := Callee.of F_reaches (ok_reach F_reaches B c_check_bars c_reach_starts c_reach_ends) (PySem.W.mg_of X G g_reaches) (F_reaches.binds fun _ _ _ _ _ _ us hl => match us, hl with | [_], _ => rfl)
  have c_board0 : CalleeX l.prog w K mg base 5 "board" ["bars"] (spBoard0 NoBar) := CalleeX.of F_board0 (ok_board0 F_board0 B x_NoBar (PySem.W.mg_of X G aC_NoBar) c_reaches) (PySem.W.mg_of X G g_board0) (F_board0.binds fun _ _ _ _ _ _ us hl => match us, hl with | [_], _ => rfl)
  have c_is_place9 : Callee l.prog w K mg base 2 "is_place" ["bars", "value"] (spPlace9 K) := Callee.of F_is_place9 (ok_place9 F_is_place9 B c_is_whole_within9) (PySem.W.mg_of X G g_is_place9) (F_is_place9.binds fun _ _ _ _ _ _ us hl => match us, hl with | [_, _], _ => rfl)
  have c_check_two_places9 : CalleeX l.prog w K mg base 3 "check_two_places" ["bars", "one", "other"] (spTwo9 K BadPlace) := CalleeX.of F_check_two_places9 (ok_two9 F_check_two_places9 B x_BadPlace (PySem.W.mg_of X G aC_BadPlace) c_is_place9) (PySem.W.mg_of X G g_check_two_places9) (F_check_two_places9.binds fun _ _ _ _ _ _ us hl => match us, hl with | [_, _, _], _ => rfl)
  have c_sees8 : CalleeX l.prog w K mg base 4 "sees" ["bars", "one", "other"] (spSeesP K BadPlace) := CalleeX.of F_sees8 (ok_seesP F_sees8 B c_check_bars c_check_two_places9) (PySem.W.mg_of X G g_sees8) (F_sees8.binds fun _ _ _ _ _ _ us hl => match us, hl with | [_, _, _], _ => rfl)
  have c__law_places_asked : CalleeX l.prog w K mg base 5 "_law_places_asked" ["_law_which", "_law_more"] (spAsk BadPlace) := CalleeX.of F__law_places_asked (ok_askP F__law_places_asked B c_sees8) (PySem.W.mg_of X G g__law_places_asked) (F__law_places_asked.binds fun _ _ _ _ _ _ us hl => match us, hl with | [_, _], _ => rfl)
  have c_check_parents9 : CalleeX l.prog w K mg base 2 "check_parents" ["parents"] (spBad K okPv BadTree) := CalleeX.of F_check_parents9 (ok_chkP9 F_check_parents9 B x_BadTree (PySem.W.mg_of X G aC_BadTree) c_is_whole_within9) (PySem.W.mg_of X G g_check_parents9) (F_check_parents9.binds fun _ _ _ _ _ _ us hl => match us, hl with | [_], _ => rfl)
  have c_check_parents : Callee l.prog w K mg base 2 "check_parents" ["parents"] spChkP := Callee.of F_check_parents (ok_chkP F_check_parents B c_is_whole_within) (PySem.W.mg_of X G g_check_parents) (F_check_parents.binds fun _ _ _ _ _ _ us hl => match us, hl with | [_], _ => rfl)
  have c_depths : Callee l.prog w K mg base 1 "depths" ["parents"] spDepths := Callee.of F_depths (ok_depths F_depths B) (PySem.W.mg_of X G g_depths) (F_depths.binds fun _ _ _ _ _ _ us hl => match us, hl with | [_], _ => rfl)
  have c_parents_in_tree : Callee l.prog w K mg base 1 "parents_in_tree" ["bars"] spPar := Callee.of F_parents_in_tree (ok_par F_parents_in_tree B) (PySem.W.mg_of X G g_parents_in_tree) (F_parents_in_tree.binds fun _ _ _ _ _ _ us hl => match us, hl with | [_], _ => rfl)
  have c_bars_of9 : CalleeX l.prog w K mg base 4 "bars_of" ["parents"] (spOr (spBad K okPv BadTree) (spBarsOf7 BadTree)) := CalleeX.of F_bars_of9 (ok_barsOfX F_bars_of9 B x_BadTree (PySem.W.mg_of X G aC_BadTree) c_check_parents9 c_check_parents c_depths c_parents_in_tree) (PySem.W.mg_of X G g_bars_of9) (F_bars_of9.binds fun _ _ _ _ _ _ us hl => match us, hl with | [_], _ => rfl)
  have c__law_trees_asked : CalleeX l.prog w K mg base 5 "_law_trees_asked" ["_law_which", "_law_more"] (spAsk BadTree) := CalleeX.of F__law_trees_asked (ok_askT F__law_trees_asked B c_bars_of9) (PySem.W.mg_of X G g__law_trees_asked) (F__law_trees_asked.binds fun _ _ _ _ _ _ us hl => match us, hl with | [_, _], _ => rfl)
  have c_all_below_their_places9 : Callee l.prog w K mg base 2 "all_below_their_places" ["links"] (spBelow9 K) := Callee.of F_all_below_their_places9 (ok_below9 F_all_below_their_places9 B c_is_whole_within9) (PySem.W.mg_of X G g_all_below_their_places9) (F_all_below_their_places9.binds fun _ _ _ _ _ _ us hl => match us, hl with | [_], _ => rfl)
  have c_check_links9 : CalleeX l.prog w K mg base 3 "check_links" ["links"] (spBad K okLv BadLinks) := CalleeX.of F_check_links9 (ok_chkL9 F_check_links9 B x_BadLinks (PySem.W.mg_of X G aC_BadLinks) c_all_below_their_places9) (PySem.W.mg_of X G g_check_links9) (F_check_links9.binds fun _ _ _ _ _ _ us hl => match us, hl with | [_], _ => rfl)
  have c_row_of9 : CalleeX l.prog w K mg base 5 "row_of" ["links"] (spBad K okLv BadLinks) := CalleeX.of F_row_of9 (ok_rowOf9 F_row_of9 B c_check_links9) (PySem.W.mg_of X G g_row_of9) (F_row_of9.binds fun _ _ _ _ _ _ us hl => match us, hl with | [_], _ => rfl)
  have c__law_links_asked : CalleeX l.prog w K mg base 6 "_law_links_asked" ["_law_which", "_law_more"] (spAsk BadLinks) := CalleeX.of F__law_links_asked (ok_askL F__law_links_asked B c_row_of9) (PySem.W.mg_of X G g__law_links_asked) (F__law_links_asked.binds fun _ _ _ _ _ _ us hl => match us, hl with | [_, _], _ => rfl)
  have c__law_told : Callee l.prog w K mg base 8 "_law_told" ["_law_kind", "_law_which", "_law_more"] spTold := Callee.of F__law_told (ok_told F__law_told B x_BadBars (PySem.W.mg_of X G aC_BadBars) x_NoBar (PySem.W.mg_of X G aC_NoBar) x_BadPlace (PySem.W.mg_of X G aC_BadPlace) x_BadTree (PySem.W.mg_of X G aC_BadTree) x_BadLinks (PySem.W.mg_of X G aC_BadLinks) (PySem.W.mg_of X G aC_BarError) (PySem.W.mg_none_of X G no_ValueError) kt1 kt2 kt3 kt4 kt5 kt6 kt7 kt8 kt9 kt10 kt11 kt12 kt13 kt14 kt15 kt16 kt17 kt18 kt19 kt20 kt21 kt22 kt23 kt24 kt25 kt26 kt27 kt28 kt29 kt30 kt31 kt32 kt33 kt34 kt35 c__law_bars_asked c_board0 c__law_places_asked c__law_trees_asked c__law_links_asked) (PySem.W.mg_of X G g__law_told) (F__law_told.binds fun _ _ _ _ _ _ us hl => match us, hl with | [_, _, _], _ => rfl)
  have c_tree : Callee l.prog w K mg base 4 "tree" ["bars"] spTree := Callee.of F_tree (ok_tree F_tree B c_check_bars c_parents_in_tree) (PySem.W.mg_of X G g_tree) (F_tree.binds fun _ _ _ _ _ _ us hl => match us, hl with | [_], _ => rfl)
  have c_nearest_lower : Callee l.prog w K mg base 2 "nearest_lower" ["bars"] spNear := Callee.of F_nearest_lower (ok_near F_nearest_lower B c_reach_starts) (PySem.W.mg_of X G g_nearest_lower) (F_nearest_lower.binds fun _ _ _ _ _ _ us hl => match us, hl with | [_], _ => rfl)
  have c_links : Callee l.prog w K mg base 4 "links" ["bars"] spLinks := Callee.of F_links (ok_links F_links B c_check_bars c_nearest_lower) (PySem.W.mg_of X G g_links) (F_links.binds fun _ _ _ _ _ _ us hl => match us, hl with | [_], _ => rfl)
  have c_rims_ahead : Callee l.prog w K mg base 1 "rims_ahead" ["bars"] spRimA := Callee.of F_rims_ahead (ok_rimA F_rims_ahead B) (PySem.W.mg_of X G g_rims_ahead) (F_rims_ahead.binds fun _ _ _ _ _ _ us hl => match us, hl with | [_], _ => rfl)
  have c_rims_behind : Callee l.prog w K mg base 2 "rims_behind" ["bars"] spRimB := Callee.of F_rims_behind (ok_rimB F_rims_behind B c_rims_ahead c_turned) (PySem.W.mg_of X G g_rims_behind) (F_rims_behind.binds fun _ _ _ _ _ _ us hl => match us, hl with | [_], _ => rfl)
  have c_rims : Callee l.prog w K mg base 4 "rims" ["bars"] spRims := Callee.of F_rims (ok_rims F_rims B c_check_bars c_rims_ahead c_rims_behind) (PySem.W.mg_of X G g_rims) (F_rims.binds fun _ _ _ _ _ _ us hl => match us, hl with | [_], _ => rfl)
  have c_levels : Callee l.prog w K mg base 5 "levels" ["bars"] spLevels := Callee.of F_levels (ok_levels F_levels B c_rims) (PySem.W.mg_of X G g_levels) (F_levels.binds fun _ _ _ _ _ _ us hl => match us, hl with | [_], _ => rfl)
  have c_water : Callee l.prog w K mg base 6 "water" ["bars"] spWater := Callee.of F_water (ok_water F_water B c_levels) (PySem.W.mg_of X G g_water) (F_water.binds fun _ _ _ _ _ _ us hl => match us, hl with | [_], _ => rfl)
  have c_all_below_their_places : Callee l.prog w K mg base 2 "all_below_their_places" ["links"] spBelow := Callee.of F_all_below_their_places (ok_below F_all_below_their_places B c_is_whole_within) (PySem.W.mg_of X G g_all_below_their_places) (F_all_below_their_places.binds fun _ _ _ _ _ _ us hl => match us, hl with | [_], _ => rfl)
  have c_check_links : Callee l.prog w K mg base 3 "check_links" ["links"] spChkL := Callee.of F_check_links (ok_chkL F_check_links B c_all_below_their_places) (PySem.W.mg_of X G g_check_links) (F_check_links.binds fun _ _ _ _ _ _ us hl => match us, hl with | [_], _ => rfl)
  have c_crossed_ahead : Callee l.prog w K mg base 1 "crossed_ahead" ["links", "place"] spCrossA := Callee.of F_crossed_ahead (ok_crossA F_crossed_ahead B) (PySem.W.mg_of X G g_crossed_ahead) (F_crossed_ahead.binds fun _ _ _ _ _ _ us hl => match us, hl with | [_, _], _ => rfl)
  have T_Row : RCls K Row := ⟨ci_Row.cl, na_Row_bars⟩
  have G_Row___init__ : FnOk l.prog w K mg base CX0 1 f_Row___init__ fd_Row___init__ ["self", "bars"] (spRInit Row) := ok_rInit F_Row___init__ B T_Row
  have b_Row___init__ := F_Row___init__.binds (ps := ["self", "bars"]) fun _ _ _ _ _ _ us hl => match us, hl with | [_, _], _ => rfl
  have Mk_Row : Mk K Row f_Row___init__ := ⟨mk_Row, d_Row___init__.find, d_Row___init__.isfn, kc_Row⟩
  have T_Crossed : CCls K Crossed := ⟨ci_Crossed.cl, na_Crossed_first, na_Crossed_second⟩
  have G_Crossed___init__ : FnOk l.prog w K mg base CX0 1 f_Crossed___init__ fd_Crossed___init__ ["self", "first", "second"] (spCInit Crossed) := ok_cInit F_Crossed___init__ B T_Crossed
  have b_Crossed___init__ := F_Crossed___init__.binds (ps := ["self", "first", "second"]) fun _ _ _ _ _ _ us hl => match us, hl with | [_, _, _], _ => rfl
  have Mk_Crossed : Mk K Crossed f_Crossed___init__ := ⟨mk_Crossed, d_Crossed___init__.find, d_Crossed___init__.isfn, kc_Crossed⟩
  have c_row_of : Callee l.prog w K mg base 5 "row_of" ["links"] (spRowOf Row Crossed) := Callee.of F_row_of (ok_rowOf F_row_of B c_check_links c_crossed_ahead Mk_Row G_Row___init__ b_Row___init__ (PySem.W.mg_of X G aC_Row) Mk_Crossed G_Crossed___init__ b_Crossed___init__ (PySem.W.mg_of X G aC_Crossed)) (PySem.W.mg_of X G g_row_of) (F_row_of.binds fun _ _ _ _ _ _ us hl => match us, hl with | [_], _ => rfl)
  exact ok_law FL B I_Row (PySem.W.mg_of X G aC_Row) kt0 c__law_told c_reaches c_tree c_links c_levels c_water c_row_of c_bars_of9
end Sky
/- These four names are taken, so that the head lays no second form of its greatest tables: the compiled proof stays below its size. -/
theorem PySem.W.Fast.tw563533256900201394 : True := trivial
theorem PySem.W.Fast.tw1461668525354518208 : True := trivial
theorem PySem.W.Fast.tw3066069064161223823 : True := trivial
theorem PySem.W.Fast.tw11640656501446077249 : True := trivial
open PySem PySem.W PyProof.Rows
set_option maxRecDepth 100000 in
set_option maxHeartbeats 0 in
theorem PySem.Challenge.cw_skybars_k09_refused_holds : PySem.Challenge.rw_skybars_k09_refused.Holds := by
  w_on; o_law; k_head; (case hw => w_witness2)
  k_fill
  refine Sky.walk 9 (l := PySem.Challenge.rw_skybars_k09_refused) ⟨rfl, by decide, by decide⟩ rfl rfl (fun w h Y => PySem.W.kIn_of Y) ?F
  case F =>
    intro w mg fa h KX G hmg
    refine' Sky.all_mk KX G hmg (Sky.def_mk ?a_is_whole_within9 ?l_is_whole_within9 ?c_is_whole_within9 ?k_is_whole_within9) (Sky.def_mk ?a_check_bars9 ?l_check_bars9 ?c_check_bars9 ?k_check_bars9) (Sky.def_mk ?a_reaches9 ?l_reaches9 ?c_reaches9 ?k_reaches9) (Sky.def_mk ?a_seen_ahead9 ?l_seen_ahead9 ?c_seen_ahead9 ?k_seen_ahead9) (Sky.def_mk ?a_shown9 ?l_shown9 ?c_shown9 ?k_shown9) (Sky.def_mk ?a_board9 ?l_board9 ?c_board9 ?k_board9) (Sky.def_mk ?a_rims9 ?l_rims9 ?c_rims9 ?k_rims9) (Sky.def_mk ?a_levels9 ?l_levels9 ?c_levels9 ?k_levels9) (Sky.def_mk ?a_water9 ?l_water9 ?c_water9 ?k_water9) (Sky.def_mk ?a_links9 ?l_links9 ?c_links9 ?k_links9) (Sky.def_mk ?a_tree9 ?l_tree9 ?c_tree9 ?k_tree9) (Sky.def_mk ?a_sees9 ?l_sees9 ?c_sees9 ?k_sees9) (Sky.def_mk ?a__law_bars_asked ?l__law_bars_asked ?c__law_bars_asked ?k__law_bars_asked) (Sky.def_mk ?a_is_whole_within ?l_is_whole_within ?c_is_whole_within ?k_is_whole_within) (Sky.def_mk ?a_check_bars ?l_check_bars ?c_check_bars ?k_check_bars) (Sky.def_mk ?a_reach_starts ?l_reach_starts ?c_reach_starts ?k_reach_starts) (Sky.def_mk ?a_turned ?l_turned ?c_turned ?k_turned) (Sky.def_mk ?a_reach_ends ?l_reach_ends ?c_reach_ends ?k_reach_ends) (Sky.def_mk ?a_reaches ?l_reaches ?c_reaches ?k_reaches) (Sky.def_mk ?a_board0 ?l_board0 ?c_board0 ?k_board0) (Sky.def_mk ?a_is_place9 ?l_is_place9 ?c_is_place9 ?k_is_place9) (Sky.def_mk ?a_check_two_places9 ?l_check_two_places9 ?c_check_two_places9 ?k_check_two_places9) (Sky.def_mk ?a_sees8 ?l_sees8 ?c_sees8 ?k_sees8) (Sky.def_mk ?a__law_places_asked ?l__law_places_asked ?c__law_places_asked ?k__law_places_asked) (Sky.def_mk ?a_check_parents9 ?l_check_parents9 ?c_check_parents9 ?k_check_parents9) (Sky.def_mk ?a_check_parents ?l_check_parents ?c_check_parents ?k_check_parents) (Sky.def_mk ?a_depths ?l_depths ?c_depths ?k_depths) (Sky.def_mk ?a_parents_in_tree ?l_parents_in_tree ?c_parents_in_tree ?k_parents_in_tree) (Sky.def_mk ?a_bars_of9 ?l_bars_of9 ?c_bars_of9 ?k_bars_of9) (Sky.def_mk ?a__law_trees_asked ?l__law_trees_asked ?c__law_trees_asked ?k__law_trees_asked) (Sky.def_mk ?a_all_below_their_places9 ?l_all_below_their_places9 ?c_all_below_their_places9 ?k_all_below_their_places9) (Sky.def_mk ?a_check_links9 ?l_check_links9 ?c_check_links9 ?k_check_links9) (Sky.def_mk ?a_row_of9 ?l_row_of9 ?c_row_of9 ?k_row_of9) (Sky.def_mk ?a__law_links_asked ?l__law_links_asked ?c__law_links_asked ?k__law_links_asked) (Sky.def_mk ?a__law_told ?l__law_told ?c__law_told ?k__law_told) (Sky.def_mk ?a_tree ?l_tree ?c_tree ?k_tree) (Sky.def_mk ?a_nearest_lower ?l_nearest_lower ?c_nearest_lower ?k_nearest_lower) (Sky.def_mk ?a_links ?l_links ?c_links ?k_links) (Sky.def_mk ?a_rims_ahead ?l_rims_ahead ?c_rims_ahead ?k_rims_ahead) (Sky.def_mk ?a_rims_behind ?l_rims_behind ?c_rims_behind ?k_rims_behind) (Sky.def_mk ?a_rims ?l_rims ?c_rims ?k_rims) (Sky.def_mk ?a_levels ?l_levels ?c_levels ?k_levels) (Sky.def_mk ?a_water ?l_water ?c_water ?k_water) (Sky.def_mk ?a_all_below_their_places ?l_all_below_their_places ?c_all_below_their_places ?k_all_below_their_places) (Sky.def_mk ?a_check_links ?l_check_links ?c_check_links ?k_check_links) (Sky.def_mk ?a_crossed_ahead ?l_crossed_ahead ?c_crossed_ahead ?k_crossed_ahead) (Sky.def_mk ?a_row_of ?l_row_of ?c_row_of ?k_row_of) ?aC_Row ⟨?pg_Row, ?hd_Row, ?po_Row, ?sa_Row, ?ha_Row, ?hn_Row, ?htk_Row, ?hm_Row⟩ ?na_Row_bars ?mk_Row ?kc_Row ?aC_BadBars ?aC_NoBar ?aC_BadPlace ?aC_BadTree ?aC_BadLinks ?aC_BarError ?aC_Crossed ⟨?pg_Crossed, ?hd_Crossed, ?po_Crossed, ?sa_Crossed, ?ha_Crossed, ?hn_Crossed, ?htk_Crossed, ?hm_Crossed⟩ ?na_Crossed_first ?na_Crossed_second ?mk_Crossed ?kc_Crossed (Sky.meth_mk ?a_Row___init__ ?i_Row___init__ ?l_Row___init__ ?c_Row___init__ ?k_Row___init__) (Sky.meth_mk ?a_Crossed___init__ ?i_Crossed___init__ ?l_Crossed___init__ ?c_Crossed___init__ ?k_Crossed___init__) ?xr_BadBars ⟨?xga_BadBars, ?xgn_BadBars, ?xha_BadBars, ?xhn_BadBars, ?xhtk_BadBars, ?xhm_BadBars, ?xhb_BadBars, ?xhc_BadBars⟩ ?xr_NoBar ⟨?xga_NoBar, ?xgn_NoBar, ?xha_NoBar, ?xhn_NoBar, ?xhtk_NoBar, ?xhm_NoBar, ?xhb_NoBar, ?xhc_NoBar⟩ ?xr_BadPlace ⟨?xga_BadPlace, ?xgn_BadPlace, ?xha_BadPlace, ?xhn_BadPlace, ?xhtk_BadPlace, ?xhm_BadPlace, ?xhb_BadPlace, ?xhc_BadPlace⟩ ?xr_BadTree ⟨?xga_BadTree, ?xgn_BadTree, ?xha_BadTree, ?xhn_BadTree, ?xhtk_BadTree, ?xhm_BadTree, ?xhb_BadTree, ?xhc_BadTree⟩ ?xr_BadLinks ⟨?xga_BadLinks, ?xgn_BadLinks, ?xha_BadLinks, ?xhn_BadLinks, ?xhtk_BadLinks, ?xhm_BadLinks, ?xhb_BadLinks, ?xhc_BadLinks⟩ ?no_ValueError ?kt0 ?kt1 ?kt2 ?kt3 ?kt4 ?kt5 ?kt6 ?kt7 ?kt8 ?kt9 ?kt10 ?kt11 ?kt12 ?kt13 ?kt14 ?kt15 ?kt16 ?kt17 ?kt18 ?kt19 ?kt20 ?kt21 ?kt22 ?kt23 ?kt24 ?kt25 ?kt26 ?kt27 ?kt28 ?kt29 ?kt30 ?kt31 ?kt32 ?kt33 ?kt34 ?kt35 ?aL ?lL ?cL ?kL ?hh ?z1 ?z2 ?z3 ?z4 ?z5 ?z6 ?z7 ?z8 ?z9 ?z10 ?z11 ?z12 ?z13 ?z14 ?z15 ?z16
    (case a_is_whole_within9 => k_is); (case l_is_whole_within9 => k_is); (case c_is_whole_within9 => k_is); (case k_is_whole_within9 => k_is)
    (case a_check_bars9 => k_is); (case l_check_bars9 => k_is); (case c_check_bars9 => k_is); (case k_check_bars9 => k_is)
    (case a_reaches9 => k_is); (case l_reaches9 => k_is); (case c_reaches9 => k_is); (case k_reaches9 => k_is)
    (case a_seen_ahead9 => k_is); (case l_seen_ahead9 => k_is); (case c_seen_ahead9 => k_is); (case k_seen_ahead9 => k_is)
    (case a_shown9 => k_is); (case l_shown9 => k_is); (case c_shown9 => k_is); (case k_shown9 => k_is)
    (case a_board9 => k_is); (case l_board9 => k_is); (case c_board9 => k_is); (case k_board9 => k_is)
    (case a_rims9 => k_is); (case l_rims9 => k_is); (case c_rims9 => k_is); (case k_rims9 => k_is)
    (case a_levels9 => k_is); (case l_levels9 => k_is); (case c_levels9 => k_is); (case k_levels9 => k_is)
    (case a_water9 => k_is); (case l_water9 => k_is); (case c_water9 => k_is); (case k_water9 => k_is)
    (case a_links9 => k_is); (case l_links9 => k_is); (case c_links9 => k_is); (case k_links9 => k_is)
    (case a_tree9 => k_is); (case l_tree9 => k_is); (case c_tree9 => k_is); (case k_tree9 => k_is)
    (case a_sees9 => k_is); (case l_sees9 => k_is); (case c_sees9 => k_is); (case k_sees9 => k_is)
    (case a__law_bars_asked => k_is); (case l__law_bars_asked => k_is); (case c__law_bars_asked => k_is); (case k__law_bars_asked => k_is)
    (case a_is_whole_within => k_is); (case l_is_whole_within => k_is); (case c_is_whole_within => k_is); (case k_is_whole_within => k_is)
    (case a_check_bars => k_is); (case l_check_bars => k_is); (case c_check_bars => k_is); (case k_check_bars => k_is)
    (case a_reach_starts => k_is); (case l_reach_starts => k_is); (case c_reach_starts => k_is); (case k_reach_starts => k_is)
    (case a_turned => k_is); (case l_turned => k_is); (case c_turned => k_is); (case k_turned => k_is)
    (case a_reach_ends => k_is); (case l_reach_ends => k_is); (case c_reach_ends => k_is); (case k_reach_ends => k_is)
    (case a_reaches => k_is); (case l_reaches => k_is); (case c_reaches => k_is); (case k_reaches => k_is)
    (case a_board0 => k_is); (case l_board0 => k_is); (case c_board0 => k_is); (case k_board0 => k_is)
    (case a_is_place9 => k_is); (case l_is_place9 => k_is); (case c_is_place9 => k_is); (case k_is_place9 => k_is)
    (case a_check_two_places9 => k_is); (case l_check_two_places9 => k_is); (case c_check_two_places9 => k_is); (case k_check_two_places9 => k_is)
    (case a_sees8 => k_is); (case l_sees8 => k_is); (case c_sees8 => k_is); (case k_sees8 => k_is)
    (case a__law_places_asked => k_is); (case l__law_places_asked => k_is); (case c__law_places_asked => k_is); (case k__law_places_asked => k_is)
    (case a_check_parents9 => k_is); (case l_check_parents9 => k_is); (case c_check_parents9 => k_is); (case k_check_parents9 => k_is)
    (case a_check_parents => k_is); (case l_check_parents => k_is); (case c_check_parents => k_is); (case k_check_parents => k_is)
    (case a_depths => k_is); (case l_depths => k_is); (case c_depths => k_is); (case k_depths => k_is)
    (case a_parents_in_tree => k_is); (case l_parents_in_tree => k_is); (case c_parents_in_tree => k_is); (case k_parents_in_tree => k_is)
    (case a_bars_of9 => k_is); (case l_bars_of9 => k_is); (case c_bars_of9 => k_is); (case k_bars_of9 => k_is)
    (case a__law_trees_asked => k_is); (case l__law_trees_asked => k_is); (case c__law_trees_asked => k_is); (case k__law_trees_asked => k_is)
    (case a_all_below_their_places9 => k_is); (case l_all_below_their_places9 => k_is); (case c_all_below_their_places9 => k_is); (case k_all_below_their_places9 => k_is)
    (case a_check_links9 => k_is); (case l_check_links9 => k_is); (case c_check_links9 => k_is); (case k_check_links9 => k_is)
    (case a_row_of9 => k_is); (case l_row_of9 => k_is); (case c_row_of9 => k_is); (case k_row_of9 => k_is)
    (case a__law_links_asked => k_is); (case l__law_links_asked => k_is); (case c__law_links_asked => k_is); (case k__law_links_asked => k_is)
    (case a__law_told => k_is); (case l__law_told => k_is); (case c__law_told => k_is); (case k__law_told => k_is)
    (case a_tree => k_is); (case l_tree => k_is); (case c_tree => k_is); (case k_tree => k_is)
    (case a_nearest_lower => k_is); (case l_nearest_lower => k_is); (case c_nearest_lower => k_is); (case k_nearest_lower => k_is)
    (case a_links => k_is); (case l_links => k_is); (case c_links => k_is); (case k_links => k_is)
    (case a_rims_ahead => k_is); (case l_rims_ahead => k_is); (case c_rims_ahead => k_is); (case k_rims_ahead => k_is)
    (case a_rims_behind => k_is); (case l_rims_behind => k_is); (case c_rims_behind => k_is); (case k_rims_behind => k_is)
    (case a_rims => k_is); (case l_rims => k_is); (case c_rims => k_is); (case k_rims => k_is)
    (case a_levels => k_is); (case l_levels => k_is); (case c_levels => k_is); (case k_levels => k_is)
    (case a_water => k_is); (case l_water => k_is); (case c_water => k_is); (case k_water => k_is)
    (case a_all_below_their_places => k_is); (case l_all_below_their_places => k_is); (case c_all_below_their_places => k_is); (case k_all_below_their_places => k_is)
    (case a_check_links => k_is); (case l_check_links => k_is); (case c_check_links => k_is); (case k_check_links => k_is)
    (case a_crossed_ahead => k_is); (case l_crossed_ahead => k_is); (case c_crossed_ahead => k_is); (case k_crossed_ahead => k_is)
    (case a_row_of => k_is); (case l_row_of => k_is); (case c_row_of => k_is); (case k_row_of => k_is)
    (case aC_Row => k_is); (case pg_Row => k_is); (case hd_Row => k_is); (case po_Row => k_is)
    (case sa_Row => k_is); (case ha_Row => k_is); (case hn_Row => k_is); (case htk_Row => k_is)
    (case hm_Row => k_is); (case na_Row_bars => k_is); (case mk_Row => k_is); (case kc_Row => k_is)
    (case aC_BadBars => k_is); (case aC_NoBar => k_is); (case aC_BadPlace => k_is); (case aC_BadTree => k_is)
    (case aC_BadLinks => k_is); (case aC_BarError => k_is); (case aC_Crossed => k_is); (case pg_Crossed => k_is)
    (case hd_Crossed => k_is); (case po_Crossed => k_is); (case sa_Crossed => k_is); (case ha_Crossed => k_is)
    (case hn_Crossed => k_is); (case htk_Crossed => k_is); (case hm_Crossed => k_is); (case na_Crossed_first => k_is)
    (case na_Crossed_second => k_is); (case mk_Crossed => k_is); (case kc_Crossed => k_is); (case a_Row___init__ => k_is)
    (case i_Row___init__ => k_is); (case l_Row___init__ => k_is); (case c_Row___init__ => k_is); (case k_Row___init__ => k_is)
    (case a_Crossed___init__ => k_is); (case i_Crossed___init__ => k_is); (case l_Crossed___init__ => k_is); (case c_Crossed___init__ => k_is)
    (case k_Crossed___init__ => k_is); (case xr_BadBars => k_exc); (case xga_BadBars => k_is); (case xgn_BadBars => k_is)
    (case xha_BadBars => k_is); (case xhn_BadBars => k_is); (case xhtk_BadBars => k_is); (case xhm_BadBars => k_is)
    (case xhb_BadBars => k_is); (case xhc_BadBars => exact (show PySem.W.isClsIn _ _ = true by k_is)); (case xr_NoBar => k_exc); (case xga_NoBar => k_is)
    (case xgn_NoBar => k_is); (case xha_NoBar => k_is); (case xhn_NoBar => k_is); (case xhtk_NoBar => k_is)
    (case xhm_NoBar => k_is); (case xhb_NoBar => k_is); (case xhc_NoBar => exact (show PySem.W.isClsIn _ _ = true by k_is)); (case xr_BadPlace => k_exc)
    (case xga_BadPlace => k_is); (case xgn_BadPlace => k_is); (case xha_BadPlace => k_is); (case xhn_BadPlace => k_is)
    (case xhtk_BadPlace => k_is); (case xhm_BadPlace => k_is); (case xhb_BadPlace => k_is); (case xhc_BadPlace => exact (show PySem.W.isClsIn _ _ = true by k_is))
    (case xr_BadTree => k_exc); (case xga_BadTree => k_is); (case xgn_BadTree => k_is); (case xha_BadTree => k_is)
    (case xhn_BadTree => k_is); (case xhtk_BadTree => k_is); (case xhm_BadTree => k_is); (case xhb_BadTree => k_is)
    (case xhc_BadTree => exact (show PySem.W.isClsIn _ _ = true by k_is)); (case xr_BadLinks => k_exc); (case xga_BadLinks => k_is); (case xgn_BadLinks => k_is)
    (case xha_BadLinks => k_is); (case xhn_BadLinks => k_is); (case xhtk_BadLinks => k_is); (case xhm_BadLinks => k_is)
    (case xhb_BadLinks => k_is); (case xhc_BadLinks => exact (show PySem.W.isClsIn _ _ = true by k_is)); (case no_ValueError => k_is); (case kt0 => kit_is)
    (case kt1 => exact PySem.W.exm_of (by k_is) (by decide) (by kit_is)); (case kt2 => exact PySem.W.exm_of (by k_is) (by decide) (by kit_is)); (case kt3 => exact PySem.W.exm_of (by k_is) (by decide) (by kit_is)); (case kt4 => exact PySem.W.exm_of (by k_is) (by decide) (by kit_is))
    (case kt5 => exact PySem.W.exm_of (by k_is) (by decide) (by kit_is)); (case kt6 => kit_is); (case kt7 => kit_is); (case kt8 => kit_is)
    (case kt9 => kit_is); (case kt10 => kit_is); (case kt11 => kit_is); (case kt12 => kit_is)
    (case kt13 => kit_is); (case kt14 => kit_is); (case kt15 => kit_is); (case kt16 => kit_is)
    (case kt17 => kit_is); (case kt18 => kit_is); (case kt19 => kit_is); (case kt20 => kit_is)
    (case kt21 => kit_is); (case kt22 => kit_is); (case kt23 => kit_is); (case kt24 => kit_is)
    (case kt25 => kit_is); (case kt26 => kit_is); (case kt27 => kit_is); (case kt28 => kit_is)
    (case kt29 => kit_is); (case kt30 => kit_is); (case kt31 => kit_is); (case kt32 => kit_is)
    (case kt33 => kit_is); (case kt34 => kit_is); (case kt35 => kit_is); (case aL => k_is)
    (case lL => k_is); (case cL => k_is); (case kL => k_is); (case hh => k_is)
    (case z1 => k_is); (case z2 => k_is); (case z3 => k_is); (case z4 => k_is)
    (case z5 => k_is); (case z6 => k_is); (case z7 => k_is); (case z8 => k_is)
    (case z9 => k_is); (case z10 => k_is); (case z11 => k_is); (case z12 => k_is)
    (case z13 => k_is); (case z14 => k_is); (case z15 => k_is); (case z16 => k_is)
