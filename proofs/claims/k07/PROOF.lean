import PyProof.Rows.All
import Wide.All
import OpenK.AllK
import Wide.FinOn
import Lean
import PyProof.EqAt
import PyProof.EqKinds
import PyProof.TupleCall
import PyProof.FactsAll.range
import PyProof.ListNew
import PyProof.ZipIter
import PyProof.Rows.EqDataRows
import PyProof.Rows.CallKwBuiltin
import PySem.Challenge.RW_skybars_k07_whole_tree_back
set_option Elab.async false
set_option linter.all false
set_option maxRecDepth 100000
/-! THE HAND LAYER, for ints, bools, texts, own classes, LISTS and tuples (index, slices, in, append, pop ..), calls, loops. Paste it whole ahead of your own text; what your proof does not reach may be deleted. -/
namespace L2
open PySem PySem.Spec PyProof.Rows

/-- a key: an int or a str -/
abbrev Key := Sum Int Str
def keyIs : Key → Value → Bool
  | .inl k, v => Value.isInt k v
  | .inr x, v => Value.isStrOf x v
def keyH (w : World) : Key → Int
  | .inl k => hashInt k
  | .inr x => hashStr w x
theorem keyIs_shape : ∀ {k : Key} {v : Value}, keyIs k v = true → (∃ i t, k = Sum.inl i ∧ v = Value.int i t) ∨ (∃ x t, k = Sum.inr x ∧ v = Value.str x t)
  | .inl i, v, h => by
    obtain ⟨t, e⟩ := Value.isInt_shape (k := i) (v := v) h
    exact .inl ⟨i, t, rfl, e⟩
  | .inr x, v, h => by
    obtain ⟨t, e⟩ := Value.isStrOf_shape (x := x) (v := v) h
    exact .inr ⟨x, t, rfl, e⟩
theorem key_ll (a b : Int) : decide ((Sum.inl a : Key) = Sum.inl b) = (a == b) := by
  by_cases e : a = b
  · subst e; simp
  · have h : ¬ (Sum.inl a : Key) = Sum.inl b := fun q => e (Sum.inl.inj q)
    rw [decide_eq_false h]
    exact (beq_eq_false_iff_ne.mpr e).symm
theorem key_rr (a b : Str) : decide ((Sum.inr a : Key) = Sum.inr b) = decide (a = b) := by
  by_cases e : a = b
  · subst e; simp
  · have h : ¬ (Sum.inr a : Key) = Sum.inr b := fun q => e (Sum.inr.inj q)
    rw [decide_eq_false h, decide_eq_false e]
theorem key_lr (a : Int) (b : Str) : decide ((Sum.inl a : Key) = Sum.inr b) = false := decide_eq_false (fun q => nomatch q)
theorem key_rl (a : Str) (b : Int) : decide ((Sum.inr a : Key) = Sum.inl b) = false := decide_eq_false (fun q => nomatch q)

def mixKind (prog : Program) (w : World) : PySem.KeyKind prog w Key where
  is := keyIs
  hash := keyH w
  inj := fun v a b ha hb => by
    rcases keyIs_shape ha with ⟨i, t, rfl, rfl⟩ | ⟨x, t, rfl, rfl⟩
    · rcases keyIs_shape hb with ⟨j, u, rfl, e⟩ | ⟨y, u, rfl, e⟩
      · injection e with e1 _; rw [e1]
      · exact nomatch e
    · rcases keyIs_shape hb with ⟨j, u, rfl, e⟩ | ⟨y, u, rfl, e⟩
      · exact nomatch e
      · injection e with e1 _; rw [e1]
  byValue := fun k v h => by
    rcases keyIs_shape h with ⟨i, t, rfl, rfl⟩ | ⟨x, t, rfl, rfl⟩ <;> rfl
  pyHash := fun hv h => by
    rcases keyIs_shape hv with ⟨i, t, rfl, rfl⟩ | ⟨x, t, rfl, rfl⟩
    · exact wpAny_pyHash_int h
    · exact wpAny_pyHash_str h
  eqBool := fun hu hv h => by
    rcases keyIs_shape hu with ⟨i, t, rfl, rfl⟩ | ⟨x, t, rfl, rfl⟩
    · rcases keyIs_shape hv with ⟨j, u, rfl, rfl⟩ | ⟨y, u, rfl, rfl⟩
      · rw [key_ll] at h; exact wpAny_eqBool_int h
      · rw [key_lr] at h; exact SeqAt.EqAt.int_str i t y u _ _ _ _ h
    · rcases keyIs_shape hv with ⟨j, u, rfl, rfl⟩ | ⟨y, u, rfl, rfl⟩
      · rw [key_rl] at h; exact SeqAt.EqAt.str_int x t j u _ _ _ _ h
      · rw [key_rr] at h; exact wpAny_eqBool_str h
  «strs» := fun k x t v h => by
    rcases keyIs_shape h with ⟨i, u, rfl, e⟩ | ⟨y, u, rfl, e⟩
    · exact nomatch e
    · injection e with e1 _
      subst e1
      cases v <;> rfl

end L2

namespace L2
open PySem PySem.Spec PyProof.Rows

/-- a value, without the heap -/
inductive V where
  | non | bl (b : Bool) | int (i : Int) | str (x : Str) | byt (b : Array UInt8) | flt (b : UInt64) | ref (a : Addr) | ty (n : String)
  deriving DecidableEq

def RelV : V → Value → Prop
  | .non, u => u = Value.none
  | .bl b, u => u = Value.bool b
  | .int i, u => ∃ t, u = Value.int i t
  | .str x, u => ∃ t, u = Value.str x t
  | .byt b, u => ∃ t, u = Value.bytes b t
  | .flt b, u => ∃ t, u = Value.float b t
  | .ref a, u => u = Value.ref a
  | .ty n, u => u = Value.type n

abbrev Vals : List V → List Value → Prop := Paired RelV
theorem Vals.length {xs : List V} {us : List Value} (r : Vals xs us) : xs.length = us.length := Paired.length r
theorem Vals.get : ∀ {xs : List V} {us : List Value} {i : Nat} {x : V}, Vals xs us → xs[i]? = some x → ∃ u, us[i]? = some u ∧ RelV x u
  | _, _, _, _, .nil, e => by simp at e
  | _, _, 0, _, .cons r _, e => by simp at e; subst e; exact ⟨_, rfl, r⟩
  | _, _, i + 1, x, .cons _ t, e => by
    obtain ⟨u, h1, h2⟩ := Vals.get (i := i) (x := x) t (by simpa using e)
    exact ⟨u, by simpa using h1, h2⟩
theorem Vals.set {x : V} {u : Value} (r : RelV x u) : ∀ {xs : List V} {us : List Value} (i : Nat), Vals xs us → Vals (xs.set i x) (us.set i u)
  | _, _, _, .nil => .nil
  | _, _, 0, .cons _ t => .cons r t
  | _, _, i + 1, .cons q t => .cons q (Vals.set r i t)
theorem Vals.append : ∀ {xs ys : List V} {us ws : List Value}, Vals xs us → Vals ys ws → Vals (xs ++ ys) (us ++ ws)
  | _, _, _, _, .nil, s => s
  | _, _, _, _, .cons r t, s => .cons r (Vals.append t s)
def RelO : Option V → Option Value → Prop
  | some v, some u => RelV v u
  | none, none => True
  | _, _ => False
def KV {κ : Type} : List (κ × V) → List (κ × Value) → Prop := Paired fun (p : κ × V) (q : κ × Value) => p.1 = q.1 ∧ RelV p.2 q.2

/-- a key of a dict (00_mix): an int or a text -/
def kV : Key → V
  | .inl i => .int i
  | .inr x => .str x

/-- what stands at a tracked address -/
inductive HO where
  /-- a list -/
  | lst (xs : List V)
  /-- a tuple (never changes) -/
  | tup (xs : List V)
  /-- a dict whose keys are ints and texts; one whose keys are tuples of ints and texts (the empty one is both) -/
  | dK (kvs : List (Key × V)) | dT (kvs : List (List Key × V))
  /-- a set of ints: its members, its size -/
  | set (S : Int → Bool) (n : Nat)
  /-- an instance of the class at C, its dict at dx, its attributes -/
  | ins (C dx : Addr) (fs : List (Str × V))
  /-- the dict of the instance at x -/
  | own (x : Addr)
  /-- the dict of an exception -/
  | xd (fs : List (Str × V))
  /-- a bound method, f of x -/
  | met (f x : Addr)
  /-- a range object lo, lo + 1, .. below hi -/
  | rng (lo hi : Int)
  /-- a thing that is known to the object (the script; a dict while a loop walks it): read, never written while it is so -/
  | frz (o : Obj) (u : HO)
  /-- a code object's table -/
  | tbl (ps : Array Value)
  /-- any other thing, by what is true of its one object (a def of one's own: SetO a S n := HO.ext fun h => ..) -/
  | ext (φ : Heap → Prop)

abbrev Hp := Addr → Option HO
def upd (H : Hp) (a : Addr) (o : HO) : Hp := fun b => if b = a then some o else H b
theorem upd_same {H : Hp} {a : Addr} {o : HO} : upd H a o a = some o := by unfold upd; rw [if_pos rfl]
theorem upd_ne {H : Hp} {a b : Addr} {o : HO} (h : b ≠ a) : upd H a o b = H b := by unfold upd; rw [if_neg h]
theorem upd_upd {H : Hp} {a : Addr} {o u : HO} : upd (upd H a o) a u = upd H a u := by
  funext b; unfold upd; split <;> rfl
theorem ne_of_none {H : Hp} {a b : Addr} {o : HO} (h : H a = some o) (h' : H b = none) : a ≠ b := by
  intro e; subst e; rw [h] at h'; cases h'

section
variable (P : Program) (w : World)
def ObjOk (H : Hp) (h : Heap) (a : Addr) : HO → Prop
  | .lst xs => xs.length ≤ sizeLine ∧ ∃ (its : List Value) (n : Nat), Vals xs its ∧ h.get? a = some { cls := .type "list", data := .seq its.toArray n }
  | .tup xs => xs.length ≤ sizeLine ∧ ∃ its : List Value, Vals xs its ∧ IsTup h a its.toArray
  | .dK kvs => kvs.length ≤ sizeLine ∧ (a == sysModules) = false ∧ ∃ vs, KV kvs vs ∧ h.DictOf (mixKind P w) a vs
  | .dT kvs => kvs.length ≤ sizeLine ∧ (a == sysModules) = false ∧ ∃ xs : List (List Key × Addr × Value),
      Paired (fun (p : List Key × V) (q : List Key × Addr × Value) => p.1 = q.1 ∧ H q.2.1 = some (.tup (p.1.map kV)) ∧ RelV p.2 q.2.2) kvs xs ∧
      ∃ o es ep, h.get? a = some o ∧ o.ExactDict ∧ o.data = .dict es ep ∧ es.toList = xs.map (entryOfKey (tupleKind (mixKind P w))) ∧ (xs.map (·.1)).Nodup
  | .set S n => h.SetOf (intKind P w) a S n
  | .ins C dx fs => H dx = some (.own a) ∧ fs.length ≤ 1000 ∧ dx ≠ a ∧ h.get? a = some (PySem.W.instObj C dx) ∧
      ∃ mA, h.Ns1 dx mA ∧ (∀ f, RelO (fs.lookup f) (mA f)) ∧ PySem.Within mA (fs.map (·.1))
  | .own _ => ∃ o, h.get? a = some o
  | .xd fs => ∃ mA, h.Ns1 a mA ∧ ∀ f, RelO (fs.lookup f) (mA f)
  | .rng lo hi => ∃ t u v, h.get? a = some { cls := .type "range", data := .fields #[.int lo t, .int hi u, .int 1 v] }
  | .frz o u => h.get? a = some o ∧ ObjOk H h a u
  | .tbl ps => h.get? a = some { cls := .none, data := .fields ps }
  | .met f x => h.get? a = some (PySem.W.methodObj (.ref f) (.ref x))
  | .ext φ => φ h ∧ (∃ o, h.get? a = some o) ∧ ∀ h1 h2 : Heap, φ h1 → (∀ o, h1.get? a = some o → h2.get? a = some o) → φ h2
/-- the abstract heap is held -/
def HOk (H : Hp) (h : Heap) : Prop := ∀ a o, H a = some o → ObjOk P w H h a o
end

section
variable {P : Program} {w : World} {H H' : Hp} {h h' : Heap} {a : Addr} {o : HO}
theorem ObjOk.lt (x : ObjOk P w H h a o) : a < h.objs.size := by
  cases o with
  | lst xs => obtain ⟨_, _, _, _, e⟩ := x; exact Heap.lt_size e
  | tup xs => obtain ⟨_, _, _, p⟩ := x; exact p.lt
  | dK kvs => obtain ⟨_, _, _, _, o, _, _, e, _⟩ := x; exact Heap.lt_size e
  | dT kvs => obtain ⟨_, _, _, _, o, _, _, e, _⟩ := x; exact Heap.lt_size e
  | set S n => obtain ⟨o, _, _, _, e, _⟩ := x; exact Heap.lt_size e
  | ins C dx fs => obtain ⟨_, _, _, e, _⟩ := x; exact Heap.lt_size e
  | own y => obtain ⟨_, e⟩ := x; exact Heap.lt_size e
  | xd fs => obtain ⟨_, ⟨_, _, _, e, _⟩, _⟩ := x; exact Heap.lt_size e
  | rng lo hi => obtain ⟨_, _, _, e⟩ := x; exact Heap.lt_size e
  | frz ob u => obtain ⟨e, _⟩ := x; exact Heap.lt_size e
  | tbl ps => exact Heap.lt_size (show h.get? a = some _ from x)
  | met f y => exact Heap.lt_size (show h.get? a = some _ from x)
  | ext φ => obtain ⟨_, ⟨_, e⟩, _⟩ := x; exact Heap.lt_size e
theorem Paired.mapP {α β : Type} {F G : α → β → Prop} : ∀ {l₁ : List α} {l₂ : List β}, Paired F l₁ l₂ → (∀ a b, F a b → G a b) → Paired G l₁ l₂
  | _, _, .nil, _ => .nil
  | _, _, .cons r t, f => .cons (f _ _ r) (Paired.mapP t f)
/-- what an object's description leans on: its own object, its own dict, the tuples -/
theorem ObjOk.stay (x : ObjOk P w H h a o) (k : ∀ b u, (b = a ∨ H b = some (.own a)) → h.get? b = some u → h'.get? b = some u)
    (ho : ∀ b, H b = some (.own a) → H' b = some (.own a)) (ht : ∀ b xs, H b = some (.tup xs) → H' b = some (.tup xs)) : ObjOk P w H' h' a o := by
  induction o with
  | lst xs => obtain ⟨z, its, n, r, e⟩ := x; exact ⟨z, its, n, r, k _ _ (.inl rfl) e⟩
  | tup xs => obtain ⟨z, its, r, ob, e, c⟩ := x; exact ⟨z, its, r, ob, k _ _ (.inl rfl) e, c⟩
  | dK kvs => obtain ⟨z, y, vs, r, ob, es, ep, e, c⟩ := x; exact ⟨z, y, vs, r, ob, es, ep, k _ _ (.inl rfl) e, c⟩
  | dT kvs =>
    obtain ⟨z, y, xs, r, ob, es, ep, e, c⟩ := x
    exact ⟨z, y, xs, Paired.mapP r fun p q z => ⟨z.1, ht _ _ z.2.1, z.2.2⟩, ob, es, ep, k _ _ (.inl rfl) e, c⟩
  | set S n => obtain ⟨ob, es, ep, t, e, c⟩ := x; exact ⟨ob, es, ep, t, k _ _ (.inl rfl) e, c⟩
  | ins C dx fs =>
    obtain ⟨d, z, ne, e, mA, ⟨od, es, ep, e2, c⟩, r⟩ := x
    exact ⟨ho _ d, z, ne, k _ _ (.inl rfl) e, mA, ⟨od, es, ep, k _ _ (.inr d) e2, c⟩, r⟩
  | own y => obtain ⟨ob, e⟩ := x; exact ⟨ob, k _ _ (.inl rfl) e⟩
  | xd fs => obtain ⟨mA, ⟨od, es, ep, e, c⟩, r⟩ := x; exact ⟨mA, ⟨od, es, ep, k _ _ (.inl rfl) e, c⟩, r⟩
  | rng lo hi => obtain ⟨t, u, v, e⟩ := x; exact ⟨t, u, v, k _ _ (.inl rfl) e⟩
  | frz ob u ih => obtain ⟨e, q⟩ := x; exact ⟨k _ _ (.inl rfl) e, ih q⟩
  | tbl ps =>
    have e : h.get? a = some { cls := .none, data := .fields ps } := x
    show h'.get? a = some { cls := .none, data := .fields ps }
    exact k a _ (.inl rfl) e
  | met f y =>
    have e : h.get? a = some (PySem.W.methodObj (.ref f) (.ref y)) := x
    show h'.get? a = some (PySem.W.methodObj (.ref f) (.ref y))
    exact k a _ (.inl rfl) e
  | ext φ => obtain ⟨p, ⟨o, e⟩, st⟩ := x; exact ⟨st _ _ p fun o q => k _ _ (.inl rfl) q, ⟨o, k _ _ (.inl rfl) e⟩, st⟩
theorem HOk.lt (x : HOk P w H h) (e : H a = some o) : a < h.objs.size := (x a o e).lt
theorem HOk.fresh (x : HOk P w H h) (e : h.objs.size ≤ a) : H a = none := by
  cases q : H a with
  | none => rfl
  | some u => exact absurd (Nat.lt_of_lt_of_le (x.lt q) e) (Nat.lt_irrefl _)
/-- every object of the heap is kept -/
theorem HOk.kept (x : HOk P w H h) (k : ∀ b u, h.get? b = some u → h'.get? b = some u) : HOk P w H h' := fun a o e =>
  (x a o e).stay (fun b u _ q => k b u q) (fun _ q => q) fun _ _ q => q
/-- a new object is laid and tracked -/
theorem HOk.laid (x : HOk P w H h) (k : ∀ b u, h.get? b = some u → h'.get? b = some u) (hp : h.objs.size ≤ a) (new : ObjOk P w (upd H a o) h' a o) : HOk P w (upd H a o) h' := fun b u e => by
  have hn := x.fresh hp
  by_cases hb : b = a
  · subst hb; rw [upd_same] at e; cases e; exact new
  · rw [upd_ne hb] at e
    exact (x b u e).stay (fun c v _ q => k c v q) (fun c q => by rw [upd_ne (ne_of_none q hn)]; exact q) fun c xs q => by rw [upd_ne (ne_of_none q hn)]; exact q
end

/-- what may be read as u: it is u, or a known u -/
def Rd (H : Hp) (a : Addr) (u : HO) : Prop := H a = some u ∨ ∃ o, H a = some (.frz o u)
theorem Rd.ok {P : Program} {w : World} {H : Hp} {h : Heap} {a : Addr} {u : HO} (r : Rd H a u) (x : HOk P w H h) : ObjOk P w H h a u := by
  rcases r with r | ⟨o, r⟩
  · exact x a u r
  · obtain ⟨_, q⟩ := x a _ r
    exact q
/-- what may be written -/
def Mut : Option HO → Prop
  | some (.lst _) => True
  | some (.dK _) => True
  | some (.dT _) => True
  | some (.set _ _) => True
  | some (.ins _ _ _) => True
  | some (.ext _) => True
  | _ => False
section
variable {P : Program} {w : World} {H : Hp} {h h' : Heap} {x e : Addr} {o' : HO}
/-- the object at e is changed: x itself, or the dict of the instance x -/
theorem HOk.write (ok : HOk P w H h) (mu : Mut (H x)) (he : e = x ∨ H e = some (.own x)) (k : ∀ b u, b ≠ e → h.get? b = some u → h'.get? b = some u) (heo : ∃ u, h'.get? e = some u)
    (new : ObjOk P w (upd H x o') h' x o') : HOk P w (upd H x o') h' := fun b u q => by
  have nown : ∀ c y, H c = some (.own y) → c ≠ x := fun c y r z => by subst z; rw [r] at mu; exact mu
  have ntup : ∀ c xs, H c = some (.tup xs) → c ≠ x := fun c xs r z => by subst z; rw [r] at mu; exact mu
  by_cases hb : b = x
  · subst hb; rw [upd_same] at q; cases q; exact new
  · rw [upd_ne hb] at q
    by_cases hbe : b = e
    · have q' : H b = some (.own x) := by
        rcases he with z | z
        · exact absurd (hbe.trans z) hb
        · rw [hbe]; exact z
      rw [q] at q'; cases q'
      obtain ⟨v, hv⟩ := heo
      exact ⟨v, by rw [hbe]; exact hv⟩
    · refine (ok b u q).stay (fun c v hc r => k c v ?_ r) (fun c r => by rw [upd_ne (nown c b r)]; exact r) fun c xs r => by rw [upd_ne (ntup c xs r)]; exact r
      rcases hc with rfl | hc
      · exact hbe
      · rintro rfl
        rcases he with z | z
        · exact nown c b hc z
        · rw [hc] at z; cases z; exact hb rfl
end

/-! ### kept unless tracked; of the frames at fs (the callers') the slots may change (an exception that passes writes there); of the records at ex (iterators) nothing is said -/
structure Un (fs ex : List Addr) (H H' : Hp) (h h' : Heap) : Prop where
  keep : ∀ b o, h.get? b = some o → H b = none → b ∉ fs → b ∉ ex → h'.get? b = some o
  slot : ∀ b o, h.get? b = some o → H b = none → b ∈ fs → b ∉ ex → ∃ sl, h'.get? b = some { o with slots := sl }
  free : ∀ b o, h.get? b = some o → H b = none → b ∉ ex → H' b = none
  there : ∀ b o, h.get? b = some o → b ∉ ex → ∃ o', h'.get? b = some o'
  tups : ∀ b xs, H b = some (.tup xs) → H' b = some (.tup xs)
  frzs : ∀ b o u, H b = some (.frz o u) → H' b = some (.frz o u)
  tbls : ∀ b ps, H b = some (.tbl ps) → ∃ more, H' b = some (.tbl (ps ++ more))
section
variable {fs fs' ex ex' : List Addr} {H H1 H2 : Hp} {h h1 h2 h' : Heap} {a x e : Addr} {o : HO}
theorem Un.any (u : Un fs ex H H1 h h1) {b : Addr} {ob : Obj} (q : h.get? b = some ob) (n : H b = none) (hx : b ∉ ex) : ∃ sl, h1.get? b = some { ob with slots := sl } := by
  by_cases hb : b ∈ fs
  · exact u.slot b ob q n hb hx
  · exact ⟨ob.slots, u.keep b ob q n hb hx⟩
theorem Un.kept (k : ∀ b u, h.get? b = some u → h'.get? b = some u) : Un fs ex H H h h' :=
  ⟨fun b ob q _ _ _ => k b ob q, fun b ob q _ _ _ => ⟨ob.slots, k b ob q⟩, fun _ _ _ n _ => n, fun b ob q _ => ⟨ob, k b ob q⟩, fun _ _ q => q, fun _ _ _ q => q, fun _ ps q => ⟨#[], by rw [q]; simp⟩⟩
theorem Un.refl : Un fs ex H H h h := Un.kept fun _ _ q => q
theorem Un.laid (k : ∀ b u, h.get? b = some u → h'.get? b = some u) (hp : h.objs.size ≤ a) (hn : H a = none) : Un fs ex H (upd H a o) h h' where
  keep := fun b u q _ _ _ => k b u q
  slot := fun b u q _ _ _ => ⟨u.slots, k b u q⟩
  free := fun b u q n _ => by rw [upd_ne (Nat.ne_of_lt (Nat.lt_of_lt_of_le (Heap.lt_size q) hp))]; exact n
  there := fun b u q _ => ⟨u, k b u q⟩
  tups := fun b xs q => by rw [upd_ne (ne_of_none q hn)]; exact q
  frzs := fun b u xs q => by rw [upd_ne (ne_of_none q hn)]; exact q
  tbls := fun b ps q => ⟨#[], by rw [upd_ne (ne_of_none q hn), q]; simp⟩
theorem Un.write (mu : Mut (H x)) (he : e = x ∨ H e = some (.own x)) (k : ∀ b u, b ≠ e → h.get? b = some u → h'.get? b = some u) (heo : ∃ u, h'.get? e = some u) : Un fs ex H (upd H x o) h h' := by
  have hx : ∀ b, H b = none → b ≠ x := fun b n z => by subst z; rw [n] at mu; exact mu
  have hb : ∀ b, H b = none → b ≠ e := fun b n z => by
    subst z
    rcases he with r | r
    · exact hx b n r
    · rw [n] at r; cases r
  have hm : ∀ b u, H b = some u → ¬ Mut (some u) → b ≠ x := fun b u q nm z => by subst z; rw [q] at mu; exact nm mu
  refine ⟨fun b u q n _ _ => k b u (hb b n) q, fun b u q n _ _ => ⟨u.slots, k b u (hb b n) q⟩, fun b u q n _ => by rw [upd_ne (hx b n)]; exact n, fun b u q _ => ?_,
    fun b xs q => by rw [upd_ne (hm b _ q fun z => z)]; exact q, fun b u xs q => by rw [upd_ne (hm b _ q fun z => z)]; exact q, fun b ps q => ⟨#[], by rw [upd_ne (hm b _ q fun z => z), q]; simp⟩⟩
  by_cases hbe : b = e
  · subst hbe; exact heo
  · exact ⟨u, k b u hbe q⟩
end

/-! ### the heap without what is tracked -/
def trk (h : Heap) (H : Hp) : List Addr := (List.range h.objs.size).filter fun a => (H a).isSome
def hidT (h : Heap) (H : Hp) : Heap := PySem.W.hideAll h (trk h H)
theorem hidT_size (h : Heap) (H : Hp) : (hidT h H).objs.size = h.objs.size := PySem.W.hideAll_size _ _
theorem hidT_get {h : Heap} {H : Hp} {b : Addr} {o : Obj} (e : h.get? b = some o) (n : H b = none) : (hidT h H).get? b = some o :=
  PySem.W.hideAll_get _ e fun hm => by
    have q : (H b).isSome = true := (List.mem_filter.mp hm).2
    rw [n] at q; simp at q
theorem of_hidT {h : Heap} {H : Hp} {b : Addr} {o : Obj} (e : (hidT h H).get? b = some o) : h.get? b = some o ∧ H b = none := by
  have e' : h.get? b = some o := PySem.W.of_hideAll (trk h H) e
  refine ⟨e', ?_⟩
  cases q : H b with
  | none => rfl
  | some x =>
    have hm : b ∈ trk h H := List.mem_filter.mpr ⟨List.mem_range.mpr (Heap.lt_size e'), by simp [q]⟩
    have z : (hidT h H).get? b = none := PySem.W.hideAll_none (trk h H) hm
    rw [z] at e; cases e

/-! ### OpenK's ledger, filled with every new object but one -/
end L2

namespace L2
open PySem PySem.Spec PyProof.Rows

/-- the module's facts, over the base: the heap at the law's entry without what is tracked there -/
structure Mod (K : PySem.W.Frag) (mg : Str → Option Value) (base : Heap) : Prop where
  kin : K.In base
  glob : base.Ns mainGlobals mg
  blt : ∃ mb, base.Ns builtinsNs mb ∧ ∀ x : Str, x ≠ "__name__" → mb x = bootBuiltins x
  nolimit : base.NoLimit

/-- the context: a def's body (or a comprehension's block) running. base: fixed through the whole law; s₀, H₀: the entry; outer: the frames whose slots others may change (a def's callers); stack: all frames that run;
   ex: iterators that were made ahead of the entry and are walked here (a comprehension's); fn: the names whose cells were made at the entry (a def: all; a comprehension's block: its own); calm: not within an except suite; pn: pins that every state bears; xe: what is wanted of an exception that leaves the code -/
structure Cx where
  prog : Program
  w : World
  K : PySem.W.Frag
  mg : Str → Option Value
  base : Heap
  A : Around
  N : List Str
  s₀ : Shared
  H₀ : Hp
  env : Env
  outer : List Env
  stack : List Env
  ex : List Addr
  fn : Str → Bool
  calm : Bool
  pn : List (Addr × Obj)
  xe : Value → Shared → Prop
/-- the callers' frames -/
def frs (l : List Env) : List Addr := l.filterMap (·.frame)
abbrev Cx.fs (X : Cx) : List Addr := frs X.outer

def Vis (sc : Scope) (x : Str) : Prop := sc.names.lookup x = some .local ∨ sc.names.lookup x = some .cell ∨ sc.names.lookup x = some .free
def Loc (sc : Scope) (x : Str) : Prop := sc.names.lookup x = some .local ∨ sc.names.lookup x = some .cell
def Look (env : Env) (h : Heap) (m : Str → Option Value) (x : Str) (u : Value) : Prop :=
  (env.kindOf x = some .local ∧ m x = some u) ∨ ((env.kindOf x = some .cell ∨ env.kindOf x = some .free) ∧ ∃ c, env.cells.lookup x = some c ∧ h.IsCell c (some u))

structure Cx.Ok (X : Cx) : Prop where
  mod : Mod X.K X.mg X.base
  kind : X.env.scope.kind = .function
  glob : X.env.globals = mainGlobals
  blt : X.env.builtins = builtinsNs
  above : X.s₀.heap.objs.size ≤ X.env.locals
  inj : ∀ x y c, X.env.cells.lookup x = some c → X.env.cells.lookup y = some c → x = y
  has : ∀ x, (X.env.kindOf x = some .cell ∨ X.env.kindOf x = some .free) → ∃ c, X.env.cells.lookup x = some c
  cab : ∀ x c, X.fn x = true → X.env.cells.lookup x = some c → X.s₀.heap.objs.size ≤ c
  hd : X.calm = true → X.A.handled = none
  frames : X.A.frames = some X.stack
  stk : X.stack = X.outer ∨ (X.stack = X.env :: X.outer ∧ X.env.frame = some X.env.locals)
  exf : ∀ b ∈ X.ex, b ≠ X.env.locals ∧ ∀ x c, X.env.cells.lookup x = some c → c ≠ b
  bs : ∀ b o, X.base.get? b = some o → X.s₀.heap.get? b = some o ∧ X.H₀ b = none
  bsz : X.base.objs.size ≤ X.s₀.heap.objs.size
  noex : ∀ b o, X.base.get? b = some o → b ∉ X.ex
  exfs : ∀ b ∈ X.ex, b ∉ X.fs
  funs : X.s₀.heap.FunFrames X.base X.outer
  frf : ∀ b ∈ X.fs, X.H₀ b = none

structure Inv (X : Cx) (pins : List (Addr × Obj)) (σ : List (Option V)) (H : Hp) (s : Shared) : Prop where
  ok : X.Ok
  os : s.os = X.s₀.os
  bare : AllBare s.gens
  base : Un X.fs X.ex X.H₀ H X.s₀.heap s.heap
  loc : ∃ m, s.heap.Ns X.env.locals m ∧ ∀ (i : Nat) (x : Str) (v : V), X.N[i]? = some x → σ[i]? = some (some v) → Vis X.env.scope x → ∃ u, RelV v u ∧ Look X.env s.heap m x u
  cell : ∀ x c, X.env.cells.lookup x = some c → ∃ v, s.heap.IsCell c v
  free : H X.env.locals = none
  freeC : ∀ x c, X.env.cells.lookup x = some c → H c = none
  pin : ∀ p ∈ X.pn ++ pins, s.heap.get? p.1 = some p.2 ∧ H p.1 = none ∧ p.1 ≠ X.env.locals ∧ p.1 ∉ X.fs ∧ ∀ v, p.2.data ≠ .cell v
  hok : HOk X.prog X.w H s.heap
  len : σ.length = X.N.length

section
variable {X : Cx} {pins : List (Addr × Obj)} {σ : List (Option V)} {H H' : Hp} {s : Shared} {h' : Heap}

theorem Cx.Ok.nofr (ok : X.Ok) {b : Addr} {o : Obj} (e : X.base.get? b = some o) : b ∉ X.fs := fun hb => by
  have := (ok.funs.mem hb).1
  rw [e] at this; cases this
theorem Inv.bs (I : Inv X pins σ H s) : ∀ b o, X.base.get? b = some o → s.heap.get? b = some o ∧ H b = none := fun b o e =>
  ⟨I.base.keep b o (I.ok.bs b o e).1 (I.ok.bs b o e).2 (I.ok.nofr e) (I.ok.noex b o e), I.base.free b o (I.ok.bs b o e).1 (I.ok.bs b o e).2 (I.ok.noex b o e)⟩
theorem Inv.bk (I : Inv X pins σ H s) : ∀ b o, X.base.get? b = some o → s.heap.get? b = some o := fun b o e => (I.bs b o e).1
theorem Inv.mod (I : Inv X pins σ H s) : Mod X.K X.mg X.base := I.ok.mod
theorem Inv.kIn (I : Inv X pins σ H s) : X.K.In s.heap := I.ok.mod.kin.keeps I.bk
theorem Inv.lt (I : Inv X pins σ H s) : X.env.locals < s.heap.objs.size := let ⟨_, hn, _⟩ := I.loc; hn.lt
theorem Inv.sz (I : Inv X pins σ H s) : X.s₀.heap.objs.size ≤ s.heap.objs.size := Nat.le_trans I.ok.above (Nat.le_of_lt I.lt)
theorem Inv.nofs (I : Inv X pins σ H s) {a : Addr} (h : s.heap.objs.size ≤ a) : a ∉ X.fs := fun hb => by
  obtain ⟨_, o, ho, _⟩ := I.ok.funs.mem hb
  exact absurd (Nat.lt_of_lt_of_le (Heap.lt_size ho) (Nat.le_trans I.sz h)) (Nat.lt_irrefl _)
theorem Inv.cne (I : Inv X pins σ H s) : ∀ x c, X.env.cells.lookup x = some c → c ≠ X.env.locals := fun x c e z => by
  obtain ⟨v, o, ho, hd⟩ := I.cell x c e
  obtain ⟨m, ⟨o', es, ep, ho', hd', _⟩, _⟩ := I.loc
  rw [z, ho'] at ho; cases ho; rw [hd'] at hd; cases hd
theorem Inv.funs (I : Inv X pins σ H s) : s.heap.FunFrames X.base X.outer := by
  have all : ∀ (l : List Env), (∀ b ∈ frs l, b ∈ X.fs) → X.s₀.heap.FunFrames X.base l → s.heap.FunFrames X.base l := by
    intro l
    induction l with
    | nil => intro _ _; trivial
    | cons env r ih =>
      intro hs hl
      obtain ⟨hk, ⟨L, o, hf, hn, ho, hd⟩, hr⟩ := hl
      have hL : L ∈ X.fs := hs L (by unfold frs; rw [List.filterMap_cons, hf]; exact List.mem_cons_self)
      obtain ⟨sl, e⟩ := I.base.slot L o ho (I.ok.frf L hL) hL fun z => I.ok.exfs L z hL
      exact ⟨hk, ⟨L, _, hf, hn, e, hd⟩, ih (fun b hb => hs b (by unfold frs; rw [List.filterMap_cons, hf]; exact List.mem_cons_of_mem _ hb)) hr⟩
  exact all X.outer (fun _ hb => hb) I.ok.funs

/-- the frames that run, for a call -/
theorem Inv.stack (I : Inv X pins σ H s) : s.heap.FunFrames X.base X.stack := by
  rcases I.ok.stk with e | ⟨e, hf⟩
  · rw [e]; exact I.funs
  · rw [e]
    obtain ⟨m, hn, _⟩ := I.loc
    refine .cons (by rw [I.ok.kind]; decide) hf hn ?_ I.funs
    exact Heap.get?_none_of_le (Nat.le_trans I.ok.bsz I.ok.above)
theorem Inv.stkSub (I : Inv X pins σ H s) : ∀ b ∈ frs X.stack, b ∈ X.env.locals :: X.fs := fun b hb => by
  rcases I.ok.stk with e | ⟨e, hf⟩
  · rw [e] at hb; exact List.mem_cons_of_mem _ hb
  · rw [e] at hb
    unfold frs at hb
    rw [List.filterMap_cons, hf] at hb
    exact hb
theorem Inv.stkFree (I : Inv X pins σ H s) : ∀ b ∈ frs X.stack, H b = none := fun b hb => by
  rcases List.mem_cons.mp (I.stkSub b hb) with e | hb
  · rw [e]; exact I.free
  · obtain ⟨_, o, ho, _⟩ := I.ok.funs.mem hb
    exact I.base.free b o ho (I.ok.frf b hb) fun z => I.ok.exfs b z hb

/-- THE STEP: the untracked objects but the frame and the records at ch are kept (the callers' frames up to slots), the frame's map is kept, the new abstract heap is held -/
theorem Inv.step {g' : Array GenState} {t' : Nat} {d' : Drawn} {ch : List Addr} (I : Inv X pins σ H s)
    (hch : ∀ b ∈ ch, (b ∈ X.ex ∨ X.s₀.heap.objs.size ≤ b) ∧ b ≠ X.env.locals ∧ (∀ x c, X.env.cells.lookup x = some c → c ≠ b) ∧ ∀ p ∈ X.pn ++ pins, p.1 ≠ b)
    (keep : ∀ b o, b ≠ X.env.locals → b ∉ X.fs → b ∉ ch → s.heap.get? b = some o → H b = none → h'.get? b = some o)
    (slot : ∀ b o, b ≠ X.env.locals → b ∈ X.fs → b ∉ ch → s.heap.get? b = some o → H b = none → ∃ sl, h'.get? b = some { o with slots := sl }) (free : ∀ b o, b ∉ ch → s.heap.get? b = some o → H b = none → H' b = none)
    (there : ∀ b o, b ∉ ch → s.heap.get? b = some o → ∃ o', h'.get? b = some o')
    (tups : ∀ b xs, H b = some (.tup xs) → H' b = some (.tup xs)) (frzs : ∀ b o u, H b = some (.frz o u) → H' b = some (.frz o u)) (tbls : ∀ b ps, H b = some (.tbl ps) → ∃ more, H' b = some (.tbl (ps ++ more)))
    (ns : ∀ m, s.heap.Ns X.env.locals m → h'.Ns X.env.locals m) (hok : HOk X.prog X.w H' h') (hg : AllBare g') :
    Inv X pins σ H' { s with heap := h', gens := g', drawn := d', toks := t' } := by
  have neL : ∀ b o, X.s₀.heap.get? b = some o → b ≠ X.env.locals := fun b o e => Nat.ne_of_lt (Nat.lt_of_lt_of_le (Heap.lt_size e) I.ok.above)
  have neC : ∀ b o, X.s₀.heap.get? b = some o → b ∉ X.ex → b ∉ ch := fun b o e hx hb => by
    rcases (hch b hb).1 with z | z
    · exact hx z
    · exact absurd (Nat.lt_of_lt_of_le (Heap.lt_size e) z) (Nat.lt_irrefl _)
  have cellK : ∀ x c, X.env.cells.lookup x = some c → ∀ v, s.heap.IsCell c v → h'.IsCell c v := fun x c e v ⟨o, ho, hd⟩ => by
    have nch : c ∉ ch := fun z => (hch c z).2.2.1 x c e rfl
    by_cases hc : c ∈ X.fs
    · obtain ⟨sl, q⟩ := slot c o (I.cne x c e) hc nch ho (I.freeC x c e)
      exact ⟨_, q, hd⟩
    · exact ⟨o, keep c o (I.cne x c e) hc nch ho (I.freeC x c e), hd⟩
  refine ⟨I.ok, I.os, hg, ⟨fun b o e n hb hx => ?_, fun b o e n hb hx => ?_, fun b o e n hx => ?_, fun b o e hx => ?_, fun b xs e => tups b xs (I.base.tups b xs e), fun b o xs e => frzs b o xs (I.base.frzs b o xs e), fun b ps e => ?_⟩, ?_, fun x c e => ?_, ?_, fun x c e => ?_, fun p hp => ?_, hok, I.len⟩
  · exact keep b o (neL b o e) hb (neC b o e hx) (I.base.keep b o e n hb hx) (I.base.free b o e n hx)
  · obtain ⟨sl, e1⟩ := I.base.slot b o e n hb hx
    obtain ⟨sl', e2⟩ := slot b _ (neL b o e) hb (neC b o e hx) e1 (I.base.free b o e n hx)
    exact ⟨sl', e2⟩
  · obtain ⟨o', e1⟩ := I.base.there b o e hx
    exact free b o' (neC b o e hx) e1 (I.base.free b o e n hx)
  · obtain ⟨o', e1⟩ := I.base.there b o e hx
    exact there b o' (neC b o e hx) e1
  · obtain ⟨m1, e1⟩ := I.base.tbls b ps e
    obtain ⟨m2, e2⟩ := tbls b _ e1
    exact ⟨m1 ++ m2, by rw [e2, Array.append_assoc]⟩
  · obtain ⟨m, hn, hl⟩ := I.loc
    refine ⟨m, ns m hn, fun i x v e1 e2 e3 => ?_⟩
    obtain ⟨u, r, l⟩ := hl i x v e1 e2 e3
    refine ⟨u, r, ?_⟩
    rcases l with l | ⟨k, c, e, z⟩
    · exact .inl l
    · exact .inr ⟨k, c, e, cellK x c e _ z⟩
  · obtain ⟨v, z⟩ := I.cell x c e
    exact ⟨v, cellK x c e v z⟩
  · obtain ⟨m, ⟨o, _, _, ho, _⟩, _⟩ := I.loc
    exact free _ o (fun z => (hch _ z).2.1 rfl) ho I.free
  · obtain ⟨v, o, ho, hd⟩ := I.cell x c e
    exact free c o (fun z => (hch c z).2.2.1 x c e rfl) ho (I.freeC x c e)
  · obtain ⟨e, n, ne, nf, d⟩ := I.pin p hp
    have nch : p.1 ∉ ch := fun z => (hch p.1 z).2.2.2 p hp rfl
    exact ⟨keep p.1 p.2 ne nf nch e n, free p.1 p.2 nch e n, ne, nf, d⟩
/-- .. where the frame's own object is kept too -/
theorem Inv.un {t' : Nat} (I : Inv X pins σ H s) (u : Un X.fs [] H H' s.heap h') (hok : HOk X.prog X.w H' h') : Inv X pins σ H' { s with heap := h', toks := t' } := by
  obtain ⟨m, ⟨o, es, ep, ho, r⟩, _⟩ := id I.loc
  obtain ⟨sl, hL⟩ := u.any ho I.free (by simp)
  exact I.step (g' := s.gens) (d' := s.drawn) (ch := []) (fun _ z => nomatch z) (fun b o _ hb _ e n => u.keep b o e n hb (by simp)) (fun b o _ hb _ e n => u.slot b o e n hb (by simp)) (fun b o _ e n => u.free b o e n (by simp)) (fun b o _ e => u.there b o e (by simp)) u.tups u.frzs u.tbls (fun m' hm => by
    obtain ⟨o', es', ep', ho', r'⟩ := hm
    rw [ho] at ho'; cases ho'
    exact ⟨_, es', ep', hL, r'⟩) hok I.bare
/-- behind a call (or a comprehension's block): the slots of this frame may have changed too, the records at ch may have turned -/
theorem Inv.call {g' : Array GenState} {t' : Nat} {d' : Drawn} {ch : List Addr} (I : Inv X pins σ H s) (u : Un (frs X.stack) ch H H' s.heap h') (hok : HOk X.prog X.w H' h') (hg : AllBare g')
    (hch : ∀ b ∈ ch, (b ∈ X.ex ∨ X.s₀.heap.objs.size ≤ b) ∧ b ≠ X.env.locals ∧ (∀ x c, X.env.cells.lookup x = some c → c ≠ b) ∧ ∀ p ∈ X.pn ++ pins, p.1 ≠ b) :
    Inv X pins σ H' { s with heap := h', gens := g', drawn := d', toks := t' } := by
  obtain ⟨m, ⟨o, es, ep, ho, r⟩, _⟩ := id I.loc
  obtain ⟨sl, hL⟩ := u.any ho I.free fun z => (hch _ z).2.1 rfl
  exact I.step (ch := ch) hch (fun b o hL hb hc e n => u.keep b o e n (fun z => (List.mem_cons.mp (I.stkSub b z)).elim hL hb) hc) (fun b o _ _ hc e n => u.any e n hc) (fun b o hc e n => u.free b o e n hc) (fun b o hc e => u.there b o e hc) u.tups u.frzs u.tbls (fun m' hm => by
    obtain ⟨o', es', ep', ho', r'⟩ := hm
    rw [ho] at ho'; cases ho'
    exact ⟨_, es', ep', hL, r'⟩) hok hg
/-- an untracked record of ours (an iterator) has turned -/
theorem Inv.turned {t' : Nat} {it : Addr} (I : Inv X pins σ H s) (k : ∀ b o, b ≠ it → s.heap.get? b = some o → h'.get? b = some o) (hn : H it = none) (hL : it ≠ X.env.locals)
    (h1 : it ∈ X.ex ∨ X.s₀.heap.objs.size ≤ it) (h2 : ∀ x c, X.env.cells.lookup x = some c → c ≠ it) (h3 : ∀ p ∈ X.pn ++ pins, p.1 ≠ it) : Inv X pins σ H { s with heap := h', toks := t' } := by
  have nit : ∀ b u, H b = some u → b ≠ it := fun b u e z => by rw [z, hn] at e; cases e
  refine I.step (g' := s.gens) (d' := s.drawn) (ch := [it]) (fun b hb => ?_) (fun b o _ _ hc e _ => k b o (fun z => hc (by simp [z])) e) (fun b o _ _ hc e _ => ⟨o.slots, k b o (fun z => hc (by simp [z])) e⟩) (fun _ _ _ _ n => n)
    (fun b o hc e => ⟨o, k b o (fun z => hc (by simp [z])) e⟩) (fun _ _ e => e) (fun _ _ _ e => e) (fun b ps e => ⟨#[], by rw [e]; simp⟩) (fun m hm => ?_) (fun b u e => ?_) I.bare
  · have e : b = it := by simpa using hb
    subst e
    exact ⟨h1, hL, h2, h3⟩
  · obtain ⟨o, es, ep, ho, r⟩ := hm
    exact ⟨o, es, ep, k _ o (Ne.symm hL) ho, r⟩
  · refine (I.hok b u e).stay (fun c v hc q => k c v ?_ q) (fun _ q => q) fun _ _ q => q
    rcases hc with z | z
    · rw [z]; exact nit b u e
    · exact nit c _ z
theorem Inv.tok (I : Inv X pins σ H s) (t : Nat) : Inv X pins σ H { s with toks := t } := I.un (h' := s.heap) (t' := t) Un.refl I.hok
/-- all objects kept -/
theorem Inv.kept {t' : Nat} (I : Inv X pins σ H s) (k : ∀ b u, s.heap.get? b = some u → h'.get? b = some u) : Inv X pins σ H { s with heap := h', toks := t' } := I.un (Un.kept k) (I.hok.kept k)
/-- a new object laid and tracked -/
theorem Inv.laid {a : Addr} {o : HO} {t' : Nat} (I : Inv X pins σ H s) (k : ∀ b u, s.heap.get? b = some u → h'.get? b = some u) (hp : s.heap.objs.size ≤ a) (new : ObjOk X.prog X.w (upd H a o) h' a o) :
    Inv X pins σ (upd H a o) { s with heap := h', toks := t' } := I.un (Un.laid k hp (I.hok.fresh hp)) (I.hok.laid k hp new)
/-- an object written -/
theorem Inv.write {x e : Addr} {o : HO} {t' : Nat} (I : Inv X pins σ H s) (mu : Mut (H x)) (he : e = x ∨ H e = some (.own x)) (k : ∀ b u, b ≠ e → s.heap.get? b = some u → h'.get? b = some u) (heo : ∃ u, h'.get? e = some u)
    (new : ObjOk X.prog X.w (upd H x o) h' x o) : Inv X pins σ (upd H x o) { s with heap := h', toks := t' } := I.un (Un.write mu he k heo) (I.hok.write mu he k heo new)
/-- forgetting slots, pins -/
theorem Inv.weak {σ' : List (Option V)} (I : Inv X pins σ H s) (hl : σ'.length = σ.length) (w : ∀ (i : Nat) v, σ'[i]? = some (some v) → σ[i]? = some (some v)) : Inv X pins σ' H s :=
  ⟨I.ok, I.os, I.bare, I.base, let ⟨m, hn, hl'⟩ := I.loc; ⟨m, hn, fun i x v e1 e2 e3 => hl' i x v e1 (w i v e2) e3⟩, I.cell, I.free, I.freeC, I.pin, I.hok, hl.trans I.len⟩
theorem Inv.pins_of {pins' : List (Addr × Obj)} (I : Inv X pins σ H s) (h : ∀ p ∈ pins', s.heap.get? p.1 = some p.2 ∧ H p.1 = none ∧ p.1 ≠ X.env.locals ∧ p.1 ∉ X.fs ∧ ∀ v, p.2.data ≠ .cell v) : Inv X pins' σ H s :=
  ⟨I.ok, I.os, I.bare, I.base, I.loc, I.cell, I.free, I.freeC, fun p hp => (List.mem_append.mp hp).elim (fun z => I.pin p (List.mem_append_left _ z)) (h p), I.hok, I.len⟩

theorem nodup_ix {N : List Str} (hN : N.Nodup) {i j : Nat} {x : Str} (a : N[i]? = some x) (b : N[j]? = some x) : i = j := by
  obtain ⟨h1, e1⟩ := List.getElem?_eq_some_iff.mp a
  obtain ⟨h2, e2⟩ := List.getElem?_eq_some_iff.mp b
  exact (List.getElem_inj hN).mp (e1.trans e2.symm)

/-- a name is stored; what changed -/
theorem store_ok2 {M : Model} {A : Around} {E : Value → Shared → Prop} {i : Nat} {x : Str} {v : V} {u : Value} {Q : Unit → Shared → Prop} (I : Inv X pins σ H s) (hN : X.N.Nodup) (hi : X.N[i]? = some x) (hx : Loc X.env.scope x) (r : RelV v u)
    (h : ∀ s', Inv X pins (σ.set i (some v)) H s' → (∃ a, Heap.SameBut a s.heap s'.heap ∧ (a = X.env.locals ∨ X.env.cells.lookup x = some a)) → Q () s') (hf : X.fn x = true ∨ X.env.scope.names.lookup x = some .local := by first | exact .inl rfl | exact .inr rfl | assumption) : wpAny M A (storeName X.env x u) Q E s := by
  obtain ⟨m, hn, hl⟩ := id I.loc
  have hcls : (X.env.scope.kind == .class || (X.env.scope.kind == .module && X.env.locals != X.env.globals)) = false := by rw [I.ok.kind]; rfl
  have hiσ : i < σ.length := by rw [I.len]; exact (List.getElem?_eq_some_iff.mp hi).1
  have cne := I.cne
  have tracked : ∀ {a : Addr} {h' : Heap}, (∃ o, s.heap.get? a = some o ∧ H a = none) → Heap.SameBut a s.heap h' → HOk X.prog X.w H h' := fun {a h'} ha hs b ob e => by
    obtain ⟨_, _, hfree⟩ := ha
    refine (I.hok b ob e).stay (fun c w' hc q => (hs.2 c ?_).trans q) (fun _ q => q) fun _ _ q => q
    rintro rfl
    rcases hc with rfl | hc
    · rw [hfree] at e; cases e
    · rw [hfree] at hc; cases hc
  rcases hx with hk | hk
  · refine wpAny_storeName_local hk hn (fun h' hn' hs => ?_) hcls
    obtain ⟨oL, _, _, hoL, _⟩ := id hn
    refine h _ ⟨I.ok, I.os, I.bare, ⟨fun b o e n hb hx => ?_, fun b o e n hb hx => ?_, I.base.free, fun b o e hx => ?_, I.base.tups, I.base.frzs, I.base.tbls⟩, ⟨_, hn', fun j y v' e1 e2 e3 => ?_⟩, fun y c e => ?_, I.free, I.freeC, fun p hp => ?_, tracked ⟨oL, hoL, I.free⟩ hs, by simpa using I.len⟩ ⟨_, hs, .inl rfl⟩
    · exact (hs.2 b (Nat.ne_of_lt (Nat.lt_of_lt_of_le (Heap.lt_size e) I.ok.above))).trans (I.base.keep b o e n hb hx)
    · obtain ⟨sl, e1⟩ := I.base.slot b o e n hb hx
      exact ⟨sl, (hs.2 b (Nat.ne_of_lt (Nat.lt_of_lt_of_le (Heap.lt_size e) I.ok.above))).trans e1⟩
    · obtain ⟨o', e1⟩ := I.base.there b o e hx
      exact ⟨o', (hs.2 b (Nat.ne_of_lt (Nat.lt_of_lt_of_le (Heap.lt_size e) I.ok.above))).trans e1⟩
    · by_cases hj : j = i
      · subst hj
        rw [hi] at e1; cases e1
        rw [List.getElem?_set_self hiσ] at e2
        cases e2
        exact ⟨u, r, .inl ⟨hk, by simp⟩⟩
      · rw [List.getElem?_set_ne (Ne.symm hj)] at e2
        obtain ⟨u', r', q⟩ := hl j y v' e1 e2 e3
        refine ⟨u', r', ?_⟩
        rcases q with ⟨k, e⟩ | ⟨k, c, e, z⟩
        · refine .inl ⟨k, ?_⟩
          have : y ≠ x := fun e => hj (nodup_ix hN e1 (e ▸ hi))
          simp [this, e]
        · exact .inr ⟨k, c, e, z.sameBut hs (cne y c e)⟩
    · obtain ⟨w', z⟩ := I.cell y c e
      exact ⟨w', z.sameBut hs (cne y c e)⟩
    · obtain ⟨e, n, ne, nf, d⟩ := I.pin p hp
      exact ⟨(hs.2 p.1 ne).trans e, n, ne, nf, d⟩
  · have hfn : X.fn x = true := by
      rcases hf with z | z
      · exact z
      · rw [z] at hk; cases hk
    obtain ⟨c, hc⟩ := I.ok.has x (.inl hk)
    obtain ⟨w', z⟩ := I.cell x c hc
    refine wpAny_storeName_cell I.ok.kind hk hc z (fun h' hc' hs => ?_)
    obtain ⟨oc, hoc, hocd⟩ := id z
    refine h { s with heap := h' } ⟨I.ok, I.os, I.bare, ⟨fun b o e n hb hx => ?_, fun b o e n hb hx => ?_, I.base.free, fun b o e hx => ?_, I.base.tups, I.base.frzs, I.base.tbls⟩, ⟨m, hn.sameBut hs (Ne.symm (cne x c hc)), fun j y v' e1 e2 e3 => ?_⟩, fun y c' e => ?_, I.free, I.freeC, fun p hp => ?_, tracked ⟨oc, hoc, I.freeC x c hc⟩ hs, by simpa using I.len⟩ ⟨c, hs, .inr hc⟩
    · exact (hs.2 b (Nat.ne_of_lt (Nat.lt_of_lt_of_le (Heap.lt_size e) (I.ok.cab x c hfn hc)))).trans (I.base.keep b o e n hb hx)
    · obtain ⟨sl, e1⟩ := I.base.slot b o e n hb hx
      exact ⟨sl, (hs.2 b (Nat.ne_of_lt (Nat.lt_of_lt_of_le (Heap.lt_size e) (I.ok.cab x c hfn hc)))).trans e1⟩
    · obtain ⟨o', e1⟩ := I.base.there b o e hx
      exact ⟨o', (hs.2 b (Nat.ne_of_lt (Nat.lt_of_lt_of_le (Heap.lt_size e) (I.ok.cab x c hfn hc)))).trans e1⟩
    · by_cases hj : j = i
      · subst hj
        rw [hi] at e1; cases e1
        rw [List.getElem?_set_self hiσ] at e2
        cases e2
        exact ⟨u, r, .inr ⟨.inl hk, c, hc, hc'⟩⟩
      · rw [List.getElem?_set_ne (Ne.symm hj)] at e2
        obtain ⟨u', r', q⟩ := hl j y v' e1 e2 e3
        refine ⟨u', r', ?_⟩
        rcases q with q | ⟨k, c', e, z'⟩
        · exact .inl q
        · refine .inr ⟨k, c', e, z'.sameBut hs ?_⟩
          rintro rfl
          exact hj (nodup_ix hN e1 (I.ok.inj _ _ _ e hc ▸ hi))
    · by_cases hcc : c' = c
      · subst hcc; exact ⟨_, hc'⟩
      · obtain ⟨w2, z2⟩ := I.cell y c' e
        exact ⟨w2, z2.sameBut hs hcc⟩
    · obtain ⟨e, n, ne, nf, d⟩ := I.pin p hp
      refine ⟨(hs.2 p.1 ?_).trans e, n, ne, nf, d⟩
      intro q
      rw [q, hoc] at e
      have q' : oc = p.2 := Option.some.inj e
      exact d w' (by rw [← q']; exact hocd)
theorem store_ok {M : Model} {A : Around} {E : Value → Shared → Prop} {i : Nat} {x : Str} {v : V} {u : Value} {Q : Unit → Shared → Prop} (I : Inv X pins σ H s) (hN : X.N.Nodup) (hi : X.N[i]? = some x) (hx : Loc X.env.scope x) (r : RelV v u)
    (h : ∀ s', Inv X pins (σ.set i (some v)) H s' → Q () s') (hf : X.fn x = true ∨ X.env.scope.names.lookup x = some .local := by first | exact .inl rfl | exact .inr rfl | assumption) : wpAny M A (storeName X.env x u) Q E s :=
  store_ok2 I hN hi hx r (fun s' I' _ => h s' I') hf
/-- behind a call or a block, the state as it is -/
theorem Inv.call' {s' : Shared} {ch : List Addr} (I : Inv X pins σ H s) (ho : s'.os = s.os) (u : Un (frs X.stack) ch H H' s.heap s'.heap) (hok : HOk X.prog X.w H' s'.heap) (hg : AllBare s'.gens)
    (hch : ∀ b ∈ ch, (b ∈ X.ex ∨ X.s₀.heap.objs.size ≤ b) ∧ b ≠ X.env.locals ∧ (∀ x c, X.env.cells.lookup x = some c → c ≠ b) ∧ ∀ p ∈ X.pn ++ pins, p.1 ≠ b) : Inv X pins σ H' s' := by
  obtain ⟨h', g', d', t', o'⟩ := s'
  have e : o' = s.os := ho
  subst e
  exact I.call (g' := g') (t' := t') (d' := d') u hok hg hch
end

/-! ### the judgements -/
/-- an exception: its class, its own dict's address (where it has one), the abstract heap behind it -/
abbrev XK := Value → Option Addr → Hp → Prop
abbrev St := List (Option V)
abbrev VK := V → Hp → Prop
/-- an expression's reading; a test's; an argument list's -/
abbrev TE := St → Hp → VK → Prop
abbrev TT := St → Hp → (Bool → Hp → Prop) → Prop
abbrev TA := St → Hp → (List V → Hp → Prop) → Prop
/-- what is wanted behind a statement -/
structure Ends where
  nx : St → Hp → Prop
  rt : VK
  bk : St → Hp → Prop := fun _ _ => False
  ct : St → Hp → Prop := fun _ _ => False
abbrev TS := Ends → St → Hp → Prop

def EP (X : Cx) (pins : List (Addr × Obj)) (σ : St) (Q : VK) (u : Value) (s' : Shared) : Prop := ∃ v H', Inv X pins σ H' s' ∧ RelV v u ∧ Q v H'
def TP (X : Cx) (pins : List (Addr × Obj)) (σ : St) (Q : Bool → Hp → Prop) (b : Bool) (s' : Shared) : Prop := ∃ H', Inv X pins σ H' s' ∧ Q b H'
def AP (X : Cx) (pins : List (Addr × Obj)) (σ : St) (Q : List V → Hp → Prop) (us : List Value) (s' : Shared) : Prop := ∃ vs H', Inv X pins σ H' s' ∧ Vals vs us ∧ Q vs H'
def SP (X : Cx) (pins : List (Addr × Obj)) (D : Ends) (f : Flow) (s' : Shared) : Prop :=
  match f with
  | .next => ∃ σ' H', Inv X pins σ' H' s' ∧ D.nx σ' H'
  | .brk => ∃ σ' H', Inv X pins σ' H' s' ∧ D.bk σ' H'
  | .cont => ∃ σ' H', Inv X pins σ' H' s' ∧ D.ct σ' H'
  | .ret u => ∃ v σ' H', Inv X pins σ' H' s' ∧ RelV v u ∧ D.rt v H'

def PE (X : Cx) (e : Expr) (t : TE) : Prop :=
  ∀ (pins : List (Addr × Obj)) (s : Shared) (σ : St) (H : Hp) (Q : VK), Inv X pins σ H s → t σ H Q → wpAny (model X.prog X.w) X.A (eval e X.env) (EP X pins σ Q) X.xe s
def PT (X : Cx) (e : Expr) (t : TT) : Prop :=
  ∀ (pins : List (Addr × Obj)) (s : Shared) (σ : St) (H : Hp) (Q : Bool → Hp → Prop), Inv X pins σ H s → t σ H Q → wpAny (model X.prog X.w) X.A (isTrue e X.env (eval e X.env)) (TP X pins σ Q) X.xe s
/-- a test whatever its 'whole' is (and, or) -/
def PW (X : Cx) (e : Expr) (t : TT) : Prop :=
  ∀ (whole : Sem Value) (pins : List (Addr × Obj)) (s : Shared) (σ : St) (H : Hp) (Q : Bool → Hp → Prop), Inv X pins σ H s → t σ H Q → wpAny (model X.prog X.w) X.A (isTrue e X.env whole) (TP X pins σ Q) X.xe s
theorem PW.pt {X : Cx} {e : Expr} {t : TT} (h : PW X e t) : PT X e t := h _
/-- an argument list (no star), from the left -/
def PA (X : Cx) (es : List Expr) (t : TA) : Prop :=
  ∀ (pos : Pos) (pins : List (Addr × Obj)) (s : Shared) (σ : St) (H : Hp) (Q : List V → Hp → Prop), Inv X pins σ H s → t σ H Q → wpAny (model X.prog X.w) X.A (spliced (backTo pos (starEach es X.env))) (AP X pins σ Q) X.xe s
def PS (X : Cx) (st : Stmt) (t : TS) : Prop :=
  ∀ (pins : List (Addr × Obj)) (s : Shared) (σ : St) (H : Hp) (D : Ends), Inv X pins σ H s → t D σ H → wpAny (model X.prog X.w) X.A (exec st X.env) (SP X pins D) X.xe s
def PSs (X : Cx) (st : List Stmt) (t : TS) : Prop :=
  ∀ (pins : List (Addr × Obj)) (s : Shared) (σ : St) (H : Hp) (D : Ends), Inv X pins σ H s → t D σ H → wpAny (model X.prog X.w) X.A (execs st X.env) (SP X pins D) X.xe s
/-- weaken the end -/
theorem thn {α : Type} {t : Sem α} {Q Q' : α → Shared → Prop} {M : Model} {A : Around} {E : Value → Shared → Prop} {s : Shared} (h : wpAny M A t Q E s) (hQ : ∀ a s, Q a s → Q' a s) : wpAny M A t Q' E s := wpAny_mono h hQ fun _ _ x => x
end L2

namespace L2
open PySem PySem.Spec PyProof.Rows
section
variable {X : Cx}

/-! ### names and constants -/
def tVar (i : Nat) : TE := fun σ H Q => ∃ v, σ[i]? = some (some v) ∧ Q v H
def tC (v : V) : TE := fun _ H Q => Q v H
theorem pe_var {i : Nat} {x : Str} {pos : Pos} (hN : X.N[i]? = some x) (hv : Vis X.env.scope x) (hd : (x == ("__debug__" : Str)) = false := by decide) (hcd : (x == ("__classdict__" : Str)) = false := by decide) : PE X (.Name x pos) (tVar i) := by
  intro pins s σ H Q I h
  obtain ⟨v, e, h⟩ := h
  obtain ⟨m, hn, hl⟩ := I.loc
  obtain ⟨u, r, l⟩ := hl i x v hN e hv
  have fin : EP X pins σ Q u s := ⟨v, H, I, r, h⟩
  rcases l with ⟨hk, hm⟩ | ⟨hk, c, hc, hcell⟩
  · exact wpAny_Name (wpAny_loadName_local I.ok.kind hk hn hm fin) hd
  · rcases hk with hk | hk
    · exact wpAny_Name (wpAny_loadName_cell I.ok.kind hk hc hcell fin) hd
    · exact wpAny_Name (wpAny_loadName_free I.ok.kind hk hc hcell fin hcd) hd
theorem pe_int {i j pos} : PE X (.Constant (.int i) j pos) (tC (.int i)) := fun _ _ _ H _ I h => wpAny_Constant_int ⟨.int i, H, I.tok _, ⟨_, rfl⟩, h⟩
theorem pe_bl {b j pos} : PE X (.Constant (.bool b) j pos) (tC (.bl b)) := fun _ _ _ H _ I h => Constant_bool ⟨.bl b, H, I, rfl, h⟩
theorem pe_str {x j pos} : PE X (.Constant (.str x) j pos) (tC (.str x)) := fun _ _ _ H _ I h => Calls.Constant_str ⟨.str x, H, I.tok _, ⟨_, rfl⟩, h⟩

/-- a global name of the def -/
def Gl (X : Cx) (x : Str) : Prop := X.env.kindOf x = some .globalImplicit
theorem ld_glob {E : Value → Shared → Prop} {pins : List (Addr × Obj)} {s : Shared} {σ : St} {H : Hp} {x : Str} {u : Value} {pos : Pos} {Q : Value → Shared → Prop} (I : Inv X pins σ H s) (hg : Gl X x) (hm : X.mg x = some u) (h : Q u s)
    (hd : (x == ("__debug__" : Str)) = false := by decide) : wpAny (model X.prog X.w) X.A (eval (.Name x pos) X.env) Q E s :=
  Calls.Name_function_global I.ok.kind hg (Calls.loadGlobal_global (by rw [I.ok.glob]; exact I.mod.glob.keeps I.bk) hm h) hd
theorem ld_blt {E : Value → Shared → Prop} {pins : List (Addr × Obj)} {s : Shared} {σ : St} {H : Hp} {x : Str} {u : Value} {pos : Pos} {Q : Value → Shared → Prop} (I : Inv X pins σ H s) (hg : Gl X x) (hm : X.mg x = none) (hv : bootBuiltins x = some u) (h : Q u s)
    (hn : x ≠ "__name__" := by decide) (hd : (x == ("__debug__" : Str)) = false := by decide) : wpAny (model X.prog X.w) X.A (eval (.Name x pos) X.env) Q E s := by
  obtain ⟨mb, h1, h2⟩ := I.mod.blt
  exact Calls.Name_function_global I.ok.kind hg (Calls.loadGlobal_builtin (by rw [I.ok.glob]; exact I.mod.glob.keeps I.bk) hm (by rw [I.ok.blt]; exact h1.keeps I.bk) ((h2 x hn).trans hv) h) hd
/-- a module's constant, a class, a function, as a value -/
theorem pe_glob {x : Str} {v : V} {u : Value} {pos : Pos} (hg : Gl X x) (hm : X.mg x = some u) (r : RelV v u) (hd : (x == ("__debug__" : Str)) = false := by decide) : PE X (.Name x pos) (tC v) :=
  fun _ _ _ H _ I h => ld_glob I hg hm ⟨v, H, I, r, h⟩ hd
theorem pe_bltn {x : Str} {v : V} {u : Value} {pos : Pos} (hg : Gl X x) (hm : X.mg x = none) (hv : bootBuiltins x = some u) (r : RelV v u) (hn : x ≠ "__name__" := by decide) (hd : (x == ("__debug__" : Str)) = false := by decide) : PE X (.Name x pos) (tC v) :=
  fun _ _ _ H _ I h => ld_blt I hg hm hv ⟨v, H, I, r, h⟩ hn hd

/-! ### arithmetic -/
variable {a b : Expr} {ta tb : TE} {pos : Pos}
/-! ### comparisons -/
/-- a comparison as a value, as a test -/
def tB (t : TE) : TT := fun σ H Q => t σ H fun x H1 => ∃ c, x = .bl c ∧ Q c H1
/-- an expression whose value is a bool, as a test -/
theorem pt_val {e : Expr} {t : TE} (h : PE X e t) (he : ∀ whole, isTrue e X.env whole = (do let v ← whole; standAt e.pos; holding [v] (truthy v)) := by intro _; rfl) : PT X e (tB t) := by
  intro pins s σ H Q I hw
  refine isTrue_plain (thn (h pins s σ H _ I hw) fun v s1 ⟨x, H1, I1, r1, q1⟩ => ?_) (he _)
  obtain ⟨d, rfl, q⟩ := q1
  cases r1
  exact wpAny_truthy_bool ⟨H1, I1, q⟩

/-! ### and, or, not -/
variable {tA tB' : TT} {rest : List Expr}
def tAnd (t u : TT) : TT := fun σ H Q => t σ H fun c H1 => if c = true then u σ H1 Q else Q false H1
def tOr (t u : TT) : TT := fun σ H Q => t σ H fun c H1 => if c = true then Q true H1 else u σ H1 Q
def tNot (t : TT) : TT := fun σ H Q => t σ H fun c H1 => Q (!c) H1
theorem pw_and1 (ha : PT X a tA) : PW X (.BoolOp .And [a] pos) tA := by
  intro wh pins s σ H Q I h
  refine isTrue_and (thn (ha pins s σ H Q I h) fun c s1 e => ?_)
  cases c with
  | true => exact isTrue_and_nil e
  | false => exact e
theorem pw_or1 (ha : PT X a tA) : PW X (.BoolOp .Or [a] pos) tA := by
  intro wh pins s σ H Q I h
  refine isTrue_or (thn (ha pins s σ H Q I h) fun c s1 e => ?_)
  cases c with
  | false => exact isTrue_or_nil e
  | true => exact e
theorem pw_and (ha : PT X a tA) (hb : PW X (.BoolOp .And (b :: rest) pos) tB') : PW X (.BoolOp .And (a :: b :: rest) pos) (tAnd tA tB') := by
  intro wh pins s σ H Q I h
  refine isTrue_and (thn (ha pins s σ H _ I h) fun c s1 ⟨H1, I1, q1⟩ => ?_)
  cases c with
  | true => exact hb wh pins s1 σ H1 Q I1 q1
  | false => exact ⟨H1, I1, q1⟩
theorem pw_or (ha : PT X a tA) (hb : PW X (.BoolOp .Or (b :: rest) pos) tB') : PW X (.BoolOp .Or (a :: b :: rest) pos) (tOr tA tB') := by
  intro wh pins s σ H Q I h
  refine isTrue_or (thn (ha pins s σ H _ I h) fun c s1 ⟨H1, I1, q1⟩ => ?_)
  cases c with
  | true => exact ⟨H1, I1, q1⟩
  | false => exact hb wh pins s1 σ H1 Q I1 q1
theorem pt_not (ha : PT X a tA) : PT X (.UnaryOp .Not a pos) (tNot tA) := by
  intro pins s σ H Q I h
  exact isTrue_not (ha pins s σ H (fun c H1 => Q (!c) H1) I h)
/-- .. as values (bools) -/
def tAndV (ta tb : TE) : TE := fun σ H Q => ta σ H fun x H1 => ∃ c, x = .bl c ∧ if c = true then tb σ H1 Q else Q (.bl false) H1
def tNotV (ta : TE) : TE := fun σ H Q => ta σ H fun x H1 => ∃ c, x = .bl c ∧ Q (.bl (!c)) H1
theorem pe_one {op} {t : TE} (h : PE X a t) : PE X (.BoolOp op [a] pos) t := fun pins s σ H Q I hw => BoolOp_one (h pins s σ H Q I hw)
theorem pe_and (ha : PE X a ta) (hb : PE X (.BoolOp .And (b :: rest) pos) tb) : PE X (.BoolOp .And (a :: b :: rest) pos) (tAndV ta tb) := by
  intro pins s σ H Q I h
  refine BoolOp_and (thn (ha pins s σ H _ I h) fun v s1 ⟨x, H1, I1, r1, q1⟩ => ?_)
  obtain ⟨c, rfl, q1⟩ := q1
  cases r1
  refine wpAny_truthy_bool ?_
  cases c with
  | true => exact hb pins s1 σ H1 Q I1 q1
  | false => exact ⟨.bl false, H1, I1, rfl, q1⟩
theorem pe_not (ha : PE X a ta) : PE X (.UnaryOp .Not a pos) (tNotV ta) := by
  intro pins s σ H Q I h
  refine UnaryOp_ (thn (ha pins s σ H _ I h) fun v s1 ⟨x, H1, I1, r1, q1⟩ => ?_)
  obtain ⟨c, rfl, q1⟩ := q1
  cases r1
  exact not_of (wpAny_truthy_bool ⟨.bl (!c), H1, I1, rfl, q1⟩)
/-- a if t else b -/
def tIf (t : TT) (ta tb : TE) : TE := fun σ H Q => t σ H fun c H1 => if c = true then ta σ H1 Q else tb σ H1 Q
theorem pe_ifExp {c : Expr} (hc : PT X c tA) (ha : PE X a ta) (hb : PE X b tb) : PE X (.IfExp c a b pos) (tIf tA ta tb) := by
  intro pins s σ H Q I h
  refine wpAny_IfExp (thn (hc pins s σ H _ I h) fun d s1 ⟨H1, I1, q1⟩ => ?_)
  cases d with
  | true => exact ha pins s1 σ H1 Q I1 q1
  | false => exact hb pins s1 σ H1 Q I1 q1
end
end L2

namespace L2
open PySem PySem.Spec PyProof.Rows

/-! ### a list, a tuple that is read: tracked, frozen, or an object of the module -/
def SqL (K : PySem.W.Frag) (H : Hp) (a : Addr) (xs : List V) : Prop :=
  Rd H a (.lst xs) ∨
    ∃ (o : Obj) (its : Array Value) (n : Nat), K.lookup a = some o ∧ o.cls = .type "list" ∧ o.dict = none ∧ o.data = .seq its n ∧ its.size ≤ sizeLine ∧ Vals xs its.toList
def SqT (K : PySem.W.Frag) (H : Hp) (a : Addr) (xs : List V) : Prop :=
  Rd H a (.tup xs) ∨
    ∃ (o : Obj) (its : Array Value) (n : Nat), K.lookup a = some o ∧ o.cls = .type "tuple" ∧ o.data = .seq its n ∧ its.size ≤ sizeLine ∧ Vals xs its.toList
def absV : Value → Option V
  | .none => some .non
  | .bool b => some (.bl b)
  | .int i _ => some (.int i)
  | .str x _ => some (.str x)
  | .bytes b _ => some (.byt b)
  | .float b _ => some (.flt b)
  | .ref a => some (.ref a)
  | .type n => some (.ty n)
  | _ => none
theorem RelV.abs {x : V} {u : Value} (r : RelV x u) : absV u = some x := by
  cases x with
  | non => cases r; rfl
  | bl _ => cases r; rfl
  | int _ => obtain ⟨t, rfl⟩ := r; rfl
  | str _ => obtain ⟨t, rfl⟩ := r; rfl
  | byt _ => obtain ⟨t, rfl⟩ := r; rfl
  | flt _ => obtain ⟨t, rfl⟩ := r; rfl
  | ref _ => cases r; rfl
  | ty _ => cases r; rfl
theorem RelV.inj {x y : V} {u : Value} (r : RelV x u) (q : RelV y u) : x = y := Option.some.inj (r.abs.symm.trans q.abs)
theorem Vals.inj : ∀ {xs ys : List V} {us : List Value}, Vals xs us → Vals ys us → xs = ys
  | _, _, _, .nil, .nil => rfl
  | _, _, _, .cons r t, .cons r' t' => by rw [r.inj r', Vals.inj t t']
section
variable {X : Cx} {pins : List (Addr × Obj)} {σ : St} {H : Hp} {s : Shared} {a : Addr} {xs ys : List V}
theorem SqL.of {K : PySem.W.Frag} (h : H a = some (.lst xs)) : SqL K H a xs := .inl (.inl h)
theorem SqT.of {K : PySem.W.Frag} (h : H a = some (.tup xs)) : SqT K H a xs := .inl (.inl h)
theorem Inv.list (I : Inv X pins σ H s) (h : SqL X.K H a xs) : ∃ its : List Value, Vals xs its ∧ PlainL s.heap a its.toArray ∧ xs.length ≤ sizeLine := by
  rcases h with h | ⟨o, its, n, hk, hc, hd, hs, hz, r⟩
  · obtain ⟨z, its, n, r, e⟩ := h.ok I.hok
    exact ⟨its, r, ⟨_, n, e, rfl, rfl, rfl⟩, z⟩
  · refine ⟨its.toList, r, ⟨o, n, I.kIn a o hk, hc, hd, by simpa using hs⟩, ?_⟩
    have e := r.length
    simp only [Array.length_toList] at e
    omega
theorem Inv.tuple (I : Inv X pins σ H s) (h : SqT X.K H a xs) : ∃ its : List Value, Vals xs its ∧ IsTup s.heap a its.toArray ∧ xs.length ≤ sizeLine := by
  rcases h with h | ⟨o, its, n, hk, hc, hs, hz, r⟩
  · obtain ⟨z, its, r, p⟩ := h.ok I.hok
    exact ⟨its, r, p, z⟩
  · refine ⟨its.toList, r, ⟨o, I.kIn a o hk, hc, n, by simpa using hs⟩, ?_⟩
    have e := r.length
    simp only [Array.length_toList] at e
    omega
theorem Inv.list_inj (I : Inv X pins σ H s) (h : SqL X.K H a xs) (h' : SqL X.K H a ys) : xs = ys := by
  obtain ⟨its, r, ⟨o, n, e, _, _, d⟩, _⟩ := I.list h
  obtain ⟨its', r', ⟨o', n', e', _, _, d'⟩, _⟩ := I.list h'
  rw [e] at e'; cases e'
  rw [d] at d'
  injection d' with d1 _
  have : its = its' := by simpa using congrArg Array.toList d1
  subst this
  exact r.inj r'
end

/-! ### another wish about exceptions -/
abbrev Cx.wish (X : Cx) (E : Value → Shared → Prop) : Cx := { X with xe := E }
/-- no exception leaves -/
abbrev Cx.nox (X : Cx) : Cx := X.wish fun _ _ => False
theorem Cx.Ok.wish {X : Cx} (ok : X.Ok) (E : Value → Shared → Prop) : (X.wish E).Ok :=
  ⟨ok.mod, ok.kind, ok.glob, ok.blt, ok.above, ok.inj, ok.has, ok.cab, ok.hd, ok.frames, ok.stk, ok.exf, ok.bs, ok.bsz, ok.noex, ok.exfs, ok.funs, ok.frf⟩
theorem Cx.Ok.unwish {X : Cx} {E : Value → Shared → Prop} (ok : (X.wish E).Ok) : X.Ok :=
  ⟨ok.mod, ok.kind, ok.glob, ok.blt, ok.above, ok.inj, ok.has, ok.cab, ok.hd, ok.frames, ok.stk, ok.exf, ok.bs, ok.bsz, ok.noex, ok.exfs, ok.funs, ok.frf⟩
section
variable {X : Cx} {pins : List (Addr × Obj)} {σ : St} {H : Hp} {s : Shared} {E : Value → Shared → Prop}
theorem Inv.wish (I : Inv X pins σ H s) (E : Value → Shared → Prop) : Inv (X.wish E) pins σ H s := ⟨I.ok.wish E, I.os, I.bare, I.base, I.loc, I.cell, I.free, I.freeC, I.pin, I.hok, I.len⟩
theorem Inv.unwish (I : Inv (X.wish E) pins σ H s) : Inv X pins σ H s := ⟨I.ok.unwish, I.os, I.bare, I.base, I.loc, I.cell, I.free, I.freeC, I.pin, I.hok, I.len⟩
theorem SP.unwish {D : Ends} {f : Flow} {s' : Shared} (h : SP (X.wish E) pins D f s') : SP X pins D f s' := by
  cases f with
  | next => obtain ⟨σ', H', I, q⟩ := h; exact ⟨σ', H', I.unwish, q⟩
  | brk => obtain ⟨σ', H', I, q⟩ := h; exact ⟨σ', H', I.unwish, q⟩
  | cont => obtain ⟨σ', H', I, q⟩ := h; exact ⟨σ', H', I.unwish, q⟩
  | ret u => obtain ⟨v, σ', H', I, r, q⟩ := h; exact ⟨v, σ', H', I.unwish, r, q⟩
theorem PSs.nox {st : List Stmt} {t : TS} (h : PSs X.nox st t) : PSs X st t := fun pins s σ H D I hw =>
  wpAny_mono (h pins s σ H D (I.wish _) hw) (fun _ _ q => q.unwish) fun _ _ z => False.elim z
end

/-! ### blocks and small statements -/
section
variable {X : Cx} {st : Stmt} {rest : List Stmt} {t u : TS} {e : Expr} {te : TE} {pos : Pos}
def tNext : TS := fun D σ H => D.nx σ H
def tSeq (t u : TS) : TS := fun D σ H => t { D with nx := u D } σ H
theorem pss_nil : PSs X [] tNext := fun _ _ σ H _ I h => wpAny_execs_nil ⟨σ, H, I, h⟩
theorem pss_cons (h1 : PS X st t) (h2 : PSs X rest u) : PSs X (st :: rest) (tSeq t u) := by
  intro pins s σ H D I h
  refine wpAny_execs_cons (thn (h1 pins s σ H { D with nx := u D } I h) fun f s1 q => ?_)
  cases f with
  | next =>
    obtain ⟨σ', H', I', q⟩ := q
    exact h2 pins s1 σ' H' D I' q
  | ret v => exact q
  | brk => exact q
  | cont => exact q
theorem pss_one (h1 : PS X st t) : PSs X [st] t := by
  intro pins s σ H D I h
  refine wpAny_execs_cons (thn (h1 pins s σ H D I h) fun f s1 q => ?_)
  cases f with
  | next => exact wpAny_execs_nil q
  | ret v => exact q
  | brk => exact q
  | cont => exact q
/-- in a def's body nothing is shown -/
theorem Inv.quiet {pins : List (Addr × Obj)} {σ : St} {H : Hp} {s : Shared} (I : Inv X pins σ H s) : interactive X.env = false := by simp [interactive, I.ok.kind]
/-- an expression whose value is dropped -/
def tDrop (te : TE) : TS := fun D σ H => te σ H fun _ H1 => D.nx σ H1
theorem ps_expr (he : PE X e te) (hs : swapsWith e none pos.line X.env = pure false := by rfl) : PS X (.Expr e pos) (tDrop te) := by
  intro pins s σ H D I h
  exact wpAny_Expr_any (thn (he pins s σ H _ I h) fun v s1 ⟨x, H1, I1, r1, q1⟩ => ⟨σ, H1, I1, q1⟩) I.quiet hs
def tRet (te : TE) : TS := fun D σ H => te σ H D.rt
theorem ps_ret (he : PE X e te) : PS X (.Return (some e) pos) (tRet te) := by
  intro pins s σ H D I h
  exact wpAny_Return_some (thn (he pins s σ H _ I h) fun v s1 ⟨x, H1, I1, r1, q1⟩ => ⟨x, σ, H1, I1, r1, q1⟩)
def tIfS (c : TT) (t u : TS) : TS := fun D σ H => c σ H fun b H1 => if b = true then t D σ H1 else u D σ H1
theorem ps_if {c : Expr} {a b : List Stmt} {tc : TT} (hc : PT X c tc) (ha : PSs X a t) (hb : PSs X b u) : PS X (.If c a b pos) (tIfS tc t u) := by
  intro pins s σ H D I h
  refine wpAny_If (thn (hc pins s σ H _ I h) fun d s1 ⟨H1, I1, q1⟩ => ?_)
  cases d with
  | true => exact ha pins s1 σ H1 D I1 q1
  | false => exact hb pins s1 σ H1 D I1 q1
/-- code that the proof never comes to -/
def tNever : TS := fun _ _ _ => False
theorem pss_never {sts : List Stmt} : PSs X sts tNever := fun _ _ _ _ _ _ h => h.elim
end

/-! ### targets -/
abbrev TG := V → St → Hp → (St → Hp → Prop) → Prop
abbrev TGs := List V → St → Hp → (St → Hp → Prop) → Prop
def PG (X : Cx) (target : Expr) (t : TG) : Prop :=
  ∀ (pins : List (Addr × Obj)) (s : Shared) (σ : St) (H : Hp) (v : V) (u : Value) (Q : St → Hp → Prop), Inv X pins σ H s → RelV v u → t v σ H Q →
    wpAny (model X.prog X.w) X.A (assign target X.env u) (fun _ s' => ∃ σ' H', Inv X pins σ' H' s' ∧ Q σ' H') X.xe s
/-- several targets, one after another -/
def PGs (X : Cx) (ts : List Expr) (t : TGs) : Prop :=
  ∀ (pins : List (Addr × Obj)) (s : Shared) (σ : St) (H : Hp) (vs : List V) (us : List Value) (Q : St → Hp → Prop), Inv X pins σ H s → Vals vs us → t vs σ H Q →
    wpAny (model X.prog X.w) X.A (assignInOrder ((assignEach ts X.env).map (·.2)) us) (fun _ s' => ∃ σ' H', Inv X pins σ' H' s' ∧ Q σ' H') X.xe s
/-- o[i] = v, by values -/
abbrev TSet := V → V → V → Hp → (Hp → Prop) → Prop
def PSet (X : Cx) (t : TSet) : Prop :=
  ∀ (pins : List (Addr × Obj)) (s : Shared) (σ : St) (H : Hp) (o i v : V) (ov iv u : Value) (Q : Hp → Prop), Inv X pins σ H s → RelV o ov → RelV i iv → RelV v u → t o i v H Q →
    wpAny (model X.prog X.w) X.A (setItem ov iv u) (fun _ s' => ∃ H', Inv X pins σ H' s' ∧ Q H') X.xe s
section
variable {X : Cx} {pos : Pos}
def gName (i : Nat) : TG := fun v σ H Q => Q (σ.set i (some v)) H
theorem pg_name {i : Nat} {x : Str} (hN : X.N.Nodup) (hi : X.N[i]? = some x) (hx : Loc X.env.scope x) (hf : X.fn x = true ∨ X.env.scope.names.lookup x = some .local := by first | exact .inl rfl | exact .inr rfl | assumption) : PG X (.Name x pos) (gName i) := by
  intro pins s σ H v u Q I r h
  exact wpAny_assign_Name (store_ok I hN hi hx r (fun s' I' => ⟨_, H, I', h⟩) hf)
def gNil : TGs := fun vs σ H Q => vs = [] ∧ Q σ H
def gCons (t : TG) (u : TGs) : TGs := fun vs σ H Q => ∃ v r, vs = v :: r ∧ t v σ H fun σ' H' => u r σ' H' Q
theorem pgs_nil : PGs X [] gNil := by
  intro pins s σ H vs us Q I r h
  obtain ⟨e, h⟩ := h
  subst e
  cases r
  exact assignInOrder_nil ⟨σ, H, I, h⟩
theorem pgs_cons {e : Expr} {es : List Expr} {t : TG} {u : TGs} (h1 : PG X e t) (h2 : PGs X es u)
    (hs : (assignEach (e :: es) X.env).map (·.2) = assign e X.env :: (assignEach es X.env).map (·.2) := by rfl) : PGs X (e :: es) (gCons t u) := by
  intro pins s σ H vs us Q I r h
  obtain ⟨v, vr, e1, h⟩ := h
  subst e1
  cases r with
  | cons r rr =>
    rw [hs]
    refine assignInOrder_cons (thn (h1 pins s σ H _ _ _ I r h) fun _ s1 ⟨σ1, H1, I1, q1⟩ => ?_)
    exact h2 pins s1 σ1 H1 _ _ Q I1 rr q1
/-- (a, b, ..) = a tuple of that length -/
def gTup (K : PySem.W.Frag) (n : Nat) (t : TGs) : TG := fun v σ H Q => ∃ a xs, v = .ref a ∧ SqT K H a xs ∧ xs.length = n ∧ t xs σ H Q
theorem pg_tup {es : List Expr} {k : Nat} {t : TGs} {n : Nat} (hc : X.calm = true) (h : PGs X es t)
    (hn : (assignEach es X.env).length = n := by rfl) (hst : (assignEach es X.env).findIdx? (·.1) = none := by rfl) : PG X (.Tuple es k pos) (gTup X.K n t) := by
  intro pins s σ H v u Q I r hw
  obtain ⟨a, xs, e1, hq, hl, hw⟩ := hw
  subst e1
  cases r
  obtain ⟨its, rv, ht, hz⟩ := I.tuple hq
  refine assign_Tuple_tuple (I.ok.hd hc) ht (by simp [hn, ← hl, rv.length]) hst fun h' hx => ?_
  have I1 : Inv X pins σ H { s with heap := h' } := I.kept (t' := s.toks) fun b o e => hx b o (Nat.ne_of_lt (Heap.lt_size e)) e
  exact h pins _ σ H xs _ Q I1 (by simpa using rv) hw
/-- o[i] = .. -/
def gSub (to ti : TE) (t : TSet) : TG := fun v σ H Q => to σ H fun o H1 => ti σ H1 fun i H2 => t o i v H2 fun H3 => Q σ H3
theorem pg_sub {o i : Expr} {to ti : TE} {t : TSet} (ho : PE X o to) (hi : PE X i ti) (hs : PSet X t)
    (ha : ∀ v, assign (.Subscript o i pos) X.env v = (do
      let ov ← holding [v] (eval o X.env)
      let iv ← holding [v, ov] (eval i X.env)
      standAt pos
      holding [v, ov, iv] (setItem ov iv v)
      release [v, ov, iv] []) := by intro _; rfl) : PG X (.Subscript o i pos) (gSub to ti t) := by
  intro pins s σ H v u Q I r h
  rw [ha]
  refine wpAny_bind (wpAny_holding (thn (ho pins s σ H _ I h) fun ov s1 ⟨x, H1, I1, r1, q1⟩ => ?_))
  refine wpAny_bind (wpAny_holding (thn (hi pins s1 σ H1 _ I1 q1) fun iv s2 ⟨y, H2, I2, r2, q2⟩ => ?_))
  refine wpAny_bind (wpAny_standAt (wpAny_bind (wpAny_holding (thn (hs pins s2 σ H2 x y v ov iv u _ I2 r1 r2 r q2) fun _ s3 ⟨H3, I3, q3⟩ => ?_))))
  exact wpAny_release ⟨σ, H3, I3, q3⟩
/-- target = value -/
def tAsg (te : TE) (g : TG) : TS := fun D σ H => te σ H fun x H1 => g x σ H1 D.nx
theorem ps_asg {tg e : Expr} {te : TE} {g : TG} (he : PE X e te) (hg : PG X tg g) (hs : swapsWithSole [tg] e pos.line X.env = pure false := by rfl) (hw : swappedStores [tg] e X.env = pure none := by rfl)
    (h1 : (assignEach [tg] X.env).map (·.2) = [assign tg X.env] := by rfl) : PS X (.Assign [tg] e pos) (tAsg te g) := by
  intro pins s σ H D I h
  refine wpAny_Assign_stores (thn (he pins s σ H _ I h) fun v s1 ⟨x, H1, I1, r1, q1⟩ => ?_) hs hw
  rw [h1]
  exact thn (hg pins s1 σ H1 x v _ I1 r1 q1) fun _ s2 q => q
/-- name = value -/
theorem ps_set {i : Nat} {x : Str} {e : Expr} {te : TE} {pos' : Pos} (hN : X.N.Nodup) (hi : X.N[i]? = some x) (hx : Loc X.env.scope x) (he : PE X e te) (hs : swapsWith e (some (.Name x pos')) pos.line X.env = pure false := by rfl) (hf : X.fn x = true ∨ X.env.scope.names.lookup x = some .local := by first | exact .inl rfl | exact .inr rfl | assumption) :
    PS X (.Assign [.Name x pos'] e pos) (tAsg te (gName i)) := by
  intro pins s σ H D I h
  refine wpAny_Assign_Name (thn (he pins s σ H _ I h) fun v s1 ⟨y, H1, I1, r1, q1⟩ => ?_) hs
  exact store_ok I1 hN hi hx r1 (fun s2 I2 => ⟨_, H1, I2, q1⟩) hf
end

/-! ### while -/
section
variable {X : Cx} {pos : Pos}
/-- the invariant W with its measure -/
def tWhile (c : TT) (tb : TS) : TS := fun D σ H => ∃ W : Nat → St → Hp → Prop, (∃ m, W m σ H) ∧ ∀ m σ H, W m σ H →
  c σ H fun b H1 => if b = true then ∃ N : St → Hp → Prop, (∀ σ' H', N σ' H' → ∃ m', m' < m ∧ W m' σ' H') ∧ tb { D with nx := N, ct := N, bk := D.nx } σ H1 else D.nx σ H1
theorem ps_while {c : Expr} {body : List Stmt} {tc : TT} {tb : TS} (hp : PassesOwn (model X.prog X.w) X.A X.env X.xe) (hc : PT X c tc) (hb : PSs X body tb) : PS X (.While c body [] pos) (tWhile tc tb) := by
  intro pins s σ H D I h
  obtain ⟨W, ⟨m0, w0⟩, turn⟩ := h
  refine wpAny_While (codeAny_whileLoop (fun n s' => ∃ σ' H', Inv X pins σ' H' s' ∧ W n σ' H') ?_ m0 ⟨σ, H, I, w0⟩)
  rintro n s1 ⟨σ1, H1, I1, w1⟩
  refine wpAny_passesOwn hp (thn (hc pins s1 σ1 H1 _ I1 (turn n σ1 H1 w1)) fun b s2 ⟨H2, I2, q2⟩ => ?_)
  cases b with
  | true =>
    obtain ⟨N, hN, q2⟩ := q2
    rw [if_pos rfl]
    refine wpAny_passesOwn hp (thn (hb pins s2 σ1 H2 _ I2 q2) fun f s3 q3 => ?_)
    cases f with
    | next =>
      obtain ⟨σ3, H3, I3, n3⟩ := q3
      obtain ⟨m', hm, w3⟩ := hN σ3 H3 n3
      exact ⟨m', hm, σ3, H3, I3, w3⟩
    | cont =>
      obtain ⟨σ3, H3, I3, n3⟩ := q3
      obtain ⟨m', hm, w3⟩ := hN σ3 H3 n3
      exact ⟨m', hm, σ3, H3, I3, w3⟩
    | brk => exact q3
    | ret v => exact q3
  | false =>
    rw [if_neg Bool.false_ne_true]
    exact wpAny_execs_nil ⟨σ1, H2, I2, q2⟩
end

/-! ### what a loop or a comprehension walks -/
/-- at turn i: it yields x (the heap may grow), or it stops -/
structure It where
  go : Nat → Hp → Prop
  yld : Nat → Hp → V → Hp → Prop
  stop : Nat → Hp → Prop
/-- the iterator's own objects may turn: they are not the frame's, not pinned, younger than the entry (or a comprehension's own) -/
def FpOk (X : Cx) (pins : List (Addr × Obj)) (H : Hp) (b : Addr) : Prop :=
  H b = none ∧ b ≠ X.env.locals ∧ b ∉ X.fs ∧ (b ∈ X.ex ∨ X.s₀.heap.objs.size ≤ b) ∧ (∀ x c, X.env.cells.lookup x = some c → c ≠ b) ∧ ∀ p ∈ X.pn ++ pins, p.1 ≠ b
theorem Inv.fpOk {X : Cx} {pins : List (Addr × Obj)} {σ : St} {H H' : Hp} {s : Shared} {b : Addr} (I : Inv X pins σ H s) (hb : s.heap.objs.size ≤ b) (hn : H' b = none) : FpOk X pins H' b := by
  refine ⟨hn, Nat.ne_of_gt (Nat.lt_of_lt_of_le I.lt hb), I.nofs hb, .inr (Nat.le_trans I.sz hb), fun x c e z => ?_, fun p hp z => ?_⟩
  · obtain ⟨v, q⟩ := I.cell x c e
    exact absurd (Nat.lt_of_lt_of_le q.lt (by rw [z]; exact hb)) (Nat.lt_irrefl _)
  · exact absurd (Nat.lt_of_lt_of_le (Heap.lt_size (I.pin p hp).1) (by rw [z]; exact hb)) (Nat.lt_irrefl _)
structure Turn (P : Program) (w : World) (K : PySem.W.Frag) (tg : Expr) (J : It) (fp : List Addr) (it : Addr) (tn : Nat → Heap → Prop) : Prop where
  mem : it ∈ fp
  obj : ∀ i h, tn i h → ∀ b ∈ fp, ∃ o, h.get? b = some o ∧ ∀ v, o.data ≠ .cell v
  keep : ∀ i h h', tn i h → (∀ b ∈ fp, ∀ o, h.get? b = some o → h'.get? b = some o) → tn i h'
  item : ∀ (X : Cx), X.prog = P → X.w = w → X.K = K → X.calm = true → ∀ (i : Nat) (pins : List (Addr × Obj)) (s : Shared) (σ : St) (H : Hp) (E : Value → Shared → Prop), Inv X pins σ H s → (∀ b ∈ fp, FpOk X pins H b) → tn i s.heap → J.go i H →
    wpAny (model P w) X.A (pyNext (.ref it)) (fun r s1 => ∃ u, r = some u ∧
      wpAny (model P w) X.A (letOwnedTupleGo tg (.ref it) u) (fun _ s2 => ∃ x H', Inv X pins σ H' s2 ∧ RelV x u ∧ J.yld i H x H' ∧ tn (i + 1) s2.heap ∧ ∀ b ∈ fp, H' b = none) E s1) E s
  done : ∀ (X : Cx), X.prog = P → X.w = w → X.K = K → X.calm = true → ∀ (i : Nat) (pins : List (Addr × Obj)) (s : Shared) (σ : St) (H : Hp) (E : Value → Shared → Prop), Inv X pins σ H s → (∀ b ∈ fp, FpOk X pins H b) → tn i s.heap → J.stop i H →
    wpAny (model P w) X.A (pyNext (.ref it)) (fun r s1 => r = none ∧ Inv X pins σ H s1) E s
  self : ∀ (A : Around) (i : Nat) (s : Shared) (Q : Value → Shared → Prop) (E : Value → Shared → Prop), tn i s.heap → Q (.ref it) s → wpAny (model P w) A (pyIter (.ref it)) Q E s
abbrev TI := St → Hp → (It → Hp → Prop) → Prop
/-- an iterator has come -/
def PIE (X : Cx) (pins : List (Addr × Obj)) (σ : St) (tg : Expr) (R : It → Hp → Prop) (itv : Value) (s2 : Shared) : Prop :=
  ∃ (it : Addr) (fp : List Addr) (tn : Nat → Heap → Prop) (J : It) (H' : Hp), itv = .ref it ∧ Inv X pins σ H' s2 ∧ Turn X.prog X.w X.K tg J fp it tn ∧ tn 0 s2.heap ∧ (∀ b ∈ fp, FpOk X pins H' b) ∧ R J H'
def PI (X : Cx) (tg iter : Expr) (wi : TI) : Prop :=
  ∀ (pins : List (Addr × Obj)) (s : Shared) (σ : St) (H : Hp) (R : It → Hp → Prop), Inv X pins σ H s → wi σ H R →
    wpAny (model X.prog X.w) X.A (eval iter X.env) (fun v s1 => wpAny (model X.prog X.w) X.A (pyIter v) (PIE X pins σ tg R) X.xe s1) X.xe s

/-- the step ahead of the store is nothing for an iterator that keeps no tuple -/
theorem go_of {M : Model} {A : Around} {E : Value → Shared → Prop} {s : Shared} {tg : Expr} {it : Addr} {u : Value} {o : Obj} {n : String} {vs : Array Value} {Q : Unit → Shared → Prop} (ho : s.heap.get? it = some o) (hc : o.cls = .type n) (hd : o.data = .fields vs)
    (hn : ["enumerate", "zip", "dict_itemiterator", "dict_reverseitemiterator", "odict_iterator", "itertools.zip_longest", "itertools.pairwise"].contains n = false) (hQ : Q () s) : wpAny M A (letOwnedTupleGo tg (.ref it) u) Q E s := by
  unfold letOwnedTupleGo
  cases tg <;> first
    | exact wpAny_pure hQ
    | (cases u <;> first
        | exact wpAny_pure hQ
        | (refine wpAny_bind (wpAny_load ho ?_)
           rw [hc, hd]
           show wpAny M A (if (["enumerate", "zip", "dict_itemiterator", "dict_reverseitemiterator", "odict_iterator", "itertools.zip_longest", "itertools.pairwise"].contains n && vs[0]? == some (rawInt _)) = true then _ else _) Q E s
           rw [if_neg (by intro h; rw [hn, Bool.false_and] at h; cases h)]
           exact wpAny_pure hQ))

/-- the list at a, as it stands at each turn (a loop may append to it) -/
def Itl (K : PySem.W.Frag) (a : Addr) : It :=
  ⟨fun i H => ∃ xs x, SqL K H a xs ∧ xs[i]? = some x, fun i H x H' => H' = H ∧ ∀ xs, SqL K H a xs → xs[i]? = some x, fun i H => ∃ xs, SqL K H a xs ∧ xs.length ≤ i⟩
/-- lo, lo + 1, .. (n of them) -/
def Itr (lo : Int) (n : Nat) : It := ⟨fun i _ => i < n, fun i H x H' => H' = H ∧ x = .int (lo + i), fun i _ => n ≤ i⟩
theorem turn_list {P : Program} {w : World} {K : PySem.W.Frag} {tg : Expr} (a it : Addr) : Turn P w K tg (Itl K a) [it] it (fun i h => h.IsListIter it a i) where
  mem := by simp
  obj := fun i h st b hb => by
    have e : b = it := by simpa using hb
    subst e
    obtain ⟨o, e, c, d⟩ := st
    exact ⟨o, e, fun v z => by rw [d] at z; cases z⟩
  keep := fun i h h' st k => st.at fun o e => k it (by simp) o e
  item := by
    intro X hP hw hK hc i pins s σ H E I hf st hg
    subst hP hw hK
    obtain ⟨xs, x, hq, hx⟩ := hg
    obtain ⟨its, rv, p, hz⟩ := I.list hq
    obtain ⟨u, hu, ru⟩ := rv.get hx
    obtain ⟨f0, f1, f2, f3, f4, f5⟩ := hf it (by simp)
    refine wpAny_pyNext_list_item st p.isList (x := u) (by simpa using hu) fun h' st' sb => ?_
    have I1 : Inv X pins σ H { s with heap := h' } := I.turned (t' := s.toks) (fun b o hb e => (sb.2 b hb).trans e) f0 f1 f3 f4 f5
    obtain ⟨o, e, c, d⟩ := id st'
    exact ⟨u, rfl, go_of (s := { s with heap := h' }) e c d (by decide) ⟨x, H, I1, ru, ⟨rfl, fun ys hy => by rw [I.list_inj hy hq]; exact hx⟩, st', fun b hb => (hf b hb).1⟩⟩
  done := by
    intro X hP hw hK hc i pins s σ H E I hf st hg
    subst hP hw hK
    obtain ⟨xs, hq, hx⟩ := hg
    obtain ⟨its, rv, p, hz⟩ := I.list hq
    obtain ⟨f0, f1, f2, f3, f4, f5⟩ := hf it (by simp)
    have hl := rv.length
    exact wpAny_pyNext_list_end (I.ok.hd hc) st p.isList (by simp; omega) fun h' eb => ⟨rfl, I.turned (t' := s.toks) (fun b o hb e => eb b o hb e) f0 f1 f3 f4 f5⟩
  self := fun _ _ _ _ _ st h => wpAny_pyIter_listiter st h
theorem turn_range {P : Program} {w : World} {K : PySem.W.Frag} {tg : Expr} (it : Addr) (lo : Int) (n : Nat) : Turn P w K tg (Itr lo n) [it] it (fun i h => IsRangeIter h it (lo + (i : Nat) * 1) ((n : Int) - (i : Nat)) 1) where
  mem := by simp
  obj := fun i h st b hb => by
    have e : b = it := by simpa using hb
    subst e
    exact ⟨_, st, fun v z => by
      have z' : Data.fields _ = Data.cell v := z
      cases z'⟩
  keep := fun i h h' st k => k it (by simp) _ st
  item := by
    intro X hP hw hK hc i pins s σ H E I hf st hg
    subst hP hw hK
    obtain ⟨f0, f1, f2, f3, f4, f5⟩ := hf it (by simp)
    have W := Walks.range (prog := X.prog) (w := X.w) (I.ok.hd hc) it lo 1 n
    refine W.item i s _ _ hg st fun v h' tk hv st' kk => ?_
    obtain ⟨t, rfl⟩ := hv
    have I1 : Inv X pins σ H { s with heap := h', toks := tk } := I.turned (fun b o hb e => kk b o (by simpa using hb) e) f0 f1 f3 f4 f5
    refine ⟨_, rfl, go_of (s := { s with heap := h', toks := tk }) (n := "range_iterator") st' rfl rfl (by decide) ⟨.int (lo + i), H, I1, ⟨t, ?_⟩, ⟨rfl, rfl⟩, st', fun b hb => (hf b hb).1⟩⟩
    rw [Int.mul_one]
  done := by
    intro X hP hw hK hc i pins s σ H E I hf st hg
    subst hP hw hK
    obtain ⟨f0, f1, f2, f3, f4, f5⟩ := hf it (by simp)
    exact wpAny_pyNext_range_end (I.ok.hd hc) st (by have : n ≤ i := hg; omega) fun h' eb => ⟨rfl, I.turned (t' := s.toks) (fun b o hb e => eb b o hb e) f0 f1 f3 f4 f5⟩
  self := fun _ _ _ _ _ st h => wpAny_pyIter_rangeiter st h
end L2

namespace L2
open PySem PySem.Spec PyProof.Rows
section
variable {X : Cx} {tg : Expr}
def iList (K : PySem.W.Frag) (tl : TE) : TI := fun σ H R => tl σ H fun x H1 => ∃ a, x = .ref a ∧ (∃ xs, SqL K H1 a xs) ∧ R (Itl K a) H1
theorem pi_list {l : Expr} {tl : TE} (hl : PE X l tl) : PI X tg l (iList X.K tl) := by
  intro pins s σ H R I h
  refine thn (hl pins s σ H _ I h) fun v s1 ⟨x, H1, I1, r1, q1⟩ => ?_
  obtain ⟨a, e, ⟨xs, hq⟩, q⟩ := q1
  subst e
  cases r1
  obtain ⟨its, rv, p, hz⟩ := I1.list hq
  refine wpAny_pyIter_list p.isList ?_
  refine ⟨s1.heap.objs.size, [s1.heap.objs.size], _, _, H1, rfl, I1.kept (t' := s1.toks) fun b o e => Heap.get?_push_of_some _ e, turn_list a _, ⟨_, Heap.get?_push_size _ rfl, rfl, rfl⟩, fun b hb => ?_, q⟩
  have e : b = s1.heap.objs.size := by simpa using hb
  subst e
  exact I1.fpOk (Nat.le_refl _) (I1.hok.fresh (Nat.le_refl _))
/-- a range object just made, walked -/
theorem range_it {pins : List (Addr × Obj)} {σ : St} {H : Hp} {s : Shared} {R : It → Hp → Prop} {E : Value → Shared → Prop} {lo hi : Int} {t u v : Tok} {tk : Nat} (I : Inv X pins σ H s) (h1 : -(2 ^ 62) ≤ lo) (h2 : lo < 2 ^ 62) (h3 : -(2 ^ 62) ≤ hi) (h4 : hi < 2 ^ 62)
    (q : R (Itr lo (hi - lo).toNat) H) : wpAny (model X.prog X.w) X.A (pyIter (.ref s.heap.objs.size)) (PIE X pins σ tg R) E { s with heap := s.heap.push { cls := .type "range", data := .fields #[.int lo t, .int hi u, .int 1 v] }, toks := tk } := by
  refine wpAny_pyIter_range (IsRange.new ..) (small_one h1 h2 h3 h4) ?_
  have I1 : Inv X pins σ H { s with heap := s.heap.push { cls := .type "range", data := .fields #[.int lo t, .int hi u, .int 1 v] }, toks := tk } := I.kept fun b o e => Heap.get?_push_of_some _ e
  refine ⟨(s.heap.push { cls := .type "range", data := .fields #[.int lo t, .int hi u, .int 1 v] }).objs.size, [(s.heap.push { cls := .type "range", data := .fields #[.int lo t, .int hi u, .int 1 v] }).objs.size], _, _, H, rfl,
    I1.kept (t' := tk) fun b o e => Heap.get?_push_of_some _ e, turn_range _ lo (hi - lo).toNat, ?_, fun b hb => ?_, q⟩
  · have e1 : lo + ((0 : Nat) : Int) * 1 = lo := by simp
    have e2 : (((hi - lo).toNat : Nat) : Int) - ((0 : Nat) : Int) = Builtin.Range.rangeSize lo hi 1 := by rw [rangeSize_one]; split <;> omega
    show IsRangeIter _ _ (lo + ((0 : Nat) : Int) * 1) ((((hi - lo).toNat : Nat) : Int) - ((0 : Nat) : Int)) 1
    rw [e1, e2]
    exact Heap.get?_push_size _ rfl
  · have e : b = (s.heap.push { cls := .type "range", data := .fields #[.int lo t, .int hi u, .int 1 v] }).objs.size := by simpa using hb
    subst e
    exact I1.fpOk (Nat.le_refl _) (I1.hok.fresh (Nat.le_refl _))
def iRng1 (ta : TA) : TI := fun σ H R => ta σ H fun vs H1 => ∃ j : Int, vs = [.int j] ∧ -(2 ^ 62) ≤ j ∧ j < 2 ^ 62 ∧ R (Itr 0 j.toNat) H1
def iRng2 (ta : TA) : TI := fun σ H R => ta σ H fun vs H1 => ∃ i j : Int, vs = [.int i, .int j] ∧ (-(2 ^ 62) ≤ i ∧ i < 2 ^ 62 ∧ -(2 ^ 62) ≤ j ∧ j < 2 ^ 62) ∧ R (Itr i (j - i).toNat) H1
theorem pi_range1 {a : Expr} {ta : TA} {p pos : Pos} (hg : Gl X "range") (hm : X.mg "range" = none) (ha : PA X [a] ta) (hs : starEach [a] X.env = [(false, eval a X.env)] := by rfl) : PI X tg (.Call (.Name "range" p) [a] [] pos) (iRng1 ta) := by
  intro pins s σ H R I h
  refine Call_ (ld_blt I hg hm boot_range (PyProof.Rows.callWith_type1 (thn (ha pos pins s σ H _ I h) fun us s1 ⟨vs, H1, I1, r1, q1⟩ => ?_) hs rfl))
  obtain ⟨j, e, q1, q2, q⟩ := q1
  subst e
  cases r1 with
  | cons r rr =>
    cases rr
    obtain ⟨t, rfl⟩ := r
    exact call_range_1 (range_it I1 (by omega) (by omega) q1 q2 (by simpa using q))
theorem pi_range2 {a b : Expr} {ta : TA} {p pos : Pos} (hg : Gl X "range") (hm : X.mg "range" = none) (ha : PA X [a, b] ta) (hs : starEach [a, b] X.env = [(false, eval a X.env), (false, eval b X.env)] := by rfl) (hs2 : starEach [b] X.env = [(false, eval b X.env)] := by rfl) :
    PI X tg (.Call (.Name "range" p) [a, b] [] pos) (iRng2 ta) := by
  intro pins s σ H R I h
  refine Call_ (ld_blt I hg hm boot_range (PyProof.Rows.callWith_type1 (thn (ha pos pins s σ H _ I h) fun us s1 ⟨vs, H1, I1, r1, q1⟩ => ?_) (by rw [hs, hs2]) (by rw [hs2]; rfl)))
  obtain ⟨i, j, e, ⟨q1, q2, q3, q4⟩, q⟩ := q1
  subst e
  cases r1 with
  | cons r rr =>
    cases rr with
    | cons r' rr =>
      cases rr
      obtain ⟨t, rfl⟩ := r
      obtain ⟨t', rfl⟩ := r'
      exact call_range_2 (range_it I1 q1 q2 q3 q4 q)

/-! ### for -/
/-- W: the invariant by the turn and a measure; N: what the body is to reach -/
def tFor (wi : TI) (g : TG) (tb : TS) : TS := fun D σ H => wi σ H fun J H1 => ∃ W : Nat → Nat → St → Hp → Prop, (∃ m, W 0 m σ H1) ∧ ∀ i m σ H, W i m σ H →
  (J.stop i H ∧ D.nx σ H) ∨ (J.go i H ∧ ∃ N : St → Hp → Prop, (∀ σ' H', N σ' H' → ∃ m', m' < m ∧ W (i + 1) m' σ' H') ∧ ∀ x H', J.yld i H x H' → g x σ H' fun σ2 H2 => tb { D with nx := N, ct := N, bk := D.nx } σ2 H2)
/-- the records at fp as they stand -/
def pinsAt (fp : List Addr) (h : Heap) : List (Addr × Obj) := fp.filterMap fun b => (h.get? b).map fun o => (b, o)
theorem mem_pinsAt {fp : List Addr} {h : Heap} {b : Addr} {o : Obj} (hb : b ∈ fp) (e : h.get? b = some o) : (b, o) ∈ pinsAt fp h := List.mem_filterMap.mpr ⟨b, hb, by rw [e]; rfl⟩
theorem of_pinsAt {fp : List Addr} {h : Heap} {p : Addr × Obj} (hp : p ∈ pinsAt fp h) : p.1 ∈ fp ∧ h.get? p.1 = some p.2 := by
  obtain ⟨b, hb, e⟩ := List.mem_filterMap.mp hp
  cases q : h.get? b with
  | none => rw [q] at e; cases e
  | some o =>
    rw [q] at e
    have e' : (b, o) = p := Option.some.inj e
    subst e'
    exact ⟨hb, q⟩
theorem Inv.pinned {pins : List (Addr × Obj)} {σ : St} {H : Hp} {s : Shared} {fp : List Addr} (I : Inv X pins σ H s) (hf : ∀ b ∈ fp, FpOk X pins H b) (ho : ∀ b ∈ fp, ∃ o, s.heap.get? b = some o ∧ ∀ v, o.data ≠ .cell v) : Inv X (pins ++ pinsAt fp s.heap) σ H s :=
  I.pins_of fun p hp => (List.mem_append.mp hp).elim (fun z => I.pin p (List.mem_append_right _ z)) fun z => by
    obtain ⟨hb, e⟩ := of_pinsAt z
    obtain ⟨f0, f1, f2, _⟩ := hf p.1 hb
    obtain ⟨o, e', d⟩ := ho p.1 hb
    rw [e] at e'; cases e'
    exact ⟨e, f0, f1, f2, d⟩
theorem Inv.unpinned {pins pl : List (Addr × Obj)} {σ : St} {H : Hp} {s : Shared} (I : Inv X (pins ++ pl) σ H s) : Inv X pins σ H s := I.pins_of fun p hp => I.pin p (List.mem_append_right _ (List.mem_append_left _ hp))
theorem ps_for {iter : Expr} {body : List Stmt} {wi : TI} {g : TG} {tb : TS} {pos : Pos} (hp : PassesOwn (model X.prog X.w) X.A X.env X.xe) (hc : X.calm = true) (hi : PI X tg iter wi) (hg : PG X tg g) (hb : PSs X body tb)
    (hs : ∀ x, foldedSetIterable iter X.env x = pure x := by intro _; rfl) : PS X (.For tg iter body [] pos) (tFor wi g tb) := by
  intro pins s σ H D I h
  refine wpAny_For (thn (hi pins s σ H _ I h) fun v s1 h1 => thn h1 fun itv s2 h2 => ?_) hs
  obtain ⟨it, fp, tn, J, H2, e, I2, T, st2, f2, W, ⟨m0, w0⟩, turn⟩ := h2
  subst e
  -- what stays true of the iterator's objects through the loop
  have stat : ∀ {H' : Hp}, (∀ b ∈ fp, H' b = none) → ∀ b ∈ fp, FpOk X pins H' b := fun hn b hb => ⟨hn b hb, (f2 b hb).2⟩
  refine codeAny_forLoop_any (fun n s' => ∃ i σ' H', Inv X pins σ' H' s' ∧ tn i s'.heap ∧ (∀ b ∈ fp, H' b = none) ∧ W i n σ' H') ?_ m0 ⟨0, σ, H2, I2, st2, fun b hb => (f2 b hb).1, w0⟩
  rintro n s3 ⟨i, σ3, H3, I3, st3, fr3, w3⟩
  rcases turn i n σ3 H3 w3 with ⟨stop, qn⟩ | ⟨go, N, hN, step⟩
  · refine wpAny_passesOwn hp (thn (T.done X rfl rfl rfl hc i pins s3 σ3 H3 X.xe I3 (stat fr3) st3 stop) fun r s4 ⟨hr, I4⟩ => ?_)
    subst hr
    exact wpAny_execs_nil ⟨σ3, H3, I4, qn⟩
  · refine wpAny_passesOwn hp (thn (T.item X rfl rfl rfl hc i pins s3 σ3 H3 X.xe I3 (stat fr3) st3 go) fun r s4 ⟨u, hr, h4⟩ => ?_)
    subst hr
    refine wpAny_passesOwn hp (thn h4 fun _ s5 ⟨x, H5, I5, r5, y5, st5, fr5⟩ => ?_)
    have I5' := I5.pinned (stat fr5) (T.obj _ _ st5)
    refine wpAny_passesOwn hp (thn (hg _ s5 σ3 H5 x u _ I5' r5 (step x H5 y5)) fun _ s6 ⟨σ6, H6, I6, q6⟩ => ?_)
    refine wpAny_passesOwn hp (thn (hb _ s6 σ6 H6 _ I6 q6) fun f s7 q7 => ?_)
    have again : ∀ {σ7 : St} {H7 : Hp}, Inv X (pins ++ pinsAt fp s5.heap) σ7 H7 s7 → N σ7 H7 → ∃ m, m < n ∧ ∃ i σ' H', Inv X pins σ' H' s7 ∧ tn i s7.heap ∧ (∀ b ∈ fp, H' b = none) ∧ W i m σ' H' := fun {σ7 H7} I7 n7 => by
      obtain ⟨m', hm, w7⟩ := hN σ7 H7 n7
      refine ⟨m', hm, i + 1, σ7, H7, I7.unpinned, T.keep _ _ _ st5 fun b hb o e => (I7.pin (b, o) (List.mem_append_right _ (List.mem_append_right _ (mem_pinsAt hb e)))).1, fun b hb => ?_, w7⟩
      obtain ⟨o, e, d⟩ := T.obj _ _ st5 b hb
      exact (I7.pin (b, o) (List.mem_append_right _ (List.mem_append_right _ (mem_pinsAt hb e)))).2.1
    cases f with
    | next => obtain ⟨σ7, H7, I7, n7⟩ := q7; exact again I7 n7
    | cont => obtain ⟨σ7, H7, I7, n7⟩ := q7; exact again I7 n7
    | brk => obtain ⟨σ7, H7, I7, q7⟩ := q7; exact ⟨σ7, H7, I7.unpinned, q7⟩
    | ret v => obtain ⟨x7, σ7, H7, I7, r7, q7⟩ := q7; exact ⟨x7, σ7, H7, I7.unpinned, r7, q7⟩
end

/-! ### the forms one uses -/
/-- over a list that the body leaves as it is -/
theorem for_list {K : PySem.W.Frag} {a : Addr} {xs : List V} {g : TG} {tb : TS} {D : Ends} {σ : St} {H : Hp} (Pv : Nat → St → Hp → Prop) (h0 : Pv 0 σ H) (hl : ∀ i σ H, i ≤ xs.length → Pv i σ H → SqL K H a xs)
    (hs : ∀ i x σ H, xs[i]? = some x → Pv i σ H → g x σ H fun σ2 H2 => tb { D with nx := Pv (i + 1), ct := Pv (i + 1), bk := D.nx } σ2 H2) (hd : ∀ σ H, Pv xs.length σ H → D.nx σ H) :
    ∃ W : Nat → Nat → St → Hp → Prop, (∃ m, W 0 m σ H) ∧ ∀ i m σ H, W i m σ H →
      ((Itl K a).stop i H ∧ D.nx σ H) ∨ ((Itl K a).go i H ∧ ∃ N : St → Hp → Prop, (∀ σ' H', N σ' H' → ∃ m', m' < m ∧ W (i + 1) m' σ' H') ∧ ∀ x H', (Itl K a).yld i H x H' → g x σ H' fun σ2 H2 => tb { D with nx := N, ct := N, bk := D.nx } σ2 H2) := by
  refine ⟨fun i m σ H => m = xs.length - i ∧ i ≤ xs.length ∧ Pv i σ H, ⟨xs.length, by simp, Nat.zero_le _, h0⟩, ?_⟩
  rintro i m σ H ⟨rfl, hi, p⟩
  have q := hl i σ H hi p
  by_cases hlt : i < xs.length
  · refine .inr ⟨⟨xs, xs[i], q, by simp [hlt]⟩, Pv (i + 1), fun σ' H' p' => ⟨xs.length - (i + 1), by omega, rfl, hlt, p'⟩, fun x H' y => ?_⟩
    obtain ⟨e, y⟩ := y
    subst e
    exact hs i x σ _ (y xs q) p
  · have e : i = xs.length := by omega
    subst e
    exact .inl ⟨⟨xs, q, Nat.le_refl _⟩, hd σ H p⟩
theorem for_range {lo : Int} {n : Nat} {g : TG} {tb : TS} {D : Ends} {σ : St} {H : Hp} (Pv : Nat → St → Hp → Prop) (h0 : Pv 0 σ H)
    (hs : ∀ i σ H, i < n → Pv i σ H → g (.int (lo + i)) σ H fun σ2 H2 => tb { D with nx := Pv (i + 1), ct := Pv (i + 1), bk := D.nx } σ2 H2) (hd : ∀ σ H, Pv n σ H → D.nx σ H) :
    ∃ W : Nat → Nat → St → Hp → Prop, (∃ m, W 0 m σ H) ∧ ∀ i m σ H, W i m σ H →
      ((Itr lo n).stop i H ∧ D.nx σ H) ∨ ((Itr lo n).go i H ∧ ∃ N : St → Hp → Prop, (∀ σ' H', N σ' H' → ∃ m', m' < m ∧ W (i + 1) m' σ' H') ∧ ∀ x H', (Itr lo n).yld i H x H' → g x σ H' fun σ2 H2 => tb { D with nx := N, ct := N, bk := D.nx } σ2 H2) := by
  refine ⟨fun i m σ H => m = n - i ∧ i ≤ n ∧ Pv i σ H, ⟨n, by simp, Nat.zero_le _, h0⟩, ?_⟩
  rintro i m σ H ⟨rfl, hi, p⟩
  by_cases hlt : i < n
  · refine .inr ⟨hlt, Pv (i + 1), fun σ' H' p' => ⟨n - (i + 1), by omega, rfl, hlt, p'⟩, fun x H' y => ?_⟩
    obtain ⟨e, y⟩ := y
    subst e y
    exact hs i σ _ hlt p
  · have e : i = n := by omega
    subst e
    exact .inl ⟨Nat.le_refl _, hd σ H p⟩
end L2

namespace L2
open PySem PySem.Spec PyProof.Rows

abbrev R2 := V → V → Hp → VK → Prop
/-- a two-place operation on values: f is binaryOp op, inplaceOp op or compareOp op -/
def OpR (X : Cx) (f : Value → Value → Sem Value) (r : R2) : Prop :=
  ∀ (pins : List (Addr × Obj)) (s : Shared) (σ : St) (H : Hp) (x y : V) (v u : Value) (Q : VK), Inv X pins σ H s → RelV x v → RelV y u → r x y H Q →
    wpAny (model X.prog X.w) X.A (f v u) (EP X pins σ Q) X.xe s
/-- a one-place operation -/
def UnR (X : Cx) (f : Value → Sem Value) (r : V → Hp → VK → Prop) : Prop :=
  ∀ (pins : List (Addr × Obj)) (s : Shared) (σ : St) (H : Hp) (x : V) (v : Value) (Q : VK), Inv X pins σ H s → RelV x v → r x H Q →
    wpAny (model X.prog X.w) X.A (f v) (EP X pins σ Q) X.xe s
/-- a call of a value that is known (a builtin, a type) with values -/
def CallR (X : Cx) (f : Value) (r : List V → Hp → VK → Prop) : Prop :=
  ∀ (pins : List (Addr × Obj)) (s : Shared) (σ : St) (H : Hp) (xs : List V) (us : List Value) (Q : VK), Inv X pins σ H s → Vals xs us → r xs H Q →
    wpAny (model X.prog X.w) X.A (call f us) (EP X pins σ Q) X.xe s
/-- a value's truth -/
def TruR (X : Cx) (r : V → Hp → (Bool → Hp → Prop) → Prop) : Prop :=
  ∀ (pins : List (Addr × Obj)) (s : Shared) (σ : St) (H : Hp) (x : V) (v : Value) (Q : Bool → Hp → Prop), Inv X pins σ H s → RelV x v → r x H Q →
    wpAny (model X.prog X.w) X.A (truthy v) (TP X pins σ Q) X.xe s

def tOp (r : R2) (ta tb : TE) : TE := fun σ H Q => ta σ H fun x H1 => tb σ H1 fun y H2 => r x y H2 Q
def tUn (r : V → Hp → VK → Prop) (ta : TE) : TE := fun σ H Q => ta σ H fun x H1 => r x H1 Q
/-- ints in, under C, and a value out -/
def rI (C : Int → Int → Prop) (g : Int → Int → V) : R2 := fun x y H Q => ∃ i j, x = .int i ∧ y = .int j ∧ C i j ∧ Q (g i j) H
def rI0 (g : Int → Int → V) : R2 := fun x y H Q => ∃ i j, x = .int i ∧ y = .int j ∧ Q (g i j) H
def rU (g : Int → V) : V → Hp → VK → Prop := fun x H Q => ∃ i, x = .int i ∧ Q (g i) H

section
variable {X : Cx} {a b c : Expr} {ta tb tc : TE} {pos : Pos}

theorem binT (ha : PE X a ta) (hb : PE X b tb) {pins : List (Addr × Obj)} {s : Shared} {σ : St} {H : Hp} {R : V → V → Hp → Prop} (I : Inv X pins σ H s)
    (h : ta σ H fun x H1 => tb σ H1 fun y H2 => R x y H2) {Q : Value → Shared → Prop} {f : Value → Value → Sem Value}
    (hf : ∀ v u s2 x y H2, Inv X pins σ H2 s2 → RelV x v → RelV y u → R x y H2 → wpAny (model X.prog X.w) X.A (f v u) Q X.xe s2) :
    wpAny (model X.prog X.w) X.A (eval a X.env) (fun v s₁ => wpAny (model X.prog X.w) X.A (eval b X.env) (fun u s₂ => wpAny (model X.prog X.w) X.A (f v u) Q X.xe s₂) X.xe s₁) X.xe s := by
  refine thn (ha pins s σ H _ I h) fun v s1 ⟨x, H1, I1, r1, q1⟩ => ?_
  refine thn (hb pins s1 σ H1 _ I1 q1) fun u s2 ⟨y, H2, I2, r2, q2⟩ => ?_
  exact hf v u s2 x y H2 I2 r1 r2 q2

theorem pe_op {op : Operator} {r : R2} (ho : OpR X (binaryOp op) r) (ha : PE X a ta) (hb : PE X b tb) : PE X (.BinOp a op b pos) (tOp r ta tb) := by
  intro pins s σ H Q I h
  exact wpAny_BinOp (binT ha hb I h fun v u s2 x y H2 I2 rx ry q => ho pins s2 σ H2 x y v u Q I2 rx ry q)
theorem pe_un {op : UnaryOp} {r : V → Hp → VK → Prop} (ho : UnR X (unaryOp op) r) (ha : PE X a ta) : PE X (.UnaryOp op a pos) (tUn r ta) := by
  intro pins s σ H Q I h
  exact UnaryOp_ (thn (ha pins s σ H _ I h) fun v s1 ⟨x, H1, I1, r1, q1⟩ => ho pins s1 σ H1 x v Q I1 r1 q1)
/-! ### ints -/
theorem opI {f : Value → Value → Sem Value} {C : Int → Int → Prop} {g : Int → Int → Int}
    (rule : ∀ (i j : Int) (t u : Tok) (s : Shared) (Q : Value → Shared → Prop) (E : Value → Shared → Prop), C i j → Q (.int (g i j) s.toks) { s with toks := s.toks + 1 } → wpAny (model X.prog X.w) X.A (f (.int i t) (.int j u)) Q E s) :
    OpR X f (rI C fun i j => .int (g i j)) := by
  intro pins s σ H x y v u Q I rx ry h
  obtain ⟨i, j, rfl, rfl, hc, q⟩ := h
  obtain ⟨t, rfl⟩ := rx
  obtain ⟨t', rfl⟩ := ry
  exact rule i j t t' s _ _ hc ⟨.int (g i j), H, I.tok _, ⟨_, rfl⟩, q⟩
theorem opI0 {f : Value → Value → Sem Value} {g : Int → Int → Int}
    (rule : ∀ (i j : Int) (t u : Tok) (s : Shared) (Q : Value → Shared → Prop) (E : Value → Shared → Prop), Q (.int (g i j) s.toks) { s with toks := s.toks + 1 } → wpAny (model X.prog X.w) X.A (f (.int i t) (.int j u)) Q E s) :
    OpR X f (rI0 fun i j => .int (g i j)) := by
  intro pins s σ H x y v u Q I rx ry h
  obtain ⟨i, j, rfl, rfl, q⟩ := h
  obtain ⟨t, rfl⟩ := rx
  obtain ⟨t', rfl⟩ := ry
  exact rule i j t t' s _ _ ⟨.int (g i j), H, I.tok _, ⟨_, rfl⟩, q⟩
theorem opB0 {f : Value → Value → Sem Value} {g : Int → Int → Bool}
    (rule : ∀ (i j : Int) (t u : Tok) (s : Shared) (Q : Value → Shared → Prop) (E : Value → Shared → Prop), Q (.bool (g i j)) s → wpAny (model X.prog X.w) X.A (f (.int i t) (.int j u)) Q E s) :
    OpR X f (rI0 fun i j => .bl (g i j)) := by
  intro pins s σ H x y v u Q I rx ry h
  obtain ⟨i, j, rfl, rfl, q⟩ := h
  obtain ⟨t, rfl⟩ := rx
  obtain ⟨t', rfl⟩ := ry
  exact rule i j t t' s _ _ ⟨.bl (g i j), H, I, rfl, q⟩

def CDiv (i j : Int) : Prop := 0 < j ∧ j < 1073741824
theorem op_add : OpR X (binaryOp .Add) (rI0 fun i j => .int (i + j)) := opI0 fun _ _ _ _ _ _ _ q => add_int q
theorem op_sub : OpR X (binaryOp .Sub) (rI0 fun i j => .int (i - j)) := opI0 fun _ _ _ _ _ _ _ q => sub_int q
/-- // by a positive divisor -/
theorem op_fdiv : OpR X (binaryOp .FloorDiv) (rI CDiv fun i j => .int (i / j)) := opI fun i j _ _ _ _ _ hc q => by
  have h1 : (0 : Int) < j := hc.1
  have h2 : j < 1073741824 := hc.2
  exact floordiv_int (by omega) (by rw [Int.fdiv_eq_ediv_of_nonneg i (by omega)]; exact q) (.inl (PyProof.noPylong_small (by omega)))
/-- % by a positive divisor of any size -/
theorem op_mod : OpR X (binaryOp .Mod) (rI (fun _ j => 0 < j) fun i j => .int (i % j)) := opI fun i j _ _ _ _ _ hc q => by
  have h1 : (0 : Int) < j := hc
  exact mod_int' (by omega) (by rw [Int.fmod_eq_emod_of_nonneg i (by omega)]; exact q)
theorem unI {f : Value → Sem Value} {g : Int → Int}
    (rule : ∀ (i : Int) (t : Tok) (s : Shared) (Q : Value → Shared → Prop) (E : Value → Shared → Prop), Q (.int (g i) s.toks) { s with toks := s.toks + 1 } → wpAny (model X.prog X.w) X.A (f (.int i t)) Q E s) :
    UnR X f (rU fun i => .int (g i)) := by
  intro pins s σ H x v Q I rx h
  obtain ⟨i, rfl, q⟩ := h
  obtain ⟨t, rfl⟩ := rx
  exact rule i t s _ _ ⟨.int (g i), H, I.tok _, ⟨_, rfl⟩, q⟩
theorem un_neg : UnR X (unaryOp .USub) (rU fun i => .int (-i)) := unI fun _ _ _ _ _ q => neg_int q
/-! ### bools among ints: n += (a < b) -/
end

/-! ### comparisons -/
/-- the scalars that == tells apart as data does -/
def scal : V → V → Bool
  | .non, .non => true | .non, .int _ => true | .int _, .non => true | .non, .bl _ => true | .bl _, .non => true | .non, .str _ => true | .str _, .non => true
  | .int _, .int _ => true | .bl _, .bl _ => true | .str _, .str _ => true | .byt _, .byt _ => true
  | .int _, .str _ => true | .str _, .int _ => true | .bl _, .str _ => true | .str _, .bl _ => true
  | _, _ => false
def rEq : R2 := fun x y H Q => scal x y = true ∧ Q (.bl (decide (x = y))) H
def rNe : R2 := fun x y H Q => scal x y = true ∧ Q (.bl (!decide (x = y))) H

theorem dec_int {i j : Int} : decide (V.int i = V.int j) = (i == j) := by
  rw [Bool.eq_iff_iff]
  simp
theorem dec_bl {i j : Bool} : decide (V.bl i = V.bl j) = (i == j) := by
  rw [Bool.eq_iff_iff]
  simp
theorem dec_str {i j : Str} : decide (V.str i = V.str j) = (i == j) := by
  rw [Bool.eq_iff_iff]
  simp
theorem dec_byt {i j : Array UInt8} : decide (V.byt i = V.byt j) = (i.toList == j.toList) := by
  rw [Bool.eq_iff_iff]
  cases i
  cases j
  simp

section
variable {X : Cx} {a b c : Expr} {ta tb tc : TE} {pos : Pos}
theorem fin_bl {pins : List (Addr × Obj)} {σ : St} {H : Hp} {s : Shared} {Q : VK} {k k' : Bool} (I : Inv X pins σ H s) (q : Q (.bl k) H) (e : k = k') : EP X pins σ Q (.bool k') s := by
  subst e
  exact ⟨.bl k, H, I, rfl, q⟩
theorem op_eq : OpR X (compareOp .Eq) rEq := by
  intro pins s σ H x y v u Q I rx ry h
  obtain ⟨hs, q⟩ := h
  cases x with
  | non =>
    cases rx
    cases y with
    | non => cases ry; exact PySem.EqNone.eq_none_none (fin_bl I q (by simp))
    | bl j => cases ry; exact PySem.EqNone.eq_none_bool (fin_bl I q (by simp))
    | int j => obtain ⟨t', rfl⟩ := ry; exact PySem.EqNone.eq_none_int (fin_bl I q (by simp))
    | str j => obtain ⟨t', rfl⟩ := ry; exact PySem.EqNone.eq_none_str (fin_bl I q (by simp))
    | _ => exact absurd (show false = true from hs) Bool.false_ne_true
  | bl i =>
    cases rx
    cases y with
    | non => cases ry; exact PySem.EqNone.eq_bool_none (fin_bl I q (by simp))
    | bl j => cases ry; exact eq_bool (fin_bl I q dec_bl)
    | str j => obtain ⟨t', rfl⟩ := ry; exact PySem.EqMixed.eq_bool_str (fin_bl I q (by simp))
    | _ => exact absurd (show false = true from hs) Bool.false_ne_true
  | int i =>
    obtain ⟨t, rfl⟩ := rx
    cases y with
    | non => cases ry; exact PySem.EqNone.eq_int_none (fin_bl I q (by simp))
    | int j => obtain ⟨t', rfl⟩ := ry; exact eq_int (fin_bl I q dec_int)
    | str j => obtain ⟨t', rfl⟩ := ry; exact PySem.EqMixed.eq_int_str (fin_bl I q (by simp))
    | _ => exact absurd (show false = true from hs) Bool.false_ne_true
  | str i =>
    obtain ⟨t, rfl⟩ := rx
    cases y with
    | non => cases ry; exact PySem.EqNone.eq_str_none (fin_bl I q (by simp))
    | bl j => cases ry; exact PySem.EqMixed.eq_str_bool (fin_bl I q (by simp))
    | int j => obtain ⟨t', rfl⟩ := ry; exact PySem.EqMixed.eq_str_int (fin_bl I q (by simp))
    | str j => obtain ⟨t', rfl⟩ := ry; exact eq_str (fin_bl I q dec_str)
    | _ => exact absurd (show false = true from hs) Bool.false_ne_true
  | byt i =>
    obtain ⟨t, rfl⟩ := rx
    cases y with
    | byt j => obtain ⟨t', rfl⟩ := ry; exact PySem.W.eq_bytes (fin_bl I q dec_byt)
    | _ => exact absurd (show false = true from hs) Bool.false_ne_true
  | _ => cases y <;> exact absurd (show false = true from hs) Bool.false_ne_true
theorem op_ne : OpR X (compareOp .NotEq) rNe := by
  intro pins s σ H x y v u Q I rx ry h
  obtain ⟨hs, q⟩ := h
  cases x with
  | non =>
    cases rx
    cases y with
    | non => cases ry; exact PySem.EqNone.ne_none_none (fin_bl I q (by simp))
    | bl j => cases ry; exact PySem.EqNone.ne_none_bool (fin_bl I q (by simp))
    | int j => obtain ⟨t', rfl⟩ := ry; exact PySem.EqNone.ne_none_int (fin_bl I q (by simp))
    | str j => obtain ⟨t', rfl⟩ := ry; exact PySem.EqNone.ne_none_str (fin_bl I q (by simp))
    | _ => exact absurd (show false = true from hs) Bool.false_ne_true
  | bl i =>
    cases rx
    cases y with
    | non => cases ry; exact PySem.EqNone.ne_bool_none (fin_bl I q (by simp))
    | bl j => cases ry; exact ne_bool (fin_bl I q (congrArg not dec_bl))
    | str j => obtain ⟨t', rfl⟩ := ry; exact PySem.EqMixed.ne_bool_str (fin_bl I q (by simp))
    | _ => exact absurd (show false = true from hs) Bool.false_ne_true
  | int i =>
    obtain ⟨t, rfl⟩ := rx
    cases y with
    | non => cases ry; exact PySem.EqNone.ne_int_none (fin_bl I q (by simp))
    | int j => obtain ⟨t', rfl⟩ := ry; exact ne_int (fin_bl I q (congrArg not dec_int))
    | str j => obtain ⟨t', rfl⟩ := ry; exact PySem.EqMixed.ne_int_str (fin_bl I q (by simp))
    | _ => exact absurd (show false = true from hs) Bool.false_ne_true
  | str i =>
    obtain ⟨t, rfl⟩ := rx
    cases y with
    | non => cases ry; exact PySem.EqNone.ne_str_none (fin_bl I q (by simp))
    | bl j => cases ry; exact PySem.EqMixed.ne_str_bool (fin_bl I q (by simp))
    | int j => obtain ⟨t', rfl⟩ := ry; exact PySem.EqMixed.ne_str_int (fin_bl I q (by simp))
    | str j => obtain ⟨t', rfl⟩ := ry; exact ne_str (fin_bl I q (congrArg not dec_str))
    | _ => exact absurd (show false = true from hs) Bool.false_ne_true
  | byt i =>
    obtain ⟨t, rfl⟩ := rx
    cases y with
    | byt j => obtain ⟨t', rfl⟩ := ry; exact PySem.W.ne_bytes (fin_bl I q (congrArg not dec_byt))
    | _ => exact absurd (show false = true from hs) Bool.false_ne_true
  | _ => cases y <;> exact absurd (show false = true from hs) Bool.false_ne_true

theorem op_lt : OpR X (compareOp .Lt) (rI0 fun i j => .bl (decide (i < j))) := opB0 fun _ _ _ _ _ _ _ q => lt_int q
theorem op_le : OpR X (compareOp .LtE) (rI0 fun i j => .bl (decide (i ≤ j))) := opB0 fun _ _ _ _ _ _ _ q => le_int q
theorem op_gt : OpR X (compareOp .Gt) (rI0 fun i j => .bl (decide (j < i))) := opB0 fun _ _ _ _ _ _ _ q => gt_int q
theorem op_ge : OpR X (compareOp .GtE) (rI0 fun i j => .bl (decide (j ≤ i))) := opB0 fun _ _ _ _ _ _ _ q => ge_int q
theorem nomark (b : Expr) {op : CmpOp} (h : op ≠ .In := by decide) (h2 : op ≠ .NotIn := by decide) : behindInMarks op b = false := by
  have e1 : (op == CmpOp.In) = false := by cases op <;> first | rfl | exact absurd rfl h
  have e2 : (op == CmpOp.NotIn) = false := by cases op <;> first | rfl | exact absurd rfl h2
  cases b <;> simp [behindInMarks, e1, e2]
/-- a comparison as a value; hm: nomark b, or (for in, not in) by with_unfolding_all rfl -/
theorem pe_cmpR {op : CmpOp} {r : R2} (ho : OpR X (compareOp op) r) (ha : PE X a ta) (hb : PE X b tb) (hm : behindInMarks op b = false) : PE X (.Compare a [op] [b] pos) (tOp r ta tb) := by
  intro pins s σ H Q I h
  exact wpAny_Compare1 (binT ha hb I h fun v u s2 x y H2 I2 rx ry q => ho pins s2 σ H2 x y v u Q I2 rx ry q) hm
/-- a reading of a value as a test -/
def tTest (t : TE) : TT := fun σ H Q => t σ H fun x H' => ∃ k, x = .bl k ∧ Q k H'
theorem pt_cmpR {op : CmpOp} {r : R2} (ho : OpR X (compareOp op) r) (ha : PE X a ta) (hb : PE X b tb) (hm : behindInMarks op b = false) : PT X (.Compare a [op] [b] pos) (tTest (tOp r ta tb)) := by
  intro pins s σ H Q I h
  refine wpAny_isTrue_Compare1 (thn (ha pins s σ H _ I h) fun v s1 ⟨x, H1, I1, r1, q1⟩ => thn (hb pins s1 σ H1 _ I1 q1) fun u s2 ⟨y, H2, I2, r2, q2⟩ =>
    thn (ho pins s2 σ H2 x y v u _ I2 r1 r2 q2) fun c s3 ⟨z, H3, I3, r3, k, e, q3⟩ => ?_) hm
  subst e
  cases r3
  exact wpAny_truthy_bool ⟨H3, I3, q3⟩
/-- a op1 b op2 c -/
def tChain (r r' : R2) (ta tb tc : TE) : TE := fun σ H Q => ta σ H fun x H1 => tb σ H1 fun y H2 => r x y H2 fun z H3 => ∃ k, z = .bl k ∧
  (if k = true then tc σ H3 fun w' H4 => r' y w' H4 Q else Q (.bl false) H3)
theorem pe_chain {op op' : CmpOp} {r r' : R2} (ho : OpR X (compareOp op) r) (ho' : OpR X (compareOp op') r') (ha : PE X a ta) (hb : PE X b tb) (hc : PE X c tc)
    (hm : lastMarks [op, op'] [b, c] = false := by with_unfolding_all rfl) : PE X (.Compare a [op, op'] [b, c] pos) (tChain r r' ta tb tc) := by
  intro pins s σ H Q I h
  refine Compare_chain (thn (ha pins s σ H _ I h) fun v s1 ⟨x, H1, I1, r1, q1⟩ => chain_link (thn (hb pins s1 σ H1 _ I1 q1) fun u s2 ⟨y, H2, I2, r2, q2⟩ =>
    thn (ho pins s2 σ H2 x y v u _ I2 r1 r2 q2) fun d s3 ⟨z, H3, I3, r3, k, e, q3⟩ => ?_)) hm
  subst e
  cases r3
  refine wpAny_truthy_bool ?_
  cases k with
  | false => exact ite_ff ⟨.bl false, H3, I3, rfl, q3⟩
  | true => exact ite_tt (chain_last (thn (hc pins s3 σ H3 _ I3 q3) fun w' s4 ⟨z', H4, I4, r4, q4⟩ => ho' pins s4 σ H4 y z' u w' Q I4 r2 r4 q4))
/-! ### truth -/
/-- a value's truth by the abstract heap -/
def TruV (K : PySem.W.Frag) (x : V) (H : Hp) (k : Bool) : Prop :=
  match x with
  | .non => k = false
  | .bl b => k = b
  | .int i => k = (i != 0)
  | .str y => y.length ≤ sizeLine ∧ k = ((y.length : Int) != 0)
  | .byt y => y.size ≤ sizeLine ∧ k = ((y.size : Int) != 0)
  | .ref p => (∃ xs, SqL K H p xs ∧ k = !xs.isEmpty) ∨ (∃ xs, SqT K H p xs ∧ k = !xs.isEmpty) ∨ ∃ kvs, H p = some (.dK kvs) ∧ k = !kvs.isEmpty
  | _ => False
theorem isEmpty_kv {κ : Type} {kvs : List (κ × V)} {vs : List (κ × Value)} (r : KV kvs vs) : (!vs.isEmpty) = !kvs.isEmpty := by
  cases r <;> rfl
theorem isEmpty_of {xs : List V} {its : List Value} (r : Vals xs its) : (!its.toArray.isEmpty) = !xs.isEmpty := by
  cases r <;> simp
theorem line63 : (sizeLine : Nat) < 2 ^ 63 := by rw [sizeLine_eq]; decide
theorem tru_ok : TruR X (fun x H Q => ∃ k, TruV X.K x H k ∧ Q k H) := by
  intro pins s σ H x v Q I rx h
  obtain ⟨k, e, q⟩ := h
  have hl := line63
  have hs : sizeLine = 16777216 := sizeLine_eq
  cases x with
  | non =>
    cases rx
    have e' : k = false := e
    subst e'
    exact truthy_none ⟨H, I, q⟩
  | bl b =>
    cases rx
    have e' : k = b := e
    subst e'
    exact wpAny_truthy_bool ⟨H, I, q⟩
  | int i =>
    obtain ⟨t, rfl⟩ := rx
    have e' : k = (i != 0) := e
    subst e'
    exact PySem.P.truthy_int ⟨H, I, q⟩
  | str y =>
    obtain ⟨t, rfl⟩ := rx
    obtain ⟨hy, e'⟩ : y.length ≤ sizeLine ∧ k = ((y.length : Int) != 0) := e
    subst e'
    exact PySem.P.truthy_str (by omega) ⟨H, I.tok _, q⟩
  | byt y =>
    obtain ⟨t, rfl⟩ := rx
    obtain ⟨hy, e'⟩ : y.size ≤ sizeLine ∧ k = ((y.size : Int) != 0) := e
    subst e'
    exact PySem.W.truthy_bytes (by omega) ⟨H, I.tok _, q⟩
  | ref p =>
    cases rx
    have e' : (∃ xs, SqL X.K H p xs ∧ k = !xs.isEmpty) ∨ (∃ xs, SqT X.K H p xs ∧ k = !xs.isEmpty) ∨ ∃ kvs, H p = some (.dK kvs) ∧ k = !kvs.isEmpty := e
    rcases e' with ⟨xs, hx, e'⟩ | ⟨xs, hx, e'⟩ | ⟨kvs, hx, e'⟩
    · subst e'
      obtain ⟨its, r, pl, hz⟩ := I.list hx
      have hlen := r.length
      exact wpAny_truthy_list pl.isList (by simp only [List.size_toArray]; omega) ⟨H, I.tok _, by rw [isEmpty_of r]; exact q⟩
    · subst e'
      obtain ⟨its, r, pl, hz⟩ := I.tuple hx
      have hlen := r.length
      exact truthy_tuple pl (by simp only [List.size_toArray]; omega) ⟨H, I.tok _, by rw [isEmpty_of r]; exact q⟩
    · subst e'
      obtain ⟨hz, hS, vs, r, m⟩ : kvs.length ≤ sizeLine ∧ (p == sysModules) = false ∧ ∃ vs, KV kvs vs ∧ s.heap.DictOf (mixKind X.prog X.w) p vs := I.hok p _ hx
      have hlen : kvs.length = vs.length := Paired.length r
      exact wpAny_truthy_dict hS m (by omega) ⟨H, I.tok _, by rw [isEmpty_kv r]; exact q⟩
  | _ => exact (show False from e).elim
/-- any expression whose test is its value's truth (a name, a call, a subscript, a field ..: he by fun _ => rfl) -/
theorem pt_truth (ha : PE X a ta) (he : ∀ whole, isTrue a X.env whole = (do let v ← whole; standAt a.pos; holding [v] (truthy v))) :
    PT X a (fun σ H Q => ta σ H fun x H' => ∃ k, TruV X.K x H' k ∧ Q k H') := by
  intro pins s σ H Q I h
  exact isTrue_plain (thn (ha pins s σ H _ I h) fun v s1 ⟨x, H1, I1, r1, q1⟩ => tru_ok pins s1 σ H1 x v Q I1 r1 q1) (he _)

/-! ### strs and bytes -/
/-! ### scalar builtins, by CallR -/
theorem vals1 {x : V} {us : List Value} (r : Vals [x] us) : ∃ u, us = [u] ∧ RelV x u := by
  cases r with
  | cons r1 r2 => cases r2; exact ⟨_, rfl, r1⟩
theorem vals2 {x y : V} {us : List Value} (r : Vals [x, y] us) : ∃ u w', us = [u, w'] ∧ RelV x u ∧ RelV y w' := by
  cases r with
  | cons r1 r2 =>
    cases r2 with
    | cons r3 r4 => cases r4; exact ⟨_, _, rfl, r1, r3⟩
end
end L2

namespace L2
open PySem PySem.Spec PyProof.Rows

/-! ### an instance, its attributes a map -/
structure ObjM (h : Heap) (x dx C : Addr) (mA : Str → Option Value) : Prop where
  obj : h.get? x = some (PySem.W.instObj C dx)
  ns : h.Ns1 dx mA
  ne : dx ≠ x

theorem lookIn_ns {h : Heap} {dx : Addr} {mA : Str → Option Value} (n : h.Ns1 dx mA) : ∃ od, h.get? dx = some od ∧ ∀ name, PySem.W.lookIn name od = some (mA name) := by
  obtain ⟨o, es, ep, ho, hd, hk, _, hm⟩ := n
  refine ⟨o, ho, fun name => ?_⟩
  have e := hm name
  unfold nsFind findBy at e
  rw [← Array.find?_toList] at e
  unfold PySem.W.lookIn
  rw [hd]
  dsimp only
  split
  · rename_i y q
    rw [q] at e
    exact congrArg some e
  · rename_i q
    rw [q] at e
    have a : es.toList.any (·.refKey) = false := by
      rw [List.any_eq_false]
      intro y hy
      obtain ⟨z, t, hkey⟩ := hk y (Array.mem_toList_iff.mp hy)
      simp [DictEntry.refKey, hkey]
    have a' : ¬ es.toList.any (·.refKey) = true := by rw [a]; exact Bool.false_ne_true
    rw [if_neg a']
    exact congrArg some e

theorem ObjM.look {h : Heap} {x dx C : Addr} {mA : Str → Option Value} (I : ObjM h x dx C mA) : ∃ od, PySem.W.InstAt h x (PySem.W.instObj C dx) C (some od) ∧ ∀ name, PySem.W.lookIn name od = some (mA name) :=
  let ⟨od, ho, hl⟩ := lookIn_ns I.ns
  ⟨od, ⟨I.obj, rfl, rfl, ho⟩, hl⟩

section
variable {prog : Program} {w : World} {A : Around} {E : Value → Shared → Prop} {s : Shared} {K : PySem.W.Frag} {x dx C f : Addr} {mA : Str → Option Value} {name : Str} {v : Value}

end

/-! ### the attributes as a list of pairs -/
section
variable {P : Program} {w : World} {H H' : Hp} {h h' : Heap} {a C dx : Addr} {fs fs' : List (Str × V)}
theorem ins_get (hok : HOk P w H h) (e : H a = some (.ins C dx fs)) : ∃ mA, ObjM h a dx C mA ∧ (∀ f, RelO (fs.lookup f) (mA f)) ∧ PySem.Within mA (fs.map (·.1)) ∧ fs.length ≤ 1000 ∧ H dx = some (.own a) := by
  obtain ⟨d, z, ne, ob, mA, n, r, q⟩ := (show ObjOk P w H h a (.ins C dx fs) from hok a _ e)
  exact ⟨mA, ⟨ob, n, ne⟩, r, q, z, d⟩
end

/-! ### what of the text a class must have -/
structure Cls (K : PySem.W.Frag) (C : Addr) : Prop where
  pg : PySem.W.plainGet K C Str.empty = true
  hd : PySem.W.hasDictIn K C = true
  po : PySem.W.plainOver K C = true
  sa : PySem.W.findIn K (.ref C) "__setattr__" = some (some (.builtin "object.__setattr__"))
theorem Cls.get {K : PySem.W.Frag} {C : Addr} (c : Cls K C) (f : Str) : PySem.W.plainGet K C f = true := c.pg
section
variable {X : Cx} {pins : List (Addr × Obj)} {σ : St} {H : Hp} {s : Shared} {a C dx : Addr} {fs : List (Str × V)} {f : Str} {v : V} {A : Around} {E : Value → Shared → Prop}

end

/-! ### readings and rules -/
section
variable {X : Cx} {o e value : Expr} {f : Str} {pos pos' tpos : Pos} {ta tv : TE}
end

/-! ### isinstance -/
section
variable {X : Cx} {pins : List (Addr × Obj)} {σ : St} {H : Hp} {s : Shared} {A : Around} {E : Value → Shared → Prop} {Q : Value → Shared → Prop} {c : Value} {b : Bool}
/-- the type of a value, as the fragment's deciders take it; for an instance its class -/
inductive TyOf (K : PySem.W.Frag) (H : Hp) : V → Value → Prop where
  | non : TyOf K H .non (.type "NoneType")
  | bl (x : Bool) : TyOf K H (.bl x) (.type "bool")
  | int (i : Int) : TyOf K H (.int i) (.type "int")
  | str (x : Str) : TyOf K H (.str x) (.type "str")
  | flt (x : UInt64) : TyOf K H (.flt x) (.type "float")
  | lst {a : Addr} {xs : List V} (e : H a = some (.lst xs)) : TyOf K H (.ref a) (.type "list")
  | frz {a : Addr} {o : Obj} {xs : List V} (e : H a = some (.frz o (.lst xs))) : TyOf K H (.ref a) (.type "list")
  | tup {a : Addr} {xs : List V} (e : H a = some (.tup xs)) : TyOf K H (.ref a) (.type "tuple")
  | dK {a : Addr} {kvs : List (Key × V)} (e : H a = some (.dK kvs)) : TyOf K H (.ref a) (.type "dict")
  | dT {a : Addr} {kvs : List (List Key × V)} (e : H a = some (.dT kvs)) : TyOf K H (.ref a) (.type "dict")
  | ins {a C dx : Addr} {fs : List (Str × V)} (e : H a = some (.ins C dx fs)) (cl : Cls K C) (ha : PySem.W.findIn K (.ref C) "__class__" = some (some (.builtin "object.__class__")))
      (hn : PySem.W.specialIn K (.builtin "object.__class__") "__get__" = some (some (.builtin "getset_descriptor.__get__"))) (htk : PySem.W.takesIn K (.builtin "object.__class__") = some true)
      (hm : PySem.W.mroIn K C (.type "object") = some true) : TyOf K H (.ref a) (.ref C)
/-- isinstance(x, c) for one class c, a built-in or an own one: kitOne's answer -/
theorem isinst_ok {x : V} {u t : Value} (I : Inv X pins σ H s) (rx : RelV x u) (ty : TyOf X.K H x t) (e : PySem.W.kitOne X.K t c = some b) (h : ∀ tk, Q (.bool b) { s with toks := tk }) :
    wpAny (model X.prog X.w) A (call (.builtin "isinstance") [u, c]) Q E s := by
  cases ty with
  | non => cases (show u = Value.none from rx); exact PySem.W.kia_one PySem.W.kitx_none I.kIn True.intro e (fun z => nomatch z) h
  | bl y => cases (show u = Value.bool y from rx); exact PySem.W.kia_one PySem.W.kitx_bool I.kIn True.intro e (fun z => nomatch z) h
  | int i => obtain ⟨t, q⟩ := (show ∃ t, u = Value.int i t from rx); cases q; exact PySem.W.kia_one PySem.W.kitx_int I.kIn True.intro e (fun z => nomatch z) h
  | str y => obtain ⟨t, q⟩ := (show ∃ t, u = Value.str y t from rx); cases q; exact PySem.W.kia_one PySem.W.kitx_str I.kIn True.intro e (fun z => nomatch z) h
  | flt y => obtain ⟨t, q⟩ := (show ∃ t, u = Value.float y t from rx); cases q; exact PySem.W.kia_one PySem.W.kitx_float I.kIn True.intro e (fun z => nomatch z) h
  | @lst a xs ea =>
    cases (show u = Value.ref a from rx)
    obtain ⟨_, _, n, _, h1⟩ := (show ObjOk X.prog X.w H s.heap a (.lst xs) from I.hok a _ ea)
    exact PySem.W.kia_one PySem.W.kitx_list I.kIn ⟨_, h1, rfl⟩ e (fun z => nomatch z) h
  | @frz a ob xs ea =>
    cases (show u = Value.ref a from rx)
    obtain ⟨_, _, _, n, _, h1⟩ := (show ObjOk X.prog X.w H s.heap a (.frz ob (.lst xs)) from I.hok a _ ea)
    exact PySem.W.kia_one PySem.W.kitx_list I.kIn ⟨_, h1, rfl⟩ e (fun z => nomatch z) h
  | @tup a xs ea =>
    cases (show u = Value.ref a from rx)
    obtain ⟨_, _, _, p⟩ := (show ObjOk X.prog X.w H s.heap a (.tup xs) from I.hok a _ ea)
    obtain ⟨o, h1, h2, _⟩ := p
    exact PySem.W.kia_one PySem.W.kitx_tuple I.kIn ⟨o, h1, h2⟩ e (fun z => nomatch z) h
  | @dK a kvs ea =>
    cases (show u = Value.ref a from rx)
    obtain ⟨_, _, vs, _, p⟩ := (show ObjOk X.prog X.w H s.heap a (.dK kvs) from I.hok a _ ea)
    obtain ⟨o, es, ep, h1, h2, _⟩ := p
    exact PySem.W.kia_one PySem.W.kitx_dict I.kIn ⟨o, h1, h2.1⟩ e (fun z => nomatch z) h
  | @dT a kvs ea =>
    cases (show u = Value.ref a from rx)
    obtain ⟨_, _, xs, _, o, es, ep, h1, h2, _⟩ := (show ObjOk X.prog X.w H s.heap a (.dT kvs) from I.hok a _ ea)
    exact PySem.W.kia_one PySem.W.kitx_dict I.kIn ⟨o, h1, h2.1⟩ e (fun z => nomatch z) h
  | @ins a C dx fs ea cl ha hn htk hm =>
    cases (show u = Value.ref a from rx)
    obtain ⟨mA, O, _⟩ := ins_get I.hok ea
    obtain ⟨od, J, _⟩ := O.look
    exact PySem.W.kia_one (PySem.W.kitx_own (cl.get _) cl.hd ha hn htk hm) I.kIn J e (fun z => nomatch z) h
end
end L2

namespace L2
open PySem PySem.Spec PyProof.Rows

/-! ### room -/
structure Room (k : Nat) (A : Around) : Prop where
  hd : A.handled = none
  dp : A.depth + 3 * k + 5 < recursionLimit
  un : A.units + 16 * k + 200 < cLine
theorem Room.mono {j k : Nat} {A : Around} (r : Room k A) (h : j ≤ k) : Room j A := ⟨r.hd, by have := r.dp; omega, by have := r.un; omega⟩
theorem Room.deeper {k : Nat} {A : Around} (r : Room (k + 1) A) (env : Env) : Room k (A.deeper env) :=
  ⟨r.hd, by have := r.dp; show A.depth + 1 + 3 * k + 5 < _; omega, by have := r.un; show A.units + 3 + 16 * k + 200 < _; omega⟩
theorem Room.depth {k : Nat} {A : Around} (r : Room k A) : A.depth < recursionLimit := by have := r.dp; omega
theorem Room.units {k : Nat} {A : Around} (r : Room k A) : A.units + 64 < cLine := by have := r.un; omega
/-! ### argument lists and displays -/
def tNil : TA := fun _ H Q => Q [] H
def tCons (ta : TE) (tr : TA) : TA := fun σ H Q => ta σ H fun x H1 => tr σ H1 fun xs H2 => Q (x :: xs) H2
section
variable {X : Cx} {e : Expr} {es : List Expr} {te : TE} {t : TA} {pos : Pos}
theorem pa_nil : PA X [] tNil := fun _ _ _ _ H Q I h => Calls.spliced_nil ⟨[], H, I, .nil, h⟩
theorem pa_cons (ha : PE X e te) (hr : PA X es t) (hs : starEach (e :: es) X.env = (false, eval e X.env) :: starEach es X.env := by rfl) : PA X (e :: es) (tCons te t) := by
  intro pos pins s σ H Q I h
  rw [hs]
  show wpAny _ _ (spliced ((false, eval e X.env) :: backTo pos (starEach es X.env))) _ _ s
  refine Calls.spliced_cons (thn (ha pins s σ H _ I h) fun u s1 ⟨x, H1, I1, r1, q1⟩ => ?_)
  exact thn (hr pos pins s1 σ H1 _ I1 q1) fun us s2 ⟨xs, H2, I2, r2, q2⟩ => ⟨x :: xs, H2, I2, .cons r1 r2, q2⟩

/-- a tuple, a list of written items -/
def tTup (t : TA) : TE := fun σ H Q => t σ H fun xs H1 => xs.length ≤ sizeLine ∧ ∀ p, H1 p = none → Q (.ref p) (upd H1 p (.tup xs))
def tLst (t : TA) : TE := fun σ H Q => t σ H fun xs H1 => xs.length ≤ sizeLine ∧ ∀ p, H1 p = none → Q (.ref p) (upd H1 p (.lst xs))
theorem pe_tup {x1} (h : PA X es t) : PE X (.Tuple es x1 pos) (tTup t) := by
  intro pins s σ H Q I hq
  refine wpAny_Tuple_spliced (thn (h pos pins s σ H _ I hq) fun us s1 ⟨xs, H1, I1, r, z, q⟩ => ⟨by rw [← r.length]; exact z, ?_⟩)
  have hf : H1 s1.heap.objs.size = none := I1.hok.fresh (Nat.le_refl _)
  refine ⟨.ref s1.heap.objs.size, upd H1 s1.heap.objs.size (.tup xs), I1.laid (t' := s1.toks) (fun b u e => Heap.get?_push_of_some _ e) (Nat.le_refl _) ?_, rfl, q _ hf⟩
  exact ⟨z, us, r, ⟨_, Heap.get?_push_size _ rfl, rfl, _, rfl⟩⟩
theorem pe_lst (h : PA X es t) : PE X (.List es pos) (tLst t) := by
  intro pins s σ H Q I hq
  refine wpAny_List_spliced (thn (h pos pins s σ H _ I hq) fun us s1 ⟨xs, H1, I1, r, z, q⟩ => ⟨by rw [← r.length]; exact z, ?_⟩)
  have hf : H1 s1.heap.objs.size = none := I1.hok.fresh (Nat.le_refl _)
  refine ⟨.ref s1.heap.objs.size, upd H1 s1.heap.objs.size (.lst xs), I1.laid (t' := s1.toks) (fun b u e => Heap.get?_push_of_some _ e) (Nat.le_refl _) ?_, rfl, q _ hf⟩
  exact ⟨z, us, 0, r, Heap.get?_push_size _ rfl⟩
end

/-! ### what a def promises -/
/-- a def's promise: the bound arguments in the parameters' order, the heap, the wanted end, the wanted exception -/
abbrev Sp := List V → Hp → VK → XK → Prop
/-- how an exception lies behind a call (file 08 gives it): the callers' frames, abstract heap and state ahead of the call, the wish, the exception, the state -/
abbrev CXT := List Env → Hp → Shared → XK → Value → Shared → Prop

/-- the state at a call -/
structure Env0 (P : Program) (w : World) (K : PySem.W.Frag) (mg : Str → Option Value) (base : Heap) (A : Around) (outer : List Env) (s : Shared) (H : Hp) : Prop where
  frames : A.frames = some outer
  mod : Mod K mg base
  bs : ∀ b o, base.get? b = some o → s.heap.get? b = some o ∧ H b = none
  bsz : base.objs.size ≤ s.heap.objs.size
  funs : s.heap.FunFrames base outer
  frf : ∀ b ∈ frs outer, H b = none
  hok : HOk P w H s.heap
  bare : AllBare s.gens
/-- a call's end -/
def CE (outer : List Env) (P : Program) (w : World) (H : Hp) (s : Shared) (Q : VK) (u : Value) (s' : Shared) : Prop :=
  ∃ v H', s'.os = s.os ∧ AllBare s'.gens ∧ Un (frs outer) [] H H' s.heap s'.heap ∧ HOk P w H' s'.heap ∧ RelV v u ∧ Q v H'
def CR (CX : CXT) (outer : List Env) (P : Program) (w : World) (H : Hp) (s : Shared) (Q : VK) (E : XK) (r : Result) (s' : Shared) : Prop :=
  match r with
  | .ok (.ret u) => CE outer P w H s Q u s'
  | .ok _ => False
  | .error e => CX outer H s E e s'
structure FnOk (P : Program) (w : World) (K : PySem.W.Frag) (mg : Str → Option Value) (base : Heap) (CX : CXT) (k : Nat) (f : Addr) (fd : FuncData) (ps : List Str) (sp : Sp) : Prop where
  len : ∀ vs H Q E, sp vs H Q E → vs.length = ps.length
  run : ∀ (A : Around) (outer : List Env) (s : Shared) (H : Hp) (args : Args) (us : List Value) (vs : List V) (Q : VK) (E : XK), Room k A → Env0 P w K mg base A outer s H → BindsTo s fd args (ps.zip us) → Vals vs us → sp vs H Q E →
    codeAny (model P w) A (.call (.ref f) args) (CR CX outer P w H s Q E) s
section
variable {X : Cx} {pins : List (Addr × Obj)} {σ : St} {H : Hp} {s s' : Shared}
/-- from a body: what a callee wants -/
theorem Inv.env0 (I : Inv X pins σ H s) : Env0 X.prog X.w X.K X.mg X.base X.A X.stack s H :=
  ⟨I.ok.frames, I.ok.mod, I.bs, Nat.le_trans I.ok.bsz I.sz, I.stack, I.stkFree, I.hok, I.bare⟩
/-- behind a call -/
theorem Inv.after {Q : VK} {u : Value} (I : Inv X pins σ H s) (h : CE X.stack X.prog X.w H s Q u s') : EP X pins σ Q u s' := by
  obtain ⟨v, H', os, bare, un, hok, r, q⟩ := h
  obtain ⟨hh, g, d, t, os'⟩ := s'
  obtain rfl : os' = s.os := os
  exact ⟨v, H', I.call (h' := hh) (g' := g) (d' := d) (t' := t) (ch := []) un hok bare (fun b z => absurd z (by simp)), r, q⟩
end

/-! ### calls -/
/-- f(..): the written arguments, then the defaults dvs; E: what is wanted of an exception -/
def tCall (sp : Sp) (dvs : List V) (E : XK) (t : TA) : TE := fun σ H Q => t σ H fun vs H1 => sp (vs ++ dvs) H1 Q E
/-- how the parameters are bound: us the positional arguments, kw the keywords' values by name, ds the defaults that fill up -/
def Binds (K : PySem.W.Frag) (fd : FuncData) (ps : List Str) (ds : List Value) : Prop :=
  ∀ (s : Shared) (us : List Value), K.In s.heap → (us ++ ds).length = ps.length → BindsTo s fd ⟨us, []⟩ (ps.zip (us ++ ds))
/-- every parameter is given -/
theorem Binds.all {K : PySem.W.Frag} {fd : FuncData} {ps : List Str} (h : ∀ us : List Value, us.length = ps.length → bindArgs fd ⟨us, []⟩ = pure (ps.zip us)) : Binds K fd ps [] := fun s us _ hl => by
  rw [List.append_nil] at hl ⊢
  exact .of_eq (h us hl)

/-- an exception of a callee reaches what this body wants of exceptions -/
def Passes (CX : CXT) (X : Cx) (E : XK) : Prop := ∀ (pins : List (Addr × Obj)) (σ : St) (H : Hp) (s : Shared) (e : Value) (s' : Shared), Inv X pins σ H s → CX X.stack H s E e s' → X.xe e s'

section
variable {X : Cx} {CX : CXT} {k : Nat} {f C : Addr} {fd : FuncData} {ps : List Str} {sp : Sp} {dvs : List V} {ds : List Value} {E : XK} {x m : Str} {p pos apos : Pos} {e o : Expr} {es : List Expr} {ta : TE} {t : TA}

/-- the callee runs -/
theorem run_fn {pins : List (Addr × Obj)} {σ : St} {H : Hp} {s : Shared} {Q : VK} {us : List Value} {vs : List V} (F : FnOk X.prog X.w X.K X.mg X.base CX k f fd ps sp) (hr : Room k X.A) (hb : Binds X.K fd ps ds) (hd : Vals dvs ds) (hx : Passes CX X E)
    (I : Inv X pins σ H s) (r : Vals vs us) (h : sp (vs ++ dvs) H Q E) : wpAny (model X.prog X.w) X.A (call (.ref f) us) (EP X pins σ Q) X.xe s := by
  have r2 : Vals (vs ++ dvs) (us ++ ds) := r.append hd
  have hl : (us ++ ds).length = ps.length := by rw [← r2.length]; exact F.len _ _ _ _ h
  refine wpAny_call (codeAny_mono (F.run X.A X.stack s H ⟨us, []⟩ (us ++ ds) (vs ++ dvs) Q E hr I.env0 (hb s us I.kIn hl) r2 h) fun r s' hq => ?_)
  cases r with
  | error e => exact hx pins σ H s e s' I hq
  | ok fl =>
    cases fl with
    | ret u => exact I.after hq
    | next => exact False.elim hq
    | brk => exact False.elim hq
    | cont => exact False.elim hq

theorem pe_call (F : FnOk X.prog X.w X.K X.mg X.base CX k f fd ps sp) (hr : Room k X.A) (hg : Gl X x) (hm : X.mg x = some (.ref f)) (hk : PySem.W.keepIn X.K (.ref f) = true) (hb : Binds X.K fd ps ds) (hd : Vals dvs ds) (hx : Passes CX X E)
    (ha : PA X (e :: es) t) (hdb : (x == ("__debug__" : Str)) = false := by decide) (he : starEach (e :: es) X.env = (false, eval e X.env) :: starEach es X.env := by rfl) (hpl : (backTo pos (starEach es X.env)).any (·.1) = false := by rfl) :
    PE X (.Call (.Name x p) (e :: es) [] pos) (tCall sp dvs E t) := by
  intro pins s σ H Q I h
  refine wpAny_Call_Name_kw (ld_glob I hg hm ?_ hdb)
  refine PySem.W.callWith_K (h₀ := X.base) I.ok.mod.kin hk (thn (ha pos pins s σ H _ I h) fun us s1 ⟨vs, H1, I1, r, q⟩ => ⟨I1.kIn, ?_⟩) he hpl
  exact run_fn F hr hb hd hx I1 r q
end

/-! ### keywords -/
section
variable {X : Cx} {CX : CXT} {k : Nat} {f C : Addr} {fd : FuncData} {ps ks : List Str} {sp : Sp} {E : XK} {x m : Str} {p pos apos kpos : Pos} {e o : Expr} {es : List Expr} {kws : List Keyword} {te ta : TE} {t tk : TA} {nm : Option Str}
variable {g : List Value → List Value → List Value} {gV : List V → List V → List V}
end

/-! ### a def's body keeps its promise -/
/-- names: the parameters first -/
structure FnScope (N P : List Str) (sc : Scope) : Prop where
  kind : sc.kind = .function
  co : sc.isCoroutine = false
  gen : sc.isGenerator = false
  nd : N.Nodup
  pre : N.take P.length = P
  par : ∀ x ∈ P, sc.names.lookup x = some .local ∨ sc.names.lookup x = some .cell
  nofree : ∀ y ∈ sc.names, y.2 ≠ .free

theorem bindL_out {kindOf : Str → Option NameKind} {x : Str} : ∀ {binds : List (Str × Value)} {m : Str → Option Value}, (∀ v, (x, v) ∉ binds) → bindL kindOf binds m x = m x
  | [], _, _ => rfl
  | (n, v) :: r, m, h => by
    unfold bindL
    rw [bindL_out fun w hw => h w (List.mem_cons_of_mem _ hw)]
    split
    · have : x ≠ n := by rintro rfl; exact h v List.mem_cons_self
      simp [this]
    · rfl
theorem bindC_out {kindOf : Str → Option NameKind} {x : Str} : ∀ {binds : List (Str × Value)} {m : Str → Option Value}, (∀ v, (x, v) ∉ binds) → bindC kindOf binds m x = m x
  | [], _, _ => rfl
  | (n, v) :: r, m, h => by
    unfold bindC
    rw [bindC_out fun w hw => h w (List.mem_cons_of_mem _ hw)]
    split
    · rfl
    · have : x ≠ n := by rintro rfl; exact h v List.mem_cons_self
      simp [this]
theorem bindL_get {kindOf : Str → Option NameKind} {x : Str} {v : Value} : ∀ {P : List Str} {vs : List Value} {i : Nat} {m : Str → Option Value}, P.Nodup → P[i]? = some x → vs[i]? = some v → kindOf x = some .local →
    bindL kindOf (P.zip vs) m x = some v
  | [], _, _, _, _, h, _, _ => by simp at h
  | _ :: _, [], _, _, _, _, h, _ => by simp at h
  | p :: P, w :: vs, 0, m, nd, h1, h2, hk => by
    simp at h1 h2; subst h1; subst h2
    show bindL kindOf ((p, w) :: P.zip vs) m p = _
    unfold bindL
    rw [bindL_out fun v hv => (List.nodup_cons.mp nd).1 (List.of_mem_zip hv).1, if_pos hk]
    simp
  | p :: P, w :: vs, i + 1, m, nd, h1, h2, hk => by
    show bindL kindOf ((p, w) :: P.zip vs) m x = _
    unfold bindL
    exact bindL_get (i := i) (List.nodup_cons.mp nd).2 (by simpa using h1) (by simpa using h2) hk
theorem bindC_get {kindOf : Str → Option NameKind} {x : Str} {v : Value} : ∀ {P : List Str} {vs : List Value} {i : Nat} {m : Str → Option Value}, P.Nodup → P[i]? = some x → vs[i]? = some v → kindOf x ≠ some .local →
    bindC kindOf (P.zip vs) m x = some v
  | [], _, _, _, _, h, _, _ => by simp at h
  | _ :: _, [], _, _, _, _, h, _ => by simp at h
  | p :: P, w :: vs, 0, m, nd, h1, h2, hk => by
    simp at h1 h2; subst h1; subst h2
    show bindC kindOf ((p, w) :: P.zip vs) m p = _
    unfold bindC
    rw [bindC_out fun v hv => (List.nodup_cons.mp nd).1 (List.of_mem_zip hv).1, if_neg hk]
    simp
  | p :: P, w :: vs, i + 1, m, nd, h1, h2, hk => by
    show bindC kindOf ((p, w) :: P.zip vs) m x = _
    unfold bindC
    exact bindC_get (i := i) (List.nodup_cons.mp nd).2 (by simpa using h1) (by simpa using h2) hk

/-- the names' values at the entry -/
def start (N : List Str) (vs : List V) : St := vs.map some ++ List.replicate (N.length - vs.length) none

/-- the context of a def's body, at its entry; an exception leaves the frame, then lies as CX says -/
def cxOf (CX : CXT) (P : Program) (w : World) (K : PySem.W.Frag) (mg : Str → Option Value) (base : Heap) (N : List Str) (qual : Str) (scope : Scope) (f : Addr) (cd : Value) (A : Around) (outer : List Env) (s : Shared) (H : Hp) (E : XK) : Cx where
  prog := P
  w := w
  K := K
  mg := mg
  base := base
  A := A.deeper (envOfC qual scope s.heap.objs.size f cd)
  N := N
  s₀ := s
  H₀ := H
  env := envOfC qual scope s.heap.objs.size f cd
  outer := outer
  stack := envOfC qual scope s.heap.objs.size f cd :: outer
  ex := []
  calm := true
  fn := fun _ => true
  pn := []
  xe := fun e s' => wpAny (model P w) (A.deeper (envOfC qual scope s.heap.objs.size f cd)) (leaving (envOfC qual scope s.heap.objs.size f cd) e) (fun _ s'' => CX outer H s E e s'') (fun e' s'' => CX outer H s E e' s'') s'

theorem cell_has {sc : Scope} {n : Nat} {x : Str} (h : sc.names.lookup x = some .cell) : ∃ c, (cellsFrom n sc.names []).lookup x = some c := by
  have q := PySem.W.cellsFrom_some sc.names n [] (.inl h)
  exact Option.isSome_iff_exists.mp q

theorem inv_start {CX : CXT} {P : Program} {w : World} {K : PySem.W.Frag} {mg : Str → Option Value} {base : Heap} {N ps : List Str} {qual : Str} {scope : Scope} {f : Addr} {cd : Value} {A : Around} {outer : List Env} {s s1 : Shared} {H : Hp} {E : XK} {us : List Value} {vs : List V}
    (S : FnScope N ps scope) (hd : A.handled = none) (e0 : Env0 P w K mg base A outer s H) (hl : vs.length = ps.length) (r : Vals vs us)
    (x : InCallC s s.heap.objs.size (bindL (envOfC qual scope s.heap.objs.size f cd).kindOf (ps.zip us) fun _ => none) (cellsFrom (s.heap.objs.size + 1) scope.names []) (bindC (envOfC qual scope s.heap.objs.size f cd).kindOf (ps.zip us) fun _ => none) s1) :
    Inv (cxOf CX P w K mg base N qual scope f cd A outer s H E) [] (start N vs) H s1 := by
  have hpl : ps.length ≤ N.length := by have := congrArg List.length S.pre; rw [List.length_take] at this; omega
  obtain ⟨h1, tk, rfl, hk⟩ := x.done
  have noA : ∀ b : Addr, b ∉ (cxOf CX P w K mg base N qual scope f cd A outer s H E).ex := fun b z => absurd (show b ∈ ([] : List Addr) from z) (by simp)
  refine ⟨⟨e0.mod, S.kind, rfl, rfl, Nat.le_refl _, fun y z c h1 h2 => ?_, fun y hy => ?_, fun y c _ h => ?_, fun _ => hd, Around.frames_deeper e0.frames, .inr ⟨rfl, rfl⟩, fun b z => absurd z (noA b), e0.bs, e0.bsz, fun b _ _ => noA b, fun b z => absurd z (noA b), e0.funs, e0.frf⟩,
    rfl, e0.bare, Un.kept hk, ⟨_, x.toInCall.ns, fun i y v h1 h2 h3 => ?_⟩, fun y c h => ⟨_, x.cell y c h⟩, e0.hok.fresh (Nat.le_refl _), fun y c h => ?_, fun p hp => absurd (show p ∈ ([] : List (Addr × Obj)) from hp) (by simp), e0.hok.kept hk, ?_⟩
  · exact name_of_addr x.apart (PySem.mem_of_lookup h1) (PySem.mem_of_lookup h2)
  · have hy : scope.names.lookup y = some .cell ∨ scope.names.lookup y = some .free := hy
    rcases hy with hy | hy
    · exact cell_has hy
    · exact absurd rfl (S.nofree _ (PySem.mem_of_lookup hy))
  · exact Nat.le_of_lt (x.above y c (PySem.mem_of_lookup h))
  · have hi : i < vs.length := by
      unfold start at h2
      by_cases hi : i < vs.length
      · exact hi
      · rw [List.getElem?_append_right (by simpa using hi)] at h2
        rw [List.getElem?_replicate] at h2
        split at h2 <;> cases h2
    have ha : vs[i]? = some v := by
      unfold start at h2
      rw [List.getElem?_append_left (by simpa using hi), List.getElem?_map] at h2
      cases e : vs[i]? with
      | none => rw [e] at h2; cases h2
      | some a => rw [e] at h2; cases h2; rfl
    obtain ⟨u, hu, rv⟩ := r.get ha
    have hp : ps[i]? = some y := by
      rw [← S.pre, List.getElem?_take_of_lt (by omega)]; exact h1
    have ndP : ps.Nodup := by rw [← S.pre]; exact S.nd.sublist (List.take_sublist _ _)
    refine ⟨u, rv, ?_⟩
    rcases S.par y (List.mem_of_getElem? hp) with k | k
    · exact .inl ⟨k, bindL_get ndP hp hu k⟩
    · obtain ⟨c, e⟩ := cell_has (n := s.heap.objs.size + 1) k
      refine .inr ⟨.inl k, c, e, ?_⟩
      have q := x.cell y c e
      rw [bindC_get ndP hp hu (by show scope.names.lookup y ≠ _; rw [k]; decide)] at q
      exact q
  · exact e0.hok.fresh (Nat.le_of_lt (x.above y c (PySem.mem_of_lookup h)))
  · unfold start
    show _ = N.length
    rw [List.length_append, List.length_map, List.length_replicate]
    omega

/-- THE RULE: a def (or a method) of the text, by its body. The body's reading t is chosen for each entry; it is run at the parameters' values -/
theorem fn_of {CX : CXT} {P : Program} {w : World} {K : PySem.W.Frag} {mg : Str → Option Value} {base : Heap} {k : Nat} {f : Addr} {name qual : Str} {params : Arguments} {body : List Stmt} {scope : Scope} {dV kV doc pm cdv ct oc : Value} {an od : Option Addr}
    {osl : Array (Option Value)} {N ps : List Str} {sp : Sp} (lk : K.lookup f = some ⟨oc, od, .func (PySem.W.fnOf name qual params body scope dV kV doc pm an cdv ct), osl⟩) (hcd : PySem.W.codeIn K cdv qual = true) (S : FnScope N ps scope)
    (len : ∀ vs H Q E, sp vs H Q E → vs.length = ps.length)
    (hbody : ∀ (A : Around) (outer : List Env) (s : Shared) (H : Hp) (vs : List V) (Q : VK) (E : XK), Room k (A.deeper (envOfC qual scope s.heap.objs.size f cdv)) → sp vs H Q E →
      ∃ t, PSs (cxOf CX P w K mg base N qual scope f cdv A outer s H E) body t ∧ t { nx := fun _ H' => Q .non H', rt := Q } (start N vs) H) :
    FnOk P w K mg base CX (k + 1) f (PySem.W.fnOf name qual params body scope dV kV doc pm an cdv ct) ps sp := by
  refine ⟨len, fun A outer s H args us vs Q E hr e0 hb r hsp => ?_⟩
  have hl := len _ _ _ _ hsp
  have KX : K.In s.heap := e0.mod.kin.keeps fun b o e => (e0.bs b o e).1
  have lim : s.heap.NoLimit := e0.mod.nolimit.keeps fun b o e => (e0.bs b o e).1
  have hkind : ∀ y ∈ ps.zip us, scope.names.lookup y.1 = some .local ∨ (scope.names.lookup y.1 = some .cell ∧ ((cellsFrom (s.heap.objs.size + 1) scope.names []).lookup y.1).isSome = true) := fun ⟨n, v⟩ hy => by
    rcases S.par n (List.of_mem_zip hy).1 with q | q
    · exact .inl q
    · exact .inr ⟨q, PySem.W.cellsFrom_some _ _ _ (.inl q)⟩
  refine codeAny_call_function hr.depth (KX _ _ lk) rfl S.co S.gen rfl (PySem.W.codeRec_of KX hcd) (hb _ _ _ _ ?_)
  refine wpAny_newFunctionEnv_cells S.kind hkind fun env he s1 x => ?_
  subst he
  refine ⟨lim.keeps x.toInCall.keep, codeAny_func ?_⟩
  obtain ⟨t, ht, hq⟩ := hbody A outer s H vs Q E (hr.deeper _) hsp
  have I : Inv (cxOf CX P w K mg base N qual scope f cdv A outer s H E) [] (start N vs) H s1 := inv_start S hr.hd e0 hl r x
  refine wpAny_mono (ht [] s1 (start N vs) H _ I hq) (fun fl s' hs => ?_) fun e s' hs => hs
  have fin : ∀ {σ' : St} {H' : Hp} {v : V} {u : Value}, Inv (cxOf CX P w K mg base N qual scope f cdv A outer s H E) [] σ' H' s' → RelV v u → Q v H' → CE outer P w H s Q u s' :=
    fun {σ' H' v u} J rv q => ⟨v, H', J.os, J.bare, J.base, J.hok, rv, q⟩
  cases fl with
  | ret u =>
    obtain ⟨v, σ', H', J, rv, q⟩ := hs
    exact fin J rv q
  | next =>
    obtain ⟨σ', H', J, q⟩ := hs
    exact fin (v := V.non) (u := Value.none) J rfl q
  | brk =>
    obtain ⟨_, _, _, q⟩ := hs
    exact False.elim q
  | cont =>
    obtain ⟨_, _, _, q⟩ := hs
    exact False.elim q
end L2

namespace L2
open PySem PySem.Spec PyProof.Rows
section
variable {X : Cx} {x : Str} {p pos : Pos} {e : Expr} {es : List Expr} {t : TA} {id T : String} {r : List V → Hp → VK → Prop}

def tCB (r : List V → Hp → VK → Prop) (t : TA) : TE := fun σ H Q => t σ H fun vs H1 => r vs H1 Q
/-- f(e, ..), f a built-in function -/
theorem pe_callB (hc : CallR X (.builtin id) r) (hg : Gl X x) (hm : X.mg x = none) (hv : bootBuiltins x = some (.builtin id)) (ha : PA X (e :: es) t) (hn : x ≠ "__name__" := by decide) (hdb : (x == ("__debug__" : Str)) = false := by decide)
    (he : starEach (e :: es) X.env = (false, eval e X.env) :: starEach es X.env := by rfl) (hpl : (backTo pos (starEach es X.env)).any (·.1) = false := by rfl) : PE X (.Call (.Name x p) (e :: es) [] pos) (tCB r t) := by
  intro pins s σ H Q I h
  refine wpAny_Call_Name_kw (ld_blt I hg hm hv ?_ hn hdb)
  exact PyProof.Rows.callWith_builtin1 (thn (ha pos pins s σ H _ I h) fun us s1 ⟨vs, H1, I1, r1, q1⟩ => hc pins s1 σ H1 vs us Q I1 r1 q1) he hpl
/-- T(e, ..), T a built-in type -/
theorem pe_callTy (hc : CallR X (.type T) r) (hg : Gl X x) (hm : X.mg x = none) (hv : bootBuiltins x = some (.type T)) (ha : PA X (e :: es) t) (hn : x ≠ "__name__" := by decide) (hdb : (x == ("__debug__" : Str)) = false := by decide)
    (he : starEach (e :: es) X.env = (false, eval e X.env) :: starEach es X.env := by rfl) (hpl : (backTo pos (starEach es X.env)).any (·.1) = false := by rfl) : PE X (.Call (.Name x p) (e :: es) [] pos) (tCB r t) := by
  intro pins s σ H Q I h
  refine wpAny_Call_Name_kw (ld_blt I hg hm hv ?_ hn hdb)
  exact PyProof.Rows.callWith_type1 (thn (ha pos pins s σ H _ I h) fun us s1 ⟨vs, H1, I1, r1, q1⟩ => hc pins s1 σ H1 vs us Q I1 r1 q1) he hpl
end
end L2

namespace HT
open PySem PyProof.Rows

section
open PySem.SeqAt
open PySem.AutoSeq1 (wpAny_loadPart')
open PySem.MeetsSeq PySem.MeetsSeq2 PySem.MeetsSeq3

end

section
variable {prog : Program} {w : World} {A : Around} {E : Value → Shared → Prop} {s : Shared}

/-! ### t[a:b], not the whole -/
end
end HT

namespace L2
open PySem PySem.Spec PyProof.Rows

/-! ### the parts of a slice -/
abbrev TO := St → Hp → (Option Int → Hp → Prop) → Prop
/-- a slice's part (left out, or an int) -/
def PO (X : Cx) (e : Option Expr) (t : TO) : Prop :=
  ∀ (pins : List (Addr × Obj)) (s : Shared) (σ : St) (H : Hp) (Q : Option Int → Hp → Prop), Inv X pins σ H s → t σ H Q →
    wpAny (model X.prog X.w) X.A (evalPart e X.env) (fun u s' => ∃ o H', Inv X pins σ H' s' ∧ IsPart u o ∧ Q o H') X.xe s
def tPart (t : TE) : TO := fun σ H Q => t σ H fun x H1 => ∃ i, x = .int i ∧ Q (some i) H1

theorem intsAre_of {ns : List Int} : ∀ {us : List Value}, Vals (ns.map V.int) us → IntsAre us ns := by
  induction ns with
  | nil => intro us r; rw [List.map_nil] at r; cases r; exact .nil
  | cons n ns ih =>
    intro us r
    rw [List.map_cons] at r
    cases r with
    | cons r1 r2 =>
      obtain ⟨t, e⟩ := r1
      subst e
      exact .cons n t (ih r2)

section
variable {X : Cx} {e : Expr} {te : TE} {lo hi : Option Expr} {tl th : TO} {pos p2 : Pos}

theorem po_some (h : PE X e te) : PO X (some e) (tPart te) := by
  intro pins s σ H Q I hw
  rw [evalPart_some]
  refine thn (h pins s σ H _ I hw) fun u s1 ⟨x, H1, I1, r1, q1⟩ => ?_
  obtain ⟨i, rfl, q⟩ := q1
  obtain ⟨t, rfl⟩ := r1
  exact ⟨some i, H1, I1, .int i t, q⟩

/-! ### t < u, t + u -/
end
end L2

namespace L2
open PySem PySem.Spec PyProof.Rows

/-! ### places -/
/-- the place that an index of any sign means -/
def ixN (n : Nat) (i : Int) : Option Nat := if 0 ≤ i then (if i < n then some i.toNat else none) else if -(n : Int) ≤ i then some (i + n).toNat else none
def atI {α : Type} (xs : List α) (i : Int) : Option α := (ixN xs.length i).bind fun j => xs[j]?
theorem ixN_seq {n : Nat} {i : Int} {j : Nat} (h : ixN n i = some j) : seqIndex? i n = some j ∧ j < n ∧ -(n : Int) ≤ i ∧ i < n := by
  unfold ixN at h
  by_cases h0 : 0 ≤ i
  · rw [if_pos h0] at h
    by_cases h1 : i < n
    · rw [if_pos h1] at h
      have e : i.toNat = j := Option.some.inj h
      exact ⟨by rw [seqIndex_of h0 h1, e], by omega, by omega, h1⟩
    · rw [if_neg h1] at h; cases h
  · rw [if_neg h0] at h
    by_cases h1 : -(n : Int) ≤ i
    · rw [if_pos h1] at h
      have e : (i + n).toNat = j := Option.some.inj h
      exact ⟨by rw [seqIndex_neg (by omega) h1, e], by omega, h1, by omega⟩
    · rw [if_neg h1] at h; cases h
theorem atI_get {α : Type} {xs : List α} {i : Int} {v : α} (h : atI xs i = some v) : ∃ j, seqIndex? i xs.length = some j ∧ xs[j]? = some v ∧ j < xs.length ∧ -(xs.length : Int) ≤ i ∧ i < xs.length := by
  unfold atI at h
  cases e : ixN xs.length i with
  | none => rw [e] at h; cases h
  | some j =>
    rw [e] at h
    obtain ⟨h1, h2, h3, h4⟩ := ixN_seq e
    exact ⟨j, h1, h, h2, h3, h4⟩
theorem atI_nat {α : Type} {xs : List α} {j : Nat} {v : α} (h : xs[j]? = some v) : atI xs (j : Int) = some v := by
  have hj : j < xs.length := (List.getElem?_eq_some_iff.mp h).1
  have e : ixN xs.length (j : Int) = some j := by
    unfold ixN
    rw [if_pos (by omega), if_pos (by omega)]; simp
  unfold atI; rw [e]; exact h
theorem atI_last {α : Type} (xs : List α) (v : α) : atI (xs ++ [v]) (-1) = some v := by
  have hl : (xs ++ [v]).length = xs.length + 1 := by simp
  have e : ixN (xs ++ [v]).length (-1) = some xs.length := by
    unfold ixN
    rw [hl, if_neg (by decide), if_pos (by omega)]
    congr 1
    omega
  unfold atI
  rw [e]
  show (xs ++ [v])[xs.length]? = some v
  simp

/-! ### what may be subscripted -/
/-- what stands as an index of a plain subscript -/
def PlainIx (b : Expr) : Prop := ∀ o i, subscripted b false o i = operate [o, i] (getItem o i)
/-- a subscript by values -/
def IxR (X : Cx) (r : R2) : Prop :=
  ∀ (value slice : Expr) (pins : List (Addr × Obj)) (s : Shared) (σ : St) (H : Hp) (x y : V) (v u : Value) (Q : VK), Inv X pins σ H s → RelV x v → RelV y u → r x y H Q →
    subscripted slice false v u = operate [v, u] (getItem v u) → wpAny (model X.prog X.w) X.A (subscriptTail value slice v u) (EP X pins σ Q) X.xe s
/-- a call of a builtin's method by values: the receiver, the arguments -/
def MtR (X : Cx) (id : String) (r : V → List V → Hp → VK → Prop) : Prop :=
  ∀ (pins : List (Addr × Obj)) (s : Shared) (σ : St) (H : Hp) (x : V) (xs : List V) (v : Value) (us : List Value) (Q : VK), Inv X pins σ H s → RelV x v → Vals xs us → r x xs H Q →
    wpAny (model X.prog X.w) X.A (call (.builtin id) (v :: us)) (EP X pins σ Q) X.xe s
section
variable {X : Cx} {a b : Expr} {ta tb : TE} {pos : Pos}
/-- a[b] -/
theorem pe_ix {r : R2} (hr : IxR X r) (ha : PE X a ta) (hb : PE X b tb) (hs : PlainIx b) : PE X (.Subscript a b pos) (tOp r ta tb) := by
  intro pins s σ H Q I h
  exact Subscript_ (binT ha hb I h fun v u s2 x y H2 I2 rx ry q => hr a b pins s2 σ H2 x y v u Q I2 rx ry q (hs _ _))

def rIxL (K : PySem.W.Frag) : R2 := fun x y H Q => ∃ p xs i v, x = .ref p ∧ y = .int i ∧ SqL K H p xs ∧ atI xs i = some v ∧ Q v H
def rIxT (K : PySem.W.Frag) : R2 := fun x y H Q => ∃ p xs i v, x = .ref p ∧ y = .int i ∧ SqT K H p xs ∧ atI xs i = some v ∧ Q v H
theorem ix_list : IxR X (rIxL X.K) := by
  intro value slice pins s σ H x y v u Q I rx ry h hs
  obtain ⟨p, xs, i, z, rfl, rfl, hq, he, q⟩ := h
  cases rx
  obtain ⟨t, rfl⟩ := ry
  obtain ⟨its, r, pl, hz⟩ := I.list hq
  obtain ⟨j, h1, h2, h3, h4, h5⟩ := atI_get he
  obtain ⟨w, ew, rw'⟩ := r.get h2
  have hl := r.length
  have hn := line63
  have fin : EP X pins σ Q w s := ⟨z, H, I, rw', q⟩
  by_cases h0 : 0 ≤ i
  · have hj : i.toNat = j := by
      rw [seqIndex_of h0 h5] at h1
      exact Option.some.inj h1
    exact item_listR pl.isList h0 (by omega) (by rw [hj]; simpa using ew) fin hs
  · have hj : (i + (its.toArray.size : Int)).toNat = j := by
      rw [seqIndex_neg (by omega) h4] at h1
      rw [List.size_toArray, ← hl]
      exact Option.some.inj h1
    exact subscriptTail_builtinR (x := w) pl.isList.typeIs slot_list_getitem.lookup
      (wpAny_getItem_list_neg (Q := fun r s' => r = w ∧ EP X pins σ Q r s') pl.isList (by omega) (by rw [List.size_toArray] <;> omega) (by omega) (by rw [hj]; simpa using ew) ⟨rfl, fin⟩) hs
theorem ix_tup : IxR X (rIxT X.K) := by
  intro value slice pins s σ H x y v u Q I rx ry h hs
  obtain ⟨p, xs, i, z, rfl, rfl, hq, he, q⟩ := h
  cases rx
  obtain ⟨t, rfl⟩ := ry
  obtain ⟨its, r, pl, hz⟩ := I.tuple hq
  obtain ⟨j, h1, h2, h3, h4, h5⟩ := atI_get he
  obtain ⟨w, ew, rw'⟩ := r.get h2
  have hl := r.length
  have hn := line63
  have fin : EP X pins σ Q w s := ⟨z, H, I, rw', q⟩
  exact subscriptTail_builtinR (x := w) pl.typeIs slot_tuple_getitem.lookup
    (getItem_tuple (j := j) (Q := fun r s' => r = w ∧ EP X pins σ Q r s') pl (by omega) (by omega) (by rw [List.size_toArray, ← hl]; exact h1) (by simpa using ew) ⟨rfl, fin⟩) hs
/-! ### xs[i] = v, any sign -/
/-- the list's object behind a store -/
theorem mapSeq_set (its : List Value) (n j : Nat) (u : Value) : Obj.mapSeq (·.setIfInBounds j u) { cls := .type "list", data := .seq its.toArray n } = { cls := .type "list", data := .seq (its.set j u).toArray n } := by
  simp [Obj.mapSeq]
theorem Inv.lst {pins : List (Addr × Obj)} {σ : St} {H : Hp} {s : Shared} {p : Addr} {xs : List V} (I : Inv X pins σ H s) (h : H p = some (.lst xs)) :
    ∃ (its : List Value) (n : Nat), Vals xs its ∧ s.heap.get? p = some { cls := .type "list", data := .seq its.toArray n } ∧ xs.length ≤ sizeLine := by
  obtain ⟨z, its, n, r, e⟩ := I.hok p _ h
  exact ⟨its, n, r, e, z⟩
/-- the list at p is written by an update of its object -/
theorem Inv.lstUpd {pins : List (Addr × Obj)} {σ : St} {H : Hp} {s : Shared} {p : Addr} {xs ys : List V} {its its' : List Value} {n n' : Nat} {f : Obj → Obj} (I : Inv X pins σ H s) (h : H p = some (.lst xs))
    (ho : s.heap.get? p = some { cls := .type "list", data := .seq its.toArray n }) (hf : f { cls := .type "list", data := .seq its.toArray n } = { cls := .type "list", data := .seq its'.toArray n' }) (r : Vals ys its') (hz : ys.length ≤ sizeLine) (t : Nat) :
    Inv X pins σ (upd H p (.lst ys)) { s with heap := s.heap.update p f, toks := t } := by
  have e : (s.heap.update p f).get? p = some { cls := .type "list", data := .seq its'.toArray n' } := by
    rw [Heap.get?_update_self f ho (by rw [hf] <;> rfl), hf]
  refine I.write (x := p) (e := p) (by rw [h]; trivial) (.inl rfl) (fun b u hb q => (Heap.get?_update_other _ _ (Ne.symm hb)).trans q) ⟨_, e⟩ ?_
  exact ⟨hz, its', n', r, e⟩
def rSetL : V → V → V → Hp → (Hp → Prop) → Prop := fun o i v H Q => ∃ p xs k j, o = .ref p ∧ i = .int k ∧ H p = some (.lst xs) ∧ ixN xs.length k = some j ∧ Q (upd H p (.lst (xs.set j v)))
theorem set_list : PSet X rSetL := by
  intro pins s σ H o i v ov iv u Q I ro ri rv h
  obtain ⟨p, xs, k, j, rfl, rfl, hp, hj, q⟩ := h
  cases ro
  obtain ⟨t, rfl⟩ := ri
  obtain ⟨its, n, r, ho, hz⟩ := I.lst hp
  obtain ⟨h1, h2, h3, h4⟩ := ixN_seq hj
  have hl := r.length
  have hn := line63
  have I' : Inv X pins σ (upd H p (.lst (xs.set j v))) { s with heap := s.heap.update p (Obj.mapSeq (·.setIfInBounds j u)) } :=
    I.lstUpd hp ho (mapSeq_set its n j u) (r.set rv j) (by rw [List.length_set]; exact hz) s.toks
  by_cases h0 : 0 ≤ k
  · have hk : k.toNat = j := by
      rw [seqIndex_of h0 h4] at h1
      exact Option.some.inj h1
    exact PySem.W.ki_setAt ho h0 (by omega) (by rw [List.size_toArray, ← hl]; exact h4) (by rw [hk]; exact ⟨_, I', q⟩)
  · have hk : (k + (its.toArray.size : Int)).toNat = j := by
      rw [seqIndex_neg (by omega) h3] at h1
      rw [List.size_toArray, ← hl]
      exact Option.some.inj h1
    exact PySem.W.ki_setBack ho (by omega) (by rw [List.size_toArray, ← hl]; exact h3) (by omega) (by rw [hk]; exact ⟨_, I', q⟩)

/-! ### slices -/
/-! ### in, not in: flat items -/
/-! ### len, list(x), tuple(x) of any list or tuple that is read -/
theorem call_len_seq : CallR X (.builtin "len") (fun xs H Q => ∃ p ys, xs = [.ref p] ∧ (SqL X.K H p ys ∨ SqT X.K H p ys) ∧ Q (.int ys.length) H) := by
  intro pins s σ H xs us Q I r h
  obtain ⟨p, ys, rfl, hq, q⟩ := h
  obtain ⟨u, rfl, rx⟩ := vals1 r
  cases rx
  have hn := line63
  rcases hq with hq | hq
  · obtain ⟨its, r', pl, hz⟩ := I.list hq
    have hlen := r'.length
    exact Calls.call_len_list pl.isList (by simp only [List.size_toArray] <;> omega) ⟨.int ys.length, H, I.tok _, ⟨s.toks + 1, by rw [List.size_toArray, hlen]⟩, q⟩
  · obtain ⟨its, r', pl, hz⟩ := I.tuple hq
    have hlen := r'.length
    exact len_tuple pl (by simp only [List.size_toArray] <;> omega) ⟨.int ys.length, H, I.tok _, ⟨s.toks + 1, by rw [List.size_toArray, hlen]⟩, q⟩
theorem call_list_of : CallR X (.type "list") (fun xs H Q => ∃ p ys, xs = [.ref p] ∧ (SqL X.K H p ys ∨ SqT X.K H p ys) ∧ ∀ l, H l = none → Q (.ref l) (upd H l (.lst ys))) := by
  intro pins s σ H xs us Q I r h
  obtain ⟨p, ys, rfl, hq, q⟩ := h
  obtain ⟨u, rfl, rx⟩ := vals1 r
  cases rx
  have fin : ∀ (its : List Value), Vals ys its → ys.length ≤ sizeLine → ∀ (h' : Heap) (c' : Nat), (∀ b o', s.heap.get? b = some o' → h'.get? b = some o') →
      h'.get? s.heap.objs.size = some { cls := .type "list", dict := none, data := .seq its.toArray c', slots := #[] } → EP X pins σ Q (.ref s.heap.objs.size) { s with heap := h' } := fun its r' hz h' c' kp e =>
    ⟨.ref s.heap.objs.size, _, I.laid (t' := s.toks) kp (Nat.le_refl _) (show ObjOk X.prog X.w _ h' _ (.lst ys) from ⟨hz, its, c', r', e⟩), rfl, q _ (I.hok.fresh (Nat.le_refl _))⟩
  rcases hq with hq | hq
  · obtain ⟨its, r', pl, hz⟩ := I.list hq
    have hlen := r'.length
    obtain ⟨o, ho, hc, n, hd⟩ := pl.isList
    exact call_list_seq p (.inl rfl) ho hc hd (fun h' c' kp e => fin its r' hz h' c' kp e) (by simp only [List.size_toArray] <;> omega)
  · obtain ⟨its, r', pl, hz⟩ := I.tuple hq
    have hlen := r'.length
    obtain ⟨o, ho, hc, n, hd⟩ := pl
    exact call_list_seq p (.inr rfl) ho hc hd (fun h' c' kp e => fin its r' hz h' c' kp e) (by simp only [List.size_toArray] <;> omega)
/-! ### the call of a builtin's method: o.m(..) -/
/-- the value is of that builtin type -/
def tyV (K : PySem.W.Frag) (T : String) (x : V) (H : Hp) : Prop := match x with
  | .str _ => T = "str"
  | .int _ => T = "int"
  | .ref p => (T = "list" ∧ ∃ xs, SqL K H p xs) ∨ (T = "tuple" ∧ ∃ o, K.lookup p = some o ∧ o.cls = .type "tuple" ∧ o.dict = none) ∨
      (T = "dict" ∧ ((∃ kvs, H p = some (.dK kvs)) ∨ ∃ kvs, H p = some (.dT kvs))) ∨ (T = "set" ∧ ∃ S n, H p = some (.set S n))
  | _ => False
theorem tyV_is {pins : List (Addr × Obj)} {σ : St} {H : Hp} {s : Shared} {T : String} {x : V} {v : Value} (I : Inv X pins σ H s) (r : RelV x v) (ty : tyV X.K T x H) :
    s.TypeIs v T ∧ ∀ a, v = .ref a → ∃ ob, s.heap.get? a = some ob ∧ ob.dict = none := by
  cases x with
  | str z =>
    obtain ⟨t, rfl⟩ := r
    cases (show T = "str" from ty)
    exact ⟨typeIs_str s z t, fun _ e => nomatch e⟩
  | int i =>
    obtain ⟨t, rfl⟩ := r
    cases (show T = "int" from ty)
    exact ⟨typeIs_int s i t, fun _ e => nomatch e⟩
  | ref p =>
    cases r
    rcases ty with ⟨rfl, xs, hq⟩ | ⟨rfl, o, hk, hc, hd⟩ | ⟨rfl, hk⟩ | ⟨rfl, S, n, hk⟩
    · obtain ⟨its, _, pl, _⟩ := I.list hq
      refine ⟨pl.isList.typeIs, fun a e => ?_⟩
      cases e
      obtain ⟨o, n, e, c, hd, _⟩ := pl
      exact ⟨o, e, hd⟩
    · refine ⟨⟨o, I.kIn p o hk, hc⟩, fun a e => ?_⟩
      cases e
      exact ⟨o, I.kIn _ o hk, hd⟩
    · have z : ∃ o, s.heap.get? p = some o ∧ o.ExactDict := by
        rcases hk with ⟨kvs, hk⟩ | ⟨kvs, hk⟩
        · obtain ⟨_, _, _, _, o, _, _, e, ex, _⟩ := I.hok p _ hk
          exact ⟨o, e, ex⟩
        · obtain ⟨_, _, _, _, o, _, _, e, ex, _⟩ := I.hok p _ hk
          exact ⟨o, e, ex⟩
      obtain ⟨o, e, ex⟩ := z
      refine ⟨⟨o, e, ex.1⟩, fun a e2 => ?_⟩
      cases e2
      exact ⟨o, e, ex.2.1⟩
    · obtain ⟨o, _, _, _, e, ex, _⟩ := I.hok p _ hk
      refine ⟨⟨o, e, ex.1⟩, fun a e2 => ?_⟩
      cases e2
      exact ⟨o, e, ex.2.1⟩
  | _ => exact False.elim ty
def tBM0 (K : PySem.W.Frag) (T : String) (r : V → List V → Hp → VK → Prop) (to : TE) : TE := fun σ H Q => to σ H fun x H1 => tyV K T x H1 ∧ r x [] H1 Q
def tBM (K : PySem.W.Frag) (T : String) (r : V → List V → Hp → VK → Prop) (to : TE) (t : TA) : TE := fun σ H Q => to σ H fun x H1 => tyV K T x H1 ∧ t σ H1 fun xs H2 => r x xs H2 Q
variable {o e : Expr} {es : List Expr} {to : TE} {t : TA} {name : Str} {apos cpos : Pos} {T id : String} {r : V → List V → Hp → VK → Prop}
theorem pe_bm0 (pa : PlainAttrs T) (slot : Slot T name id) (hty : typeOf (.builtin id) = pure (.type "method_descriptor")) (hm : MtR X id r) (ho : PE X o to)
    (hbase : attributeBase o name X.env (eval o X.env) = eval o X.env := by rfl) (hline : (apos.endLine == cpos.line) = true := by rfl) : PE X (.Call (.Attribute o name apos) [] [] cpos) (tBM0 X.K T r to) := by
  intro pins s σ H Q I h
  refine wpAny_Call_method0_late hbase hline (thn (ho pins s σ H _ I h) fun v s1 ⟨x, H1, I1, r1, ty, q1⟩ => ?_)
  obtain ⟨h1, h2⟩ := tyV_is I1 r1 ty
  exact ⟨T, id, pa, slot, hty, h1, h2, Calls.callWith_builtin rfl (PySem.evalArgs_none (hm pins s1 σ H1 x [] v [] Q I1 r1 .nil q1))⟩
theorem pe_bm (pa : PlainAttrs T) (slot : Slot T name id) (hty : typeOf (.builtin id) = pure (.type "method_descriptor")) (hm : MtR X id r) (ho : PE X o to) (ha : PA X (e :: es) t)
    (hbase : attributeBase o name X.env (eval o X.env) = eval o X.env := by rfl)
    (hfew : ((backTo cpos (starEach (e :: es) X.env)).all (fun x => !x.1) && (backToKw cpos (keywordEach [] X.env)).all (fun x => x.1.isSome)
      && decide ((e :: es).length + ([] : List Keyword).length + (if ([] : List Keyword).isEmpty then 0 else 1) < 30)) = true := by rfl)
    (hline : (apos.endLine == cpos.line) = true := by rfl) (hs : starEach (e :: es) X.env = (false, eval e X.env) :: starEach es X.env := by rfl) (hplain : (backTo cpos (starEach es X.env)).any (·.1) = false := by rfl) :
    PE X (.Call (.Attribute o name apos) (e :: es) [] cpos) (tBM X.K T r to t) := by
  intro pins s σ H Q I h
  refine wpAny_Call_method_late hbase hfew hline rfl (thn (ho pins s σ H _ I h) fun v s1 ⟨x, H1, I1, r1, ty, q1⟩ => ?_)
  obtain ⟨h1, h2⟩ := tyV_is I1 r1 ty
  refine ⟨T, id, pa, slot, hty, h1, h2, ?_⟩
  have hA := ha cpos pins s1 σ H1 _ I1 q1
  rw [hs] at hA ⊢
  refine Calls.callWith_builtin (by show (false || (backTo cpos (starEach es X.env)).any (·.1)) = false; rw [hplain] <;> rfl) (Calls.evalArgs_plain ?_)
  exact thn hA fun us s2 ⟨vs, H2, I2, r2, q2⟩ => hm pins s2 σ H2 x vs v us Q I2 r1 r2 q2
/- xs.append(e), list.index on a module's tuple .. are MtR facts of 06m -/
end
end L2

namespace L2
open PySem PySem.Spec PyProof.Rows

def MtM (X : Cx) (id : String) (r : V → List V → Hp → VK → Prop) : Prop :=
  ∀ (pins : List (Addr × Obj)) (s : Shared) (σ : St) (H : Hp) (x : V) (xs : List V) (v : Value) (us : List Value) (Q : VK), Inv X pins σ H s → RelV x v → Vals xs us → r x xs H Q →
    wpAny (model X.prog X.w) X.A (call (.builtin id) (v :: us)) (EP X pins σ Q) X.xe s

/-! ### lists of values -/
theorem Vals.one : ∀ {x : V} {us : List Value}, Vals [x] us → ∃ u, us = [u] ∧ RelV x u
  | _, _, .cons r .nil => ⟨_, rfl, r⟩
theorem Vals.zero : ∀ {us : List Value}, Vals [] us → us = []
  | _, .nil => rfl
theorem Vals.dropLast {xs : List V} {us : List Value} (h : Vals xs us) : Vals xs.dropLast us.dropLast := by
  induction h with
  | nil => exact .nil
  | cons r t ih =>
    cases t with
    | nil => exact .nil
    | cons q t' => exact .cons r ih
theorem Vals.reverse {xs : List V} {us : List Value} (h : Vals xs us) : Vals xs.reverse us.reverse := by
  induction h with
  | nil => exact .nil
  | cons r t ih => rw [List.reverse_cons, List.reverse_cons]; exact Vals.append ih (.cons r .nil)
theorem erase_last {α : Type} (l : List α) : l.eraseIdx (l.length - 1) = l.dropLast := by
  induction l with
  | nil => rfl
  | cons a r ih =>
    cases r with
    | nil => rfl
    | cons b r =>
      have e : (a :: b :: r).length - 1 = ((b :: r).length - 1) + 1 := by
        have h1 : (a :: b :: r).length = r.length + 2 := rfl
        have h2 : (b :: r).length = r.length + 1 := rfl
        omega
      rw [e, List.eraseIdx_cons_succ, ih]
      all_goals rfl
section
variable {X : Cx} {pins : List (Addr × Obj)} {σ : St} {H : Hp} {s : Shared} {l b : Addr} {xs ys zs : List V}

/-! ### the two steps: a tracked list is rewritten, a new list is laid -/
theorem Inv.lset {its its' : List Value} {n : Nat} {f : Array Value → Array Value} {t' : Nat} (I : Inv X pins σ H s) (hH : H l = some (.lst xs))
    (e : s.heap.get? l = some { cls := .type "list", data := .seq its.toArray n }) (hf : f its.toArray = its'.toArray) (hv : Vals ys its') (hz : ys.length ≤ sizeLine) :
    Inv X pins σ (upd H l (.lst ys)) { s with heap := s.heap.update l (Obj.mapSeq f), toks := t' } := by
  have q := PySem.IsL.update e f
  rw [hf] at q
  refine I.write (x := l) (e := l) (by rw [hH]; exact trivial) (.inl rfl) (fun b' u hb hu => (Heap.get?_update_other s.heap (Obj.mapSeq f) (Ne.symm hb)).trans hu) ⟨_, q⟩ ?_
  exact ⟨hz, its', _, hv, q⟩
theorem Inv.lnew {its : List Value} {t' : Nat} (I : Inv X pins σ H s) (hv : Vals ys its) (hz : ys.length ≤ sizeLine) :
    Inv X pins σ (upd H s.heap.objs.size (.lst ys)) { s with heap := s.heap.push { cls := .type "list", data := .seq its.toArray }, toks := t' } :=
  I.laid (fun _ _ q => Heap.get?_push_of_some _ q) (Nat.le_refl _) ⟨hz, its, 0, hv, Heap.get?_push_size _ rfl⟩
theorem Inv.fresh (I : Inv X pins σ H s) : H s.heap.objs.size = none := I.hok.fresh (Nat.le_refl _)
theorem Inv.lstM (I : Inv X pins σ H s) (hH : H l = some (.lst xs)) : xs.length ≤ sizeLine ∧ ∃ (its : List Value) (n : Nat), Vals xs its ∧ xs.length = its.length ∧ s.heap.get? l = some { cls := .type "list", data := .seq its.toArray n } := by
  obtain ⟨z, its, n, r, e⟩ := I.hok l _ hH
  exact ⟨z, its, n, r, r.length, e⟩

end

section
variable {X : Cx}

/-! ### methods -/
def rAppend : V → List V → Hp → VK → Prop := fun x vs H Q => ∃ l xs y, x = .ref l ∧ vs = [y] ∧ H l = some (.lst xs) ∧ xs.length < sizeLine ∧ Q .non (upd H l (.lst (xs ++ [y])))
theorem mt_append : MtM X "list.append" rAppend := by
  intro pins s σ H x vs v us Q I rx rv h
  obtain ⟨l, xs, y, rfl, rfl, hH, hz, q⟩ := h
  cases rx
  obtain ⟨u, rfl, ru⟩ := rv.one
  obtain ⟨z, its, n, r, hl, e⟩ := I.lstM hH
  refine call_meets F.slot_list_append ⟨_, e, rfl⟩ F.entry_list_append (F.args_list_append_2 _ _) (PySem.list_append l its.toArray n u (by rw [List.size_toArray]; omega)) ⟨e, ?_⟩
  refine ⟨.non, _, I.lset (its' := its ++ [u]) hH e (by simp) (r.append (.cons ru .nil)) ?_, rfl, q⟩
  rw [List.length_append, List.length_singleton]
  omega

def rPop : V → List V → Hp → VK → Prop := fun x vs H Q => ∃ l xs y, x = .ref l ∧ vs = [] ∧ H l = some (.lst xs) ∧ xs[xs.length - 1]? = some y ∧ Q y (upd H l (.lst xs.dropLast))
theorem mt_pop : MtM X "list.pop" rPop := by
  intro pins s σ H x vs v us Q I rx rv h
  obtain ⟨l, xs, y, rfl, rfl, hH, hy, q⟩ := h
  cases rx
  have hus := rv.zero
  subst hus
  obtain ⟨z, its, n, r, hl, e⟩ := I.lstM hH
  obtain ⟨u, hu, ru⟩ := r.get hy
  have hy' : its.toArray[its.toArray.size - 1]? = some u := by
    show its.toArray[its.length - 1]? = some u
    rw [← Array.getElem?_toList, ← hl]
    exact hu
  refine call_meets F.slot_list_pop ⟨_, e, rfl⟩ F.entry_list_pop (F.args_list_pop_1 _) (MeetsSeq.list_pop_last l its.toArray n u hy' (by rw [List.size_toArray]; omega)) ⟨e, ?_⟩
  refine ⟨y, _, I.lset (its' := its.dropLast) hH e ?_ r.dropLast ?_, ru, q⟩
  · show its.toArray.eraseIdxIfInBounds (its.toArray.size - 1) = its.dropLast.toArray
    rw [List.size_toArray, List.eraseIdxIfInBounds_toArray, erase_last]
  · rw [List.length_dropLast]
    omega

/-! ### list + list, list += list, list * int -/
/-! ### del xs[i] -/
end

/-! ### xs[a:b] = ys -/
section
variable {prog : Program} {w : World} {A : Around} {E : Value → Shared → Prop} {s : Shared}
end

section
variable {X : Cx}
end
end L2

namespace Att
open PySem PySem.W PySem.Calls PyProof.Rows

/-! ### the script -/
theorem ints_of_wellAll {P : Params} {h : Heap} : ∀ (ns : List Int) (vs : List Value), WellAll P h vs (ns.map WData.int) → IntsAre vs ns := by
  intro ns
  induction ns with
  | nil =>
    intro vs w
    rw [List.map_nil] at w
    cases w
    exact .nil
  | cons n ns ih =>
    intro vs w
    rw [List.map_cons] at w
    cases w with
    | cons a b =>
      cases a
      exact .cons _ _ (ih _ b)

theorem script_of {l : OpenLaw} {n : Nat} (hn : l.most = some n) {P : Params} {h : Heap} {args : List WData} {vals : List Value}
    (hpre : l.row.toRowW.claim.pre args = true) (hwl : WellAll P h vals args) :
    ∃ a vs ns, vals = [Value.ref a] ∧ args = [WData.list (ns.map WData.int)] ∧ h.get? a = some { cls := .type "list", data := .seq vs.toArray } ∧ IntsAre vs ns ∧ ns.length ≤ n := by
  have hsh : WShape.hasAll [] args [.list .int] = true := (pre_splitW hpre).1
  have hc : l.pre.holds [] { args := args } = true := (pre_splitW hpre).2
  obtain ⟨d, r, rfl, h1, h2⟩ := hasAllW_cons hsh
  obtain rfl := hasAllW_nil h2
  obtain ⟨xs, rfl, h3⟩ := hasW_list h1
  obtain ⟨ns, rfl⟩ := items_int h3
  have hlen : ns.length ≤ n := by
    unfold OpenLaw.pre at hc
    have h4 : (WTm.not (.lt (.lit (.int (n : Int))) (.len (.arg 0)))).holds [] { args := [.list (ns.map .int)] } = true := by
      have h4 := (holds_andW hc).1
      rw [hn] at h4
      exact h4
    have h5 := condW_of h4 (w_not (w_lt w_lit (w_len_list (w_arg rfl))))
    rw [List.length_map] at h5
    refine Nat.le_of_not_lt fun q => ?_
    have q' : (n : Int) < ((ns.length : Nat) : Int) := by omega
    first
      | (rw [decide_eq_true q'] at h5; exact absurd h5 (by decide))
      | (simp at h5; omega)
  cases hwl with
  | cons w1 w2 =>
    cases w2
    cases w1 with
    | list ho hall => exact ⟨_, _, ns, rfl, rfl, ho, ints_of_wellAll ns _ hall, hlen⟩

theorem post_true (l : OpenLaw) (args : List WData) : l.row.toRowW.claim.post args (.bool true) args = true :=
  postW_of (r := l.row.toRowW) (X := (true == true))
    (show WShape.has [] (.bool true) .bool = true by first | rfl | decide | simp [WShape.has, WShape.arms, WShape.armsAll])
    (show (WTm.eq .res (.lit (.bool true))).value [] { args := args, res := some (.bool true), after := args } = some (.bool (true == true)) from w_eq_bool (w_res rfl) w_lit) rfl

/-! ### the attachment: holds_open's last premise (the goal 'hc' behind k_head) from a wpAny of the law's body -/
/-- the same from a codeAny of the CALL (for a layer whose function contracts speak of calls) -/
theorem attach_call {l : OpenLaw} {n : Nat} {q : Program} {loose : List Str} {XP : (Str → Option Value) → Heap → Prop} {YP : World → Heap → Prop} {d : DefRec}
    (hn : l.most = some n) (hdf : d.params.defaults = [])
    (call : ∀ (w : World) (s₀ s₁ : Shared) (mg mb : Str → Option Value) (fa : Addr) (o : Obj) (pm cd doc : Value) (a : Addr) (vs : List Value) (ns : List Int),
      Ground q loose [] XP w s₀ mg mb s₁.heap → YP w s₁.heap →
      s₁.heap.get? fa = some o → o.data = .func (docDef d.name d.params d.body d.scope pm cd doc) → s₁.heap.CodeRec cd d.name → mg d.name = some (.ref fa) →
      s₁.heap.get? a = some { cls := .type "list", data := .seq vs.toArray } → IntsAre vs ns → ns.length ≤ n → s₁.gens = #[] →
      codeAny (model l.prog w) callerA (.call (.ref fa) ⟨[.ref a], []⟩) (fun r s' => r = .ok (.ret (.bool true)) ∧ OldK s₁.heap s'.heap ∧ s'.os = s₁.os ∧ AllBare s'.gens) s₁) :
    WalkO q loose XP YP l.row.toRowW d [] (fun f vs => PySem.call f vs) := by
  intro w s₀ s₁ mg mb G Y fa o pm cd doc dV kV ho hd hcd hD hmg hg args vals as hpre hlay hrd hwl hlo
  obtain rfl : dV = .none := Dflts.none hD hdf
  obtain rfl : kV = .none := Dflts.noKw hD
  obtain ⟨a, vs, ns, rfl, rfl, hobj, hints, hlen⟩ := script_of hn hpre hwl
  refine enter_call (codeAny_mono (call w s₀ s₁ mg mb fa o pm cd doc a vs ns G Y ho (fd_plain hd) hcd hmg hobj hints hlen hg) fun r s' hq => ?_)
  obtain ⟨rfl, h2, h3, h4⟩ := hq
  exact ⟨.inl ⟨.bool true, .bool true, [], rfl, fun _ => rfl, .bool true, post_true l _, fun _ => ⟨List.Pairwise.nil, fun _ hm => (nomatch hm)⟩⟩, h2, h3, h4⟩

/-! ### rules over ANY heap (no ledger) from facts about the written part K: the library's own take a ledger (News) for what they write -/
section
variable {prog : Program} {w : World} {A : Around} {E : Value → Shared → Prop} {s : Shared} {K : Frag}

/-! the whole heap as the ledger: makes every rule that writes through a ledger a rule over any heap -/
end
end Att

namespace L2
open PySem PySem.Spec PyProof.Rows

theorem vals_ints : ∀ {vs : List Value} {ns : List Int}, IntsAre vs ns → Vals (ns.map V.int) vs
  | _, _, .nil => .nil
  | _, _, .cons n t h => .cons ⟨t, rfl⟩ (vals_ints h)

/-- nothing is tracked but the script, known to the object (or it is an object of the module) -/
def Only (H : Hp) : Prop := ∀ b, H b = none ∨ ∃ o xs, H b = some (.frz o (.lst xs))

/-- THE HEAD: the law's promise, at the heap behind the top. F, the promise of the law's def, may use that base is part of the heap (so K.In base, base.Ns mainGlobals mg stand in Mod) -/
theorem law_call {P : Program} {w : World} {K : PySem.W.Frag} {mg mb : Str → Option Value} {CX : CXT} {k : Nat} {fa a : Addr} {fd : FuncData} {x : Str} {sp : Sp} {s₁ : Shared} {vs : List Value} {ns : List Int}
    (KX : K.In s₁.heap) (hns : s₁.heap.Ns mainGlobals mg) (hb : s₁.heap.Ns builtinsNs mb) (hbb : ∀ x : Str, x ≠ "__name__" → mb x = bootBuiltins x) (hlim : s₁.heap.NoLimit) (hg : s₁.gens = #[])
    (ha : s₁.heap.get? a = some { cls := .type "list", data := .seq vs.toArray }) (hi : IntsAre vs ns) (hl : ns.length ≤ sizeLine) (hr : Room k callerA)
    (F : ∀ base : Heap, K.In base → base.Ns mainGlobals mg → FnOk P w K mg base CX k fa fd [x] sp) (hbind : ∀ (s : Shared) (u : Value), BindsTo s fd ⟨[u], []⟩ [(x, u)])
    (hsp : ∀ H : Hp, Only H → SqL K H a (ns.map V.int) → sp [.ref a] H (fun v _ => v = .bl true) fun _ _ _ => False)
    (hCX : ∀ H e s', CX [] H s₁ (fun _ _ _ => False) e s' → False) :
    codeAny (model P w) callerA (.call (.ref fa) ⟨[.ref a], []⟩) (fun r s' => r = .ok (.ret (.bool true)) ∧ OldK s₁.heap s'.heap ∧ s'.os = s₁.os ∧ AllBare s'.gens) s₁ := by
  have rv := vals_ints hi
  have lenV := hi.length
  -- from an abstract heap in which nothing but the script may be tracked
  have core : ∀ H : Hp, Only H → SqL K H a (ns.map V.int) → HOk P w H s₁.heap → (∀ b, H b ≠ none → b = a) → (H a ≠ none → K.lookup a = none) →
      codeAny (model P w) callerA (.call (.ref fa) ⟨[.ref a], []⟩) (fun r s' => r = .ok (.ret (.bool true)) ∧ OldK s₁.heap s'.heap ∧ s'.os = s₁.os ∧ AllBare s'.gens) s₁ := by
    intro H hO hS hok hA hK
    have base_of : ∀ {b : Addr} {o : Obj}, s₁.heap.get? b = some o → H b = none → (hidT s₁.heap H).get? b = some o := fun e n => hidT_get e n
    have noA : ∀ {b : Addr} {o : Obj} {es : Array DictEntry} {ep : Nat}, s₁.heap.get? b = some o → o.data = .dict es ep → H b = none := fun {b o es ep} e d => by
      cases q : H b with
      | none => rfl
      | some u =>
        have e' : b = a := hA b (by rw [q]; simp)
        subst e'
        rw [ha] at e; cases e
        have d' : Data.seq vs.toArray _ = Data.dict es ep := d
        cases d'
    have nsK : ∀ {b : Addr} {m : Str → Option Value}, s₁.heap.Ns b m → (hidT s₁.heap H).Ns b m := fun {b m} ⟨o, es, ep, e, d, r⟩ => ⟨o, es, ep, base_of e (noA e d), d, r⟩
    have hKb : K.In (hidT s₁.heap H) := fun b o e => base_of (KX b o e) (by
      cases q : H b with
      | none => rfl
      | some u =>
        have e' : b = a := hA b (by rw [q]; simp)
        subst e'
        rw [hK (by rw [q]; simp)] at e; cases e)
    have hM : Mod K mg (hidT s₁.heap H) := ⟨hKb, nsK hns, ⟨mb, nsK hb, hbb⟩, let ⟨mc, h1, h2⟩ := hlim; ⟨mc, nsK h1, h2⟩⟩
    have e0 : Env0 P w K mg (hidT s₁.heap H) callerA [] s₁ H := ⟨rfl, hM, fun b o e => of_hidT e, Nat.le_of_eq (hidT_size _ _), trivial, fun b hb => absurd (show b ∈ ([] : List Addr) from hb) (by simp), hok, .of_eq hg⟩
    refine codeAny_mono ((F _ hKb (nsK hns)).run callerA [] s₁ H ⟨[.ref a], []⟩ [.ref a] [.ref a] _ _ hr e0 (hbind s₁ (.ref a)) (.cons rfl .nil) (hsp H hO hS)) fun r s' h => ?_
    cases r with
    | error e => exact (hCX H e s' h).elim
    | ok fl =>
      cases fl with
      | next => exact False.elim h
      | brk => exact False.elim h
      | cont => exact False.elim h
      | ret u =>
        obtain ⟨v, H', os, bare, un, hok', r', q⟩ := h
        have q' : v = .bl true := q
        subst q'
        obtain rfl : u = Value.bool true := r'
        refine ⟨rfl, OldK.of_keep fun b o e => ?_, os, bare⟩
        cases q : H b with
        | none => exact un.keep b o e q (by intro z; exact absurd (show b ∈ ([] : List Addr) from z) (by simp)) (by simp)
        | some u =>
          rcases hO b with z | ⟨ob, xs, z⟩
          · rw [q] at z; cases z
          · have z2 := un.frzs b ob _ z
            obtain ⟨e1, _⟩ := hok b _ z
            obtain ⟨e2, _⟩ := hok' b _ z2
            rw [e] at e1; cases e1
            exact e2
  cases hk : K.lookup a with
  | some o =>
    -- the script is one of the module's own objects
    have e := KX a o hk
    rw [ha] at e
    cases e
    refine core (fun _ => none) (fun _ => .inl rfl) (.inr ⟨_, vs.toArray, _, hk, rfl, rfl, rfl, by rw [List.size_toArray, lenV]; exact hl, by simpa using rv⟩) (fun b u z => by have z' : (none : Option HO) = some u := z; cases z') (fun b z => absurd rfl z) fun z => absurd rfl z
  | none =>
    refine core (fun b => if b = a then some (.frz { cls := .type "list", data := .seq vs.toArray } (.lst (ns.map V.int))) else none) (fun b => ?_) (.inl (.inr ⟨{ cls := .type "list", data := .seq vs.toArray }, if_pos rfl⟩)) (fun b u z => ?_) (fun b z => ?_) fun _ => hk
    · by_cases hb : b = a
      · exact .inr ⟨_, _, if_pos hb⟩
      · exact .inl (if_neg hb)
    · by_cases hb : b = a
      · have z' := (if_pos hb).symm.trans z
        cases z'
        subst hb
        exact ⟨ha, by rw [List.length_map]; exact hl, vs, _, rv, ha⟩
      · have z' := (if_neg hb).symm.trans z
        cases z'
    · by_cases hb : b = a
      · exact hb
      · exact absurd (if_neg hb) z
end L2

namespace L2
open PySem PySem.Spec PyProof.Rows

/-- the goal that k_head leaves (case hc), from the law's promise. F gives the function object fd (K's own) once, then the promise over every base -/
theorem walk_of {l : PySem.W.OpenLaw} {n k : Nat} {q : Program} {loose : List Str} {XP : (Str → Option Value) → Heap → Prop} {YP : World → Heap → Prop} {d : DefRec} {K : Params → PySem.W.Frag} {CX : World → CXT} {sp : World → Sp} {x : Str}
    (hn : l.most = some n) (hn2 : n ≤ sizeLine) (hdf : d.params.defaults = []) (hr : Room k callerA)
    (hY : ∀ (w : World) (h : Heap), YP w h → (K w.params).In h)
    (F : ∀ (w : World) (mg : Str → Option Value) (fa : Addr) (h : Heap), (K w.params).In h → h.Ns mainGlobals mg → mg d.name = some (.ref fa) →
      ∃ fd : FuncData, (∀ (s : Shared) (u : Value), BindsTo s fd ⟨[u], []⟩ [(x, u)]) ∧
        ∀ base : Heap, (K w.params).In base → base.Ns mainGlobals mg → FnOk l.prog w (K w.params) mg base (CX w) k fa fd [x] (sp w))
    (hsp : ∀ (w : World) (H : Hp) (a : Addr) (ns : List Int), ns.length ≤ n → Only H → SqL (K w.params) H a (ns.map V.int) → sp w [.ref a] H (fun v _ => v = .bl true) fun _ _ _ => False)
    (hCX : ∀ (w : World) (H : Hp) (s : Shared) (e : Value) (s' : Shared), CX w [] H s (fun _ _ _ => False) e s' → False) :
    PySem.W.WalkO q loose XP YP l.row.toRowW d [] (fun f vs => PySem.call f vs) := by
  refine Att.attach_call hn hdf fun w s₀ s₁ mg mb fa o pm cd doc a vs ns G Y ho hd hcd hmg hobj hints hlen hg => ?_
  have KX := hY w _ Y
  obtain ⟨fd, hb, hF⟩ := F w mg fa _ KX G.T.g hmg
  exact law_call KX G.T.g G.T.b G.T.builtins G.T.nolimit hg hobj hints (Nat.le_trans hlen hn2) hr hF hb (fun H hO hS => hsp w H a ns hlen hO hS) fun H e s' => hCX w H s₁ e s'
end L2

/-! SHORT WORDS over the layer: a def of the text, its body, what a loop and a test want. -/
namespace L2
open PySem PySem.Spec PyProof.Rows

/-! ### the text by places -/
def defArgs (s : Stmt) : Arguments := match s with
  | .FunctionDef _ a _ _ _ _ _ _ _ _ => a
  | _ => { posonlyargs := [], args := [], vararg := none, kwonlyargs := [], kw_defaults := [], kwarg := none, defaults := [] }
def defBody (s : Stmt) : List Stmt := match s with
  | .FunctionDef _ _ b _ _ _ _ _ _ _ => b
  | _ => []
def defScope (s : Stmt) : Scope := match s with
  | .FunctionDef _ _ _ _ _ _ sc _ _ _ => sc
  | _ => { kind := .function, names := [], isGenerator := false, isCoroutine := false }

/-! ### no exception leaves a def -/
abbrev CX0 : CXT := fun _ _ _ _ _ _ => False
abbrev E0 : XK := fun _ _ _ => False
theorem pass0 {X : Cx} : Passes CX0 X E0 := fun _ _ _ _ _ _ _ h => h.elim

/-! ### a def (or method) of the text as it stands behind the top -/
structure Fun (K : PySem.W.Frag) (x qual : Str) (st : Stmt) (f : Addr) (fd : FuncData) : Prop where
  ex : ∃ (oc : Value) (od : Option Addr) (kV doc pm : Value) (an : Option Addr) (cdv ct : Value) (osl : Array (Option Value)),
    fd = PySem.W.fnOf x qual (defArgs st) (defBody st) (defScope st) .none kV doc pm an cdv ct ∧ K.lookup f = some ⟨oc, od, .func fd, osl⟩ ∧ PySem.W.codeIn K cdv qual = true
  kp : PySem.W.keepIn K (.ref f) = true
section
variable {P : Program} {w : World} {K : PySem.W.Frag} {mg : Str → Option Value} {base : Heap}
/-- THE RULE for a def: its body as a term of rules, and the reading of that term -/
theorem Fun.ok {x qual : Str} {st : Stmt} {f : Addr} {fd : FuncData} {N ps : List Str} {k : Nat} {sp : Sp} (F : Fun K x qual st f fd) (S : FnScope N ps (defScope st)) (len : ∀ vs H Q E, sp vs H Q E → vs.length = ps.length)
    (hbody : ∀ (cdv : Value) (A : Around) (outer : List Env) (s : Shared) (H : Hp) (vs : List V) (Q : VK) (E : XK), Room k (A.deeper (envOfC qual (defScope st) s.heap.objs.size f cdv)) → sp vs H Q E →
      ∃ t, PSs (cxOf CX0 P w K mg base N qual (defScope st) f cdv A outer s H E).nox (defBody st) t ∧ t { nx := fun _ H' => Q .non H', rt := Q } (start N vs) H) : FnOk P w K mg base CX0 (k + 1) f fd ps sp := by
  obtain ⟨oc, od, kV, doc, pm, an, cdv, ct, osl, rfl, lk, hcd⟩ := F.ex
  refine fn_of lk hcd S len fun A outer s H vs Q E hr hsp => ?_
  obtain ⟨t, h, q⟩ := hbody cdv A outer s H vs Q E hr hsp
  exact ⟨t, h.nox, q⟩
/-- how its arguments bind (no defaults): h is «fun _ _ _ _ _ _ us hl => match us, hl with | [_, _], _ => rfl», one _ a parameter -/
theorem Fun.binds {x qual : Str} {st : Stmt} {f : Addr} {fd : FuncData} {ps : List Str} (F : Fun K x qual st f fd)
    (h : ∀ (kV doc pm : Value) (an : Option Addr) (cdv ct : Value) (us : List Value), us.length = ps.length → bindArgs (PySem.W.fnOf x qual (defArgs st) (defBody st) (defScope st) .none kV doc pm an cdv ct) ⟨us, []⟩ = pure (ps.zip us)) : Binds K fd ps [] := by
  obtain ⟨oc, od, kV, doc, pm, an, cdv, ct, osl, rfl, lk, hcd⟩ := F.ex
  exact .all (h kV doc pm an cdv ct)
theorem fun_mk {x qual : Str} {st : Stmt} {f : Addr} {oc : Value} {od an : Option Addr} {osl : Array (Option Value)} {kV doc pm cdv ct : Value} (l : K.lookup f = some ⟨oc, od, .func (PySem.W.fnOf x qual (defArgs st) (defBody st) (defScope st) .none kV doc pm an cdv ct), osl⟩)
    (c : PySem.W.codeIn K cdv qual = true) (k : PySem.W.keepIn K (.ref f) = true) : Fun K x qual st f (PySem.W.fnOf x qual (defArgs st) (defBody st) (defScope st) .none kV doc pm an cdv ct) := ⟨⟨oc, od, kV, doc, pm, an, cdv, ct, osl, rfl, l, c⟩, k⟩
end
theorem small1000 {n : Nat} (h : n ≤ 1000) : n < sizeLine := Nat.lt_of_le_of_lt h (by decide)

/-! ### expressions in short: the name that stands in the i-th slot -/
section
variable {X : Cx}
theorem pv (i : Nat) {x : Str} {pos : Pos} (hN : X.N[i]? = some x := by rfl) (hv : Vis X.env.scope x := by first | exact Or.inl rfl | exact Or.inr (Or.inl rfl) | exact Or.inr (Or.inr rfl)) (hd : (x == ("__debug__" : Str)) = false := by decide)
    (hcd : (x == ("__classdict__" : Str)) = false := by decide) : PE X (.Name x pos) (tVar i) := pe_var hN hv hd hcd
end

/-! ### tests -/
theorem iteF {A B : Prop} (h : B) : if false = true then A else B := by
  rw [if_neg Bool.false_ne_true]
  exact h
theorem iteT {A B : Prop} (h : A) : if true = true then A else B := by
  rw [if_pos rfl]
  exact h
theorem ite2 {c A B : Prop} [Decidable c] (h1 : c → A) (h2 : ¬ c → B) : if c then A else B := by
  by_cases h : c
  · rw [if_pos h]
    exact h1 h
  · rw [if_neg h]
    exact h2 h
/-! ### heaps -/
/-- all that was tracked is as it was -/
def Same (H H' : Hp) : Prop := ∀ b o, H b = some o → H' b = some o
theorem Same.trans {H H1 H2 : Hp} (a : Same H H1) (b : Same H1 H2) : Same H H2 := fun c o h => b c o (a c o h)
theorem Same.free {H H' : Hp} (e : Same H H') {l : Addr} (h : H' l = Option.none) : H l = Option.none := by
  cases q : H l with
  | none => rfl
  | some o =>
    rw [e l o q] at h
    cases h
theorem Same.seq {K : PySem.W.Frag} {H H' : Hp} {a : Addr} {xs : List V} (e : Same H H') (h : SqL K H a xs) : SqL K H' a xs := by
  rcases h with (h | ⟨o, h⟩) | h
  · exact .inl (.inl (e _ _ h))
  · exact .inl (.inr ⟨o, e _ _ h⟩)
  · exact .inr h

end L2

namespace L2
open PySem PySem.Spec PyProof.Rows
/-! ### a comprehension's block -/
def clOf (env : Env) : List (Str × NameKind) → List (Str × Addr) → List (Str × Addr)
  | [], acc => acc
  | (n, k) :: r, acc => clOf env r (if k == .free then (n, (env.cells.lookup n).getD 0) :: acc else acc)
theorem closure_go {env : Env} : ∀ (names : List (Str × NameKind)) (acc : List (Str × Addr)), (∀ x ∈ names, x.2 = .free → ∃ c, env.cells.lookup x.1 = some c) →
    (forIn names acc (fun (x : Str × NameKind) (cs : List (Str × Addr)) => (if (x.2 == NameKind.free) = true then do let a ← cellOf env x.1; pure (ForInStep.yield ((x.1, a) :: cs)) else pure (ForInStep.yield cs) : Sem (ForInStep (List (Str × Addr))))) : Sem (List (Str × Addr))) = pure (clOf env names acc)
  | [], acc, _ => by simp [clOf]
  | (n, k) :: r, acc, h => by
    rw [List.forIn_cons]
    cases hk : (k == NameKind.free) with
    | false =>
      simp only [hk, Bool.false_eq_true, if_false, pure_bind]
      rw [closure_go r acc fun x hx => h x (List.mem_cons_of_mem _ hx)]
      show _ = pure (clOf env r (if (k == NameKind.free) = true then _ else acc))
      rw [hk]; rfl
    | true =>
      obtain ⟨c, hc⟩ := h (n, k) List.mem_cons_self (by simpa using hk)
      have hc' : env.cells.lookup n = some c := hc
      have e : cellOf env n = pure c := by unfold cellOf; rw [hc']
      simp only [hk, if_true, e, pure_bind]
      rw [closure_go r _ fun x hx => h x (List.mem_cons_of_mem _ hx)]
      show _ = pure (clOf env r (if (k == NameKind.free) = true then (n, (env.cells.lookup n).getD 0) :: acc else acc))
      rw [hk, hc']; rfl
theorem closure_of {env : Env} {scope : Scope} (h : ∀ x ∈ scope.names, x.2 = .free → ∃ c, env.cells.lookup x.1 = some c) : closureFor scope env = pure (clOf env scope.names []) := by
  rw [← closure_go scope.names [] h]
  unfold closureFor
  first
  | rfl
  | simp
theorem clOf_sub {env : Env} : ∀ (names : List (Str × NameKind)) (acc : List (Str × Addr)), (∀ x ∈ names, x.2 = .free → ∃ c, env.cells.lookup x.1 = some c) → (∀ x c, acc.lookup x = some c → env.cells.lookup x = some c) →
    ∀ x c, (clOf env names acc).lookup x = some c → env.cells.lookup x = some c
  | [], acc, _, ha => ha
  | (n, k) :: r, acc, h, ha => by
    unfold clOf
    refine clOf_sub r _ (fun x hx => h x (List.mem_cons_of_mem _ hx)) ?_
    intro x c
    cases hk : (k == NameKind.free) with
    | false => simp only [Bool.false_eq_true, if_false]; exact ha x c
    | true =>
      simp only [if_true]
      obtain ⟨c', hc⟩ := h (n, k) List.mem_cons_self (by simpa using hk)
      have hc' : env.cells.lookup n = some c' := hc
      rw [List.lookup_cons]
      cases hx : x == n with
      | true => intro e; simp only [hc', Option.getD_some] at e; cases e; rw [eq_of_beq hx]; exact hc'
      | false => intro e; exact ha x c e
theorem clOf_keep {env : Env} {x : Str} : ∀ (names : List (Str × NameKind)) (acc : List (Str × Addr)), (∃ c, acc.lookup x = some c) → ∃ c, (clOf env names acc).lookup x = some c
  | [], acc, h => h
  | (n, k) :: r, acc, ⟨c, h⟩ => by
    unfold clOf
    refine clOf_keep r _ ?_
    cases hk : (k == NameKind.free) with
    | false => simp only [Bool.false_eq_true, if_false]; exact ⟨c, h⟩
    | true =>
      simp only [if_true]
      rw [List.lookup_cons]
      cases hx : x == n with
      | true => exact ⟨_, rfl⟩
      | false => exact ⟨c, h⟩
theorem clOf_has {env : Env} {x : Str} : ∀ (names : List (Str × NameKind)) (acc : List (Str × Addr)), names.lookup x = some .free → ∃ c, (clOf env names acc).lookup x = some c
  | [], acc, h => by simp at h
  | (n, k) :: r, acc, h => by
    unfold clOf
    rw [List.lookup_cons] at h
    cases hx : x == n with
    | true =>
      rw [hx] at h
      cases h
      refine clOf_keep r _ ?_
      simp only [beq_self_eq_true, if_true]
      rw [List.lookup_cons, hx]
      exact ⟨_, rfl⟩
    | false =>
      rw [hx] at h
      exact clOf_has r _ h
theorem lookup_relabel {env : Env} (b : Bool) (y : Str) : ∀ (names : List (Str × NameKind)),
    (names.map fun (n, k) => if (k == NameKind.free && b && env.kindOf n == some .cell) then (n, NameKind.cell) else (n, k)).lookup y = (names.lookup y).map fun k => if (k == NameKind.free && b && env.kindOf y == some .cell) then NameKind.cell else k
  | [] => rfl
  | (n, k) :: r => by
    have ih := lookup_relabel (env := env) b y r
    show List.lookup y ((if (k == NameKind.free && b && env.kindOf n == some .cell) = true then (n, NameKind.cell) else (n, k)) :: (r.map fun (n, k) => if (k == NameKind.free && b && env.kindOf n == some .cell) then (n, NameKind.cell) else (n, k))) = _
    cases hx : y == n with
    | true =>
      have e := eq_of_beq hx
      subst e
      have er : List.lookup y ((y, k) :: r) = some k := by rw [List.lookup_cons, hx]
      rw [er]
      show _ = some (if (k == NameKind.free && b && env.kindOf y == some .cell) = true then NameKind.cell else k)
      by_cases hc : (k == NameKind.free && b && env.kindOf y == some .cell) = true
      · rw [if_pos hc, if_pos hc, List.lookup_cons, hx]
      · rw [if_neg hc, if_neg hc, List.lookup_cons, hx]
    | false =>
      have er : List.lookup y ((n, k) :: r) = List.lookup y r := by rw [List.lookup_cons, hx]
      rw [er, ← ih]
      by_cases hc : (k == NameKind.free && b && env.kindOf n == some .cell) = true
      · rw [if_pos hc, List.lookup_cons, hx]
      · rw [if_neg hc, List.lookup_cons, hx]
theorem relabel_lookup (scope : Scope) (env : Env) (y : Str) : (relabel scope env).names.lookup y = (scope.names.lookup y).map fun k => if (k == NameKind.free && env.scope.kind == .function && env.kindOf y == some .cell) then NameKind.cell else k :=
  lookup_relabel _ y scope.names
/-- the block's context -/
def compCx (X : Cx) (N : List Str) (scope : Scope) (C : Addr) (s : Shared) (H : Hp) (fp : List Addr) : Cx where
  prog := X.prog
  w := X.w
  K := X.K
  mg := X.mg
  base := X.base
  A := X.A
  N := N
  s₀ := s
  H₀ := H
  env := compEnvC scope (clOf X.env scope.names []) C X.env
  outer := X.stack
  stack := X.stack
  ex := fp
  fn := fun _ => false
  calm := X.calm
  pn := []
  xe := fun _ _ => False
def capN (N tn : List Str) (cap : List Nat) : List Str := tn ++ cap.map fun j => N.getD j ""
def capS (σ : St) (k : Nat) (cap : List Nat) : St := List.replicate k none ++ cap.map fun j => (σ[j]?).join
def Ext (a b : St) : Prop := b.length = a.length ∧ ∀ (i : Nat) (v : V), a[i]? = some (some v) → b[i]? = some (some v)
/-- the tests of a clause -/
def PF (X : Cx) (ifs : List Expr) (t : TT) : Prop :=
  ∀ (pins : List (Addr × Obj)) (s : Shared) (σ : St) (H : Hp) (Q : Bool → Hp → Prop), Inv X pins σ H s → t σ H Q →
    wpAny (model X.prog X.w) X.A (forIn ifs true fun c r => if r = true then do let ok ← isTrue c X.env (eval c X.env); pure (ForInStep.yield ok) else pure (ForInStep.yield r)) (TP X pins σ Q) X.xe s
def tAlw : TT := fun _ H Q => Q true H
theorem pf_nil {X : Cx} : PF X [] tAlw := fun _ _ _ H _ I h => wpAny_tests_nil ⟨H, I, h⟩
/-- [e for t in i if ..]: W by turn, heap and what is gathered; D the new list -/
abbrev Fam (α : Type) := Addr → Shared → Hp → List Addr → α
def LcGoal (J : It) (σ0 : St) (g : Fam TG) (tc : Fam TT) (te : Fam TE) (D : Addr) (H1 : Hp) (Q : VK) : Prop :=
  ∃ (n : Nat) (W : Nat → Hp → List V → Prop), W 0 (upd H1 D (.lst [])) [] ∧ ∀ i H2 ys, W i H2 ys → i ≤ n ∧ H2 D = some (.lst ys) ∧
    ((J.stop i H2 ∧ Q (.ref D) H2) ∨ (i < n ∧ J.go i H2 ∧ ∀ C s H0 fp x H3, J.yld i H2 x H3 → g C s H0 fp x σ0 H3 fun σ4 H4 => Ext σ0 σ4 ∧
      tc C s H0 fp σ4 H4 fun b H5 => if b = true then te C s H0 fp σ4 H5 fun y H6 => H6 D = some (.lst ys) ∧ ys.length < sizeLine ∧ W (i + 1) (upd H6 D (.lst (ys ++ [y]))) (ys ++ [y]) else W (i + 1) H5 ys))
def tLc (wi : TI) (k : Nat) (cap : List Nat) (g : Fam TG) (tc : Fam TT) (te : Fam TE) : TE := fun σ H Q => wi σ H fun J H1 => ∀ D, H1 D = none → LcGoal J (capS σ k cap) g tc te D H1 Q
/-- what the block asks of its scope -/
structure CompOk (X : Cx) (scope : Scope) (cap : List Nat) : Prop where
  nocell : ∀ y ∈ scope.names, y.2 ≠ .cell
  kind : scope.kind = .function
  free : ∀ y ∈ scope.names, y.2 = .free → X.env.scope.names.lookup y.1 = some .cell ∨ X.env.scope.names.lookup y.1 = some .free
  names : ∀ y ∈ scope.names, y.2 = .local → scope.names.lookup y.1 = some .local
  cap : ∀ j ∈ cap, j < X.N.length ∧ scope.names.lookup (X.N.getD j "") = some .free
section
variable {X : Cx} {pins : List (Addr × Obj)} {σ : St} {H : Hp} {s : Shared} {scope : Scope} {cap : List Nat} {tn : List Str}
theorem mem_of_lookup {α : Type} {x : Str} {a : α} : ∀ {l : List (Str × α)}, l.lookup x = some a → (x, a) ∈ l
  | [], h => by simp at h
  | (n, b) :: r, h => by
    rw [List.lookup_cons] at h
    cases hx : x == n with
    | true => rw [hx] at h; cases h; rw [eq_of_beq hx]; exact List.mem_cons_self
    | false => rw [hx] at h; exact List.mem_cons_of_mem _ (mem_of_lookup h)
theorem CompOk.cells (c : CompOk X scope cap) (I : Inv X pins σ H s) : ∀ x ∈ scope.names, x.2 = .free → ∃ c, X.env.cells.lookup x.1 = some c := fun x hx e => I.ok.has x.1 (c.free x hx e)
theorem CompOk.sub (c : CompOk X scope cap) (I : Inv X pins σ H s) : ∀ x a, (clOf X.env scope.names []).lookup x = some a → X.env.cells.lookup x = some a :=
  clOf_sub scope.names [] (c.cells I) (fun _ _ e => by simp at e)
theorem CompOk.has (c : CompOk X scope cap) {y : Str} (h : (relabel scope X.env).names.lookup y = some .cell ∨ (relabel scope X.env).names.lookup y = some .free) : scope.names.lookup y = some .free := by
  rw [relabel_lookup] at h
  cases e : scope.names.lookup y with
  | none => rw [e] at h; simp at h
  | some k =>
    cases k with
    | free => rfl
    | cell => exact absurd rfl (c.nocell _ (mem_of_lookup e))
    | _ => rw [e] at h; simp at h
theorem CompOk.look (c : CompOk X scope cap) {y : Str} (h : scope.names.lookup y = some .free) : (relabel scope X.env).names.lookup y = some .cell ∨ (relabel scope X.env).names.lookup y = some .free := by
  rw [relabel_lookup, h]
  simp only [Option.map_some]
  split
  · exact .inl rfl
  · exact .inr rfl
/-- the block's entry -/
theorem comp_start {fp : List Addr} {h' : Heap} {m : Str → Option Value} (c : CompOk X scope cap) (I : Inv X pins σ H s) (hf : ∀ b ∈ fp, FpOk X pins H b) (hlt : ∀ b ∈ fp, b < s.heap.objs.size)
    (hn : h'.Ns s.heap.objs.size m) (hk : ∀ b o, s.heap.get? b = some o → h'.get? b = some o) (tk : Nat) :
    Inv (compCx X (capN X.N tn cap) scope s.heap.objs.size s H fp) [] (capS σ tn.length cap) H { s with heap := h', toks := tk } := by
  have sub := c.sub I
  have cltt : ∀ x a, X.env.cells.lookup x = some a → a < s.heap.objs.size := fun x a e => by obtain ⟨v, z⟩ := I.cell x a e; exact z.lt
  have stkS := I.stkSub
  have ok : (compCx X (capN X.N tn cap) scope s.heap.objs.size s H fp).Ok := by
    refine ⟨I.ok.mod, c.kind, I.ok.glob, I.ok.blt, Nat.le_refl _, ?_, ?_, ?_, I.ok.hd, I.ok.frames, .inl rfl, ?_, I.bs, ?_, ?_, ?_, I.stack, I.stkFree⟩
    · exact fun x y a e1 e2 => I.ok.inj x y a (sub x a e1) (sub y a e2)
    · exact fun x e => clOf_has scope.names [] (c.has e)
    · intro x a e; cases e
    · exact fun b hb => ⟨Nat.ne_of_lt (hlt b hb), fun x a e => (hf b hb).2.2.2.2.1 x a (sub x a e)⟩
    · exact Nat.le_trans I.ok.bsz I.sz
    · intro b o e hb
      rcases (hf b hb).2.2.2.1 with z | z
      · exact I.ok.noex b o e z
      · exact absurd (Nat.lt_of_lt_of_le (Heap.lt_size e) (Nat.le_trans I.ok.bsz z)) (Nat.lt_irrefl _)
    · intro b hb z
      rcases List.mem_cons.mp (stkS b z) with e | e
      · exact (hf b hb).2.1 e
      · exact (hf b hb).2.2.1 e
  refine ⟨ok, rfl, I.bare, Un.kept hk, ⟨m, hn, ?_⟩, ?_, I.fresh, ?_, ?_, I.hok.kept hk, ?_⟩
  · intro i x v e1 e2 e3
    by_cases hi : i < tn.length
    · have : (capS σ tn.length cap)[i]? = some none := by
        unfold capS
        rw [List.getElem?_append_left (by simpa using hi)]
        simp [hi]
      rw [this] at e2; cases e2
    · have hi' : tn.length ≤ i := Nat.le_of_not_lt hi
      have e1' : (cap.map fun j => X.N.getD j "")[i - tn.length]? = some x := by
        rw [← List.getElem?_append_right (l₁ := tn) hi']; exact e1
      have e2' : (cap.map fun j => (σ[j]?).join)[i - tn.length]? = some (some v) := by
        have := e2
        unfold capS at this
        rw [List.getElem?_append_right (by simpa using hi')] at this
        simpa using this
      rw [List.getElem?_map] at e1' e2'
      cases hj : cap[i - tn.length]? with
      | none => rw [hj] at e1'; cases e1'
      | some j =>
        rw [hj] at e1' e2'
        have e1'' : X.N.getD j "" = x := Option.some.inj e1'
        have e2'' : (σ[j]?).join = some v := Option.some.inj e2'
        have hjc : j ∈ cap := List.mem_of_getElem? hj
        obtain ⟨hjl, hfr⟩ := c.cap j hjc
        rw [e1''] at hfr
        have hs : σ[j]? = some (some v) := by
          cases q : σ[j]? with
          | none => rw [q] at e2''; cases e2''
          | some z => rw [q] at e2''; cases z with
            | none => cases e2''
            | some z => have : z = v := Option.some.inj e2''; rw [this]
        have hN : X.N[j]? = some x := by
          rw [List.getD_eq_getElem?_getD, List.getElem?_eq_getElem hjl] at e1''
          rw [List.getElem?_eq_getElem hjl]; simpa using e1''
        have hfree := c.free _ (mem_of_lookup hfr) rfl
        obtain ⟨mo, _, hl⟩ := I.loc
        obtain ⟨u, r, l⟩ := hl j x v hN hs (hfree.elim (fun z => .inr (.inl z)) fun z => .inr (.inr z))
        refine ⟨u, r, .inr ⟨c.look hfr, ?_⟩⟩
        obtain ⟨a, ha⟩ := clOf_has (env := X.env) (x := x) scope.names [] hfr
        refine ⟨a, ha, ?_⟩
        rcases l with ⟨k, _⟩ | ⟨k, a', e, z⟩
        · have k' : X.env.scope.names.lookup x = some .local := k
          rcases hfree with q | q
          · rw [k'] at q; cases q
          · rw [k'] at q; cases q
        · have : a = a' := Option.some.inj ((sub x a ha).symm.trans e)
          rw [this]
          exact z.keeps hk
  · intro x a e
    obtain ⟨v, z⟩ := I.cell x a (sub x a e)
    exact ⟨v, z.keeps hk⟩
  · exact fun x a e => I.freeC x a (sub x a e)
  · intro p hp; cases hp
  · show (capS σ tn.length cap).length = (capN X.N tn cap).length
    simp [capS, capN]
end
end L2

namespace L2
open PySem PySem.Spec PyProof.Rows
section
variable {X : Cx} {pins : List (Addr × Obj)} {σ : St} {H : Hp} {s : Shared} {scope : Scope} {cap : List Nat} {tn : List Str}
theorem Inv.strip {X : Cx} {pins : List (Addr × Obj)} {σ : St} {H : Hp} {s : Shared} (I : Inv X pins σ H s) : Inv X [] σ H s := I.pins_of fun _ h => nomatch h
/-- the block's loop, from an iterator's start -/
theorem comp_loop {elt tg iter : Expr} {ifs : List Expr} {pos : Pos} {g : Fam TG} {tc : Fam TT} {te : Fam TE} {it D : Addr} {fp : List Addr} {tnn : Nat → Heap → Prop} {J : It} {h' : Heap} {m : Str → Option Value} {tk : Nat} {Q : VK} {R : Result → Shared → Prop}
    (hc : X.calm = true) (c : CompOk X scope cap)
    (hg : ∀ C s H fp, PG (compCx X (capN X.N tn cap) scope C s H fp) tg (g C s H fp)) (ht : ∀ C s H fp, PF (compCx X (capN X.N tn cap) scope C s H fp) ifs (tc C s H fp)) (he : ∀ C s H fp, PE (compCx X (capN X.N tn cap) scope C s H fp) elt (te C s H fp))
    (I : Inv X pins σ H s) (T : Turn X.prog X.w X.K tg J fp it tnn) (st : tnn 0 s.heap) (hf : ∀ b ∈ fp, FpOk X pins H b)
    (hn : h'.Ns s.heap.objs.size m) (hk : ∀ b o, s.heap.get? b = some o → h'.get? b = some o)
    (n : Nat) (W : Nat → Hp → List V → Prop) (w0 : W 0 H [])
    (turn : ∀ i H2 ys, W i H2 ys → i ≤ n ∧ H2 D = some (.lst ys) ∧
      ((J.stop i H2 ∧ Q (.ref D) H2) ∨ (i < n ∧ J.go i H2 ∧ ∀ C s H0 fp x H3, J.yld i H2 x H3 → g C s H0 fp x (capS σ tn.length cap) H3 fun σ4 H4 => Ext (capS σ tn.length cap) σ4 ∧
        tc C s H0 fp σ4 H4 fun b H5 => if b = true then te C s H0 fp σ4 H5 fun y H6 => H6 D = some (.lst ys) ∧ ys.length < sizeLine ∧ W (i + 1) (upd H6 D (.lst (ys ++ [y]))) (ys ++ [y]) else W (i + 1) H5 ys)))
    (hR : ∀ H2 s2, Inv X pins σ H2 s2 → (∃ m, s2.heap.Ns s.heap.objs.size m) → H2 s.heap.objs.size = none → Q (.ref D) H2 → R (.ok .next) s2) :
    codeAny (model X.prog X.w) X.A (.compStart (.ListComp elt [⟨tg, iter, ifs, 0⟩] scope pos) 0 (.ref it) (.ref D) (compEnvC scope (clOf X.env scope.names []) s.heap.objs.size X.env)) R { s with heap := h', toks := tk } := by
  have hlt : ∀ b ∈ fp, b < s.heap.objs.size := fun b hb => by obtain ⟨o, e, _⟩ := T.obj _ _ st b hb; exact Heap.lt_size e
  have I0 := comp_start (tn := tn) (m := m) c I hf hlt hn hk tk
  have st0 : tnn 0 h' := T.keep _ _ _ st fun b _ o e => hk b o e
  have sub := c.sub I
  have stat : ∀ {H' : Hp}, (∀ b ∈ fp, H' b = none) → ∀ b ∈ fp, FpOk (compCx X (capN X.N tn cap) scope s.heap.objs.size s H fp) [] H' b := fun hn b hb => by
    refine ⟨hn b hb, Nat.ne_of_lt (hlt b hb), fun z => ?_, .inl hb, fun x a e => (hf b hb).2.2.2.2.1 x a (sub x a e), fun p hp => nomatch hp⟩
    rcases List.mem_cons.mp (I.stkSub b z) with e | e
    · exact (hf b hb).2.1 e
    · exact (hf b hb).2.2.1 e
  have loop : codeAny (model X.prog X.w) X.A (.compLoop (.ListComp elt [⟨tg, iter, ifs, 0⟩] scope pos) 0 (.ref it) (.ref D) (compEnvC scope (clOf X.env scope.names []) s.heap.objs.size X.env)) R { s with heap := h', toks := tk } := by
    refine codeAny_loop rfl (fun k s' => ∃ i H2 ys, k = n - i ∧ Inv (compCx X (capN X.N tn cap) scope s.heap.objs.size s H fp) [] (capS σ tn.length cap) H2 s' ∧ tnn i s'.heap ∧ (∀ b ∈ fp, H2 b = none) ∧ W i H2 ys) ?_ (n - 0) ⟨0, H, [], rfl, I0, st0, fun b hb => (hf b hb).1, w0⟩
    rintro k s3 ⟨i, H3, ys, rfl, I3, st3, fr3, w3⟩
    show wpAny _ X.A ((compTurn (.ListComp elt [⟨tg, iter, ifs, 0⟩] scope pos) 0 (.ref it) (.ref D) (compEnvC scope (clOf X.env scope.names []) s.heap.objs.size X.env)).onRaise (fun x => do noteFrame x _; theTreesLotGoes x)) _ _ s3
    refine wpAny_noted ?_
    rw [compTurn_list]
    refine wpAny_bind (wpAny_standAt (wpAny_bind ?_))
    obtain ⟨hi, hD, alt⟩ := turn i H3 ys w3
    rcases alt with ⟨stop, q⟩ | ⟨hlti, go, step⟩
    · refine thn (T.done (compCx X (capN X.N tn cap) scope s.heap.objs.size s H fp) rfl rfl rfl hc i [] s3 _ H3 _ I3 (stat fr3) st3 stop) fun r s4 ⟨hr, I4⟩ => ?_
      subst hr
      refine wpAny_pure ?_
      have hch : ∀ b ∈ fp, (b ∈ X.ex ∨ X.s₀.heap.objs.size ≤ b) ∧ b ≠ X.env.locals ∧ (∀ x c, X.env.cells.lookup x = some c → c ≠ b) ∧ ∀ p ∈ X.pn ++ pins, p.1 ≠ b := fun b hb => ⟨(hf b hb).2.2.2.1, (hf b hb).2.1, (hf b hb).2.2.2.2.1, (hf b hb).2.2.2.2.2⟩
      have Io : Inv X pins σ H3 s4 := I.call' (ch := fp) I4.os I4.base I4.hok I4.bare hch
      obtain ⟨m4, hm4, _⟩ := I4.loc
      exact hR H3 s4 Io ⟨m4, hm4⟩ I4.free q
    · refine thn (T.item (compCx X (capN X.N tn cap) scope s.heap.objs.size s H fp) rfl rfl rfl hc i [] s3 _ H3 _ I3 (stat fr3) st3 go) fun r s4 ⟨u, hr, h4⟩ => ?_
      subst hr
      refine wpAny_bind (thn h4 fun _ s5 ⟨x, H5, I5, r5, y5, st5, fr5⟩ => ?_)
      have I5' := I5.pinned (stat fr5) (T.obj _ _ st5)
      refine wpAny_bind (wpAny_mono (hg s.heap.objs.size s H fp _ s5 _ H5 x u _ I5' r5 (step s.heap.objs.size s H fp x H5 y5)) (fun _ s6 h6 => ?_) fun _ _ f => f.elim)
      obtain ⟨σ6, H6, I6, ⟨el, ev⟩, q6⟩ := h6
      refine wpAny_bind (wpAny_mono (ht s.heap.objs.size s H fp _ s6 σ6 H6 _ I6 q6) (fun ok s7 h7 => ?_) fun _ _ f => f.elim)
      obtain ⟨H7, I7, q7⟩ := h7
      have again : ∀ {s9 : Shared} {H9 : Hp} {zs : List V}, Inv (compCx X (capN X.N tn cap) scope s.heap.objs.size s H fp) ([] ++ pinsAt fp s5.heap) σ6 H9 s9 → W (i + 1) H9 zs →
          ∃ m, m < n - i ∧ ∃ i H2 ys, m = n - i ∧ Inv (compCx X (capN X.N tn cap) scope s.heap.objs.size s H fp) [] (capS σ tn.length cap) H2 s9 ∧ tnn i s9.heap ∧ (∀ b ∈ fp, H2 b = none) ∧ W i H2 ys := fun {s9 H9 zs} I9 w9 => by
        refine ⟨n - (i + 1), by omega, i + 1, H9, zs, rfl, I9.strip.weak el.symm ev, T.keep _ _ _ st5 fun b hb o e => (I9.pin (b, o) (List.mem_append_right _ (List.mem_append_right _ (mem_pinsAt hb e)))).1, fun b hb => ?_, w9⟩
        obtain ⟨o, e, _⟩ := T.obj _ _ st5 b hb
        exact (I9.pin (b, o) (List.mem_append_right _ (List.mem_append_right _ (mem_pinsAt hb e)))).2.1
      cases ok with
      | false =>
        rw [if_neg Bool.false_ne_true] at q7
        exact wpAny_pure ⟨rfl, again I7 q7⟩
      | true =>
        rw [if_pos rfl] at q7
        refine wpAny_bind (wpAny_bind (wpAny_mono (he s.heap.objs.size s H fp _ s7 σ6 H7 _ I7 q7) (fun v s8 h8 => ?_) fun _ _ f => f.elim))
        obtain ⟨y, H8, I8, r8, hD8, hz8, w8⟩ := h8
        refine wpAny_bind (wpAny_mono (mt_append (X := compCx X (capN X.N tn cap) scope s.heap.objs.size s H fp) _ s8 σ6 H8 (.ref D) [y] (.ref D) [v] (fun _ H9 => H9 = upd H8 D (.lst (ys ++ [y]))) I8 rfl (.cons r8 .nil) ⟨D, ys, y, rfl, rfl, hD8, hz8, rfl⟩) (fun _ s9 h9 => ?_) fun _ _ f => f.elim)
        obtain ⟨_, H9, I9, _, e9⟩ := h9
        subst e9
        exact wpAny_pure (wpAny_pure ⟨rfl, again I9 w8⟩)
  exact codeAny_compStart_list loop (T.self _ 0 _ _ _ st0 loop)
end
section
variable {X : Cx} {elt tg iter : Expr} {ifs : List Expr} {scope : Scope} {pos : Pos} {wi : TI} {g : Fam TG} {tc : Fam TT} {te : Fam TE} {cap : List Nat}
/-- [elt for tg in iter] as a value -/
theorem pe_lc (tn : List Str) (hc : X.calm = true) (c : CompOk X scope cap) (hi : PI X tg iter wi)
    (hg : ∀ C s H fp, PG (compCx X (capN X.N tn cap) scope C s H fp) tg (g C s H fp)) (ht : ∀ C s H fp, PF (compCx X (capN X.N tn cap) scope C s H fp) ifs (tc C s H fp)) (he : ∀ C s H fp, PE (compCx X (capN X.N tn cap) scope C s H fp) elt (te C s H fp))
    (hs : ∀ x, foldedSetIterable iter X.env x = pure x := by intro _; rfl) : PE X (.ListComp elt [⟨tg, iter, ifs, 0⟩] scope pos) (tLc wi tn.length cap g tc te) := by
  intro pins s σ H Q I h
  rw [eval_ListComp]
  refine wpAny_comprehension_free (use := none) rfl hs (closure_of (c.cells I)) c.kind c.names (thn (hi pins s σ H _ I h) fun xv s1 h1 => thn h1 fun itv s2 h2 => ?_)
  obtain ⟨it, fp, tnn, J, H2, e, I2, T, st2, f2, q2⟩ := h2
  subst e
  refine wpAny_newList (wpAny_newFunctionEnv c.nocell (by intro y hy; simp at hy) (fun h₁ hn₁ hs₁ => ?_) c.kind)
  have hfr := I2.fresh
  obtain ⟨n, W, w0, turn⟩ := q2 _ hfr
  have I3 : Inv X pins σ (upd H2 s2.heap.objs.size (.lst [])) { s2 with heap := s2.heap.push { cls := .type "list", data := .seq ([] : List Value).toArray } } := I2.lnew (t' := s2.toks) .nil (Nat.zero_le _)
  have hlt : ∀ b ∈ fp, b < s2.heap.objs.size := fun b hb => by obtain ⟨o, e, _⟩ := T.obj _ _ st2 b hb; exact Heap.lt_size e
  refine comp_loop (X := X) (s := { s2 with heap := s2.heap.push { cls := .type "list", data := .seq ([] : List Value).toArray } }) (Q := Q) hc c hg ht he I3 T (T.keep _ _ _ st2 fun b hb o e => Heap.get?_push_of_some _ e) ?_ hn₁ ?_ n W w0 turn ?_
  · intro b hb
    exact ⟨by rw [upd_ne (Nat.ne_of_lt (hlt b hb))]; exact (f2 b hb).1, (f2 b hb).2⟩
  · intro b o e
    exact hs₁.extBut b o (Nat.ne_of_lt (Heap.lt_size e)) (Heap.get?_push_of_some _ e)
  · intro H4 s4 I4 hm4 fr4 q4
    obtain ⟨m4, hm4⟩ := hm4
    refine ⟨m4, hm4, fun h5 hs5 => ?_⟩
    have hsz : s2.heap.objs.size < (s2.heap.push { cls := .type "list", data := .seq ([] : List Value).toArray }).objs.size := by rw [Heap.size_push]; exact Nat.lt_succ_self _
    refine ⟨.ref s2.heap.objs.size, H4, I4.turned (t' := s4.toks) (it := (s2.heap.push { cls := .type "list", data := .seq ([] : List Value).toArray }).objs.size) (fun b o hb e => (hs5.2 b hb).trans e) fr4 ?_ (.inr ?_) ?_ ?_, rfl, q4⟩
    · exact Nat.ne_of_gt (Nat.lt_trans I2.lt hsz)
    · exact Nat.le_trans I2.sz (Nat.le_of_lt hsz)
    · intro x a e z
      obtain ⟨v, q⟩ := I2.cell x a e
      exact absurd (z ▸ q.lt) (Nat.not_lt.mpr (Nat.le_of_lt hsz))
    · intro p hp z
      obtain ⟨e, _⟩ := I2.pin p hp
      exact absurd (z ▸ Heap.lt_size e) (Nat.not_lt.mpr (Nat.le_of_lt hsz))
/-- x = [elt for tg in iter], on one row -/
theorem ps_lc {i : Nat} {x : Str} {pos' spos : Pos} (tn : List Str) (hc : X.calm = true) (c : CompOk X scope cap) (hN : X.N.Nodup) (hx : X.N[i]? = some x) (hl : Loc X.env.scope x) (hi : PI X tg iter wi)
    (hg : ∀ C s H fp, PG (compCx X (capN X.N tn cap) scope C s H fp) tg (g C s H fp)) (ht : ∀ C s H fp, PF (compCx X (capN X.N tn cap) scope C s H fp) ifs (tc C s H fp)) (he : ∀ C s H fp, PE (compCx X (capN X.N tn cap) scope C s H fp) elt (te C s H fp))
    (hsw : swapsWith (.ListComp elt [⟨tg, iter, ifs, 0⟩] scope pos) (some (.Name x pos')) spos.line X.env = pure true)
    (hs : ∀ x, foldedSetIterable iter X.env x = pure x := by intro _; rfl) (hf : X.fn x = true ∨ X.env.scope.names.lookup x = some .local := by first | exact .inl rfl | exact .inr rfl | assumption) :
    PS X (.Assign [.Name x pos'] (.ListComp elt [⟨tg, iter, ifs, 0⟩] scope pos) spos) (tAsg (tLc wi tn.length cap g tc te) (gName i)) := by
  intro pins s σ H D I h
  rw [exec_Assign_Name_used _ _ _ _ hsw]
  refine wpAny_bind (wpAny_standAt (wpAny_bind ?_))
  show wpAny _ X.A (do let _ ← comprehension (.ListComp elt [⟨tg, iter, ifs, 0⟩] scope pos) scope X.env _ (newList []) false (eval iter X.env) (some (assign (.Name x pos') X.env))) _ _ s
  refine wpAny_bind (wpAny_mono (wpAny_comprehension_free (use := some (assign (.Name x pos') X.env)) (Q := fun _ s' => SP X pins D .next s') rfl hs (closure_of (c.cells I)) c.kind c.names
    (thn (hi pins s σ H _ I h) fun xv s1 h1 => thn h1 fun itv s2 h2 => ?_)) (fun _ s' hq => wpAny_pure (wpAny_pure hq)) fun _ _ e => e)
  obtain ⟨it, fp, tnn, J, H2, e, I2, T, st2, f2, q2⟩ := h2
  subst e
  refine wpAny_newList (wpAny_newFunctionEnv c.nocell (by intro y hy; simp at hy) (fun h₁ hn₁ hs₁ => ?_) c.kind)
  have hfr := I2.fresh
  obtain ⟨n, W, w0, turn⟩ := q2 _ hfr
  have I3 : Inv X pins σ (upd H2 s2.heap.objs.size (.lst [])) { s2 with heap := s2.heap.push { cls := .type "list", data := .seq ([] : List Value).toArray } } := I2.lnew (t' := s2.toks) .nil (Nat.zero_le _)
  have hlt : ∀ b ∈ fp, b < s2.heap.objs.size := fun b hb => by obtain ⟨o, e, _⟩ := T.obj _ _ st2 b hb; exact Heap.lt_size e
  refine comp_loop (X := X) (s := { s2 with heap := s2.heap.push { cls := .type "list", data := .seq ([] : List Value).toArray } }) (Q := fun v H1 => gName i v σ H1 D.nx) hc c hg ht he I3 T (T.keep _ _ _ st2 fun b hb o e => Heap.get?_push_of_some _ e) ?_ hn₁ ?_ n W w0 turn ?_
  · intro b hb
    exact ⟨by rw [upd_ne (Nat.ne_of_lt (hlt b hb))]; exact (f2 b hb).1, (f2 b hb).2⟩
  · intro b o e
    exact hs₁.extBut b o (Nat.ne_of_lt (Heap.lt_size e)) (Heap.get?_push_of_some _ e)
  · intro H4 s4 I4 hm4 fr4 q4
    obtain ⟨m4, hm4⟩ := hm4
    have hsz : s2.heap.objs.size < (s2.heap.push { cls := .type "list", data := .seq ([] : List Value).toArray }).objs.size := by rw [Heap.size_push]; exact Nat.lt_succ_self _
    have neL : (s2.heap.push { cls := .type "list", data := .seq ([] : List Value).toArray }).objs.size ≠ X.env.locals := Nat.ne_of_gt (Nat.lt_trans I2.lt hsz)
    have neC : ∀ x a, X.env.cells.lookup x = some a → a ≠ (s2.heap.push { cls := .type "list", data := .seq ([] : List Value).toArray }).objs.size := fun x a e z => by
      obtain ⟨v, q⟩ := I2.cell x a e
      exact absurd (z ▸ q.lt) (Nat.not_lt.mpr (Nat.le_of_lt hsz))
    show wpAny _ X.A (assign (.Name x pos') X.env (.ref s2.heap.objs.size)) _ _ s4
    refine wpAny_assign_Name (store_ok2 I4 hN hx hl (v := .ref s2.heap.objs.size) rfl (fun s5 I5 ⟨a, hsb, ha⟩ => ?_) hf)
    have hne : (s2.heap.push { cls := .type "list", data := .seq ([] : List Value).toArray }).objs.size ≠ a := by
      rcases ha with ha | ha
      · rw [ha]; exact neL
      · exact (neC _ _ ha).symm
    refine ⟨m4, hm4.sameBut hsb hne, fun h6 hs6 => ?_⟩
    refine ⟨_, H4, I5.turned (t' := s5.toks) (it := (s2.heap.push { cls := .type "list", data := .seq ([] : List Value).toArray }).objs.size) (fun b o hb e => (hs6.2 b hb).trans e) fr4 neL (.inr (Nat.le_trans I2.sz (Nat.le_of_lt hsz))) neC ?_, q4⟩
    intro p hp z
    obtain ⟨e, _⟩ := I2.pin p hp
    exact absurd (z ▸ Heap.lt_size e) (Nat.not_lt.mpr (Nat.le_of_lt hsz))
end
end L2

namespace L2
open PySem PySem.Spec PyProof.Rows
section
variable {X : Cx}
/-! ### lists of ints compared -/
def rEqI (K : PySem.W.Frag) (neg : Bool) : R2 := fun x y H Q => ∃ (a b : Addr) (ns ms : List Int), x = .ref a ∧ y = .ref b ∧ SqL K H a (ns.map V.int) ∧ SqL K H b (ms.map V.int) ∧ Q (.bl (if neg then !decide (ns = ms) else decide (ns = ms))) H
theorem op_eqI (hu : X.A.units + 64 < cLine) : OpR X (compareOp .Eq) (rEqI X.K false) := by
  intro pins s σ H x y v u Q I rx ry h
  obtain ⟨a, b, ns, ms, rfl, rfl, ha, hb, q⟩ := h
  cases rx; cases ry
  obtain ⟨its, r, p, _⟩ := I.list ha
  obtain ⟨its', r', p', _⟩ := I.list hb
  exact PySem.W.ke_eq_ints p.isList p'.isList (intsAre_of r) (intsAre_of r') hu ⟨.bl (decide (ns = ms)), H, I, rfl, q⟩
theorem op_neI (hu : X.A.units + 64 < cLine) : OpR X (compareOp .NotEq) (rEqI X.K true) := by
  intro pins s σ H x y v u Q I rx ry h
  obtain ⟨a, b, ns, ms, rfl, rfl, ha, hb, q⟩ := h
  cases rx; cases ry
  obtain ⟨its, r, p, _⟩ := I.list ha
  obtain ⟨its', r', p', _⟩ := I.list hb
  exact PySem.W.ke_ne_ints p.isList p'.isList (intsAre_of r) (intsAre_of r') hu ⟨.bl (!decide (ns = ms)), H, I, rfl, q⟩
/-! ### sum, all, any, sorted, max, min of a list -/
theorem call_sum (hc : X.calm = true) : CallR X (.builtin "sum") (fun xs H Q => ∃ (p : Addr) (ns : List Int), xs = [.ref p] ∧ SqL X.K H p (ns.map V.int) ∧ Q (.int ns.sum) H) := by
  intro pins s σ H xs us Q I r h
  obtain ⟨p, ns, rfl, hq, q⟩ := h
  obtain ⟨u, rfl, rx⟩ := vals1 r
  cases rx
  obtain ⟨its, r', pl, hz⟩ := I.list hq
  have hi := intsAre_of r'
  obtain ⟨xs, hx⟩ := hi.allInts.items
  have hl' : s.heap.IsList p (intItems xs) := hx ▸ pl.isList
  refine sum_intListG (I.ok.hd hc) hl' fun h' tk t' hk => ?_
  have e1 : ns = xs.toList.map (·.1) := by
    rw [← nums_intItems, ← hx]
    exact (show numsOf its.toArray.toList = ns from hi.numsOf).symm
  have e2 : preSum (numAt xs) xs.size = ns.sum := by
    rw [preSum_eq, List.take_of_length_le (by simp), e1]
  rw [e2]
  exact ⟨.int ns.sum, H, I.kept hk, ⟨_, rfl⟩, q⟩
theorem boolsAre_of {bs : List Bool} : ∀ {us : List Value}, Vals (bs.map V.bl) us → us = bs.map Value.bool := by
  induction bs with
  | nil => intro us r; cases r; rfl
  | cons b bs ih =>
    intro us r
    cases r with
    | cons r t => rw [show _ = Value.bool b from r, ih t]; rfl
theorem call_all (hc : X.calm = true) : CallR X (.builtin "all") (fun xs H Q => ∃ (p : Addr) (bs : List Bool), xs = [.ref p] ∧ SqL X.K H p (bs.map V.bl) ∧ Q (.bl (bs.all id)) H) := by
  intro pins s σ H xs us Q I r h
  obtain ⟨p, bs, rfl, hq, q⟩ := h
  obtain ⟨u, rfl, rx⟩ := vals1 r
  cases rx
  obtain ⟨its, r', pl, hz⟩ := I.list hq
  have e := boolsAre_of r'
  subst e
  have hl := pl.isList
  have hlt : p < s.heap.objs.size := by obtain ⟨_, e, _⟩ := hl; exact Heap.lt_size e
  refine call_all_walk (wpAny_pyIter_list hl ?_)
  refine ⟨s.heap.objs.size, [s.heap.objs.size, p], [s.heap.objs.size], (bs.map Value.bool).toArray.size, _, _, fun i => (bs[i]?).getD true, rfl, Walks.list (A := X.A.in1) (I.ok.hd hc) _ p (Nat.ne_of_lt hlt) (bs.map Value.bool).toArray,
    ⟨⟨_, Heap.get?_push_size _ rfl, rfl, rfl⟩, hl.push _⟩, fun i v s' Q' E' hP hQ => ?_, fun h' tk hk => ?_⟩
  · have hP' : (bs.map Value.bool)[i]? = some v := by simpa using hP
    rw [List.getElem?_map] at hP'
    cases e : bs[i]? with
    | none => rw [e] at hP'; cases hP'
    | some b =>
      rw [e] at hP'
      cases Option.some.inj hP'
      simp only [e, Option.getD_some] at hQ
      exact wpAny_truthy_bool hQ
  · have e : ((List.range (bs.map Value.bool).toArray.size).all fun i => (bs[i]?).getD true) = bs.all id := by
      rw [List.size_toArray, List.length_map]; exact LSm.range_all bs
    rw [e]
    exact ⟨.bl (bs.all id), H, I.kept (LSm.kept_iter hk), rfl, q⟩
theorem vals_of_ints : ∀ {vs : List Value} {ns : List Int}, IntsAre vs ns → Vals (ns.map V.int) vs := fun h => vals_ints h
theorem call_sorted : CallR X (.builtin "sorted") (fun xs H Q => ∃ (p : Addr) (ns : List Int), xs = [.ref p] ∧ SqL X.K H p (ns.map V.int) ∧ ns.length < 64 ∧ ∀ (l : Addr) (ns' : List Int), H l = none → ns'.Perm ns → ns'.Pairwise (· ≤ ·) → Q (.ref l) (upd H l (.lst (ns'.map V.int)))) := by
  intro pins s σ H xs us Q I r h
  obtain ⟨p, ns, rfl, hq, h64, q⟩ := h
  obtain ⟨u, rfl, rx⟩ := vals1 r
  cases rx
  obtain ⟨its, r', pl, hz⟩ := I.list hq
  have hi := intsAre_of r'
  have hl : its.length = ns.length := by have := r'.length; simpa using this.symm
  refine sorted_ints pl.isList hi (by rw [hl]; exact h64) fun out ns' a1 a2 a3 => ?_
  obtain ⟨e, he⟩ := sortedAll_at s.heap its out
  refine ⟨.ref (s.heap.objs.size + 1), _, I.laid (t' := s.toks) (a := s.heap.objs.size + 1) (o := .lst (ns'.map V.int)) (fun b o q => sortedAll_old q) (Nat.le_succ _) ?_, rfl, q _ ns' (I.hok.fresh (Nat.le_succ _)) a2 a3⟩
  refine ⟨?_, out.toList, e, vals_of_ints a1, ?_⟩
  · rw [List.length_map, a2.length_eq]; rw [List.length_map] at hz; exact hz
  · simpa [seqObj] using he
/-! ### isinstance -/
def clsV : V → Option Value
  | .ty n => some (.type n)
  | .ref a => some (.ref a)
  | _ => none
theorem clsV_rel {x : V} {u c : Value} (r : RelV x u) (h : clsV x = some c) : u = c := by
  cases x <;> simp [clsV] at h <;> subst h <;> exact r
theorem call_isinst : CallR X (.builtin "isinstance") (fun xs H Q => ∃ x c t cv b, xs = [x, c] ∧ TyOf X.K H x t ∧ clsV c = some cv ∧ PySem.W.kitOne X.K t cv = some b ∧ Q (.bl b) H) := by
  intro pins s σ H xs us Q I r h
  obtain ⟨x, c, t, cv, b, rfl, ty, hc, e, q⟩ := h
  obtain ⟨u, w', rfl, r1, r2⟩ := vals2 r
  have := clsV_rel r2 hc
  subst this
  exact isinst_ok I r1 ty e fun tk => ⟨.bl b, H, I.tok _, rfl, q⟩
/-! ### xs[::-1] -/
def tRev (K : PySem.W.Frag) (te : TE) : TE := fun σ H Q => te σ H fun x H1 => ∃ a xs, x = .ref a ∧ SqL K H1 a xs ∧ ∀ p, H1 p = none → Q (.ref p) (upd H1 p (.lst xs.reverse))
theorem pe_rev {e : Expr} {te : TE} {k1 : Nat} {p1 p3 p2 pos : Pos} (he : PE X e te) : PE X (.Subscript e (.Slice none none (some (.UnaryOp .USub (.Constant (.int 1) k1 p1) p3)) p2) pos) (tRev X.K te) := by
  intro pins s σ H Q I h
  refine Subscript_ (thn (he pins s σ H _ I h) fun v s1 ⟨x, H1, I1, r1, q1⟩ => ?_)
  obtain ⟨a, xs, e1, hx, q⟩ := q1
  subst e1
  cases r1
  refine wpAny_Slice ?_
  rw [evalPart_none]
  refine wpAny_pure ?_
  refine wpAny_pure ?_
  refine thn (po_some (X := X) (pe_un un_neg pe_int) pins s1 σ H1 (fun o H2 => o = some (-1) ∧ H2 = H1) I1 ⟨1, rfl, -1, rfl, rfl, rfl⟩) fun vk s3 ⟨o, H3, I3, pk, e3, e4⟩ => ?_
  subst e3 e4
  obtain ⟨its, r, ht, hz⟩ := I3.list hx
  have hlen := r.length
  have I4 : Inv X pins σ H3 { s3 with heap := s3.heap.push { cls := .type "slice", data := .fields #[.none, .none, vk] } } := I3.kept (t' := s3.toks) fun b ob q => Heap.get?_push_of_some _ q
  have hl4 : (s3.heap.push { cls := .type "slice", data := .fields #[.none, .none, vk] }).IsList a its.toArray := ht.isList.push _
  show wpAny (model X.prog X.w) X.A (subscriptTail e (.Slice none none (some (.UnaryOp .USub (.Constant (.int 1) k1 p1) p3)) p2) (.ref a) (.ref s3.heap.objs.size)) (EP X pins σ Q) X.xe { s3 with heap := s3.heap.push { cls := .type "slice", data := .fields #[.none, .none, vk] } }
  refine tail_any (ops := [.ref a, .ref s3.heap.objs.size]) hl4.typeIs slot_list_getitem.lookup ?_ (by with_unfolding_all rfl)
  refine wpAny_getItem_list_slice (s := { s3 with heap := s3.heap.push { cls := .type "slice", data := .fields #[.none, .none, vk] } }) hl4 (Heap.IsSliceOf.new ..) .none .none pk (by decide) ?_ (by rw [List.size_toArray] <;> omega)
  rw [PySem.W.krv_pick]
  refine ⟨.ref (s3.heap.push { cls := .type "slice", data := .fields #[.none, .none, vk] }).objs.size, _, I4.laid (t' := s3.toks) (o := .lst xs.reverse) (fun b ob q => Heap.get?_push_of_some _ q) (Nat.le_refl _) ?_, rfl, q _ (I4.hok.fresh (Nat.le_refl _))⟩
  exact ⟨by rw [List.length_reverse]; exact hz, _, 0, r.reverse, Heap.get?_push_size _ rfl⟩
end
end L2

namespace L2
open PySem PySem.Spec PyProof.Rows
/-! ### iterators that hand out new tuples -/
section
variable {X : Cx} {pins : List (Addr × Obj)} {σ : St} {H : Hp} {s : Shared} {h' : Heap}
/-- the records at ch have turned, a tuple was laid at p -/
theorem Inv.turnT {ch : List Addr} {p : Addr} {xs : List V} {its : List Value} {t' : Nat} (I : Inv X pins σ H s) (hf : ∀ b ∈ ch, FpOk X pins H b)
    (k : ∀ b o, b ∉ ch → s.heap.get? b = some o → h'.get? b = some o) (there : ∀ b o, b ∈ ch → s.heap.get? b = some o → ∃ o', h'.get? b = some o') (hp : s.heap.objs.size ≤ p) (ht : IsTup h' p its.toArray) (r : Vals xs its) (hz : xs.length ≤ sizeLine) :
    Inv X pins σ (upd H p (.tup xs)) { s with heap := h', toks := t' } := by
  have hpn : H p = none := I.hok.fresh hp
  have nch : ∀ b u, H b = some u → b ∉ ch := fun b u e z => by rw [(hf b z).1] at e; cases e
  have ne : ∀ b o, s.heap.get? b = some o → b ≠ p := fun b o e => Nat.ne_of_lt (Nat.lt_of_lt_of_le (Heap.lt_size e) hp)
  have ne' : ∀ b u, H b = some u → b ≠ p := fun b u e z => by rw [z, hpn] at e; cases e
  refine I.step (g' := s.gens) (d' := s.drawn) (ch := ch) (fun b hb => ⟨(hf b hb).2.2.2.1, (hf b hb).2.1, (hf b hb).2.2.2.2.1, (hf b hb).2.2.2.2.2⟩) (fun b o _ _ hc e _ => k b o hc e) (fun b o _ _ hc e _ => ⟨o.slots, k b o hc e⟩)
    (fun b o _ e n => by rw [upd_ne (ne b o e)]; exact n) (fun b o hc e => ⟨o, k b o hc e⟩) (fun b ys e => by rw [upd_ne (ne' b _ e)]; exact e) (fun b o u e => by rw [upd_ne (ne' b _ e)]; exact e) (fun b ps e => ⟨#[], by rw [upd_ne (ne' b _ e), e]; simp⟩) (fun m hm => ?_) (fun b u e => ?_) I.bare
  · obtain ⟨o, es, ep, ho, rr⟩ := hm
    exact ⟨o, es, ep, k _ o (fun z => (hf _ z).2.1 rfl) ho, rr⟩
  · by_cases hb : b = p
    · subst hb
      rw [upd_same] at e
      cases e
      exact ⟨hz, its, r, ht⟩
    · rw [upd_ne hb] at e
      refine (I.hok b u e).stay (fun c v hc q => k c v ?_ q) (fun c q => by rw [upd_ne (ne' c _ q)]; exact q) fun c ys q => by rw [upd_ne (ne' c _ q)]; exact q
      rcases hc with z | z
      · rw [z]; exact nch b u e
      · exact nch c _ z
/-- several untracked records of ours have turned -/
theorem Inv.turns {ch : List Addr} {t' : Nat} (I : Inv X pins σ H s) (hf : ∀ b ∈ ch, FpOk X pins H b) (k : ∀ b o, b ∉ ch → s.heap.get? b = some o → h'.get? b = some o) : Inv X pins σ H { s with heap := h', toks := t' } := by
  have nch : ∀ b u, H b = some u → b ∉ ch := fun b u e z => by rw [(hf b z).1] at e; cases e
  refine I.step (g' := s.gens) (d' := s.drawn) (ch := ch) (fun b hb => ⟨(hf b hb).2.2.2.1, (hf b hb).2.1, (hf b hb).2.2.2.2.1, (hf b hb).2.2.2.2.2⟩) (fun b o _ _ hc e _ => k b o hc e) (fun b o _ _ hc e _ => ⟨o.slots, k b o hc e⟩)
    (fun b o _ _ n => n) (fun b o hc e => ⟨o, k b o hc e⟩) (fun _ _ e => e) (fun _ _ _ e => e) (fun b ps e => ⟨#[], by rw [e]; simp⟩) (fun m hm => ?_) (fun b u e => ?_) I.bare
  · obtain ⟨o, es, ep, ho, rr⟩ := hm
    exact ⟨o, es, ep, k _ o (fun z => (hf _ z).2.1 rfl) ho, rr⟩
  · refine (I.hok b u e).stay (fun c v hc q => k c v ?_ q) (fun _ q => q) fun _ _ q => q
    rcases hc with z | z
    · rw [z]; exact nch b u e
    · exact nch c _ z
end
/-! ### enumerate(list), into a tuple of targets -/
def Ite (K : PySem.W.Frag) (a : Addr) : It :=
  ⟨fun i H => ∃ xs x, SqL K H a xs ∧ xs[i]? = some x, fun i H v H' => ∃ p x, H p = none ∧ v = .ref p ∧ H' = upd H p (.tup [.int i, x]) ∧ ∀ xs, SqL K H a xs → xs[i]? = some x, fun i H => ∃ xs, SqL K H a xs ∧ xs.length ≤ i⟩
theorem turn_enum {P : Program} {w : World} {K : PySem.W.Frag} {elts : List Expr} {x1 : Nat} {p1 : Pos} (a e it : Addr) (hne : e ≠ it) :
    Turn P w K (.Tuple elts x1 p1) (Ite K a) [e, it] e (fun i h => (∃ old, IsEnum h e it (i : Nat) old) ∧ h.IsListIter it a i) where
  mem := by simp
  obj := fun i h st b hb => by
    obtain ⟨⟨old, he⟩, o, ei, c, d⟩ := st
    have hb' : b = e ∨ b = it := by simpa using hb
    rcases hb' with rfl | rfl
    · exact ⟨_, he, fun v z => by have z' : Data.fields _ = Data.cell v := z; cases z'⟩
    · exact ⟨o, ei, fun v z => by rw [d] at z; cases z⟩
  keep := fun i h h' st k => by
    obtain ⟨⟨old, he⟩, hi⟩ := st
    exact ⟨⟨old, k e (by simp) _ he⟩, hi.at fun o q => k it (by simp) o q⟩
  item := by
    intro X hP hw hK hc i pins s σ H E I hf st hg
    subst hP hw hK
    obtain ⟨⟨old, he⟩, hi⟩ := st
    obtain ⟨xs, x, hq, hx⟩ := hg
    obtain ⟨its, rv, pl, hz⟩ := I.list hq
    obtain ⟨u, hu, ru⟩ := rv.get hx
    refine wpAny_pyNext_enum_item he hi pl.isList (x := u) (by simpa using hu) hne fun h1 he1 hi1 ht1 hs1 hk1 => ?_
    refine ⟨_, rfl, ?_⟩
    refine wpAny_letOwnedTupleGo_enum (s := { s with heap := h1, toks := s.toks + 1 }) he1 fun h2 he2 hs2 => ?_
    have hlt : e < s.heap.objs.size := Heap.lt_size he
    have hk : ∀ b o, b ∉ [e, it] → s.heap.get? b = some o → h2.get? b = some o := fun b o hb q => by
      have hb' : b ≠ e ∧ b ≠ it := by simpa using hb
      exact hs2.extBut b o hb'.1 (hk1 b o hb'.1 hb'.2 q)
    have ht2 : IsTup h2 s.heap.objs.size [Value.int (i : Nat) s.toks, u].toArray := ⟨_, hs2.extBut _ _ (Nat.ne_of_gt hlt) ht1, rfl, _, rfl⟩
    have I2 : Inv X pins σ (upd H s.heap.objs.size (.tup [.int (i : Nat), x])) { s with heap := h2, toks := s.toks + 1 } :=
      I.turnT hf hk (fun b o hb q => by
        have hb' : b = e ∨ b = it := by simpa using hb
        rcases hb' with rfl | rfl
        · exact ⟨_, he2⟩
        · obtain ⟨o', q', _⟩ := hi1.extBut hs2.extBut (Ne.symm hne)
          exact ⟨o', q'⟩) (Nat.le_refl _) ht2 (.cons ⟨_, rfl⟩ (.cons ru .nil)) (by show 2 ≤ sizeLine; decide)
    refine ⟨.ref s.heap.objs.size, _, I2, rfl, ⟨s.heap.objs.size, x, I.fresh, rfl, rfl, fun ys hy => by rw [I.list_inj hy hq]; exact hx⟩, ⟨⟨u, ?_⟩, hi1.extBut hs2.extBut (Ne.symm hne)⟩, fun b hb => ?_⟩
    · have : ((i + 1 : Nat) : Int) = (i : Int) + 1 := by omega
      rw [this]; exact he2
    · obtain ⟨o, q, _⟩ : ∃ o, s.heap.get? b = some o ∧ True := by
        have hb' : b = e ∨ b = it := by simpa using hb
        rcases hb' with rfl | rfl
        · exact ⟨_, he, trivial⟩
        · obtain ⟨o, q, _⟩ := hi; exact ⟨o, q, trivial⟩
      rw [upd_ne (Nat.ne_of_lt (Heap.lt_size q))]
      exact (hf b hb).1
  done := by
    intro X hP hw hK hc i pins s σ H E I hf st hg
    subst hP hw hK
    obtain ⟨⟨old, he⟩, hi⟩ := st
    obtain ⟨xs, hq, hx⟩ := hg
    obtain ⟨its, rv, pl, hz⟩ := I.list hq
    have hl := rv.length
    refine wpAny_pyNext_enum_end (I.ok.hd hc) he hi pl.isList (by simp; omega) fun h1 eb => ⟨rfl, I.turns (t' := s.toks) hf fun b o hb q => eb b o (fun z => hb (by simp [z])) q⟩
  self := fun _ _ _ _ _ st h => by
    obtain ⟨⟨old, he⟩, _⟩ := st
    exact wpAny_pyIter_enum he h
section
variable {X : Cx}
def iEnum (K : PySem.W.Frag) (ta : TA) : TI := fun σ H R => ta σ H fun vs H1 => ∃ a : Addr, vs = [.ref a] ∧ (∃ xs, SqL K H1 a xs) ∧ R (Ite K a) H1
theorem boot_enum : bootBuiltins "enumerate" = some (.type "enumerate") := by decide +kernel
theorem pi_enum {elts : List Expr} {x1 : Nat} {p1 : Pos} {a : Expr} {ta : TA} {p pos : Pos} (hg : Gl X "enumerate") (hm : X.mg "enumerate" = none) (ha : PA X [a] ta) (hs : starEach [a] X.env = [(false, eval a X.env)] := by rfl) :
    PI X (.Tuple elts x1 p1) (.Call (.Name "enumerate" p) [a] [] pos) (iEnum X.K ta) := by
  intro pins s σ H R I h
  refine Call_ (ld_blt I hg hm boot_enum (PyProof.Rows.callWith_type1 (thn (ha pos pins s σ H _ I h) fun us s1 ⟨vs, H1, I1, r1, q1⟩ => ?_) hs rfl))
  obtain ⟨l, e, ⟨xs, hq⟩, q⟩ := q1
  subst e
  obtain ⟨u, rfl, rx⟩ := vals1 r1
  cases rx
  obtain ⟨its, rv, pl, hz⟩ := I1.list hq
  refine call_enumerate_list pl.isList fun h' he hi hsz hk => ?_
  refine wpAny_pyIter_enum (s := { s1 with heap := h' }) he ?_
  have I2 : Inv X pins σ H1 { s1 with heap := h' } := I1.kept (t' := s1.toks) hk
  refine ⟨s1.heap.objs.size + 1, [s1.heap.objs.size + 1, s1.heap.objs.size], _, _, H1, rfl, I2, turn_enum l _ _ (Nat.succ_ne_self _), ⟨⟨_, he⟩, hi⟩, fun b hb => ?_, q⟩
  have hb' : s1.heap.objs.size ≤ b := by
    have : b = s1.heap.objs.size + 1 ∨ b = s1.heap.objs.size := by simpa using hb
    rcases this with rfl | rfl
    · exact Nat.le_succ _
    · exact Nat.le_refl _
  exact I1.fpOk hb' (I1.hok.fresh hb')
end
/-- the loop over enumerate(list) that the body leaves as it is -/
theorem for_enum {K : PySem.W.Frag} {a : Addr} {xs : List V} {g : TG} {tb : TS} {D : Ends} {σ : St} {H : Hp} (Pv : Nat → St → Hp → Prop) (h0 : Pv 0 σ H) (hl : ∀ i σ H, i ≤ xs.length → Pv i σ H → SqL K H a xs)
    (hs : ∀ i x σ H p, xs[i]? = some x → Pv i σ H → H p = none → g (.ref p) σ (upd H p (.tup [.int i, x])) fun σ2 H2 => tb { D with nx := Pv (i + 1), ct := Pv (i + 1), bk := D.nx } σ2 H2) (hd : ∀ σ H, Pv xs.length σ H → D.nx σ H) :
    ∃ W : Nat → Nat → St → Hp → Prop, (∃ m, W 0 m σ H) ∧ ∀ i m σ H, W i m σ H →
      ((Ite K a).stop i H ∧ D.nx σ H) ∨ ((Ite K a).go i H ∧ ∃ N : St → Hp → Prop, (∀ σ' H', N σ' H' → ∃ m', m' < m ∧ W (i + 1) m' σ' H') ∧ ∀ x H', (Ite K a).yld i H x H' → g x σ H' fun σ2 H2 => tb { D with nx := N, ct := N, bk := D.nx } σ2 H2) := by
  refine ⟨fun i m σ H => m = xs.length - i ∧ i ≤ xs.length ∧ Pv i σ H, ⟨xs.length, by simp, Nat.zero_le _, h0⟩, ?_⟩
  rintro i m σ H ⟨rfl, hi, p⟩
  have q := hl i σ H hi p
  by_cases hlt : i < xs.length
  · refine .inr ⟨⟨xs, xs[i], q, by simp [hlt]⟩, Pv (i + 1), fun σ' H' p' => ⟨xs.length - (i + 1), by omega, rfl, hlt, p'⟩, fun v H' y => ?_⟩
    obtain ⟨pp, x, hn, e1, e2, y⟩ := y
    subst e1 e2
    exact hs i x σ H pp (y xs q) p hn
  · have e : i = xs.length := by omega
    subst e
    exact .inl ⟨⟨xs, q, Nat.le_refl _⟩, hd σ H p⟩
/-! ### reversed(range(n)) -/
end L2

namespace L2
open PySem PySem.Spec PyProof.Rows
section
variable {prog : Program} {w : World} {A : Around} {E : Value → Shared → Prop} {s : Shared}
end
section
variable {X : Cx} {tg : Expr}
end
end L2

namespace L2
open PySem PySem.Spec PyProof.Rows
/-- a def of the text that may be called by its name -/
structure Callee (P : Program) (w : World) (K : PySem.W.Frag) (mg : Str → Option Value) (base : Heap) (k : Nat) (x : Str) (ps : List Str) (sp : Sp) : Prop where
  ex : ∃ (f : Addr) (fd : FuncData), FnOk P w K mg base CX0 k f fd ps sp ∧ mg x = some (.ref f) ∧ PySem.W.keepIn K (.ref f) = true ∧ Binds K fd ps []
section
variable {X : Cx} {k : Nat} {x : Str} {ps : List Str} {sp : Sp} {p pos : Pos} {e : Expr} {es : List Expr} {t : TA}
theorem pe_fn (c : Callee X.prog X.w X.K X.mg X.base k x ps sp) (hr : Room k X.A) (hg : Gl X x) (ha : PA X (e :: es) t) (hdb : (x == ("__debug__" : Str)) = false := by decide)
    (he : starEach (e :: es) X.env = (false, eval e X.env) :: starEach es X.env := by rfl) (hpl : (backTo pos (starEach es X.env)).any (·.1) = false := by rfl) : PE X (.Call (.Name x p) (e :: es) [] pos) (tCall sp [] E0 t) := by
  obtain ⟨f, fd, G, hm, hk, hb⟩ := c.ex
  exact pe_call G hr hg hm hk hb .nil pass0 ha hdb he hpl
end
theorem Callee.of {P : Program} {w : World} {K : PySem.W.Frag} {mg : Str → Option Value} {base : Heap} {k : Nat} {x qual : Str} {st : Stmt} {f : Addr} {fd : FuncData} {ps : List Str} {sp : Sp} (F : Fun K x qual st f fd) (G : FnOk P w K mg base CX0 k f fd ps sp) (hm : mg x = some (.ref f)) (b : Binds K fd ps []) : Callee P w K mg base k x ps sp := ⟨f, fd, G, hm, F.kp, b⟩
def chkComp (sc : Scope) (N : List Str) (scope : Scope) (cap : List Nat) : Bool :=
  scope.names.all (fun y => y.2 != .cell) && scope.kind == .function && scope.names.all (fun y => y.2 != .free || sc.names.lookup y.1 == some .cell || sc.names.lookup y.1 == some .free) &&
    scope.names.all (fun y => y.2 != .local || scope.names.lookup y.1 == some .local) && cap.all (fun j => decide (j < N.length) && scope.names.lookup (N.getD j "") == some .free)
/-- by a look at the tables -/
theorem CompOk.of {X : Cx} {scope : Scope} {cap : List Nat} (sc : Scope) (N : List Str) (hs : X.env.scope = sc) (hN : X.N = N) (h : chkComp sc N scope cap = true) : CompOk X scope cap := by
  subst hs hN
  unfold chkComp at h
  simp only [Bool.and_eq_true, List.all_eq_true] at h
  obtain ⟨⟨⟨⟨h1, h2⟩, h3⟩, h4⟩, h5⟩ := h
  refine ⟨fun y hy => by simpa using h1 y hy, by simpa using h2, fun y hy e => ?_, fun y hy e => ?_, fun j hj => ?_⟩
  · have := h3 y hy
    simpa [e] using this
  · have := h4 y hy
    simpa [e] using this
  · have := h5 j hj
    simpa using this
/-! ### the forms of comprehensions one uses -/
theorem ext_set0 (σ : St) (k : Nat) (cap : List Nat) (v : V) : Ext (capS σ (k + 1) cap) ((capS σ (k + 1) cap).set 0 (some v)) := by
  refine ⟨by simp, fun i u h => ?_⟩
  cases i with
  | zero =>
    have : (capS σ (k + 1) cap)[0]? = some none := by
      unfold capS
      rw [List.replicate_succ, List.cons_append]
      rfl
    rw [this] at h; cases h
  | succ i => rw [List.getElem?_set_ne (by omega)]; exact h
abbrev g1 : Fam TG := fun _ _ _ _ => gName 0
abbrev tA : Fam TT := fun _ _ _ _ => tAlw
/-- one name, a list, any heap -/
theorem lc_list {K : PySem.W.Frag} {a : Addr} {xs : List V} {σ : St} {cap : List Nat} {te : Fam TE} {D : Addr} {H1 : Hp} {Q : VK} (Pv : Nat → Hp → List V → Prop) (h0 : Pv 0 (upd H1 D (.lst [])) [])
    (hl : ∀ i H ys, i ≤ xs.length → Pv i H ys → SqL K H a xs ∧ H D = some (.lst ys))
    (hs : ∀ i x H ys, xs[i]? = some x → Pv i H ys → ∀ C s H0 fp, te C s H0 fp ((capS σ 1 cap).set 0 (some x)) H fun y H6 => H6 D = some (.lst ys) ∧ ys.length < sizeLine ∧ Pv (i + 1) (upd H6 D (.lst (ys ++ [y]))) (ys ++ [y]))
    (hd : ∀ H ys, Pv xs.length H ys → Q (.ref D) H) : LcGoal (Itl K a) (capS σ 1 cap) g1 tA te D H1 Q := by
  unfold LcGoal
  refine ⟨xs.length, fun i H ys => i ≤ xs.length ∧ Pv i H ys, ⟨Nat.zero_le _, h0⟩, ?_⟩
  rintro i H2 ys ⟨hi, p⟩
  obtain ⟨q, hD⟩ := hl i H2 ys hi p
  refine ⟨hi, hD, ?_⟩
  by_cases hlt : i < xs.length
  · refine .inr ⟨hlt, ⟨xs, xs[i], q, by simp [hlt]⟩, fun C s H0 fp x H3 y => ?_⟩
    obtain ⟨e, y⟩ := y
    subst e
    refine ⟨ext_set0 σ 0 cap x, ?_⟩
    show tAlw _ _ _
    unfold tAlw
    dsimp only
    rw [if_pos rfl]
    have := hs i x H3 ys (y xs q) p C s H0 fp
    have e : (fun (y : V) (H6 : Hp) => H6 D = some (HO.lst ys) ∧ ys.length < sizeLine ∧ (i + 1 ≤ xs.length ∧ Pv (i + 1) (upd H6 D (.lst (ys ++ [y]))) (ys ++ [y]))) = fun y H6 => H6 D = some (.lst ys) ∧ ys.length < sizeLine ∧ Pv (i + 1) (upd H6 D (.lst (ys ++ [y]))) (ys ++ [y]) := by
      funext y H6
      exact propext ⟨fun ⟨a, b, _, c⟩ => ⟨a, b, c⟩, fun ⟨a, b, c⟩ => ⟨a, b, hlt, c⟩⟩
    rw [e]
    exact this
  · have e : i = xs.length := by omega
    subst e
    exact .inl ⟨⟨xs, q, Nat.le_refl _⟩, hd H2 ys p⟩
theorem Same.new {H : Hp} {D : Addr} (h : H D = none) (o : HO) : Same H (upd H D o) := fun b u e => by rw [upd_ne (ne_of_none e h)]; exact e
theorem map_take_succ {α β : Type} (f : α → β) (xs : List α) (i : Nat) (x : α) (h : xs[i]? = some x) : (xs.take (i + 1)).map f = (xs.take i).map f ++ [f x] := by
  rw [List.take_add_one, h]; simp
/-- one name, a list, the heap untouched by the element -/
theorem lc_listP {K : PySem.W.Frag} {a : Addr} {xs : List V} {σ : St} {cap : List Nat} {te : Fam TE} {D : Addr} {H1 : Hp} {Q : VK} (f : V → V) (hD : H1 D = none) (hS : SqL K H1 a xs) (hz : xs.length ≤ sizeLine)
    (hs : ∀ (i : Nat) x ys C s H0 fp (R : VK), xs[i]? = some x → R (f x) (upd H1 D (.lst ys)) → te C s H0 fp ((capS σ 1 cap).set 0 (some x)) (upd H1 D (.lst ys)) R)
    (hq : Q (.ref D) (upd H1 D (.lst (xs.map f)))) : LcGoal (Itl K a) (capS σ 1 cap) g1 tA te D H1 Q := by
  refine lc_list (xs := xs) (fun i H ys => i ≤ xs.length ∧ ys = (xs.take i).map f ∧ H = upd H1 D (.lst ys)) ⟨Nat.zero_le _, by simp, rfl⟩ ?_ ?_ ?_
  · rintro i H ys hi ⟨_, rfl, rfl⟩
    exact ⟨(Same.new hD _).seq hS, upd_same⟩
  · rintro i x H ys hx ⟨_, rfl, rfl⟩ C s H0 fp
    have hlt : i < xs.length := (List.getElem?_eq_some_iff.mp hx).1
    refine hs i x _ C s H0 fp _ hx ⟨upd_same, ?_, hlt, (map_take_succ f xs i x hx).symm, upd_upd⟩
    rw [List.length_map, List.length_take]
    omega
  · rintro H ys ⟨_, rfl, rfl⟩
    rw [List.take_of_length_le (Nat.le_refl _)]
    exact hq
theorem small100 {n : Nat} (h : n ≤ 100) : n < sizeLine := small1000 (by omega)
theorem Same.put {H H' : Hp} {q : Addr} {o : HO} (s : Same H H') (n : H q = none) : Same H (upd H' q o) := fun b u e => by rw [upd_ne (ne_of_none e n)]; exact s b u e
theorem atI_lastM (s : List Int) (y : Int) : atI (((y :: s).reverse).map V.int) (-1) = some (V.int y) := by rw [List.reverse_cons, List.map_append]; exact atI_last _ _
theorem get_lastM (s : List Int) (y : Int) : (((y :: s).reverse).map V.int)[(((y :: s).reverse).map V.int).length - 1]? = some (V.int y) := by
  rw [List.reverse_cons, List.map_append, List.length_append]
  simp
theorem dropLastM (s : List Int) (y : Int) : (((y :: s).reverse).map V.int).dropLast = (s.reverse).map V.int := by
  rw [List.reverse_cons, List.map_append]
  simp
theorem get_mapM {xs : List Int} {i : Nat} {y : V} (h : (xs.map V.int)[i]? = some y) : ∃ z, y = V.int z ∧ xs[i]? = some z := by
  rw [List.getElem?_map] at h
  cases e : xs[i]? with
  | none => rw [e] at h; cases h
  | some z => rw [e] at h; exact ⟨z, (Option.some.inj h).symm, rfl⟩
/-- a list of ints at a -/
abbrev IL (H : Hp) (a : Addr) (ns : List Int) : Prop := H a = some (.lst (ns.map V.int))
end L2

namespace L2
open PySem PySem.Spec PyProof.Rows
/-! ### chains of comparisons of any length, as tests -/
section
variable {X : Cx} {pos : Pos} {e e' a : Expr} {es : List Expr} {op op' : CmpOp} {ops : List CmpOp} {te ta : TE} {t : V → TT} {r : R2}
end
section
variable {X : Cx}
/-! ### is True, is not True -/
/-! ### max, min of a list of ints; index -/
theorem call_maxL (hc : X.calm = true) : CallR X (.builtin "max") (fun xs H Q => ∃ (p : Addr) (ns : List Int), xs = [.ref p] ∧ SqL X.K H p (ns.map V.int) ∧ ns ≠ [] ∧ ∀ M, M ∈ ns → (∀ a, a ∈ ns → a ≤ M) → Q (.int M) H) := by
  intro pins s σ H xs us Q I r h
  obtain ⟨p, ns, rfl, hq, hne, q⟩ := h
  obtain ⟨u, rfl, rx⟩ := vals1 r
  cases rx
  obtain ⟨its, r', pl, hz⟩ := I.list hq
  have hi := intsAre_of r'
  obtain ⟨xs, hx⟩ := hi.allInts.items
  have hl' : s.heap.IsList p (intItems xs) := hx ▸ pl.isList
  have e1 : ns = xs.toList.map (·.1) := by
    rw [← nums_intItems, ← hx]
    exact (show numsOf its.toArray.toList = ns from hi.numsOf).symm
  have hsz : 0 < xs.size := by
    have : 0 < ns.length := List.length_pos_iff.mpr hne
    rw [e1, List.length_map, Array.length_toList] at this; exact this
  refine max_intList (I.ok.hd hc) hl' hsz fun v h' tk hv hk => ?_
  obtain ⟨t, rfl⟩ := intItems_at hv
  obtain ⟨h1, h2⟩ := argBest_gt (numAt xs) (xs.size - 1)
  refine ⟨.int _, H, I.kept hk, ⟨_, rfl⟩, q _ ?_ fun a ha => ?_⟩
  · rw [e1, numAt_eq]; exact getD_mem (by rw [List.length_map, Array.length_toList]; omega)
  · rw [e1] at ha
    obtain ⟨j, hj, rfl⟩ := mem_getD ha
    rw [List.length_map, Array.length_toList] at hj
    rw [← numAt_eq]; exact h2 j (by omega)
end
end L2

namespace L2
open PySem PySem.Spec PyProof.Rows
/-! ### a step deeper -/
section
variable {X : Cx} {pins : List (Addr × Obj)} {σ : St} {H : Hp} {s : Shared}
end
/-! ### list(iterator) -/
section
variable {X : Cx} {pins : List (Addr × Obj)} {σ : St}
end
end L2

namespace L2
open PySem PySem.Spec PyProof.Rows
section
variable {prog : Program} {w : World} {A : Around} {E : Value → Shared → Prop} {s : Shared}
end
/-! ### reversed(list) -/
section
variable {X : Cx} {tg : Expr}
end
end L2

namespace L2
open PySem PySem.Spec PyProof.Rows
section
variable {prog : Program} {w : World} {A : Around} {E : Value → Shared → Prop} {s : Shared}
end
end L2

namespace L2
open PySem PySem.Spec PyProof.Rows
section
variable {X : Cx} {tg : Expr}
end
end L2

namespace L2
open PySem PySem.Spec PyProof.Rows
end L2

namespace Sky
/-! ### who sees whom -/
end Sky

namespace Sky
/-! ### reaches -/
theorem drop_drop {α : Type} {p q : α → Bool} (h : ∀ x, p x = true → q x = true) : ∀ l : List α, (l.dropWhile p).dropWhile q = l.dropWhile q
  | [] => rfl
  | x :: l => by
    cases hp : p x with
    | true => rw [List.dropWhile_cons, if_pos hp, drop_drop h l, List.dropWhile_cons, if_pos (h x hp)]
    | false => rw [List.dropWhile_cons (p := p), if_neg (by simp [hp])]
/-! ### boards -/
end Sky

namespace Sky
open PySem L2
/-- the built-in names that the text leaves as they are -/
structure Blt (mg : Str → Option Value) : Prop where
  isinstance : mg "isinstance" = none
  int : mg "int" = none
  bool : mg "bool" = none
  list : mg "list" = none
  len : mg "len" = none
  range : mg "range" = none
  enumerate : mg "enumerate" = none
  reversed : mg "reversed" = none
  min : mg "min" = none
  max : mg "max" = none
  sum : mg "sum" = none
  all : mg "all" = none
  sorted : mg "sorted" = none
  zip : mg "zip" = none
  any : mg "any" = none
  tuple : mg "tuple" = none
def Hi (mg : Str → Option Value) : Prop := ∃ t, mg "HIGHEST" = some (.int 10000000 t)
theorem atI_mapM {xs : List Int} {i : Nat} (hi : i < xs.length) : atI (xs.map V.int) (i : Int) = some (V.int (xs.getD i 0)) := by
  refine atI_nat ?_
  rw [List.getElem?_map, List.getD_eq_getElem?_getD, List.getElem?_eq_getElem hi]; rfl
theorem boot_isinst' : bootBuiltins "isinstance" = some (.builtin "isinstance") := by decide +kernel
theorem boot_all' : bootBuiltins "all" = some (.builtin "all") := by decide +kernel
theorem boot_sorted' : bootBuiltins "sorted" = some (.builtin "sorted") := by decide +kernel
theorem boot_sum' : bootBuiltins "sum" = some (.builtin "sum") := by decide +kernel
theorem boot_any' : bootBuiltins "any" = some (.builtin "any") := by decide +kernel
theorem boot_int' : bootBuiltins "int" = some (.type "int") := by decide +kernel
theorem boot_bool' : bootBuiltins "bool" = some (.type "bool") := by decide +kernel
theorem boot_list' : bootBuiltins "list" = some (.type "list") := by decide +kernel
theorem kit_ii (K : PySem.W.Frag) : PySem.W.kitOne K (.type "int") (.type "int") = some true := by rfl
theorem kit_ib (K : PySem.W.Frag) : PySem.W.kitOne K (.type "int") (.type "bool") = some false := by with_unfolding_all rfl
theorem kit_ll (K : PySem.W.Frag) : PySem.W.kitOne K (.type "list") (.type "list") = some true := by rfl
def Hts (ns : List Int) : Prop := ns.length ≤ 100 ∧ ∀ x ∈ ns, 0 ≤ x ∧ x ≤ 10000000
/-- a new list of ints comes back, nothing else is touched -/
def newL (H : Hp) (Q : VK) (ns : List Int) : Prop := ∀ (l : Addr) (H' : Hp), H l = none → Same H H' → IL H' l ns → Q (.ref l) H'
abbrev cst (st : List Nat) : List Int := st.map fun (j : Nat) => (j : Int)
/-! ### what the defs promise -/
def spWithin : Sp := fun vs H Q _ => ∃ i lo hi : Int, vs = [.int i, .int lo, .int hi] ∧ Q (.bl (decide (lo ≤ i ∧ i ≤ hi))) H
def spChk : Sp := fun vs H Q _ => ∃ (a : Addr) (xs : List Int), vs = [.ref a] ∧ IL H a xs ∧ Hts xs ∧ ∀ H', Same H H' → Q .non H'
def spBars (K : PySem.W.Frag) : Sp := fun vs H Q _ => ∃ (a : Addr) (ns : List Int), vs = [.ref a] ∧ SqL K H a (ns.map V.int) ∧ ns.length ≤ 63 ∧ ∀ bs : List Int, bs.length = ns.length → Hts bs → newL H Q bs
def spNums : Sp := fun vs H Q _ => ∃ (a : Addr) (xs : List Int), vs = [.ref a] ∧ IL H a xs ∧ xs.length ≤ 100 ∧ ∀ H', Same H H' → Q (.bl true) H'
def spLaw (K : PySem.W.Frag) : Sp := fun vs H Q _ => ∃ (a : Addr) (ns : List Int), vs = [.ref a] ∧ SqL K H a (ns.map V.int) ∧ ns.length ≤ 63 ∧ ∀ H', Q (.bl true) H'
/-- a def of the text as the top has left it -/
structure DefIn (K : PySem.W.Frag) (x : Str) (st : Stmt) (f : Addr) : Prop where
  ns : PySem.W.nsIn K mainGlobals x = some (some (.ref f))
  fn : ∃ fd, Fun K x x st f fd
theorem def_mk {K : PySem.W.Frag} {x : Str} {st : Stmt} {f : Addr} {oc : Value} {od an : Option Addr} {osl : Array (Option Value)} {kV doc pm cdv ct : Value} (a : PySem.W.nsIn K mainGlobals x = some (some (.ref f)))
    (l : K.lookup f = some ⟨oc, od, .func (PySem.W.fnOf x x (defArgs st) (defBody st) (defScope st) .none kV doc pm an cdv ct), osl⟩) (c : PySem.W.codeIn K cdv x = true) (k : PySem.W.keepIn K (.ref f) = true) : DefIn K x st f := ⟨a, _, fun_mk l c k⟩
/-- the promise of the law by its walk -/
theorem walk (k : Nat) {l : PySem.W.OpenLaw} {q : Program} {loose : List Str} {XP : (Str → Option Value) → Heap → Prop} {YP : World → Heap → Prop} {d : DefRec} {K : Params → PySem.W.Frag} (hr : Room k callerA) (hn : l.most = some 63) (hdf : d.params.defaults = [])
    (hY : ∀ (w : World) (h : Heap), YP w h → (K w.params).In h)
    (F : ∀ (w : World) (mg : Str → Option Value) (fa : Addr) (h : Heap), (K w.params).In h → h.Ns mainGlobals mg → mg d.name = some (.ref fa) →
      ∃ fd : FuncData, (∀ (s : Shared) (u : Value), BindsTo s fd ⟨[u], []⟩ [("_law_script", u)]) ∧ ∀ base : Heap, (K w.params).In base → base.Ns mainGlobals mg → FnOk l.prog w (K w.params) mg base CX0 k fa fd ["_law_script"] (spLaw (K w.params))) :
    PySem.W.WalkO q loose XP YP l.row.toRowW d [] (fun f vs => PySem.call f vs) :=
  L2.walk_of (n := 63) (k := k) (x := "_law_script") (CX := fun _ => CX0) (sp := fun w => spLaw (K w.params)) hn (by decide) hdf hr hY F (fun _ _ a ns hl _ hS => ⟨a, ns, rfl, hS, hl, fun _ => rfl⟩) fun _ _ _ _ _ z => z
end Sky

namespace Sky
open PySem L2
theorem iteD {c : Prop} {A B : Prop} [Decidable c] (hc : ¬ c) (h : B) : if decide c = true then A else B := by rw [if_neg (fun z => hc (of_decide_eq_true z))]; exact h
theorem iteE {c : Prop} {A B : Prop} [Decidable c] (hc : c) (h : A) : if decide c = true then A else B := by rw [if_pos (decide_eq_true hc)]; exact h
theorem dec_int' (i j : Int) : decide (V.int i = V.int j) = decide (i = j) := by
  by_cases e : i = j
  · subst e; simp
  · rw [decide_eq_false e, decide_eq_false (fun z => e (V.int.inj z))]
end Sky
namespace Sky
open PySem L2
end Sky

namespace L2
open PySem PySem.Spec PyProof.Rows
/-! ### data compared: lists and tuples of ints, bools, texts, to any depth -/
mutual
inductive Dat (K : PySem.W.Frag) (H : Hp) : V → PyData → Prop where
  | non : Dat K H .non .none
  | bl (b : Bool) : Dat K H (.bl b) (.bool b)
  | int (i : Int) : Dat K H (.int i) (.int i)
  | str (x : Str) : Dat K H (.str x) (.str x)
  | lst {a : Addr} {xs : List V} {ds : List PyData} (h : SqL K H a xs) (d : DatAll K H xs ds) : Dat K H (.ref a) (.list ds)
  | tup {a : Addr} {xs : List V} {ds : List PyData} (h : SqT K H a xs) (d : DatAll K H xs ds) : Dat K H (.ref a) (.tuple ds)
inductive DatAll (K : PySem.W.Frag) (H : Hp) : List V → List PyData → Prop where
  | nil : DatAll K H [] []
  | cons {x : V} {d : PyData} {xs : List V} {ds : List PyData} (h : Dat K H x d) (t : DatAll K H xs ds) : DatAll K H (x :: xs) (d :: ds)
end
section
variable {X : Cx} {pins : List (Addr × Obj)} {σ : St} {H : Hp} {s : Shared}
mutual
theorem Dat.reads (I : Inv X pins σ H s) : ∀ {x : V} {d : PyData} {u : Value}, Dat X.K H x d → RelV x u → ∃ as, Reads s.heap u d as
  | _, _, _, .non, r => by cases r; exact ⟨_, .none⟩
  | _, _, _, .bl b, r => by cases r; exact ⟨_, .bool b⟩
  | _, _, _, .int i, r => by obtain ⟨t, rfl⟩ := r; exact ⟨_, .int i t⟩
  | _, _, _, .str z, r => by obtain ⟨t, rfl⟩ := r; exact ⟨_, .str z t⟩
  | _, _, _, .lst h d, r => by
    cases r
    obtain ⟨its, rv, pl, _⟩ := I.list h
    obtain ⟨as, ra⟩ := DatAll.reads I d rv
    obtain ⟨o, ho, hc, n, hd⟩ := id pl.isList
    exact ⟨_, .list ho hc hd ra⟩
  | _, _, _, .tup h d, r => by
    cases r
    obtain ⟨its, rv, pl, _⟩ := I.tuple h
    obtain ⟨as, ra⟩ := DatAll.reads I d rv
    obtain ⟨o, ho, hc, n, hd⟩ := id pl
    exact ⟨_, .tuple ho hc hd ra⟩
theorem DatAll.reads (I : Inv X pins σ H s) : ∀ {xs : List V} {ds : List PyData} {us : List Value}, DatAll X.K H xs ds → Vals xs us → ∃ as, ReadsAll s.heap us ds as
  | _, _, _, .nil, r => by cases r; exact ⟨_, .nil⟩
  | _, _, _, .cons h t, r => by
    cases r with
    | cons r1 r2 =>
      obtain ⟨as, ra⟩ := Dat.reads I h r1
      obtain ⟨bs, rb⟩ := DatAll.reads I t r2
      exact ⟨_, .cons ra rb⟩
end
/-- x == y, x != y of data of one plain shape -/
def rEqD (K : PySem.W.Frag) (neg : Bool) : R2 := fun x y H Q => ∃ (d e : PyData) (S : Shape), Dat K H x d ∧ Dat K H y e ∧ SeqAt.plainShape S = true ∧ S.has d = true ∧ S.has e = true ∧ SeqAt.shaped d = true ∧ SeqAt.shaped e = true ∧
  Q (.bl (if neg then !PySem.Spec.same d e else PySem.Spec.same d e)) H
theorem op_neD {X : Cx} (hu : X.A.units + 64 < cLine) : OpR X (compareOp .NotEq) (rEqD X.K true) := by
  intro pins s σ H x y v u Q I rx ry h
  obtain ⟨d, e, S, hd, he, hp, h1, h2, h3, h4, q⟩ := h
  obtain ⟨as, ra⟩ := hd.reads I rx
  obtain ⟨bs, rb⟩ := he.reads I ry
  exact ne_dataH_same ra rb h3 h4 hu (SeqAt.noMix_of_shape S hp _ _ h1 h2) ⟨.bl (!PySem.Spec.same d e), H, I, rfl, q⟩
end
/-! ### lists of pairs -/
/-! ### comprehensions with a test -/
end L2

namespace L2
open PySem PySem.Spec PyProof.Rows
/-! ### max(xs, default = d) -/
section
variable {prog : Program} {w : World} {A : Around}
variable {R : Result → Shared → Prop} {I : Addr} {fp wr : List Addr} {n : Nat} {P : Nat → Value → Prop} {St : Nat → Heap → Prop} {kw : List (Str × Value)}
end
section
variable {X : Cx} {pins : List (Addr × Obj)} {σ : St} {H : Hp} {s : Shared}
end
section
variable {X : Cx}
end
end L2

namespace L2
open PySem PySem.Spec PyProof.Rows
/-! ### lists of new pairs, one by one -/
end L2

namespace Sky
/-! ### links, shown bars, reaches told backwards -/
end Sky

namespace Sky
open PySem L2
theorem ifT (b : Bool) : (if true = true then !b else b) = !b := by simp
theorem ifF (b : Bool) : (if false = true then !b else b) = b := by simp
theorem iteNeg {c A B : Prop} [Decidable c] (hc : c) (h : B) : if (if true = true then !decide c else decide c) = true then A else B := by rw [ifT, decide_eq_true hc]; exact iteF h
theorem atI_map' {xs : List Int} {z : Int} (i : Nat) (e : z = (i : Int)) (hi : i < xs.length) : atI (xs.map V.int) z = some (V.int (xs.getD i 0)) := by rw [e]; exact atI_mapM hi
end Sky
namespace Sky
open PySem L2
end Sky

namespace Sky
/-! ### water -/
end Sky

namespace Sky
open PySem L2
end Sky

namespace Sky
/-! ### links and rows -/
end Sky

namespace Sky
open PySem L2
theorem getD_set {xs : List Int} {i j : Nat} {v : Int} (hj : j < xs.length) : (xs.set i v).getD j 0 = if i = j then v else xs.getD j 0 := by
  by_cases h : i = j
  · subst h
    rw [if_pos rfl, List.getD_eq_getElem?_getD, List.getElem?_set_self hj]; rfl
  · rw [if_neg h, List.getD_eq_getElem?_getD, List.getElem?_set_ne h, List.getD_eq_getElem?_getD]
theorem ixN_nat {n i : Nat} (h : i < n) : ixN n (i : Int) = some i := by
  unfold ixN
  rw [if_pos (by omega), if_pos (by omega)]; rfl
end Sky

namespace Sky
/-! ### trees -/
/-- the nearest place ahead of i that is no higher, or -1 -/
def aG (b : List Int) (h : Int) : Nat → Int
  | 0 => -1
  | n + 1 => if b.getD n 0 ≤ h then (n : Int) else aG b h n
def aN (b : List Int) (i : Nat) : Int := aG b (b.getD i 0) i
theorem aG_spec (b : List Int) (h : Int) : ∀ n : Nat, -1 ≤ aG b h n ∧ aG b h n < n ∧ (∀ k : Nat, aG b h n < (k : Int) → k < n → h < b.getD k 0) ∧ (0 ≤ aG b h n → b.getD (aG b h n).toNat 0 ≤ h)
  | 0 => ⟨by simp [aG], by simp [aG], fun k _ h => by omega, fun h => by simp [aG] at h⟩
  | n + 1 => by
    obtain ⟨h1, h2, h3, h4⟩ := aG_spec b h n
    unfold aG
    split
    · rename_i hc
      exact ⟨by omega, by omega, fun k k1 k2 => by omega, fun _ => by simpa using hc⟩
    · rename_i hc
      refine ⟨h1, by omega, fun k k1 k2 => ?_, h4⟩
      by_cases hk : k = n
      · subst hk; omega
      · exact h3 k k1 (by omega)
theorem aG_uniq {b : List Int} {h : Int} {n : Nat} {a : Int} (h1 : -1 ≤ a) (h2 : a < n) (h3 : ∀ k : Nat, a < (k : Int) → k < n → h < b.getD k 0) (h4 : 0 ≤ a → b.getD a.toNat 0 ≤ h) : a = aG b h n := by
  obtain ⟨g1, g2, g3, g4⟩ := aG_spec b h n
  by_cases hc : a < aG b h n
  · have := h3 (aG b h n).toNat (by omega) (by omega)
    have := g4 (by omega)
    omega
  · by_cases hd : aG b h n < a
    · have := g3 a.toNat (by omega) (by omega)
      have := h4 (by omega)
      omega
    · omega
/-- the nearest lower place behind i ahead of p, or p -/
def bG (b : List Int) (h : Int) (i : Nat) : Nat → Nat
  | 0 => 0
  | p + 1 => if bG b h i p < p then bG b h i p else if i < p ∧ b.getD p 0 < h then p else p + 1
def bN (b : List Int) (i p : Nat) : Nat := bG b (b.getD i 0) i p
theorem bG_spec (b : List Int) (h : Int) (i : Nat) : ∀ p : Nat, bG b h i p ≤ p ∧ (bG b h i p < p → i < bG b h i p ∧ b.getD (bG b h i p) 0 < h) ∧ ∀ k, i < k → k < bG b h i p → h ≤ b.getD k 0
  | 0 => ⟨Nat.le_refl _, fun h => by simp [bG] at h, fun k _ h => by simp [bG] at h⟩
  | p + 1 => by
    obtain ⟨h1, h2, h3⟩ := bG_spec b h i p
    unfold bG
    split
    · rename_i hc
      exact ⟨by omega, fun _ => h2 hc, h3⟩
    · rename_i hc
      have e : bG b h i p = p := by omega
      rw [e] at h3
      split
      · rename_i hd
        exact ⟨by omega, fun _ => hd, h3⟩
      · rename_i hd
        refine ⟨Nat.le_refl _, fun h => by omega, fun k k1 k2 => ?_⟩
        by_cases hk : k = p
        · subst hk
          by_cases hlt : b.getD k 0 < h
          · exact absurd ⟨k1, hlt⟩ hd
          · omega
        · exact h3 k k1 (by omega)
theorem bG_uniq {b : List Int} {h : Int} {i p q : Nat} (hq : q ≤ p) (h1 : q < p → i < q ∧ b.getD q 0 < h) (h2 : ∀ k, i < k → k < q → h ≤ b.getD k 0) (hip : i < q) : q = bG b h i p := by
  obtain ⟨g1, g2, g3⟩ := bG_spec b h i p
  rcases Nat.lt_trichotomy q (bG b h i p) with hc | hc | hc
  · have := g3 q hip hc
    have := h1 (by omega)
    omega
  · exact hc
  · have := g2 (by omega)
    have := h2 _ this.1 hc
    omega
theorem bN_gt (b : List Int) {i p : Nat} (h : i < p) : i < bN b i p := by
  obtain ⟨g1, g2, g3⟩ := bG_spec b (b.getD i 0) i p
  unfold bN
  by_cases hc : bG b (b.getD i 0) i p < p
  · exact (g2 hc).1
  · omega
/-- beneath which place i hangs, the bars ahead of p alone -/
def par (b : List Int) (i p : Nat) : Int := if bN b i p = p then aN b i else if aN b i < 0 ∨ b.getD (aN b i).toNat 0 ≤ b.getD (bN b i p) 0 then (bN b i p : Int) else aN b i
def treeL (b : List Int) : List Int := (List.range b.length).map fun i => par b i b.length
theorem treeL_length (b : List Int) : (treeL b).length = b.length := by simp [treeL]
theorem treeL_get {b : List Int} {i : Nat} (hi : i < b.length) : (treeL b)[i]? = some (par b i b.length) := by
  unfold treeL; rw [List.getElem?_map, List.getElem?_range hi]; rfl
theorem treeL_getD {b : List Int} {i : Nat} (hi : i < b.length) : (treeL b).getD i 0 = par b i b.length := by
  rw [List.getD_eq_getElem?_getD, treeL_get hi]; rfl
/-- what is known of the two neighbours -/
structure Nb (b : List Int) (i : Nat) (a : Int) (q : Nat) : Prop where
  a1 : -1 ≤ a
  a2 : a < i
  a3 : ∀ k : Nat, a < (k : Int) → k < i → b.getD i 0 < b.getD k 0
  a4 : 0 ≤ a → b.getD a.toNat 0 ≤ b.getD i 0
  q1 : i < q
  q2 : q ≤ b.length
  q3 : ∀ k, i < k → k < q → b.getD i 0 ≤ b.getD k 0
  q4 : q < b.length → b.getD q 0 < b.getD i 0
theorem nb (b : List Int) {i : Nat} (hi : i < b.length) : Nb b i (aN b i) (bN b i b.length) := by
  obtain ⟨h1, h2, h3, h4⟩ := aG_spec b (b.getD i 0) i
  obtain ⟨g1, g2, g3⟩ := bG_spec b (b.getD i 0) i b.length
  exact ⟨h1, h2, h3, h4, bN_gt b hi, g1, g3, fun h => (g2 h).2⟩
theorem Nb.uniq {b : List Int} {i : Nat} {a : Int} {q : Nat} (h : Nb b i a q) : a = aN b i ∧ q = bN b i b.length :=
  ⟨aG_uniq h.a1 h.a2 h.a3 h.a4, bG_uniq h.q2 (fun z => ⟨h.q1, h.q4 z⟩) h.q3 h.q1⟩
theorem Nb.par {b : List Int} {i : Nat} {a : Int} {q : Nat} (h : Nb b i a q) : par b i b.length = if q = b.length then a else if a < 0 ∨ b.getD a.toNat 0 ≤ b.getD q 0 then (q : Int) else a := by
  obtain ⟨e1, e2⟩ := h.uniq
  unfold Sky.par
  rw [← e1, ← e2]
/-- how deep a place hangs -/
inductive Dep (P : List Int) : Nat → Nat → Prop where
  | root {i : Nat} (hi : i < P.length) (h : P.getD i 0 = -1) : Dep P i 0
  | under {i j d : Nat} (hi : i < P.length) (h : P.getD i 0 = (j : Int)) (t : Dep P j d) : Dep P i (d + 1)
theorem Dep.uniq {P : List Int} {i d : Nat} (h : Dep P i d) : ∀ {e : Nat}, Dep P i e → d = e := by
  induction h with
  | root hi h =>
    intro e h'
    cases h' with
    | root => rfl
    | under _ h2 _ => rw [h] at h2; omega
  | under hi h t ih =>
    intro e h'
    cases h' with
    | root _ h2 => rw [h] at h2; omega
    | under _ h2 t2 =>
      have e : _ = _ := h.symm.trans h2
      have e' := Int.ofNat.inj e
      subst e'
      rw [ih t2]
/-- where the parent of a place lies -/
theorem par_key {b : List Int} {i : Nat} (hi : i < b.length) : par b i b.length = -1 ∨ ∃ j : Nat, j < b.length ∧ par b i b.length = (j : Int) ∧ ((j < i ∧ b.getD j 0 ≤ b.getD i 0) ∨ b.getD j 0 < b.getD i 0) := by
  have N := nb b hi
  rw [N.par]
  have ha : aN b i = -1 ∨ ∃ j : Nat, j < b.length ∧ aN b i = (j : Int) ∧ ((j < i ∧ b.getD j 0 ≤ b.getD i 0) ∨ b.getD j 0 < b.getD i 0) := by
    have := N.a1
    have := N.a2
    by_cases h0 : 0 ≤ aN b i
    · exact .inr ⟨(aN b i).toNat, by omega, by omega, .inl ⟨by omega, N.a4 h0⟩⟩
    · exact .inl (by omega)
  split
  · exact ha
  · rename_i hc
    split
    · have := N.q2
      exact .inr ⟨bN b i b.length, by omega, rfl, .inr (N.q4 (by omega))⟩
    · exact ha
/-- every place of a tree hangs somewhere -/
theorem tree_dep {b : List Int} (hb : ∀ i, i < b.length → -1 ≤ b.getD i 0) : ∀ (m i : Nat), i < b.length → (b.getD i 0 + 1).toNat * (b.length + 1) + i < m → ∃ d, Dep (treeL b) i d
  | 0, i, _, h => by omega
  | m + 1, i, hi, h => by
    rcases par_key hi with e | ⟨j, hj, e, hk⟩
    · exact ⟨0, .root (by rw [treeL_length]; exact hi) (by rw [treeL_getD hi]; exact e)⟩
    · have hbi := hb i hi
      have hbj := hb j hj
      have hlt : (b.getD j 0 + 1).toNat * (b.length + 1) + j < (b.getD i 0 + 1).toNat * (b.length + 1) + i := by
        rcases hk with ⟨h1, h2⟩ | h1
        · have : (b.getD j 0 + 1).toNat ≤ (b.getD i 0 + 1).toNat := by omega
          have := Nat.mul_le_mul_right (b.length + 1) this
          omega
        · have : (b.getD j 0 + 1).toNat + 1 ≤ (b.getD i 0 + 1).toNat := by omega
          have := Nat.mul_le_mul_right (b.length + 1) this
          rw [Nat.add_mul] at this
          omega
      obtain ⟨d, hd⟩ := tree_dep hb m j hj (by omega)
      exact ⟨d + 1, .under (by rw [treeL_length]; exact hi) (by rw [treeL_getD hi]; exact e) hd⟩
theorem tree_deps {b : List Int} (hb : ∀ i, i < b.length → -1 ≤ b.getD i 0) {i : Nat} (hi : i < b.length) : ∃ d, Dep (treeL b) i d := tree_dep hb _ i hi (Nat.lt_succ_self _)
/-- what lies between the two neighbours of i hangs beneath it -/
theorem deeper {b : List Int} {i : Nat} (hi : i < b.length) {di : Nat} (Di : Dep (treeL b) i di) : ∀ {j dj : Nat}, Dep (treeL b) j dj → aN b i < (j : Int) → j < bN b i b.length → j ≠ i → di < dj := by
  intro j dj Dj
  have N := nb b hi
  induction Dj with
  | root hj h =>
    rename_i j
    intro j1 j2 jn
    exfalso
    rw [treeL_length] at hj
    rw [treeL_getD hj] at h
    have M := nb b hj
    rw [M.par] at h
    have m1 := M.q1
    have m2 := M.q2
    by_cases hlt : j < i
    · have b1 := N.a3 j j1 hlt
      have hq : bN b j b.length ≤ i := by
        by_cases hc : bN b j b.length ≤ i
        · exact hc
        · have := M.q3 i hlt (by omega); omega
      rw [if_neg (by omega)] at h
      have ha : ¬ aN b j < 0 → 0 ≤ aN b j := fun z => by omega
      split at h
      · omega
      · rename_i hc
        have := M.a1
        have : ¬ aN b j < 0 := fun z => hc (.inl z)
        omega
    · have b1 := N.q3 j (by omega) j2
      have ha : (i : Int) ≤ aN b j := by
        by_cases hc : (i : Int) ≤ aN b j
        · exact hc
        · have := M.a3 i (by omega) (by omega); omega
      split at h
      · omega
      · split at h
        · omega
        · omega
  | under hj h t ih =>
    rename_i j k d
    intro j1 j2 jn
    rw [treeL_length] at hj
    rw [treeL_getD hj] at h
    have M := nb b hj
    rw [M.par] at h
    have m1 := M.q1
    have m2 := M.q2
    have ma1 := M.a1
    have ma2 := M.a2
    have n2 := N.q2
    -- enough: the parent is i, or lies between too
    have enough : (k = i ∨ (aN b i < (k : Int) ∧ k < bN b i b.length)) → di < d + 1 := fun z => by
      by_cases hki : k = i
      · subst hki
        have := t.uniq Di
        omega
      · rcases z with z | z
        · exact absurd z hki
        · have := ih z.1 z.2 hki
          omega
    by_cases hlt : j < i
    · have b1 := N.a3 j j1 hlt
      have hq : bN b j b.length ≤ i := by
        by_cases hc : bN b j b.length ≤ i
        · exact hc
        · have := M.q3 i hlt (by omega); omega
      have hq4 := M.q4 (by omega)
      have hqge : b.getD i 0 ≤ b.getD (bN b j b.length) 0 := by
        by_cases hc : bN b j b.length = i
        · rw [hc]; exact Int.le_refl _
        · have := N.a3 (bN b j b.length) (by omega) (by omega); omega
      rw [if_neg (by omega)] at h
      split at h
      · exact enough (.inr ⟨by omega, by have := N.q1; omega⟩)
      · rename_i hc
        have h0 : ¬ aN b j < 0 := fun z => hc (.inl z)
        have hv : ¬ b.getD (aN b j).toNat 0 ≤ b.getD (bN b j b.length) 0 := fun z => hc (.inr z)
        refine enough (.inr ⟨?_, by have := N.q1; omega⟩)
        -- else the bar ahead of i would be the parent's
        by_cases hc2 : aN b i < (k : Int)
        · exact hc2
        · exfalso
          have hai : 0 ≤ aN b i := by omega
          have := N.a4 hai
          by_cases hc3 : (k : Int) = aN b i
          · rw [h, hc3] at hv; omega
          · have := M.a3 (aN b i).toNat (by omega) (by omega); omega
    · have hgt : i < j := by omega
      have b1 := N.q3 j hgt j2
      have ha : (i : Int) ≤ aN b j := by
        by_cases hc : (i : Int) ≤ aN b j
        · exact hc
        · have := M.a3 i (by omega) hgt; omega
      have hage : b.getD i 0 ≤ b.getD (aN b j).toNat 0 := by
        by_cases hc : (aN b j).toNat = i
        · rw [hc]; exact Int.le_refl _
        · exact N.q3 _ (by omega) (by omega)
      have na := N.a2
      split at h
      · exact enough (.inr ⟨by omega, by omega⟩)
      · rename_i hc
        split at h
        · rename_i hd
          have hv : b.getD (aN b j).toNat 0 ≤ b.getD (bN b j b.length) 0 := by
            rcases hd with hd | hd
            · omega
            · exact hd
          refine enough (.inr ⟨by omega, ?_⟩)
          by_cases hc2 : k < bN b i b.length
          · exact hc2
          · exfalso
            have := N.q4 (by omega)
            by_cases hc3 : k = bN b i b.length
            · have e3 : bN b j b.length = bN b i b.length := by omega
              rw [e3] at hv; omega
            · have := M.q3 (bN b i b.length) (by omega) (by omega); omega
        · exact enough (.inr ⟨by omega, by omega⟩)
/-- bars as high as each hangs deep have the tree -/
theorem tree_again {b D : List Int} (hl : D.length = b.length) (hD : ∀ i, i < b.length → ∃ d : Nat, Dep (treeL b) i d ∧ D.getD i 0 = (d : Int)) : treeL D = treeL b := by
  have key : ∀ i, i < b.length → par D i D.length = par b i b.length := fun i hi => by
    have N := nb b hi
    obtain ⟨di, Di, ei⟩ := hD i hi
    have up : ∀ j, j < b.length → aN b i < (j : Int) → j < bN b i b.length → j ≠ i → D.getD i 0 < D.getD j 0 := fun j hj j1 j2 j3 => by
      obtain ⟨dj, Dj, ej⟩ := hD j hj
      have := deeper hi Di Dj j1 j2 j3
      omega
    -- the two neighbours hang less deep
    have dn : ∀ j, j < b.length → aN b j < (i : Int) → i < bN b j b.length → i ≠ j → D.getD j 0 < D.getD i 0 := fun j hj j1 j2 j3 => by
      obtain ⟨dj, Dj, ej⟩ := hD j hj
      have := deeper hj Dj Di j1 j2 j3
      omega
    have n1 := N.a1
    have n2 := N.a2
    have n3 := N.q1
    have n4 := N.q2
    have ga : 0 ≤ aN b i → D.getD (aN b i).toNat 0 < D.getD i 0 := fun h0 => by
      have ha : (aN b i).toNat < b.length := by omega
      have M := nb b ha
      refine dn _ ha (by have := M.a2; omega) ?_ (by omega)
      by_cases hc : i < bN b (aN b i).toNat b.length
      · exact hc
      · exfalso
        have q1 := M.q1
        have q4 := M.q4 (by omega)
        have a4 := N.a4 h0
        by_cases he : bN b (aN b i).toNat b.length = i
        · rw [he] at q4; omega
        · have := N.a3 (bN b (aN b i).toNat b.length) (by omega) (by omega); omega
    have gb : bN b i b.length < b.length → D.getD (bN b i b.length) 0 < D.getD i 0 := fun h0 => by
      have M := nb b h0
      refine dn _ h0 ?_ (by have := M.q1; omega) (by omega)
      by_cases hc : aN b (bN b i b.length) < (i : Int)
      · exact hc
      · exfalso
        have a2 := M.a2
        have a4 := M.a4 (by omega)
        have q4 := N.q4 h0
        by_cases he : (aN b (bN b i b.length)).toNat = i
        · rw [he] at a4; omega
        · have := N.q3 (aN b (bN b i b.length)).toNat (by omega) (by omega); omega
    have ND : Nb D i (aN b i) (bN b i b.length) := by
      refine ⟨n1, n2, fun k k1 k2 => up k (by omega) k1 (by omega) (by omega), fun h0 => Int.le_of_lt (ga h0), n3, by rw [hl]; exact n4, fun k k1 k2 => Int.le_of_lt (up k (by omega) (by omega) k2 (by omega)), fun h0 => gb (by omega)⟩
    rw [ND.par, N.par, hl]
    by_cases hq : bN b i b.length = b.length
    · rw [if_pos hq, if_pos hq]
    · rw [if_neg hq, if_neg hq]
      have hq' : bN b i b.length < b.length := by omega
      by_cases h0 : aN b i < 0
      · rw [if_pos (.inl h0), if_pos (.inl h0)]
      · have ha : (aN b i).toNat < b.length := by omega
        obtain ⟨da, Da, ea⟩ := hD _ ha
        obtain ⟨dq, Dq, eq⟩ := hD _ hq'
        have M := nb b ha
        have R := nb b hq'
        by_cases hv : b.getD (aN b i).toNat 0 ≤ b.getD (bN b i b.length) 0
        · -- the bar behind hangs beneath the one ahead
          have : da < dq := by
            refine deeper ha Da Dq (by have := M.a2; omega) ?_ (by omega)
            by_cases hc : bN b i b.length < bN b (aN b i).toNat b.length
            · exact hc
            · exfalso
              have q1 := M.q1
              have q4 := M.q4 (by omega)
              by_cases he : bN b (aN b i).toNat b.length = bN b i b.length
              · rw [he] at q4; omega
              · have a4 := N.a4 (by omega)
                by_cases hlt : bN b (aN b i).toNat b.length < i
                · have := N.a3 (bN b (aN b i).toNat b.length) (by omega) hlt; omega
                · by_cases hei : bN b (aN b i).toNat b.length = i
                  · rw [hei] at q4; omega
                  · have := N.q3 (bN b (aN b i).toNat b.length) (by omega) (by omega); omega
          rw [if_pos (.inr (by omega)), if_pos (.inr hv)]
        · have : dq < da := by
            refine deeper hq' Dq Da ?_ (by have := R.q1; omega) (by omega)
            by_cases hc : aN b (bN b i b.length) < ((aN b i).toNat : Int)
            · exact hc
            · exfalso
              have a2 := R.a2
              have a4 := R.a4 (by omega)
              have q4 := N.q4 hq'
              by_cases he : (aN b (bN b i b.length)).toNat = (aN b i).toNat
              · rw [he] at a4; omega
              · by_cases hlt : (aN b (bN b i b.length)).toNat < i
                · have := N.a3 (aN b (bN b i b.length)).toNat (by omega) hlt; omega
                · by_cases hei : (aN b (bN b i b.length)).toNat = i
                  · rw [hei] at a4; omega
                  · have := N.q3 (aN b (bN b i b.length)).toNat (by omega) (by omega); omega
          rw [if_neg (by rintro (z | z) <;> omega), if_neg (by rintro (z | z) <;> omega)]
  apply List.ext_getElem?
  intro i
  by_cases hi : i < b.length
  · rw [treeL_get (by omega), treeL_get hi, key i hi]
  · rw [List.getElem?_eq_none (by rw [treeL_length]; omega), List.getElem?_eq_none (by rw [treeL_length]; omega)]
end Sky

namespace Sky
/-! ### the program's stack of places, for the tree -/
def stkT (b : List Int) : Nat → List Nat
  | 0 => []
  | n + 1 => n :: (stkT b n).dropWhile fun j => decide (b.getD n 0 < b.getD j 0)
def hdI : List Nat → Int
  | [] => -1
  | x :: _ => (x : Int)
theorem stkT_head (b : List Int) : ∀ (n : Nat) (h : Int), hdI ((stkT b n).dropWhile fun j => decide (h < b.getD j 0)) = aG b h n
  | 0, h => rfl
  | n + 1, h => by
    unfold stkT aG
    by_cases hc : b.getD n 0 ≤ h
    · rw [if_pos hc, List.dropWhile_cons, if_neg (fun z => by have := of_decide_eq_true z; omega)]; rfl
    · rw [if_neg hc, List.dropWhile_cons, if_pos (decide_eq_true (by omega)), drop_drop (fun x hx => decide_eq_true (by have := of_decide_eq_true hx; omega))]
      exact stkT_head b n h
def ChT (b : List Int) : List Nat → Prop
  | [] => True
  | x :: r => aN b x = hdI r ∧ ChT b r
theorem ChT.drop {b : List Int} (p : Nat → Bool) : ∀ {l : List Nat}, ChT b l → ChT b (l.dropWhile p)
  | [], _ => True.intro
  | x :: r, h => by
    rw [List.dropWhile_cons]
    split
    · exact ChT.drop p h.2
    · exact h
theorem stkT_ch (b : List Int) : ∀ n, ChT b (stkT b n)
  | 0 => True.intro
  | n + 1 => ⟨(stkT_head b n (b.getD n 0)).symm, (stkT_ch b n).drop _⟩
theorem ChT.tail {b : List Int} : ∀ {l r : List Nat}, ChT b (l ++ r) → ChT b r
  | [], _, h => h
  | _ :: l, _, h => ChT.tail (l := l) h.2
/-- further down the places are lesser and the bars no higher -/
theorem ChT.less {b : List Int} : ∀ {x : Nat} {r : List Nat}, ChT b (x :: r) → ∀ y ∈ r, y < x ∧ b.getD y 0 ≤ b.getD x 0
  | x, [], _, y, hy => by simp at hy
  | x, z :: r, h, y, hy => by
    have ha := aG_spec b (b.getD x 0) x
    have e : aG b (b.getD x 0) x = (z : Int) := h.1
    rw [e] at ha
    have h1 : z < x := by omega
    have h2 : b.getD z 0 ≤ b.getD x 0 := ha.2.2.2 (by omega)
    rcases List.mem_cons.mp hy with rfl | hy
    · exact ⟨h1, h2⟩
    · have := ChT.less h.2 y hy
      omega
theorem stkT_lt (b : List Int) : ∀ (n j : Nat), j ∈ stkT b n → j < n
  | 0, j, h => by simp [stkT] at h
  | n + 1, j, h => by
    unfold stkT at h
    rcases List.mem_cons.mp h with rfl | h
    · omega
    · have := stkT_lt b n j ((List.dropWhile_sublist _).subset h)
      omega
theorem stkT_length (b : List Int) : ∀ n, (stkT b n).length ≤ n
  | 0 => Nat.le_refl _
  | n + 1 => by
    unfold stkT
    have h1 := stkT_length b n
    have h2 := (List.dropWhile_sublist (l := stkT b n) fun j => decide (b.getD n 0 < b.getD j 0)).length_le
    simp only [List.length_cons]; omega
theorem drop_app {α : Type} {q : α → Bool} : ∀ {p s : List α}, (∀ x ∈ p, q x = true) → (∀ x r, s = x :: r → q x = false) → (p ++ s).dropWhile q = s
  | [], [], _, _ => rfl
  | [], x :: r, _, h => by
    rw [List.nil_append, List.dropWhile_cons, if_neg (by rw [h x r rfl]; simp)]
  | y :: p, s, h1, h2 => by
    rw [List.cons_append, List.dropWhile_cons, if_pos (h1 y List.mem_cons_self)]
    exact drop_app (fun x hx => h1 x (List.mem_cons_of_mem _ hx)) h2
theorem bN_low (b : List Int) (i : Nat) : ∀ p, p ≤ i + 1 → bN b i p = p
  | 0, _ => rfl
  | p + 1, h => by
    have := bN_low b i p (by omega)
    unfold bN at this ⊢
    unfold bG
    rw [this, if_neg (by omega), if_neg (by omega)]
theorem bN_succ (b : List Int) (i p : Nat) : bN b i (p + 1) = if bN b i p < p then bN b i p else if i < p ∧ b.getD p 0 < b.getD i 0 then p else p + 1 := rfl
theorem bN_le (b : List Int) (i p : Nat) : bN b i p ≤ p := (bG_spec b (b.getD i 0) i p).1
/-- on the stack are those with no lower one behind -/
theorem stkT_mem (b : List Int) : ∀ (p i : Nat), i < p → (i ∈ stkT b p ↔ bN b i p = p)
  | 0, i, h => by omega
  | p + 1, i, h => by
    unfold stkT
    rw [bN_succ]
    by_cases hip : i = p
    · subst hip
      rw [bN_low b i i (by omega), if_neg (by omega), if_neg (by omega)]
      exact ⟨fun _ => rfl, fun _ => List.mem_cons_self⟩
    · have ih := stkT_mem b p i (by omega)
      have ch := stkT_ch b p
      -- what is dropped is higher, what stays is not
      have key : i ∈ (stkT b p).dropWhile (fun j => decide (b.getD p 0 < b.getD j 0)) ↔ i ∈ stkT b p ∧ ¬ b.getD p 0 < b.getD i 0 := by
        constructor
        · intro hm
          refine ⟨(List.dropWhile_sublist _).subset hm, fun hlt => ?_⟩
          have ch2 := ch.drop (fun j => decide (b.getD p 0 < b.getD j 0))
          cases e : (stkT b p).dropWhile (fun j => decide (b.getD p 0 < b.getD j 0)) with
          | nil => rw [e] at hm; simp at hm
          | cons x r =>
            have hx : ¬ (decide (b.getD p 0 < b.getD x 0)) = true := by
              have := List.head?_dropWhile_not (fun j => decide (b.getD p 0 < b.getD j 0)) (stkT b p)
              rw [e] at this
              simpa using this
            have hx' : ¬ b.getD p 0 < b.getD x 0 := fun z => hx (decide_eq_true z)
            rw [e] at hm ch2
            rcases List.mem_cons.mp hm with rfl | hm
            · exact hx' hlt
            · have := ch2.less i hm
              omega
        · rintro ⟨hm, hn⟩
          have e := List.takeWhile_append_dropWhile (p := fun j => decide (b.getD p 0 < b.getD j 0)) (l := stkT b p)
          rw [← e] at hm
          rcases List.mem_append.mp hm with hm | hm
          · exact absurd (of_decide_eq_true (List.all_eq_true.mp (List.all_takeWhile (l := stkT b p)) i hm)) hn
          · exact hm
      rw [List.mem_cons, key, ih]
      have hle := bN_le b i p
      constructor
      · rintro (z | ⟨z1, z2⟩)
        · exact absurd z hip
        · rw [if_neg (by omega), if_neg (fun q => z2 q.2)]
      · intro z
        split at z
        · omega
        · split at z
          · omega
          · rename_i h1 h2
            refine .inr ⟨by omega, fun q => h2 ⟨by omega, q⟩⟩
def lastI (l : List Nat) : Int := match l.getLast? with
  | none => -1
  | some x => (x : Int)
theorem lastI_snoc (l : List Nat) (x : Nat) : lastI (l ++ [x]) = (x : Int) := by unfold lastI; rw [List.getLast?_concat]
theorem lastI_mem {l : List Nat} (h : 0 ≤ lastI l) : (lastI l).toNat ∈ l := by
  unfold lastI at h ⊢
  cases e : l.getLast? with
  | none => rw [e] at h; simp at h
  | some x => exact List.mem_of_getLast? e
theorem lastI_cons (x y : Nat) (r : List Nat) : lastI (x :: y :: r) = lastI (y :: r) := by unfold lastI; rw [List.getLast?_cons_cons]
/-- of those that go, only the last one has a bar beneath it in the stack that stays -/
theorem gone {b : List Int} {h : Int} {st : List Nat} (hst : ∀ x r, st = x :: r → b.getD x 0 ≤ h) : ∀ {pop : List Nat}, ChT b (pop ++ st) → (∀ x ∈ pop, h < b.getD x 0) → ∀ i ∈ pop,
    ((i : Int) = lastI pop ∧ (aN b i < 0 ∨ b.getD (aN b i).toNat 0 ≤ h)) ∨ ((i : Int) ≠ lastI pop ∧ 0 ≤ aN b i ∧ h < b.getD (aN b i).toNat 0)
  | [], _, _, i, hi => by simp at hi
  | [x], ch, hp, i, hi => by
    have e : i = x := by simpa using hi
    subst e
    left
    refine ⟨rfl, ?_⟩
    have e : aN b i = hdI st := ch.1
    rw [e]
    cases hs : st with
    | nil => exact .inl (by simp [hdI])
    | cons y r => exact .inr (hst y r hs)
  | x :: y :: r, ch, hp, i, hi => by
    have ih := gone hst (pop := y :: r) ch.2 (fun z hz => hp z (List.mem_cons_of_mem _ hz))
    rw [lastI_cons]
    have e : aN b x = (y : Int) := ch.1
    have hl : lastI (y :: r) < (x : Int) := by
      by_cases h0 : 0 ≤ lastI (y :: r)
      · have := (ChT.less (x := x) (r := (y :: r) ++ st) ch _ (List.mem_append_left _ (lastI_mem h0))).1
        omega
      · omega
    rcases List.mem_cons.mp hi with rfl | hi
    · right
      refine ⟨by omega, by omega, ?_⟩
      rw [e]
      exact hp y (by simp)
    · exact ih i hi
/-- what one more bar changes -/
theorem par_step {b : List Int} {p : Nat} {pop st : List Nat} (e : pop ++ st = stkT b p) (hp : ∀ x ∈ pop, b.getD p 0 < b.getD x 0) (hst : ∀ x r, st = x :: r → b.getD x 0 ≤ b.getD p 0) {i : Nat} (hi : i < p) :
    par b i (p + 1) = if (i : Int) = lastI pop then (p : Int) else par b i p := by
  have ch : ChT b (pop ++ st) := by rw [e]; exact stkT_ch b p
  have hle := bN_le b i p
  by_cases hm : i ∈ stkT b p
  · have hq := (stkT_mem b p i hi).mp hm
    have e0 : par b i p = aN b i := by unfold par; rw [if_pos hq]
    rw [← e] at hm
    rcases List.mem_append.mp hm with hm | hm
    · have hb := hp i hm
      have hq1 : bN b i (p + 1) = p := by rw [bN_succ, if_neg (by omega), if_pos ⟨hi, hb⟩]
      rcases gone hst ch hp i hm with ⟨z1, z2⟩ | ⟨z1, z2, z3⟩
      · rw [if_pos z1]
        unfold par
        rw [hq1, if_neg (by omega), if_pos z2]
      · rw [if_neg z1, e0]
        unfold par
        rw [hq1, if_neg (by omega), if_neg (by rintro (z | z) <;> omega)]
    · have hb : b.getD i 0 ≤ b.getD p 0 := by
        have cs := ch.tail
        cases hs : st with
        | nil => rw [hs] at hm; simp at hm
        | cons x r =>
          have hx := hst x r hs
          rw [hs] at hm cs
          rcases List.mem_cons.mp hm with rfl | hm
          · exact hx
          · have := cs.less i hm; omega
      have hq1 : bN b i (p + 1) = p + 1 := by rw [bN_succ, if_neg (by omega), if_neg (by omega)]
      have hne : (i : Int) ≠ lastI pop := fun z => by
        have := hp _ (lastI_mem (l := pop) (by omega))
        rw [← z] at this
        simp at this
        rw [List.getD_eq_getElem?_getD, List.getD_eq_getElem?_getD] at hb
        omega
      rw [if_neg hne, e0]
      unfold par
      rw [hq1, if_pos rfl]
  · have hq : bN b i p < p := by
      have : bN b i p ≠ p := fun z => hm ((stkT_mem b p i hi).mpr z)
      omega
    have hne : (i : Int) ≠ lastI pop := fun z => by
      have hmm := lastI_mem (l := pop) (by omega)
      rw [← z] at hmm
      exact hm (e ▸ List.mem_append_left _ hmm)
    rw [if_neg hne]
    have hq1 : bN b i (p + 1) = bN b i p := by rw [bN_succ, if_pos hq]
    unfold par
    rw [hq1, if_neg (show ¬ bN b i p = p + 1 by omega), if_neg (show ¬ bN b i p = p by omega)]
def parL (b : List Int) (p : Nat) : List Int := (List.range p).map fun i => par b i p
theorem parL_length (b : List Int) (p : Nat) : (parL b p).length = p := by simp [parL]
theorem parL_get (b : List Int) {i p : Nat} (h : i < p) : (parL b p)[i]? = some (par b i p) := by
  unfold parL; rw [List.getElem?_map, List.getElem?_range h]; rfl
theorem par_self (b : List Int) (p : Nat) : par b p (p + 1) = aN b p := by
  unfold par
  rw [bN_low b p (p + 1) (by omega), if_pos rfl]
theorem parL_step {b : List Int} {p : Nat} {pop st : List Nat} (e : pop ++ st = stkT b p) (hp : ∀ x ∈ pop, b.getD p 0 < b.getD x 0) (hst : ∀ x r, st = x :: r → b.getD x 0 ≤ b.getD p 0) :
    hdI st = aN b p ∧ parL b (p + 1) = if 0 ≤ lastI pop then (parL b p ++ [aN b p]).set (lastI pop).toNat (p : Int) else parL b p ++ [aN b p] := by
  constructor
  · have h := stkT_head b p (b.getD p 0)
    rw [← e, drop_app (fun x hx => decide_eq_true (hp x hx)) (fun x r hx => decide_eq_false (by have := hst x r hx; omega))] at h
    exact h
  · have hlt : 0 ≤ lastI pop → (lastI pop).toNat < p := fun h0 => stkT_lt b p _ (e ▸ List.mem_append_left _ (lastI_mem h0))
    apply List.ext_getElem?
    intro i
    by_cases hi : i < p + 1
    · rw [parL_get b hi]
      by_cases hip : i = p
      · subst hip
        rw [par_self]
        split
        · rename_i h0
          have := hlt h0
          rw [List.getElem?_set_ne (by omega), List.getElem?_append_right (by rw [parL_length]; exact Nat.le_refl _), parL_length, Nat.sub_self]; rfl
        · rw [List.getElem?_append_right (by rw [parL_length]; exact Nat.le_refl _), parL_length, Nat.sub_self]; rfl
      · have hi' : i < p := by omega
        rw [par_step e hp hst hi']
        split
        · rename_i hz
          rw [if_pos (by omega), ← hz]
          simp only [Int.toNat_natCast]
          rw [List.getElem?_set_self (by rw [List.length_append, parL_length]; omega)]
        · rename_i hz
          split
          · rename_i h0
            rw [List.getElem?_set_ne (by omega), List.getElem?_append_left (by rw [parL_length]; exact hi'), parL_get b hi']
          · rw [List.getElem?_append_left (by rw [parL_length]; exact hi'), parL_get b hi']
    · rw [List.getElem?_eq_none (by rw [parL_length]; omega)]
      split
      · rw [List.getElem?_eq_none (by rw [List.length_set, List.length_append, parL_length]; simp; omega)]
      · rw [List.getElem?_eq_none (by rw [List.length_append, parL_length]; simp; omega)]
theorem parL_all (b : List Int) : parL b b.length = treeL b := rfl
end Sky

namespace Sky
/-! ### how deep: the program's way -/
def PV (P : List Int) : Prop := ∀ i, i < P.length → -1 ≤ P.getD i 0 ∧ P.getD i 0 < (P.length : Int)
def kidN (P : List Int) (a : Int) (n : Nat) : List Nat := (List.range n).filter fun c => decide (P.getD c 0 = a)
theorem kidN_mem {P : List Int} {a : Int} {n c : Nat} : c ∈ kidN P a n ↔ c < n ∧ P.getD c 0 = a := by
  unfold kidN
  rw [List.mem_filter, List.mem_range, decide_eq_true_iff]
theorem kidN_succ (P : List Int) (a : Int) (n : Nat) : kidN P a (n + 1) = if P.getD n 0 = a then kidN P a n ++ [n] else kidN P a n := by
  unfold kidN
  rw [List.range_succ, List.filter_append]
  by_cases h : P.getD n 0 = a
  · rw [if_pos h, List.filter_cons, if_pos (decide_eq_true h)]; rfl
  · rw [if_neg h, List.filter_cons, if_neg (by simpa using h)]; simp
theorem kidN_length (P : List Int) (a : Int) (n : Nat) : (kidN P a n).length ≤ n := by
  have := List.length_filter_le (fun c => decide (P.getD c 0 = a)) (List.range n)
  rw [List.length_range] at this
  exact this
theorem kidN_nodup (P : List Int) (a : Int) (n : Nat) : (kidN P a n).Nodup := (List.nodup_range (n := n)).filter _
def dep0 (P : List Int) (n : Nat) : List Int := (List.range P.length).map fun j => if j < n ∧ P.getD j 0 = -1 then 0 else -1
theorem dep0_length (P : List Int) (n : Nat) : (dep0 P n).length = P.length := by simp [dep0]
theorem dep0_get {P : List Int} {n j : Nat} (hj : j < P.length) : (dep0 P n)[j]? = some (if j < n ∧ P.getD j 0 = -1 then 0 else -1) := by
  unfold dep0; rw [List.getElem?_map, List.getElem?_range hj]; rfl
theorem dep0_getD {P : List Int} {n j : Nat} (hj : j < P.length) : (dep0 P n).getD j 0 = if j < n ∧ P.getD j 0 = -1 then 0 else -1 := by
  rw [List.getD_eq_getElem?_getD, dep0_get hj]; rfl
theorem dep0_zero (P : List Int) : dep0 P 0 = List.replicate P.length (-1) := by
  apply List.ext_getElem?
  intro i
  by_cases hi : i < P.length
  · rw [dep0_get hi, if_neg (by omega), List.getElem?_replicate, if_pos hi]
  · rw [List.getElem?_eq_none (by rw [dep0_length]; omega), List.getElem?_eq_none (by rw [List.length_replicate]; omega)]
theorem dep0_set {P : List Int} {n : Nat} (hn : n < P.length) (h : P.getD n 0 = -1) : (dep0 P n).set n 0 = dep0 P (n + 1) := by
  apply List.ext_getElem?
  intro i
  by_cases hi : i < P.length
  · rw [dep0_get hi]
    by_cases he : i = n
    · subst he
      rw [List.getElem?_set_self (by rw [dep0_length]; exact hi), if_pos ⟨by omega, h⟩]
    · rw [List.getElem?_set_ne (by omega), dep0_get hi]
      congr 1
      by_cases hc : i < n ∧ P.getD i 0 = -1
      · rw [if_pos hc, if_pos ⟨by omega, hc.2⟩]
      · rw [if_neg hc, if_neg (fun z => hc ⟨by omega, z.2⟩)]
  · rw [List.getElem?_eq_none (by rw [List.length_set, dep0_length]; omega), List.getElem?_eq_none (by rw [dep0_length]; omega)]
theorem dep0_skip {P : List Int} {n : Nat} (h : ¬ P.getD n 0 = -1) : dep0 P (n + 1) = dep0 P n := by
  unfold dep0
  apply List.map_congr_left
  intro j _
  by_cases hc : j < n ∧ P.getD j 0 = -1
  · rw [if_pos hc, if_pos ⟨by omega, hc.2⟩]
  · rw [if_neg hc, if_neg (fun z => ?_)]
    by_cases he : j = n
    · subst he; exact h z.2
    · exact hc ⟨by omega, z.2⟩
/-- no more than n places -/
theorem pigeon : ∀ (n : Nat) (l : List Nat), l.Nodup → (∀ x ∈ l, x < n) → l.length ≤ n
  | 0, l, _, h => by
    cases l with
    | nil => exact Nat.le_refl _
    | cons x r => have := h x List.mem_cons_self; omega
  | n + 1, l, hd, h => by
    have hf : (l.filter fun x => decide (x ≠ n)).Nodup := hd.filter _
    have ih := pigeon n _ hf fun x hx => by
      obtain ⟨h1, h2⟩ := List.mem_filter.mp hx
      have := h x h1
      have := of_decide_eq_true h2
      omega
    have h2 : l.length ≤ (l.filter fun x => decide (x ≠ n)).length + 1 := by
      clear ih hf h
      induction l with
      | nil => simp
      | cons x r ihr =>
        have hr := (List.nodup_cons.mp hd).2
        have hx := (List.nodup_cons.mp hd).1
        by_cases he : x = n
        · subst he
          have : (r.filter fun y => decide (y ≠ x)) = r := List.filter_eq_self.mpr fun y hy => decide_eq_true (fun z => hx (z ▸ hy))
          rw [List.filter_cons, if_neg (by simp), this]
          simp
        · have := ihr hr
          rw [List.filter_cons, if_pos (decide_eq_true he)]
          simp only [List.length_cons]
          omega
    omega
structure DInv (P D : List Int) (Pd Wt : List Nat) : Prop where
  len : D.length = P.length
  nd : (Pd ++ Wt).Nodup
  mem : ∀ i, i ∈ Pd ++ Wt ↔ i < P.length ∧ (P.getD i 0 = -1 ∨ ∃ p ∈ Pd, P.getD i 0 = (p : Int))
  dep : ∀ i, i < P.length → (i ∈ Pd ++ Wt → ∃ d : Nat, Dep P i d ∧ D.getD i 0 = (d : Int)) ∧ (i ∉ Pd ++ Wt → D.getD i 0 = -1)
theorem DInv.start (P : List Int) : DInv P (dep0 P P.length) [] (kidN P (-1) P.length) := by
  refine ⟨dep0_length _ _, by rw [List.nil_append]; exact kidN_nodup _ _ _, fun i => ?_, fun i hi => ⟨fun hm => ?_, fun hm => ?_⟩⟩
  · rw [List.nil_append, kidN_mem]
    constructor
    · exact fun ⟨h1, h2⟩ => ⟨h1, .inl h2⟩
    · rintro ⟨h1, h2 | ⟨p, hp, _⟩⟩
      · exact ⟨h1, h2⟩
      · simp at hp
  · rw [List.nil_append, kidN_mem] at hm
    exact ⟨0, .root hi hm.2, by rw [dep0_getD hi, if_pos hm]; rfl⟩
  · rw [List.nil_append, kidN_mem] at hm
    rw [dep0_getD hi, if_neg hm]
def setAll (D : List Int) (v : Int) : List Nat → List Int
  | [] => D
  | c :: r => setAll (D.set c v) v r
theorem setAll_length (v : Int) : ∀ (ks : List Nat) (D : List Int), (setAll D v ks).length = D.length
  | [], D => rfl
  | c :: r, D => by unfold setAll; rw [setAll_length v r, List.length_set]
theorem setAll_getD (v : Int) : ∀ (ks : List Nat) (D : List Int) (i : Nat), i < D.length → (setAll D v ks).getD i 0 = if i ∈ ks then v else D.getD i 0
  | [], D, i, _ => by simp [setAll]
  | c :: r, D, i, hi => by
    unfold setAll
    rw [setAll_getD v r _ i (by rw [List.length_set]; exact hi)]
    by_cases h1 : i ∈ r
    · rw [if_pos h1, if_pos (List.mem_cons_of_mem _ h1)]
    · rw [if_neg h1]
      by_cases h2 : i = c
      · subst h2
        rw [if_pos List.mem_cons_self, List.getD_eq_getElem?_getD, List.getElem?_set_self hi]; rfl
      · rw [if_neg (fun z => by rcases List.mem_cons.mp z with z | z; exact h2 z; exact h1 z), List.getD_eq_getElem?_getD, List.getElem?_set_ne (Ne.symm h2), List.getD_eq_getElem?_getD]
theorem setAll_snoc (v : Int) : ∀ (ks : List Nat) (c : Nat) (D : List Int), setAll D v (ks ++ [c]) = (setAll D v ks).set c v
  | [], c, D => rfl
  | k :: r, c, D => by
    show setAll (D.set k v) v (r ++ [c]) = _
    rw [setAll_snoc v r c]; rfl
theorem DInv.kids {P D : List Int} {Pd Wt : List Nat} {a : Nat} (I : DInv P D Pd (Wt ++ [a])) : a < P.length ∧ ∀ c ∈ kidN P (a : Int) P.length, c ∉ Pd ++ (Wt ++ [a]) := by
  have ham : a ∈ Pd ++ (Wt ++ [a]) := List.mem_append_right _ (List.mem_append_right _ (by simp))
  refine ⟨((I.mem a).mp ham).1, fun c hc hm => ?_⟩
  have hk := kidN_mem.mp hc
  rcases ((I.mem c).mp hm).2 with z | ⟨p, hp, z⟩
  · rw [hk.2] at z; omega
  · have : p = a := by have := hk.2.symm.trans z; omega
    subst this
    have := (List.nodup_append.mp I.nd).2.2 p hp p (List.mem_append_right _ (by simp))
    exact this rfl
theorem DInv.step {P D : List Int} {Pd Wt : List Nat} {a : Nat} (I : DInv P D Pd (Wt ++ [a])) : DInv P (setAll D (D.getD a 0 + 1) (kidN P (a : Int) P.length)) (a :: Pd) (Wt ++ kidN P (a : Int) P.length) := by
  obtain ⟨ha, hk⟩ := I.kids
  have ham : a ∈ Pd ++ (Wt ++ [a]) := List.mem_append_right _ (List.mem_append_right _ (by simp))
  have mm : ∀ i, i ∈ (a :: Pd) ++ (Wt ++ kidN P (a : Int) P.length) ↔ i ∈ Pd ++ (Wt ++ [a]) ∨ i ∈ kidN P (a : Int) P.length := fun i => by
    simp only [List.mem_append, List.mem_cons, List.mem_singleton, List.cons_append, List.not_mem_nil, or_false]
    constructor
    · rintro (h | h | h | h)
      · exact .inl (.inr (.inr h))
      · exact .inl (.inl h)
      · exact .inl (.inr (.inl h))
      · exact .inr h
    · rintro ((h | h | h) | h)
      · exact .inr (.inl h)
      · exact .inr (.inr (.inl h))
      · exact .inl h
      · exact .inr (.inr (.inr h))
  refine ⟨by rw [setAll_length]; exact I.len, ?_, fun i => ?_, fun i hi => ?_⟩
  · obtain ⟨n1, n2, n3⟩ := List.nodup_append.mp I.nd
    obtain ⟨m1, m2, m3⟩ := List.nodup_append.mp n2
    have hk' : ∀ c ∈ kidN P (a : Int) P.length, c ∉ Pd ∧ c ∉ Wt ∧ c ≠ a := fun c hc => by
      have := hk c hc
      simp only [List.mem_append, List.mem_singleton, not_or] at this
      exact this
    rw [List.nodup_append]
    refine ⟨List.nodup_cons.mpr ⟨fun z => n3 a z a (List.mem_append_right _ (by simp)) rfl, n1⟩, ?_, ?_⟩
    · rw [List.nodup_append]
      exact ⟨m1, kidN_nodup _ _ _, fun x hx y hy e => (hk' y hy).2.1 (e ▸ hx)⟩
    · intro x hx y hy e
      subst e
      rcases List.mem_cons.mp hx with hx | hx
      · subst hx
        rcases List.mem_append.mp hy with hy | hy
        · exact m3 x hy x (by simp) rfl
        · exact (hk' x hy).2.2 rfl
      · rcases List.mem_append.mp hy with hy | hy
        · exact n3 x hx x (List.mem_append_left _ hy) rfl
        · exact (hk' x hy).1 hx
  · rw [mm, I.mem, kidN_mem]
    constructor
    · rintro (⟨h1, h2 | ⟨p, hp, h2⟩⟩ | ⟨h1, h2⟩)
      · exact ⟨h1, .inl h2⟩
      · exact ⟨h1, .inr ⟨p, List.mem_cons_of_mem _ hp, h2⟩⟩
      · exact ⟨h1, .inr ⟨a, List.mem_cons_self, h2⟩⟩
    · rintro ⟨h1, h2 | ⟨p, hp, h2⟩⟩
      · exact .inl ⟨h1, .inl h2⟩
      · rcases List.mem_cons.mp hp with rfl | hp
        · exact .inr ⟨h1, h2⟩
        · exact .inl ⟨h1, .inr ⟨p, hp, h2⟩⟩
  · have hi' : i < D.length := by rw [I.len]; exact hi
    rw [setAll_getD _ _ _ _ hi', mm]
    obtain ⟨d1, d2⟩ := I.dep i hi
    refine ⟨fun hm => ?_, fun hm => ?_⟩
    · by_cases hc : i ∈ kidN P (a : Int) P.length
      · rw [if_pos hc]
        obtain ⟨d, hd, e⟩ := (I.dep a ha).1 ham
        exact ⟨d + 1, .under hi (kidN_mem.mp hc).2 hd, by rw [e]; omega⟩
      · rw [if_neg hc]
        rcases hm with hm | hm
        · exact d1 hm
        · exact absurd hm hc
    · rw [if_neg (fun z => hm (.inr z))]
      exact d2 fun z => hm (.inl z)
theorem DInv.few {P D : List Int} {Pd Wt : List Nat} (I : DInv P D Pd Wt) : Pd.length + Wt.length ≤ P.length := by
  have := pigeon P.length _ I.nd fun x hx => ((I.mem x).mp hx).1
  rwa [List.length_append] at this
/-- what the list of depths tells -/
def IsDep (P D : List Int) : Prop := D.length = P.length ∧ ∀ i, i < P.length → (∃ d : Nat, Dep P i d ∧ D.getD i 0 = (d : Int)) ∨ ((∀ d, ¬ Dep P i d) ∧ D.getD i 0 = -1)
theorem DInv.done {P D : List Int} {Pd : List Nat} (I : DInv P D Pd []) : IsDep P D := by
  have all : ∀ i d, Dep P i d → i ∈ Pd := fun i d h => by
    induction h with
    | root hi h => simpa using (I.mem _).mpr ⟨hi, .inl h⟩
    | under hi h t ih => simpa using (I.mem _).mpr ⟨hi, .inr ⟨_, ih, h⟩⟩
  refine ⟨I.len, fun i hi => ?_⟩
  by_cases hm : i ∈ Pd ++ []
  · exact .inl ((I.dep i hi).1 hm)
  · exact .inr ⟨fun d h => hm (by simpa using all i d h), (I.dep i hi).2 hm⟩
theorem IsDep.ge {P D : List Int} (h : IsDep P D) {i : Nat} (hi : i < D.length) : -1 ≤ D.getD i 0 := by
  rw [h.1] at hi
  rcases h.2 i hi with ⟨d, _, e⟩ | ⟨_, e⟩ <;> omega
theorem IsDep.uniq {P D E : List Int} (h : IsDep P D) (g : IsDep P E) : D = E := by
  apply List.ext_getElem?
  intro i
  by_cases hi : i < P.length
  · have h1 : i < D.length := by rw [h.1]; exact hi
    have h2 : i < E.length := by rw [g.1]; exact hi
    have e1 : D[i]? = some (D.getD i 0) := by rw [List.getD_eq_getElem?_getD, List.getElem?_eq_getElem h1]; rfl
    have e2 : E[i]? = some (E.getD i 0) := by rw [List.getD_eq_getElem?_getD, List.getElem?_eq_getElem h2]; rfl
    rw [e1, e2]
    rcases h.2 i hi with ⟨d, a1, a2⟩ | ⟨a1, a2⟩
    · rcases g.2 i hi with ⟨e, b1, b2⟩ | ⟨b1, b2⟩
      · rw [a2, b2, a1.uniq b1]
      · exact absurd a1 (b1 d)
    · rcases g.2 i hi with ⟨e, b1, b2⟩ | ⟨b1, b2⟩
      · exact absurd b1 (a1 e)
      · rw [a2, b2]
  · rw [List.getElem?_eq_none (by rw [h.1]; omega), List.getElem?_eq_none (by rw [g.1]; omega)]
/-- of the tree of bars -/
theorem tree_back {b D : List Int} (hb : ∀ i, i < b.length → -1 ≤ b.getD i 0) (h : IsDep (treeL b) D) : treeL D = treeL b ∧ ∀ i, i < b.length → ∃ d : Nat, Dep (treeL b) i d ∧ D.getD i 0 = (d : Int) := by
  have hD : ∀ i, i < b.length → ∃ d : Nat, Dep (treeL b) i d ∧ D.getD i 0 = (d : Int) := fun i hi => by
    rcases h.2 i (by rw [treeL_length]; exact hi) with z | ⟨z, _⟩
    · exact z
    · obtain ⟨d, hd⟩ := tree_deps hb hi
      exact absurd hd (z d)
  exact ⟨tree_again (by rw [h.1, treeL_length]) hD, hD⟩
theorem treeL_pv {b : List Int} : PV (treeL b) := fun i hi => by
  rw [treeL_length] at hi ⊢
  rw [treeL_getD hi]
  rcases par_key hi with e | ⟨j, hj, e, _⟩
  · rw [e]; omega
  · rw [e]; omega
theorem Dep.bound {P : List Int} {i d : Nat} (h : Dep P i d) : ∃ l : List Nat, l.Nodup ∧ (∀ x ∈ l, x < P.length ∧ ∃ e, e ≤ d ∧ Dep P x e) ∧ l.length = d + 1 := by
  induction h with
  | root hi h => exact ⟨[_], by simp, fun x hx => by rw [List.mem_singleton.mp hx]; exact ⟨hi, 0, Nat.le_refl _, .root hi h⟩, rfl⟩
  | under hi h t ih =>
    rename_i i j d
    obtain ⟨l, n1, n2, n3⟩ := ih
    refine ⟨i :: l, List.nodup_cons.mpr ⟨fun z => ?_, n1⟩, fun x hx => ?_, by rw [List.length_cons, n3]⟩
    · obtain ⟨_, e, he, hde⟩ := n2 i z
      have := hde.uniq (.under hi h t)
      omega
    · rcases List.mem_cons.mp hx with rfl | hx
      · exact ⟨hi, d + 1, Nat.le_refl _, .under hi h t⟩
      · obtain ⟨h1, e, he, hde⟩ := n2 x hx
        exact ⟨h1, e, by omega, hde⟩
theorem Dep.small {P : List Int} {i d : Nat} (h : Dep P i d) : d < P.length := by
  obtain ⟨l, n1, n2, n3⟩ := h.bound
  have := pigeon P.length l n1 fun x hx => (n2 x hx).1
  omega
end Sky

namespace Sky
open PySem L2
def spPar : Sp := fun vs H Q _ => ∃ (a : Addr) (xs : List Int), vs = [.ref a] ∧ IL H a xs ∧ xs.length ≤ 100 ∧ newL H Q (treeL xs)
def spTree : Sp := fun vs H Q _ => ∃ (a : Addr) (xs : List Int), vs = [.ref a] ∧ IL H a xs ∧ Hts xs ∧ newL H Q (treeL xs)
def spChkP : Sp := fun vs H Q _ => ∃ (a : Addr) (P : List Int), vs = [.ref a] ∧ IL H a P ∧ P.length ≤ 100 ∧ PV P ∧ ∀ H', Same H H' → Q .non H'
def spDepths : Sp := fun vs H Q _ => ∃ (a : Addr) (P : List Int), vs = [.ref a] ∧ IL H a P ∧ P.length ≤ 100 ∧ PV P ∧ ∀ D : List Int, IsDep P D → newL H Q D
/-- a list of lists of places -/
structure KL (H : Hp) (bn : Addr) (ps : List Addr) (f : Nat → List Nat) : Prop where
  at_ : H bn = some (.lst (ps.map V.ref))
  nd : ps.Nodup
  it : ∀ (j : Nat) (p : Addr), ps[j]? = some p → IL H p (cst (f j)) ∧ p ≠ bn
theorem KL.get {H : Hp} {bn : Addr} {ps : List Addr} {f : Nat → List Nat} (h : KL H bn ps f) {j : Nat} (hj : j < ps.length) : atI (ps.map V.ref) (j : Int) = some (V.ref ps[j]) ∧ IL H ps[j] (cst (f j)) :=
  ⟨atI_nat (by rw [List.getElem?_map, List.getElem?_eq_getElem hj]; rfl), (h.it j _ (List.getElem?_eq_getElem hj)).1⟩
theorem KL.keep {H H' : Hp} {bn : Addr} {ps : List Addr} {f : Nat → List Nat} (h : KL H bn ps f) (k : ∀ b o, H b = some o → b = bn ∨ b ∈ ps → H' b = some o) : KL H' bn ps f :=
  ⟨k _ _ h.at_ (.inl rfl), h.nd, fun j p e => ⟨k _ _ (h.it j p e).1 (.inr (List.mem_of_getElem? e)), (h.it j p e).2⟩⟩
theorem nodup_get {α : Type} {l : List α} (h : l.Nodup) {i j : Nat} {x : α} (hi : l[i]? = some x) (hj : l[j]? = some x) : i = j := by
  obtain ⟨h1, e1⟩ := List.getElem?_eq_some_iff.mp hi
  obtain ⟨h2, e2⟩ := List.getElem?_eq_some_iff.mp hj
  exact (List.getElem_inj h).mp (e1.trans e2.symm)
/-- one of them grows -/
theorem KL.grow {H : Hp} {bn : Addr} {ps : List Addr} {f g : Nat → List Nat} {j : Nat} {x : Nat} (h : KL H bn ps f) (hj : j < ps.length) (hg : ∀ k, k < ps.length → g k = if k = j then f k ++ [x] else f k) : KL (upd H ps[j] (.lst ((cst (f j)).map V.int ++ [.int (x : Nat)]))) bn ps g := by
  have hpj := h.it j _ (List.getElem?_eq_getElem hj)
  refine ⟨by rw [upd_ne (Ne.symm hpj.2)]; exact h.at_, h.nd, fun k p e => ?_⟩
  have hk : k < ps.length := (List.getElem?_eq_some_iff.mp e).1
  have hp := h.it k p e
  refine ⟨?_, hp.2⟩
  rw [hg k hk]
  by_cases hkj : k = j
  · subst hkj
    have : ps[k] = p := Option.some.inj ((List.getElem?_eq_getElem hk).symm.trans e)
    rw [this, if_pos rfl]
    refine upd_same.trans ?_
    rw [show cst (f k ++ [x]) = cst (f k) ++ [(x : Int)] from List.map_append, List.map_append]; rfl
  · rw [if_neg hkj]
    have : p ≠ ps[j] := fun z => hkj (nodup_get h.nd e (by rw [List.getElem?_eq_getElem hj, z]))
    exact (upd_ne this).trans hp.1
theorem cst_snoc (l : List Nat) (x : Nat) : cst (l ++ [x]) = cst l ++ [(x : Int)] := List.map_append
theorem cst_length (l : List Nat) : (cst l).length = l.length := List.length_map _
end Sky
namespace Sky
open PySem L2
theorem IsDep.hts {b D : List Int} (hb : ∀ i, i < b.length → -1 ≤ b.getD i 0) (hl : b.length ≤ 100) (h : IsDep (treeL b) D) : Hts D := by
  obtain ⟨_, g⟩ := tree_back hb h
  have hlen : D.length = b.length := by rw [h.1, treeL_length]
  refine ⟨by omega, fun x hx => ?_⟩
  obtain ⟨j, hj, e⟩ := List.getElem_of_mem hx
  obtain ⟨d, h1, h2⟩ := g j (by omega)
  have h3 := h1.small
  rw [treeL_length] at h3
  have e2 : D.getD j 0 = x := by rw [List.getD_eq_getElem?_getD, List.getElem?_eq_getElem hj, ← e]; rfl
  omega
end Sky

namespace L2
open PySem PySem.Spec PyProof.Rows
/-! ### a chain of comparisons as a value -/
section
variable {X : Cx} {pos : Pos} {e e' a : Expr} {es : List Expr} {op op' : CmpOp} {ops : List CmpOp} {te ta : TE} {t : V → TE} {r : R2}
end
/-! ### x, y, z = a, b, c -/
section
variable {X : Cx} {pos : Pos}
end
/-! ### for x, y in zip(xs, zs) -/
/-! ### tuples of ints compared -/
end L2

namespace Sky
open PySem L2
theorem seq_cut {t u : TS} {D : Ends} {σ : St} {H : Hp} (M : St → Hp → Prop) (h1 : ∀ N : St → Hp → Prop, (∀ σ H, M σ H → N σ H) → t { D with nx := N } σ H) (h2 : ∀ σ H, M σ H → u D σ H) : tSeq t u D σ H := h1 _ h2
end Sky

namespace L2
open PySem PySem.Spec PyProof.Rows
/-! ### the flight of an exception, to the last object -/
/-- of the heap: the frames at fr may change their slots, the records at xs may change, all else is kept -/
structure Chg (fr xs : List Addr) (h h' : Heap) : Prop where
  keep : ∀ b o, b ∉ fr → b ∉ xs → h.get? b = some o → h'.get? b = some o
  slot : ∀ b o, b ∉ xs → h.get? b = some o → ∃ sl, h'.get? b = some { o with slots := sl }
  there : ∀ b o, h.get? b = some o → ∃ o', h'.get? b = some o'
theorem Chg.trans {fr xs : List Addr} {h h1 h2 : Heap} (a : Chg fr xs h h1) (b : Chg fr xs h1 h2) : Chg fr xs h h2 :=
  ⟨fun c o h1 h2 e => b.keep c o h1 h2 (a.keep c o h1 h2 e), fun c o h1 e => let ⟨_, q⟩ := a.slot c o h1 e; let ⟨sl, q'⟩ := b.slot c _ h1 q; ⟨sl, q'⟩, fun c o e => let ⟨o', q⟩ := a.there c o e; b.there c o' q⟩
theorem Chg.mono {fr xs fr' xs' : List Addr} {h h1 : Heap} (a : Chg fr xs h h1) (hf : ∀ b ∈ fr, b ∈ fr') (hx : ∀ b ∈ xs, b ∈ xs') : Chg fr' xs' h h1 :=
  ⟨fun c o h1 h2 e => a.keep c o (fun z => h1 (hf c z)) (fun z => h2 (hx c z)) e, fun c o h1 e => a.slot c o (fun z => h1 (hx c z)) e, a.there⟩
/-- the exception at e: its class, its traceback (none, or the record at T whose flight is fl), no context -/
def Tr (h : Heap) (e : Addr) (cls : Value) (T : Option Addr) (fl : Value) : Prop :=
  ∃ oe vs, h.get? e = some oe ∧ oe.cls = cls ∧ oe.dict = none ∧ oe.data = .fields vs ∧ vs[2]? = some .none ∧ match T with
    | none => vs[1]? = some .none
    | some T => vs[1]? = some (.ref T) ∧ T ≠ e ∧ ∃ oT ts, h.get? T = some oT ∧ oT.data = .fields ts ∧ ts[3]? = some fl
theorem Tr.made {h h' : Heap} {e : Addr} {cls : Value} {args : List Value} (m : Heap.MadeExcOf h h' e cls args) : Tr h' e cls none .none := by
  obtain ⟨t, he, _, _⟩ := m.there
  exact ⟨_, _, he, rfl, rfl, rfl, rfl, rfl⟩
theorem dict_mapFields (f : Array Value → Array Value) (o : Obj) : (Obj.mapFields f o).dict = o.dict := by
  obtain ⟨c, d, dt, sl⟩ := o
  cases dt <;> rfl

section
variable {M : Model} {A : Around} {E : Value → Shared → Prop} {s : Shared}
/-- the new entry -/
theorem entry_ok {base : Heap} {env : Env} {outer : List Env} {L e : Addr} {oe : Obj} {vs : Array Value} {head : Value} {hadNext : Bool} {Q : Unit → Shared → Prop}
    (hfr : A.frames = some (env :: outer)) (hl : s.heap.FunFrames base (env :: outer)) (hf : env.frame = some L)
    (he : s.heap.get? e = some oe) (hdc : oe.dict = none) (hd : oe.data = .fields vs) (h2 : vs[2]? = some .none)
    (h : ∀ h' T, Tr h' e oe.cls (some T) (rawInt L) → s.heap.get? T = none → Chg (frs (env :: outer)) [e] s.heap h' → Q () { s with heap := h' }) :
    wpAny M A (do let a ← frameOf env; let pl ← entryPlaceOf L hadNext; let b ← EntryCells.newEntry head a .none (rawInt L) .none pl; setField (.ref e) 1 b) Q E s := by
  have hsz : 1 < vs.size := Nat.lt_trans (by decide) (Array.getElem?_eq_some_iff.mp h2).1
  have hene : e ∉ (env :: outer).filterMap (·.frame) := fun hm => by
    obtain ⟨_, o, ho, hnf⟩ := hl.mem hm
    rw [he] at ho; injection ho with ho; subst ho; exact hnf vs hd
  refine wpAny_bind (wpAny_frameOf_fun hfr hl hf fun h₁ hs₁ => ?_)
  refine wpAny_bind (wpAny_entryPlaceOf fun pl hpl => ?_)
  unfold EntryCells.newEntry newFields
  refine wpAny_bind (wpAny_newObj_type ?_ (hpl.sizeOk5 _ _ _ _ _))
  have he₁ : h₁.get? e = some oe := (hs₁.2.1 e hene).trans he
  have he₂ := Heap.get?_push_of_some (h := h₁) { cls := .type "traceback", dict := none, data := .fields ([head, .ref L, .none, rawInt L, .none] ++ (if pl.isEmpty then List.replicate 6 Value.none else pl)).toArray } he₁
  refine wpAny_setField he₂ hd hsz (h _ h₁.objs.size ?_ ?_ ?_)
  · have hTe : h₁.objs.size ≠ e := Nat.ne_of_gt (Heap.lt_size he₁)
    have hd₃ := Obj.data_mapFields hd (·.setIfInBounds 1 (Value.ref h₁.objs.size))
    refine ⟨_, _, Heap.get?_update_self _ he₂ (Obj.isFreed_of_fields hd₃), Obj.cls_mapFields _ _, (dict_mapFields _ _).trans hdc, hd₃, by rw [Array.getElem?_setIfInBounds_ne (by decide)]; exact h2, by simp [hsz], hTe, ?_⟩
    refine ⟨_, _, (Heap.get?_update_other _ _ (Ne.symm hTe)).trans (Heap.get?_push_size h₁ rfl), rfl, ?_⟩
    first | (simp; done) | (rcases hpl with rfl | ⟨_, _, _, _, _, _, _, rfl⟩ <;> simp)
  · exact Heap.get?_none_of_le (by rw [hs₁.1]; exact Nat.le_refl _)
  · have up : ∀ b o, b ≠ e → h₁.get? b = some o → ((h₁.push { cls := .type "traceback", dict := none, data := .fields ([head, .ref L, .none, rawInt L, .none] ++ (if pl.isEmpty then List.replicate 6 Value.none else pl)).toArray }).update e (Obj.mapFields (·.setIfInBounds 1 (Value.ref h₁.objs.size)))).get? b = some o := fun b o hbe hb => by
      rw [Heap.get?_update_other _ _ (Ne.symm hbe)]
      exact Heap.get?_push_of_some _ hb
    refine ⟨fun b o hb hx q => up b o (fun z => hx (by simp [z])) ((hs₁.2.1 b hb).trans q), fun b o hx q => ?_, fun b o q => ?_⟩
    · obtain ⟨sl, q'⟩ := hs₁.2.2 b o q
      exact ⟨sl, up b _ (fun z => hx (by simp [z])) q'⟩
    · by_cases z : b = e
      · subst z
        exact ⟨_, Heap.get?_update_self _ he₂ (Obj.isFreed_of_fields (Obj.data_mapFields hd _))⟩
      · obtain ⟨sl, q'⟩ := hs₁.2.2 b o q
        exact ⟨_, up b _ z q'⟩

def trs (T : Option Addr) : List Addr := T.toList
/-- the frame is noted in the traceback -/
theorem note_ok {base : Heap} {env : Env} {outer : List Env} {L e : Addr} {cls : Value} {T : Option Addr} {Q : Unit → Shared → Prop}
    (hfr : A.frames = some (env :: outer)) (hl : s.heap.FunFrames base (env :: outer)) (hf : env.frame = some L) (ht : Tr s.heap e cls T .none)
    (h : ∀ h' T', Tr h' e cls (some T') (rawInt L) → s.heap.get? T' = none → Chg (frs (env :: outer)) (e :: trs T) s.heap h' → Q () { s with heap := h' }) : wpAny M A (noteFrame (.ref e) env) Q E s := by
  obtain ⟨oe, vs, he, hc, hdc, hd, h2, ht⟩ := ht
  subst hc
  unfold noteFrame
  simp only [hf]
  cases T with
  | none =>
    refine wpAny_bind (wpAny_field he hd ht ?_)
    rw [if_neg (by decide)]
    exact entry_ok hfr hl hf he hdc hd h2 fun h' T' t n c => h h' T' t n (c.mono (fun _ z => z) fun b z => by simpa [trs] using z)
  | some T =>
    obtain ⟨h1, hTe, oT, ts, hT, hdT, h3⟩ := ht
    refine wpAny_bind (wpAny_field he hd h1 ?_)
    rw [if_pos (show (Value.ref T != Value.none) = true from by simp)]
    refine wpAny_bind (wpAny_field hT hdT h3 ?_)
    rw [if_neg (show ¬ ((Value.none == rawInt L) = true) from by simp [rawInt])]
    refine wpAny_bind (wpAny_setField hT hdT (Array.getElem?_eq_some_iff.mp h3).1 ?_)
    have other : ∀ b, b ≠ T → (s.heap.update T (Obj.mapFields (·.setIfInBounds 3 Value.none))).get? b = s.heap.get? b := fun b hb => Heap.get?_update_other _ _ (Ne.symm hb)
    have selfT := Heap.get?_update_self (Obj.mapFields (·.setIfInBounds 3 Value.none)) hT (Obj.isFreed_of_fields (Obj.data_mapFields hdT _))
    have noT : ∀ b o, s.heap.get? b = some o → (∀ vs, o.data ≠ .fields vs) → b ≠ T := fun b o hb hnf q => by
      rw [q, hT] at hb; injection hb with hb; subst hb; exact hnf ts hdT
    have c0 : Chg (frs (env :: outer)) (e :: trs (some T)) s.heap (s.heap.update T (Obj.mapFields (·.setIfInBounds 3 Value.none))) :=
      ⟨fun b o _ hx q => (other b fun z => hx (by simp [trs, z])).trans q, fun b o hx q => ⟨o.slots, (other b fun z => hx (by simp [trs, z])).trans q⟩, fun b o q => by
        by_cases z : b = T
        · subst z; exact ⟨_, selfT⟩
        · exact ⟨o, (other b z).trans q⟩⟩
    refine entry_ok (base := base) hfr (hl.of_keeps fun b o hb hnf => ⟨o, (other b (noT b o hb hnf)).trans hb, rfl⟩) hf ((other e (Ne.symm hTe)).trans he) hdc hd h2 fun h' T' t n c => h h' T' t ?_ (c0.trans (c.mono (fun _ z => z) fun b z => ?_))
    · have n' : (s.heap.update T (Obj.mapFields (·.setIfInBounds 3 Value.none))).get? T' = none := n
      by_cases z : T' = T
      · subst z; rw [selfT] at n'; cases n'
      · rw [other T' z] at n'; exact n'
    · have : b = e := by simpa using z
      simp [this]
/-- .. and it lands -/
theorem flight_ok {e T : Addr} {cls fl : Value} {Q : Unit → Shared → Prop} (ht : Tr s.heap e cls (some T) fl)
    (h : ∀ h', Tr h' e cls (some T) .none → Chg [] [T] s.heap h' → Q () { s with heap := h' }) : wpAny M A (setFlight (.ref e) none) Q E s := by
  obtain ⟨oe, vs, he, hc, hdc, hd, h2, h1, hTe, oT, ts, hT, hdT, h3⟩ := ht
  unfold setFlight
  refine wpAny_bind (wpAny_field he hd h1 ?_)
  rw [if_pos (show (Value.ref T != Value.none) = true from by simp)]
  have other : ∀ b, b ≠ T → (s.heap.update T (Obj.mapFields (·.setIfInBounds 3 ((none : Option Addr).elim Value.none fun f => rawInt f)))).get? b = s.heap.get? b := fun b hb => Heap.get?_update_other _ _ (Ne.symm hb)
  have selfT := Heap.get?_update_self (Obj.mapFields (·.setIfInBounds 3 ((none : Option Addr).elim Value.none fun f => rawInt f))) hT (Obj.isFreed_of_fields (Obj.data_mapFields hdT _))
  refine wpAny_setField hT hdT (Array.getElem?_eq_some_iff.mp h3).1 (h _ ⟨oe, vs, (other e (Ne.symm hTe)).trans he, hc, hdc, hd, h2, h1, hTe, _, _, selfT, Obj.data_mapFields hdT _, by simp [(Array.getElem?_eq_some_iff.mp h3).1]⟩ ?_)
  exact ⟨fun b o _ hx q => (other b fun z => hx (by simp [z])).trans q, fun b o hx q => ⟨o.slots, (other b fun z => hx (by simp [z])).trans q⟩, fun b o q => by
    by_cases z : b = T
    · subst z; exact ⟨_, selfT⟩
    · exact ⟨o, (other b z).trans q⟩⟩
/-- the frame is left -/
theorem leave_ok {base : Heap} {env : Env} {outer : List Env} {L e : Addr} {cls : Value} {T : Option Addr} {Q : Unit → Shared → Prop}
    (hfr : A.frames = some (env :: outer)) (hl : s.heap.FunFrames base (env :: outer)) (hf : env.frame = some L) (ht : Tr s.heap e cls T .none)
    (h : ∀ h' T', Tr h' e cls (some T') .none → s.heap.get? T' = none → Chg (frs (env :: outer)) (e :: trs T) s.heap h' → Q () { s with heap := h' }) : wpAny M A (leaving env (.ref e)) Q E s := by
  unfold leaving
  refine wpAny_bind (note_ok hfr hl hf ht fun h1 T1 t1 n1 c1 => flight_ok t1 fun h2 t2 c2 => h h2 T1 t2 n1 ⟨fun b o x1 x2 q => ?_, fun b o x1 q => ?_, fun b o q => ?_⟩)
  · have nT : b ≠ T1 := fun z => by rw [z, n1] at q; cases q
    exact c2.keep b o (by simp) (by simpa using nT) (c1.keep b o x1 x2 q)
  · have nT : b ≠ T1 := fun z => by rw [z, n1] at q; cases q
    obtain ⟨sl, q'⟩ := c1.slot b o x1 q
    obtain ⟨sl', q''⟩ := c2.slot b _ (by simpa using nT) q'
    exact ⟨sl', q''⟩
  · obtain ⟨o', q'⟩ := c1.there b o q
    exact c2.there b o' q'
end
end L2

namespace PySem.W
open PySem PySem.Spec PySem.Calls PyProof.Rows
/-- what isinstance asks of an own class of exceptions -/
structure ExcC (K : Frag) (D : Addr) : Prop where
  ga : findIn K (.ref D) "__getattribute__" = some (some (.builtin "BaseException.__getattribute__"))
  gn : findIn K (.ref D) "__getattr__" = some none
  ha : findIn K (.ref D) "__class__" = some (some (.builtin "object.__class__"))
  hn : specialIn K (.builtin "object.__class__") "__get__" = some (some (.builtin "getset_descriptor.__get__"))
  htk : takesIn K (.builtin "object.__class__") = some true
  hm : mroIn K D (.type "object") = some true
  hb : mroIn K D (.type "BaseException") = some true
  hc : (clsIn K D).isSome = true
section
variable {prog : Program} {w : World} {A : Around} {E : Value → Shared → Prop} {s : Shared} {K : Frag} {x D : Addr} {ox : Obj}
theorem exc_find (c : ExcC K D) : findObj K D none "__class__" = some (.bind (.builtin "getset_descriptor.__get__") (.builtin "object.__class__")) := by
  obtain ⟨cd, hc⟩ := Option.isSome_iff_exists.mp c.hc
  unfold findObj
  rw [hc, Option.bind_some, c.ha, Option.bind_some]
  simp [c.hn, c.htk]
theorem exc_check {M : Model} {nameV : Value} {Q : Unit → Shared → Prop} (c : ExcC K D) (X : K.In s.heap) (I : InstAt s.heap x ox D none) (hq : Q () s) : wpAny M A (checkBuiltinCall "BaseException.__getattribute__" ⟨[.ref x, nameV], []⟩) Q E s := by
  obtain ⟨h, g, d, t, os⟩ := s
  have L0 := I.type (M := M)
  have L1 := looks_mroIn (M := M) X c.hb
  have hk : builtinKind "BaseException.__getattribute__" = some .slot := by decide +kernel
  have hsplit : splitId "BaseException.__getattribute__" = some ("BaseException", "__getattribute__") := by decide +kernel
  have ha := F.args_bexc_ga (.ref x) nameV
  simp only [checkBuiltinCall, hk, hsplit]
  refine wpAny_bind ?_
  · unfold isInstance
    repeat (first | lk | wp_step)
    exact hq
theorem exc_class {Q : Option Value → Shared → Prop} (c : ExcC K D) (X : K.In s.heap) (I : InstAt s.heap x ox D none) (h : Q (some (.ref D)) { s with toks := s.toks + 1 }) : wpAny (model prog w) A (getAttr? (.ref x) "__class__") Q E s := by
  obtain ⟨hh, g, d, t, os⟩ := s
  have L0 := I.type (M := model prog w)
  have L1 := looks_findIn (M := model prog w) X c.ga
  have L2 := looks_findIn (M := model prog w) X c.gn
  have f3 := F.excAttr_ValueError.ga.bind (.ref x)
  have hx2 : (Value.builtin "BaseException.__getattribute__" == Value.builtin "object.__getattribute__") = false := by decide +kernel
  have hx1 : (onTheHeap (Value.ref D) && Value.builtin "BaseException.__getattribute__" == Value.builtin "object.__getattribute__") = false := by rw [hx2]; rfl
  unfold getAttr? getAttrBy? getAttrBy
  refine wpAny_bind (wpAny_mkText (wpAny_bind (wpAny_attempt (wpAny_holding (wpAny_bind (L0.at (wpAny_bind (L1.at ?_))))))))
  show wpAny _ _ (if (onTheHeap (Value.ref D) && Value.builtin "BaseException.__getattribute__" == Value.builtin "object.__getattribute__") = true then _ else _) _ _ _
  rw [if_neg (by rw [hx1]; decide)]
  unfold getAttrByItsOwn hookBefore callGetattribute
  show wpAny _ _ (typeLookup (.ref D) "__getattr__" >>= _) _ _ _
  refine wpAny_bind (L2.at ?_)
  refine wpAny_bind (wpAny_attempt (wpAny_holding ?_))
  show wpAny _ _ (boundAndCalled _ _ _) _ _ _
  unfold boundAndCalled
  rw [f3]
  refine wpAny_bind (wpAny_pure ?_)
  show wpAny _ _ (call (.builtin "BaseException.__getattribute__") [.ref x, .str "__class__" t]) _ _ _
  refine wpAny_call (codeAny_call_builtin F.excAttr_ValueError.ga.plain F.entry_bexc_ga (exc_check c X I ?_))
  have L3 := looks_find (M := model prog w) X I (exc_find c)
  show wpAny _ _ (Builtin.«object.__getattribute__» ⟨[.ref x, .str "__class__" t], []⟩) _ _ _
  unfold Builtin.«object.__getattribute__»
  refine wpAny_bind (wpAny_pure ?_)
  refine wpAny_bind (wpAny_pure ?_)
  refine wpAny_bind (L0.at (wpAny_bind (L3.at ?_)))
  dsimp only
  k_delta "bindTo"
  show wpAny _ _ (holding _ (call (Value.builtin "getset_descriptor.__get__") [Value.builtin "object.__class__", Value.ref x, Value.ref D]) >>= ret) _ _ _
  refine wpAny_bind (wpAny_holding (wpAny_call (class_get (ox := ox) (od := none) X I c.hm ?_)))
  refine wpAny_pure ?_
  dsimp only
  exact handed_on rfl (wpAny_pure h)
theorem kitx_exc (c : ExcC K D) : KitX K (.ref x) (.ref D) (fun h => InstAt h x ox D none) where
  ty := fun _ _ _ I => I.type
  it := fun _ _ X _ => by
    obtain ⟨cdD, hcD⟩ := Option.isSome_iff_exists.mp c.hc
    unfold clsIn at hcD
    split at hcD
    · rename_i c' d' cd' sl' ho
      intro A' Q' E' s' k q
      unfold isType loadHead
      exact wpAny_bind (wpAny_loadPart (k _ _ (X _ _ ho)) (wpAny_pure q))
    · cases hcD
  ne := fun h tp dd its n sl X htp => by
    obtain ⟨cdD, hcD⟩ := Option.isSome_iff_exists.mp c.hc
    refine Bool.eq_false_iff.mpr fun q => ?_
    have e : D = tp := Value.ref.inj (beq_iff_eq.mp q)
    subst e
    unfold clsIn at hcD
    split at hcD
    · rename_i c' d' cd' sl' ho
      have z := (X _ _ ho).symm.trans htp
      cases z
    · cases hcD
  ca := fun X I k => exc_class c X I k
end
end PySem.W
namespace L2
open PySem PySem.Spec PyProof.Rows
section
variable {X : Cx} {C ea : Addr} {oe : Obj}
/-- isinstance(e, c), e an exception that is pinned -/
theorem call_isexc (hp : (ea, oe) ∈ X.pn) (c : PySem.W.ExcC X.K C) (hc : oe.cls = .ref C) (hdc : oe.dict = none) (hno : PySem.W.notCls oe = true) :
    CallR X (.builtin "isinstance") (fun xs H Q => ∃ k cv b, xs = [.ref ea, k] ∧ clsV k = some cv ∧ PySem.W.kitOne X.K (.ref C) cv = some b ∧ Q (.bl b) H) := by
  intro pins s σ H xs us Q I r h
  obtain ⟨k, cv, b, rfl, hk, e, q⟩ := h
  cases r with
  | cons r1 r2 =>
    cases r2 with
    | cons r2 r3 =>
      cases r3
      rename_i u1 u2
      cases (show u1 = Value.ref ea from r1)
      have e2 : u2 = cv := clsV_rel r2 hk
      subst e2
      obtain ⟨he, _⟩ := I.pin (ea, oe) (List.mem_append_left _ hp)
      have J : PySem.W.InstAt s.heap ea oe C none := ⟨he, hc, hno, by rw [hdc]; trivial⟩
      exact PySem.W.kia_one (PySem.W.kitx_exc c) I.kIn J e (fun z => nomatch z) fun tk => ⟨.bl b, H, I.tok tk, rfl, q⟩
end
end L2

namespace L2
open PySem PySem.Spec PyProof.Rows
theorem ObjOk.there {P : Program} {w : World} {H : Hp} {h : Heap} {a : Addr} {o : HO} (x : ObjOk P w H h a o) : ∃ u, h.get? a = some u := by
  cases o with
  | lst xs => obtain ⟨_, _, _, _, e⟩ := x; exact ⟨_, e⟩
  | tup xs => obtain ⟨_, _, _, p⟩ := x; obtain ⟨o, e, _⟩ := p; exact ⟨o, e⟩
  | dK kvs => obtain ⟨_, _, _, _, o, _, _, e, _⟩ := x; exact ⟨_, e⟩
  | dT kvs => obtain ⟨_, _, _, _, o, _, _, e, _⟩ := x; exact ⟨_, e⟩
  | set S n => obtain ⟨o, _, _, _, e, _⟩ := x; exact ⟨_, e⟩
  | ins C dx fs => obtain ⟨_, _, _, e, _⟩ := x; exact ⟨_, e⟩
  | own y => obtain ⟨_, e⟩ := x; exact ⟨_, e⟩
  | xd fs => obtain ⟨_, ⟨_, _, _, e, _⟩, _⟩ := x; exact ⟨_, e⟩
  | rng lo hi => obtain ⟨_, _, _, e⟩ := x; exact ⟨_, e⟩
  | frz ob u => obtain ⟨e, _⟩ := x; exact ⟨_, e⟩
  | tbl ps => exact ⟨_, (show h.get? a = some _ from x)⟩
  | met f y => exact ⟨_, (show h.get? a = some _ from x)⟩
  | ext φ => obtain ⟨_, ⟨_, e⟩, _⟩ := x; exact ⟨_, e⟩
theorem HOk.none {P : Program} {w : World} {H : Hp} {h : Heap} {a : Addr} (x : HOk P w H h) (e : h.get? a = none) : H a = none := by
  cases q : H a with
  | none => rfl
  | some u => obtain ⟨o, z⟩ := (x a u q).there; rw [e] at z; cases z

/-- how an exception of an own class lies behind a call -/
def CX1 (P : Program) (w : World) : CXT := fun outer H s E e s' => ∃ ea C H' T, e = .ref ea ∧ s'.os = s.os ∧ AllBare s'.gens ∧ Un (frs outer) [] H H' s.heap s'.heap ∧ HOk P w H' s'.heap ∧
  Tr s'.heap ea (.ref C) (some T) .none ∧ s.heap.get? ea = none ∧ s.heap.get? T = none ∧ H' ea = none ∧ H' T = none ∧ E (.ref C) none H'

section
variable {X : Cx} {pins : List (Addr × Obj)} {σ : St} {H H' : Hp} {s s' : Shared} {h' : Heap} {xs : List Addr}
/-- records of ours that nobody tracks have changed, and slots of the frames -/
theorem Inv.chg (I : Inv X pins σ H s) (c : Chg (frs X.stack) xs s.heap h') (h0 : ∀ b ∈ xs, X.s₀.heap.get? b = none ∧ H b = none ∧ b ≠ X.env.locals ∧ (∀ x c, X.env.cells.lookup x = some c → c ≠ b) ∧ ∀ p ∈ X.pn ++ pins, p.1 ≠ b) :
    Inv X pins σ H { s with heap := h' } := by
  have neL : ∀ b o, X.s₀.heap.get? b = some o → b ≠ X.env.locals := fun b o e => Nat.ne_of_lt (Nat.lt_of_lt_of_le (Heap.lt_size e) I.ok.above)
  have neX : ∀ b o, X.s₀.heap.get? b = some o → b ∉ xs := fun b o e hb => by rw [(h0 b hb).1] at e; cases e
  have nst : ∀ b, b ≠ X.env.locals → b ∉ X.fs → b ∉ frs X.stack := fun b h1 h2 z => (List.mem_cons.mp (I.stkSub b z)).elim h1 h2
  have cellK : ∀ x c', X.env.cells.lookup x = some c' → ∀ v, s.heap.IsCell c' v → h'.IsCell c' v := fun x c' e v ⟨o, ho, hd⟩ => by
    obtain ⟨sl, q⟩ := c.slot c' o (fun z => (h0 c' z).2.2.2.1 x c' e rfl) ho
    exact ⟨_, q, hd⟩
  refine ⟨I.ok, I.os, I.bare, ⟨fun b o e n hb hx => ?_, fun b o e n hb hx => ?_, fun b o e n hx => I.base.free b o e n hx, fun b o e hx => ?_, I.base.tups, I.base.frzs, I.base.tbls⟩, ?_, fun x c' e => ?_, I.free, I.freeC, fun p hp => ?_, fun b ob e => ?_, I.len⟩
  · exact c.keep b o (nst b (neL b o e) hb) (neX b o e) (I.base.keep b o e n hb hx)
  · obtain ⟨sl, e1⟩ := I.base.slot b o e n hb hx
    obtain ⟨sl', e2⟩ := c.slot b _ (neX b o e) e1
    exact ⟨sl', e2⟩
  · obtain ⟨o', e1⟩ := I.base.there b o e hx
    exact c.there b o' e1
  · obtain ⟨m, ⟨o, es, ep, ho, r⟩, hl⟩ := I.loc
    obtain ⟨sl, q⟩ := c.slot _ o (fun z => (h0 _ z).2.2.1 rfl) ho
    refine ⟨m, ⟨_, es, ep, q, r⟩, fun i x v e1 e2 e3 => ?_⟩
    obtain ⟨u, r, l⟩ := hl i x v e1 e2 e3
    refine ⟨u, r, ?_⟩
    rcases l with l | ⟨k, c', e, z⟩
    · exact .inl l
    · exact .inr ⟨k, c', e, cellK x c' e _ z⟩
  · obtain ⟨v, z⟩ := I.cell x c' e
    exact ⟨v, cellK x c' e v z⟩
  · obtain ⟨e, n, ne, nf, d⟩ := I.pin p hp
    exact ⟨c.keep p.1 p.2 (nst p.1 ne nf) (fun z => (h0 p.1 z).2.2.2.2 p hp rfl) e, n, ne, nf, d⟩
  · have nt : ∀ b' u, H b' = some u → b' ∉ frs X.stack ∧ b' ∉ xs := fun b' u q => ⟨fun z => (by rw [I.stkFree b' z] at q; cases q), fun z => (by rw [(h0 b' z).2.1] at q; cases q)⟩
    refine (I.hok b ob e).stay (fun c' v hc q => ?_) (fun _ q => q) fun _ _ q => q
    have : ∃ u, H c' = some u := by
      rcases hc with z | z
      · rw [z]; exact ⟨ob, e⟩
      · exact ⟨_, z⟩
    obtain ⟨u, hu⟩ := this
    exact c.keep c' v (nt c' u hu).1 (nt c' u hu).2 q
/-- a record that was not there at s is none of ours -/
theorem Inv.new (I : Inv X pins σ H s) (hex : X.ex = []) {b : Addr} (n : s.heap.get? b = none) : X.s₀.heap.get? b = none ∧ b ≠ X.env.locals ∧ (∀ x c, X.env.cells.lookup x = some c → c ≠ b) ∧ ∀ p ∈ X.pn ++ pins, p.1 ≠ b := by
  refine ⟨?_, fun z => ?_, fun x c e z => ?_, fun p hp z => ?_⟩
  · cases q : X.s₀.heap.get? b with
    | none => rfl
    | some o => obtain ⟨o', e⟩ := I.base.there b o q (by rw [hex]; simp); rw [n] at e; cases e
  · obtain ⟨m, ⟨o, _, _, ho, _⟩, _⟩ := I.loc
    rw [← z, n] at ho; cases ho
  · obtain ⟨v, o, ho, _⟩ := I.cell x c e
    rw [z, n] at ho; cases ho
  · have := (I.pin p hp).1
    rw [z, n] at this; cases this

/-- an exception of the body leaves the def -/
theorem leave_cx {ea C : Addr} {T : Option Addr} {E : XK} {M : Model} {Z : Value → Shared → Prop} (I : Inv X pins σ H s) (hex : X.ex = []) (hstk : X.stack = X.env :: X.outer) (hf : X.env.frame = some X.env.locals)
    (hos : s'.os = s.os) (hb : AllBare s'.gens) (u : Un (frs X.stack) [] H H' s.heap s'.heap) (hok : HOk X.prog X.w H' s'.heap) (ht : Tr s'.heap ea (.ref C) T .none) (hne : s.heap.get? ea = none) (hHe : H' ea = none)
    (hT : ∀ t, T = some t → s.heap.get? t = none ∧ H' t = none) (hE : E (.ref C) none H') :
    wpAny M X.A (leaving X.env (.ref ea)) (fun _ s'' => CX1 X.prog X.w X.outer X.H₀ X.s₀ E (.ref ea) s'') Z s' := by
  have J : Inv X pins σ H' s' := I.call' hos u hok hb (fun b z => absurd z (by simp))
  have fl := J.stack
  rw [hstk] at fl
  refine leave_ok (by rw [J.ok.frames, hstk]) fl hf ht fun h2 T2 t2 n2 c2 => ?_
  rw [← hstk] at c2
  have h0 : ∀ b ∈ ea :: trs T, X.s₀.heap.get? b = none ∧ H' b = none ∧ b ≠ X.env.locals ∧ (∀ x c, X.env.cells.lookup x = some c → c ≠ b) ∧ ∀ p ∈ X.pn ++ pins, p.1 ≠ b := fun b hb => by
    rcases List.mem_cons.mp hb with z | z
    · subst z
      obtain ⟨a1, a2, a3, a4⟩ := I.new hex hne
      exact ⟨a1, hHe, a2, a3, a4⟩
    · have e : T = some b := by
        cases T with
        | none => simp [trs] at z
        | some t => simp [trs] at z; rw [z]
      obtain ⟨n1, n3⟩ := hT b e
      obtain ⟨a1, a2, a3, a4⟩ := I.new hex n1
      exact ⟨a1, n3, a2, a3, a4⟩
  have K := J.chg c2 h0
  refine ⟨ea, C, H', T2, rfl, K.os, K.bare, by have := K.base; rw [hex] at this; exact this, K.hok, t2, (h0 ea (by simp)).1, (J.new hex n2).1, hHe, J.hok.none n2, hE⟩
end

/-! ### a def whose exceptions are told -/
theorem cx_leave {P : Program} {w : World} {K : PySem.W.Frag} {mg : Str → Option Value} {base : Heap} {N : List Str} {qual : Str} {scope : Scope} {f : Addr} {cd : Value} {A : Around} {outer : List Env} {s0 : Shared} {H0 : Hp} {E : XK}
    {pins : List (Addr × Obj)} {σ : St} {H H' : Hp} {s s' : Shared} {ea C : Addr} {T : Option Addr} (I : Inv (cxOf (CX1 P w) P w K mg base N qual scope f cd A outer s0 H0 E) pins σ H s)
    (hos : s'.os = s.os) (hb : AllBare s'.gens) (u : Un (frs (cxOf (CX1 P w) P w K mg base N qual scope f cd A outer s0 H0 E).stack) [] H H' s.heap s'.heap) (hok : HOk P w H' s'.heap) (ht : Tr s'.heap ea (.ref C) T .none) (hne : s.heap.get? ea = none) (hHe : H' ea = none)
    (hT : ∀ t, T = some t → s.heap.get? t = none ∧ H' t = none) (hE : E (.ref C) none H') : (cxOf (CX1 P w) P w K mg base N qual scope f cd A outer s0 H0 E).xe (.ref ea) s' :=
  leave_cx (X := cxOf (CX1 P w) P w K mg base N qual scope f cd A outer s0 H0 E) (E := E) I rfl rfl rfl hos hb u hok ht hne hHe hT hE
/-- what a body may do with an exception: raise it -/
def Raises (X : Cx) (E : XK) : Prop := ∀ (pins : List (Addr × Obj)) (σ : St) (H : Hp) (s : Shared) (h' : Heap) (e C : Addr) (vs : List Value), Inv X pins σ H s → Heap.MadeExcOf s.heap h' e (.ref C) vs → E (.ref C) none H → X.xe (.ref e) { s with heap := h' }
theorem cx_raise {P : Program} {w : World} {K : PySem.W.Frag} {mg : Str → Option Value} {base : Heap} {N : List Str} {qual : Str} {scope : Scope} {f : Addr} {cd : Value} {A : Around} {outer : List Env} {s0 : Shared} {H0 : Hp} {E : XK} :
    Raises (cxOf (CX1 P w) P w K mg base N qual scope f cd A outer s0 H0 E) E := fun pins σ H s h' e C vs I m hE =>
  cx_leave (s' := { s with heap := h' }) I rfl I.bare (Un.kept m.keeps) (I.hok.kept m.keeps) (Tr.made m) m.new (I.hok.none m.new) (fun t z => nomatch z) hE
section
variable {X : Cx} {E : XK} {x : Str} {C : Addr} {np cpos pos : Pos} {e : Expr} {es : List Expr} {t : TA} {bmB : List Value}
/-- raise C(e, ..): C an own class below a built-in one -/
def sRaise (C : Addr) (E : XK) (t : TA) : TS := fun D σ H => t σ H fun vs H1 => vs.length ≤ sizeLine ∧ E (.ref C) none H1
theorem ps_raise {B newId initId : String} (hr : Raises X E) (FB : ExcBaseFacts B newId initId bmB) (q : PySem.W.excIn X.K C bmB newId = true) (hc : X.calm = true) (hg : Gl X x) (hm : X.mg x = some (.ref C)) (ha : PA X (e :: es) t)
    (hdb : (x == ("__debug__" : Str)) = false := by decide) (he : starEach (e :: es) X.env = (false, eval e X.env) :: starEach es X.env := by rfl) (hpl : (backTo cpos (starEach es X.env)).any (·.1) = false := by rfl) :
    PS X (.Raise (some (.Call (.Name x np) (e :: es) [] cpos)) none pos) (sRaise C E t) := by
  intro pins s σ H D I h
  have KX : X.K.In X.base := I.ok.mod.kin
  unfold PySem.W.excIn at q
  split at q
  · rename_i dd cd sl ho
    split at q
    · rename_i C' bm k0 k1 k2 k3 n k5 hmro hs
      simp only [Bool.and_eq_true, beq_iff_eq, Bool.not_eq_true'] at q
      obtain ⟨⟨⟨⟨⟨rfl, rfl⟩, hdel⟩, htl⟩, hokN⟩, hni⟩ := q
      obtain ⟨nm, bs, mro, ns, qn, hd, sn, sub, ab, col, del⟩ := cd
      dsimp only at hmro hdel hokN hni
      subst hmro hdel
      have hsl : sl = #[k0, k1, k2, k3, some (.builtin n), k5] := by
        obtain ⟨l⟩ := sl
        simp only at hs
        rw [hs]
      subst hsl
      refine wpAny_Raise_call_subT (C := C') (nm := nm) (q := qn) (N := ns) (bs := bs) (bm := bm) (hdct := hd) (sn := sn) (sub := sub) (ab := ab) (col := col) (dd := dd) (k0 := k0) (k1 := k1) (k2 := k2) (k3 := k3) (k5 := k5) FB (mN := X.base.nsMap ns) ((PySem.W.tail_of_in KX htl).hasType FB.hasBase) (I.ok.hd hc) (by rw [he]; show (false || (backTo cpos (starEach es X.env)).any (·.1)) = false; rw [hpl]; rfl) (PySem.W.nsMap_none_of_in KX hokN hni)
        (ld_glob I hg hm ⟨rfl, ?_⟩ hdb)
      have ha' := ha cpos pins s σ H _ I h
      rw [he] at ha' ⊢
      refine Calls.evalArgs_plain (thn ha' fun us s1 ⟨vs, H1, I1, r, z, q⟩ => ⟨rfl, by rw [← r.length]; exact z, I1.bk _ _ (KX _ _ ho), (Heap.Ns.of_isNs (PySem.W.isNs_of_in KX hokN)).keeps I1.bk, (PySem.W.tail_of_in KX htl).keeps I1.bk, fun h' ea m => hr pins σ H1 s1 h' ea _ us I1 m q⟩)
    · cases q
  · cases q
end
end L2

namespace L2
open PySem PySem.Spec PyProof.Rows
/-! ### try: .. except C as n: .. (a suite that returns) -/
abbrev Cx.alt (X : Cx) (A : Around) (calm : Bool) (pn : List (Addr × Obj)) (xe : Value → Shared → Prop) : Cx := { X with A := A, calm := calm, pn := pn, xe := xe }
theorem Cx.Ok.alt {X : Cx} (ok : X.Ok) {A : Around} {calm : Bool} {pn : List (Addr × Obj)} {xe : Value → Shared → Prop} (hf : A.frames = X.A.frames) (hh : calm = true → A.handled = none) : (X.alt A calm pn xe).Ok :=
  ⟨ok.mod, ok.kind, ok.glob, ok.blt, ok.above, ok.inj, ok.has, ok.cab, hh, hf.trans ok.frames, ok.stk, ok.exf, ok.bs, ok.bsz, ok.noex, ok.exfs, ok.funs, ok.frf⟩
section
variable {X : Cx} {pins pins' pn pn' : List (Addr × Obj)} {σ : St} {H : Hp} {s : Shared} {A A' : Around} {calm calm' : Bool} {xe xe' : Value → Shared → Prop} {h' : Heap}
theorem Inv.alt (I : Inv (X.alt A calm pn xe) pins σ H s) (ok : (X.alt A' calm' pn' xe').Ok) (hp : ∀ p ∈ pn' ++ pins', s.heap.get? p.1 = some p.2 ∧ H p.1 = none ∧ p.1 ≠ X.env.locals ∧ p.1 ∉ X.fs ∧ ∀ v, p.2.data ≠ .cell v) :
    Inv (X.alt A' calm' pn' xe') pins' σ H s := ⟨ok, I.os, I.bare, I.base, I.loc, I.cell, I.free, I.freeC, hp, I.hok, I.len⟩
/-- the names are forgotten -/
theorem Inv.forget {m' : Str → Option Value} {tk : Nat} (I : Inv X pins σ H s) (hn : h'.Ns X.env.locals m') (hs : Heap.SameBut X.env.locals s.heap h') : Inv X pins (List.replicate X.N.length none) H { s with heap := h', toks := tk } := by
  obtain ⟨m, hn0, hl⟩ := id I.loc
  obtain ⟨oL, _, _, hoL, _⟩ := id hn0
  have cne := I.cne
  have neL : ∀ b o, X.s₀.heap.get? b = some o → b ≠ X.env.locals := fun b o e => Nat.ne_of_lt (Nat.lt_of_lt_of_le (Heap.lt_size e) I.ok.above)
  refine ⟨I.ok, I.os, I.bare, ⟨fun b o e n hb hx => ?_, fun b o e n hb hx => ?_, I.base.free, fun b o e hx => ?_, I.base.tups, I.base.frzs, I.base.tbls⟩, ⟨_, hn, fun j y v' e1 e2 e3 => ?_⟩, fun y c e => ?_, I.free, I.freeC, fun p hp => ?_, fun b ob e => ?_, by simp⟩
  · exact (hs.2 b (neL b o e)).trans (I.base.keep b o e n hb hx)
  · obtain ⟨sl, e1⟩ := I.base.slot b o e n hb hx
    exact ⟨sl, (hs.2 b (neL b o e)).trans e1⟩
  · obtain ⟨o', e1⟩ := I.base.there b o e hx
    exact ⟨o', (hs.2 b (neL b o e)).trans e1⟩
  · rw [List.getElem?_replicate] at e2
    split at e2 <;> cases e2
  · obtain ⟨w', z⟩ := I.cell y c e
    exact ⟨w', z.sameBut hs (cne y c e)⟩
  · obtain ⟨e, n, ne, nf, d⟩ := I.pin p hp
    exact ⟨(hs.2 p.1 ne).trans e, n, ne, nf, d⟩
  · refine (I.hok b ob e).stay (fun c w' hc q => (hs.2 c ?_).trans q) (fun _ q => q) fun _ _ q => q
    rintro rfl
    rcases hc with z | hc
    · rw [← z, I.free] at e; cases e
    · rw [I.free] at hc; cases hc
end
/-- the exception as the suite finds it -/
structure Caught (H : Hp) (ea C : Addr) (oe : Obj) : Prop where
  cls : oe.cls = .ref C
  dict : oe.dict = none
  no : PySem.W.notCls oe = true
  free : H ea = none
  ctx : ∃ vs, oe.data = .fields vs ∧ vs[2]? = some .none
/-- the context of the suite -/
abbrev Cx.su (X : Cx) (ea : Addr) (pn : List (Addr × Obj)) : Cx := X.alt (X.A.mark (some (.ref ea))) false pn (fun _ _ => False)
section
variable {X : Cx} {x n : Str} {B : Addr} {i : Nat} {np hpos pos : Pos} {body suite : List Stmt} {b₀ : Stmt} {tb : XK → TS} {ts : Addr → Addr → List (Addr × Obj) → TS} {PC : Addr → Prop}
def eTry (K : PySem.W.Frag) (PC : Addr → Prop) (N i : Nat) (B : Addr) (ts : Addr → Addr → List (Addr × Obj) → TS) (D : Ends) : XK := fun cls _ H => ∃ C, cls = .ref C ∧ PC C ∧ PySem.W.exmOne K (.ref C) (.ref B) = some true ∧
  ∀ ea pn, H ea = none → ts ea C pn { nx := fun _ _ => False, rt := D.rt } ((List.replicate N none).set i (some (.ref ea))) H
def sTry (K : PySem.W.Frag) (PC : Addr → Prop) (N i : Nat) (B : Addr) (tb : XK → TS) (ts : Addr → Addr → List (Addr × Obj) → TS) : TS := fun D σ H => tb (eTry K PC N i B ts D) D σ H
theorem catch_ok {pins pins' : List (Addr × Obj)} {σ' : St} {H1 : Hp} {s1 s1' : Shared} {e : Value} {D : Ends} {xe : Value → Shared → Prop} (ok : X.Ok) (hstk : X.stack = X.env :: X.outer) (hf : X.env.frame = some X.env.locals) (hex : X.ex = []) (hN : X.N.Nodup) (hi : X.N[i]? = some n) (hl : X.env.kindOf n = some .local)
    (hg : Gl X x) (hm : X.mg x = some (.ref B))
    (hs : ∀ ea C oe pn H, (ea, oe) ∈ pn → PC C → Caught H ea C oe → PSs (X.su ea pn) (b₀ :: suite) (ts ea C pn)) (hd : (x == ("__debug__" : Str)) = false)
    (I1 : Inv (X.alt X.A X.calm (X.pn ++ pins) xe) pins' σ' H1 s1) (q : CX1 X.prog X.w X.stack H1 s1 (eTry X.K PC X.N.length i B ts D) e s1') :
    wpAny (model X.prog X.w) X.A (noteFrame e X.env) (fun _ s₂ => wpAny (model X.prog X.w) X.A (setFlight e none) (fun _ s₃ =>
      wpAny (model X.prog X.w) X.A (handleBy e X.env [.ExceptHandler (some (.Name x np)) (some n) (b₀ :: suite) hpos]) (SP X pins D) X.xe s₃) X.xe s₂) X.xe s1' := by
  obtain ⟨ea, C, H', T, rfl, os, bare, u, hok, ht, hne, hnT, hHe, hHT, C', hC', hPC, hmt, q⟩ := q
  cases hC'
  have J0 := I1.call' os u hok bare (fun b z => absurd z (by simp))
  have fl := J0.stack
  have fl : s1'.heap.FunFrames X.base (X.env :: X.outer) := hstk ▸ fl
  refine note_ok (base := X.base) (by rw [ok.frames, hstk]) fl hf ht fun h2 T2 t2 n2 c2 => ?_
  rw [← hstk] at c2
  have J1 := J0.chg (h' := h2) (xs := ea :: trs (some T)) c2 fun b hb => by
    rcases List.mem_cons.mp hb with z | z
    · subst z
      obtain ⟨a1, a2, a3, a4⟩ := I1.new hex hne
      exact ⟨a1, hHe, a2, a3, a4⟩
    · have e : b = T := by simpa [trs] using z
      subst e
      obtain ⟨a1, a2, a3, a4⟩ := I1.new hex hnT
      exact ⟨a1, hHT, a2, a3, a4⟩
  have hT2 : H' T2 = none := J0.hok.none n2
  obtain ⟨b1, b2, b3, b4⟩ := J0.new hex n2
  refine flight_ok t2 fun h3 t3 c3 => ?_
  have J2 := J1.chg (h' := h3) (xs := [T2]) (c3.mono (fun _ z => nomatch z) fun _ z => z) fun b hb => by
    have e : b = T2 := by simpa using hb
    subst e
    exact ⟨b1, hT2, b2, b3, b4⟩
  obtain ⟨oe, vs, he, hcl, hdc, hda, hv2, _⟩ := id t3
  have hno : PySem.W.notCls oe = true := by unfold PySem.W.notCls; rw [hda]
  -- the class is tried
  have okS : ∀ pn, (X.su ea pn).Ok := fun pn => ok.alt rfl fun z => nomatch z
  have K2 : Inv (X.su ea (X.pn ++ pins)) [] σ' H' _ := J2.alt (okS _) fun p hp => J2.pin p (by
    rcases List.mem_append.mp hp with z | z
    · exact List.mem_append_left _ z
    · exact nomatch z)
  refine wpAny_handleBy_cons (codeAny_handlers_test (ld_glob (X := X.su ea (X.pn ++ pins)) K2 hg hm ?_ hd)) (by intro q; cases q)
  have IA : PySem.W.InstAt h3 ea oe C none := ⟨he, hcl, hno, by rw [hdc]; trivial⟩
  refine (PySem.W.exm_one (M := model X.prog X.w) K2.kIn IA.type hmt).here ?_
  -- the suite
  refine codeAny_handlers_suite_as (flight_ok t3 fun h4 t4 c4 => ?_)
  have J3 := J2.chg (h' := h4) (xs := [T2]) (c4.mono (fun _ z => nomatch z) fun _ z => z) fun b hb => by
    have e : b = T2 := by simpa using hb
    subst e
    exact ⟨b1, hT2, b2, b3, b4⟩
  obtain ⟨a1, a2, a3, a4⟩ := I1.new hex hne
  have hTe : ea ≠ T2 := by obtain ⟨_, _, _, _, _, _, _, _, z, _⟩ := t3; exact Ne.symm z
  have he4 : h4.get? ea = some oe := c4.keep ea oe (by simp) (by simpa using hTe) he
  have K3 : Inv (X.su ea (X.pn ++ pins ++ [(ea, oe)])) [] σ' H' _ := J3.alt (okS _) fun p hp => by
    rcases List.mem_append.mp hp with z | z
    · rcases List.mem_append.mp z with z | z
      · exact J3.pin p (List.mem_append_left _ z)
      · have e : p = (ea, oe) := by simpa using z
        subst e
        refine ⟨he4, hHe, a2, fun z => ?_, fun v z => by rw [hda] at z; cases z⟩
        obtain ⟨_, o, ho, hnf⟩ := J3.funs.mem z
        have e := ho.symm.trans he4
        cases e
        exact hnf vs hda
    · exact nomatch z
  refine store_ok (X := X.su ea (X.pn ++ pins ++ [(ea, oe)])) K3 hN hi (.inl hl) (v := .ref ea) (u := .ref ea) rfl (fun s5 K5 => ?_) (.inr hl)
  have K6 : Inv (X.su ea (X.pn ++ pins ++ [(ea, oe)])) [] ((List.replicate X.N.length none).set i (some (.ref ea))) H' s5 := K5.weak (by simp [K3.len]) fun j v e => by
    by_cases hj : j = i
    · subst hj
      rw [List.getElem?_set] at e ⊢
      have hlen := K3.len
      simp at e
      simp [e] at *
      omega
    · rw [List.getElem?_set_ne (Ne.symm hj), List.getElem?_replicate] at e
      split at e <;> cases e
  refine wpAny_mono (hs ea C oe _ H' (by simp) hPC ⟨hcl, hdc, hno, hHe, vs, hda, hv2⟩ [] s5 _ H' _ K6 (q ea _ hHe)) (fun f s6 z => ?_) fun _ _ z => z.elim
  cases f with
  | next => obtain ⟨_, _, _, z⟩ := z; exact z.elim
  | brk => obtain ⟨_, _, _, z⟩ := z; exact z.elim
  | cont => obtain ⟨_, _, _, z⟩ := z; exact z.elim
  | ret u =>
    obtain ⟨v, σ7, H7, K7, rv, z⟩ := z
    obtain ⟨m7, hn7, _⟩ := K7.loc
    have L7 : Inv X pins σ7 H7 s6 := Inv.alt (X := X) (A' := X.A) (calm' := X.calm) (pn' := X.pn) (xe' := X.xe) K7 ok fun p hp => K7.pin p (by simp only [List.append_nil]; exact List.mem_append_left _ hp)
    exact wpAny_nameGoes hl hn7 (by rw [ok.kind]; rfl) fun h8 m8 hn8 hs8 => ⟨v, _, H7, L7.forget hn8 hs8, rv, z⟩
theorem ps_try (hstk : X.stack = X.env :: X.outer) (hf : X.env.frame = some X.env.locals) (hex : X.ex = []) (hN : X.N.Nodup) (hi : X.N[i]? = some n) (hl : X.env.kindOf n = some .local)
    (hg : Gl X x) (hm : X.mg x = some (.ref B)) (hc : X.calm = true)
    (hb : ∀ pn xe E, Passes (CX1 X.prog X.w) (X.alt X.A X.calm pn xe) E → PSs (X.alt X.A X.calm pn xe) body (tb E))
    (hs : ∀ ea C oe pn H, (ea, oe) ∈ pn → PC C → Caught H ea C oe → PSs (X.su ea pn) (b₀ :: suite) (ts ea C pn)) (hd : (x == ("__debug__" : Str)) = false := by decide) :
    PS X (.Try body [.ExceptHandler (some (.Name x np)) (some n) (b₀ :: suite) hpos] [] [] pos) (sTry X.K PC X.N.length i B tb ts) := by
  intro pins s σ H D I h
  refine wpAny_Try_except ?_
  have okA : (X.A.mark none).frames = X.A.frames := rfl
  have I' : ∀ xe, Inv (X.alt X.A X.calm (X.pn ++ pins) xe) [] σ H s := fun xe => Inv.alt (X := X) (A := X.A) (calm := X.calm) (pn := X.pn) (xe := X.xe) I (I.ok.alt rfl I.ok.hd) fun p hp => I.pin p (by simpa using hp)
  refine wpAny_mono (hb (X.pn ++ pins) _ _ ?_ [] s σ H D (I' _) h) (fun f s1 q => ?_) (fun e s1 z => z)
  · intro pins' σ' H1 s1 e s1' I1 q
    exact catch_ok I.ok hstk hf hex hN hi hl hg hm hs hd I1 q
  · have back : ∀ xe σ' H', Inv (X.alt X.A X.calm (X.pn ++ pins) xe) [] σ' H' s1 → Inv X pins σ' H' s1 := fun xe σ' H' J => Inv.alt (X := X) (A' := X.A) (calm' := X.calm) (pn' := X.pn) (xe' := X.xe) J I.ok fun p hp => J.pin p (by simpa using hp)
    cases f with
    | next => obtain ⟨σ', H', J, q⟩ := q; exact wpAny_execs_nil ⟨σ', H', back _ _ _ J, q⟩
    | brk => obtain ⟨σ', H', J, q⟩ := q; exact ⟨σ', H', back _ _ _ J, q⟩
    | cont => obtain ⟨σ', H', J, q⟩ := q; exact ⟨σ', H', back _ _ _ J, q⟩
    | ret u => obtain ⟨v, σ', H', J, r, q⟩ := q; exact ⟨v, σ', H', back _ _ _ J, r, q⟩
end
end L2

namespace L2
open PySem PySem.Spec PyProof.Rows
/-! ### a list walked to its end within an except suite -/
section
variable {prog : Program} {w : World} {A : Around} {E : Value → Shared → Prop} {s : Shared} {ea : Addr} {oe : Obj} {vs : Array Value}
theorem entry_unchain : entryFor table "proto.unchain" = some Builtin.«proto.unchain» := entryFor_of_fast (by kernel_rfl)
theorem updField_ok {a : Addr} {i : Nat} {v : Value} {o : Obj} {vs : Array Value} {Q : Unit → Shared → Prop} {M : Model} (ho : s.heap.get? a = some o) (hd : o.data = .fields vs) (hi : i < vs.size)
    (h : Q () { s with heap := s.heap.update a (Obj.mapFields (·.setIfInBounds i v)) }) : wpAny M A (updateField a i v) Q E s := by
  unfold updateField
  refine wpAny_bind (wpAny_load ho ?_)
  rw [hd]
  dsimp only
  rw [if_pos hi]
  exact wpAny_update ho h
theorem raiseNew_ok {α : Type} {e : Addr} {o : Obj} {us : Array Value} {Q : α → Shared → Prop} (hh : A.handled = some (.ref ea)) (hea : s.heap.get? ea = some oe) (hda : oe.data = .fields vs) (h2 : vs[2]? = some .none) (hne : e ≠ ea)
    (he : s.heap.get? e = some o) (hd : o.data = .fields us) (hu : 2 < us.size) (h : E (.ref e) { s with heap := s.heap.update e (Obj.mapFields (·.setIfInBounds 2 (.ref ea))) }) : wpAny (model prog w) A (raiseNew (.ref e) : Sem α) Q E s := by
  unfold raiseNew
  refine wpAny_bind (wpAny_handled ?_)
  rw [hh]
  dsimp only
  rw [if_pos (show (Value.ref ea != Value.ref e) = true by simp [Ne.symm hne])]
  refine wpAny_bind (wpAny_holding (wpAny_runValue (codeAny_builtin entry_unchain ?_)))
  unfold Builtin.«proto.unchain»
  dsimp only
  refine wpAny_bind (wpAny_field hea hda h2 ?_)
  rw [if_pos (by decide)]
  refine wpAny_bind (m := ret Value.none) (wpAny_pure (wpAny_pure ?_))
  dsimp only
  exact wpAny_bind (updField_ok he hd hu (wpAny_throw h))
theorem next_end_h {it l : Addr} {i : Nat} {items} {Q : Option Value → Shared → Prop} (hh : A.handled = some (.ref ea)) (hea : s.heap.get? ea = some oe) (hda : oe.data = .fields vs) (h2 : vs[2]? = some .none) (hne : ea ≠ it)
    (hit : s.heap.IsListIter it l i) (hl : s.heap.IsList l items) (hx : items[i]? = none)
    (hQ : ∀ h', Heap.ExtBut it s.heap h' → Q none { s with heap := h' }) : wpAny (model prog w) A (pyNext (.ref it)) Q E s := by
  obtain ⟨o, ho, hc, hd⟩ := id hit
  obtain ⟨ol, hol, _, nl, hdl⟩ := hl
  unfold pyNext
  refine wpAny_bind (wpAny_attempt (wpAny_callSpecial?_slot (name := Str.ofString "__next__") hit.typeIs slot_listiter_next
    (wpAny_call_entry slot_listiter_next hit.typeIs entry_listiter_next ?_ (args_listiter_next _))))
  show wpAny _ _ (field (.ref it) 0 >>= _) _ _ s
  refine wpAny_bind (wpAny_field ho hd (x := .ref l) rfl ?_)
  show wpAny _ _ (if (Value.ref l == Value.none) = true then _ else _) _ _ s
  rw [if_neg (show ¬ ((Value.ref l == Value.none) = true) from Bool.false_ne_true)]
  show wpAny _ _ (field (.ref it) 1 >>= _) _ _ s
  refine wpAny_bind (wpAny_field ho hd (x := .int i 0) rfl ?_)
  show wpAny _ _ (seqItems? (.ref l) >>= _) _ _ s
  refine wpAny_bind (wpAny_seqItems hol hdl ?_)
  simp only [Int.toNat_natCast, hx]
  refine wpAny_bind (wpAny_rule (wpAny_bind (wpAny_setField ho hd (by simp) ?_)))
  show wpAny _ _ (newExc (.type "StopIteration") [] >>= _) _ _ _
  refine wpAny_bind ?_
  simp only [newExc, newTuple]
  refine wpAny_bind (wpAny_newObj_type ?_ (by size_fits))
  refine wpAny_bind (m := firstArgMember _ _) (wpAny_of_eq (a := Value.none) (by first | rfl | (simp only [firstArgMember]; rfl)) ?_)
  refine wpAny_newObj_type ?_ (by size_fits)
  have hea1 := Heap.get?_push_of_some { cls := .type "tuple", dict := none, data := .seq ([] : List Value).toArray } ((Heap.get?_update_other s.heap (Obj.mapFields fun vs => vs.setIfInBounds 0 Value.none) (Ne.symm hne)).trans hea)
  have e1 : ∀ (h1 : Heap) (o1 : Obj), s.heap.objs.size ≤ h1.objs.size → h1.objs.size ≠ ea := fun h1 o1 z => Nat.ne_of_gt (Nat.lt_of_lt_of_le (Heap.lt_size hea) z)
  refine raiseNew_ok (A := A.in1) (o := _) hh (Heap.get?_push_of_some _ hea1) hda h2 (e1 _ oe (by simp [Heap.size_push, Heap.size_after_update])) (Heap.get?_push_size _ rfl) rfl (by simp; omega) ?_
  refine wpAny_bind (wpAny_isInstance (T := "StopIteration") (b := true) ⟨_, Heap.get?_update_self _ (Heap.get?_push_size _ rfl) rfl, rfl⟩ isSubtype_stop ?_)
  refine wpAny_pure (hQ _ fun b o hb hbo => ?_)
  rw [Heap.get?_update_other _ _ (Nat.ne_of_gt (Nat.lt_of_lt_of_le (Heap.lt_size hbo) (by simp only [Heap.size_push, Heap.size_after_update]; exact Nat.le_succ _)))]
  exact (((Heap.SameBut.update ..).extBut.push _).push _) b o hb hbo
theorem walk_list_h {it ax : Addr} (hh : A.handled = some (.ref ea)) (hda : oe.data = .fields vs) (h2 : vs[2]? = some .none) (hne : ea ≠ it) (hna : ax ≠ it) (items : Array Value) :
    Walks prog w A it [it, ax, ea] [it] items.size (fun i v => items[i]? = some v) (fun i h => h.IsListIter it ax i ∧ h.IsList ax items ∧ h.get? ea = some oe) where
  sub := fun b hb => by simp at hb; simp [hb]
  frame := fun _ _ _ st hk => ⟨st.1.at fun o e => hk it (by simp) o e, st.2.1.at fun o e => hk ax (by simp) o e, hk ea (by simp) _ st.2.2⟩
  item := fun i s Q E hi st hQ => by
    refine wpAny_pyNext_list_item st.1 st.2.1 (x := items[i]) (by simp [hi]) fun h' hit' hs' => ?_
    exact hQ _ h' s.toks (by simp [hi]) ⟨hit', st.2.1.extBut hs'.extBut hna, hs'.extBut ea oe hne st.2.2⟩ fun b o hb e => hs'.extBut b o (fun h => hb (by simp [h])) e
  done := fun s Q E st hQ => next_end_h hh st.2.2 hda h2 hne st.1 st.2.1 (by simp) fun h' he' => hQ h' s.toks fun b o hb e => he' b o (fun h => hb (by simp [h])) e
  self := fun _ _ _ _ st hQ => wpAny_pyIter_listiter st.1 hQ
end
section
variable {X : Cx} {C ea : Addr} {oe : Obj} {H0 : Hp}
theorem call_any_h (hh : X.A.handled = some (.ref ea)) (hp : (ea, oe) ∈ X.pn) (ct : Caught H0 ea C oe) : CallR X (.builtin "any") (fun xs H Q => ∃ (p : Addr) (bs : List Bool), xs = [.ref p] ∧ SqL X.K H p (bs.map V.bl) ∧ Q (.bl (bs.any id)) H) := by
  intro pins s σ H xs us Q I r h
  obtain ⟨p, bs, rfl, hq, q⟩ := h
  obtain ⟨u, rfl, rx⟩ := vals1 r
  cases rx
  obtain ⟨vs, hda, h2⟩ := ct.ctx
  obtain ⟨hea, _⟩ := I.pin (ea, oe) (List.mem_append_left _ hp)
  obtain ⟨its, r', pl, hz⟩ := I.list hq
  have e := boolsAre_of r'
  subst e
  have hl := pl.isList
  have hlt : p < s.heap.objs.size := by obtain ⟨_, e, _⟩ := hl; exact Heap.lt_size e
  refine call_any_walk (wpAny_pyIter_list hl ?_)
  refine ⟨s.heap.objs.size, [s.heap.objs.size, p, ea], [s.heap.objs.size], (bs.map Value.bool).toArray.size, _, _, fun i => (bs[i]?).getD false, rfl, walk_list_h (A := X.A.in1) (oe := oe) hh hda h2 (Nat.ne_of_lt (Heap.lt_size hea)) (Nat.ne_of_lt hlt) (bs.map Value.bool).toArray,
    ⟨⟨_, Heap.get?_push_size _ rfl, rfl, rfl⟩, hl.push _, Heap.get?_push_of_some _ hea⟩, fun i v s' Q' E' hP hQ => ?_, fun h' tk hk => ?_⟩
  · have hP' : (bs.map Value.bool)[i]? = some v := by simpa using hP
    rw [List.getElem?_map] at hP'
    cases e : bs[i]? with
    | none => rw [e] at hP'; cases hP'
    | some b =>
      rw [e] at hP'
      cases Option.some.inj hP'
      simp only [e, Option.getD_some] at hQ
      exact wpAny_truthy_bool hQ
  · have e : ((List.range (bs.map Value.bool).toArray.size).any fun i => (bs[i]?).getD false) = bs.any id := by
      rw [List.size_toArray, List.length_map]; exact LSm.range_any bs
    rw [e]
    exact ⟨.bl (bs.any id), H, I.kept (LSm.kept_iter hk), rfl, q⟩
end
end L2

namespace L2
open PySem PySem.Spec PyProof.Rows
/-! ### defs that raise -/
structure CalleeX (P : Program) (w : World) (K : PySem.W.Frag) (mg : Str → Option Value) (base : Heap) (k : Nat) (x : Str) (ps : List Str) (sp : Sp) : Prop where
  ex : ∃ (f : Addr) (fd : FuncData), FnOk P w K mg base (CX1 P w) k f fd ps sp ∧ mg x = some (.ref f) ∧ PySem.W.keepIn K (.ref f) = true ∧ Binds K fd ps []
section
variable {X : Cx} {k : Nat} {x : Str} {ps : List Str} {sp : Sp} {p pos : Pos} {e : Expr} {es : List Expr} {t : TA} {E : XK}
theorem pass1 : Passes (CX1 X.prog X.w) X E0 := fun _ _ _ _ _ _ _ h => by obtain ⟨_, _, _, _, _, _, _, _, _, _, _, _, _, _, h⟩ := h; exact h.elim
theorem pe_fnx (c : CalleeX X.prog X.w X.K X.mg X.base k x ps sp) (hx : Passes (CX1 X.prog X.w) X E) (hr : Room k X.A) (hg : Gl X x) (ha : PA X (e :: es) t) (hdb : (x == ("__debug__" : Str)) = false := by decide)
    (he : starEach (e :: es) X.env = (false, eval e X.env) :: starEach es X.env := by rfl) (hpl : (backTo pos (starEach es X.env)).any (·.1) = false := by rfl) : PE X (.Call (.Name x p) (e :: es) [] pos) (tCall sp [] E t) := by
  obtain ⟨f, fd, G, hm, hk, hb⟩ := c.ex
  exact pe_call G hr hg hm hk hb .nil hx ha hdb he hpl
end
theorem CalleeX.of {P : Program} {w : World} {K : PySem.W.Frag} {mg : Str → Option Value} {base : Heap} {k : Nat} {x qual : Str} {st : Stmt} {f : Addr} {fd : FuncData} {ps : List Str} {sp : Sp} (F : Fun K x qual st f fd) (G : FnOk P w K mg base (CX1 P w) k f fd ps sp) (hm : mg x = some (.ref f)) (b : Binds K fd ps []) : CalleeX P w K mg base k x ps sp := ⟨f, fd, G, hm, F.kp, b⟩
theorem Fun.okx {P : Program} {w : World} {K : PySem.W.Frag} {mg : Str → Option Value} {base : Heap} {x qual : Str} {st : Stmt} {f : Addr} {fd : FuncData} {N ps : List Str} {k : Nat} {sp : Sp} (F : Fun K x qual st f fd) (S : FnScope N ps (defScope st)) (len : ∀ vs H Q E, sp vs H Q E → vs.length = ps.length)
    (hbody : ∀ (cdv : Value) (A : Around) (outer : List Env) (s : Shared) (H : Hp) (vs : List V) (Q : VK) (E : XK), Room k (A.deeper (envOfC qual (defScope st) s.heap.objs.size f cdv)) → sp vs H Q E →
      ∃ t, PSs (cxOf (CX1 P w) P w K mg base N qual (defScope st) f cdv A outer s H E) (defBody st) t ∧ t { nx := fun _ H' => Q .non H', rt := Q } (start N vs) H) : FnOk P w K mg base (CX1 P w) (k + 1) f fd ps sp := by
  obtain ⟨oc, od, kV, doc, pm, an, cdv, ct, osl, rfl, lk, hcd⟩ := F.ex
  exact fn_of lk hcd S len fun A outer s H vs Q E hr hsp => hbody cdv A outer s H vs Q E hr hsp
/-- the facts of an own class of exceptions below ValueError -/
structure ExC (K : PySem.W.Frag) (C : Addr) : Prop where
  raises : PySem.W.excIn K C [.type "ValueError", .type "Exception", .type "BaseException", .type "object"] "ValueError.__new__" = true
  asks : PySem.W.ExcC K C
end L2
namespace Sky
open PySem L2
theorem iteNegT {p : Prop} [Decidable p] {A B : Prop} (h : ¬ p) (a : A) : if (!decide p) = true then A else B := by rw [if_pos (by simp [h])]; exact a
def spBarsOf7 (C : Addr) : Sp := fun vs H Q E => ∃ (a : Addr) (P : List Int), vs = [.ref a] ∧ IL H a P ∧ P.length ≤ 100 ∧ PV P ∧
  ∀ D : List Int, IsDep P D → (treeL D = P → newL H Q D) ∧ (treeL D ≠ P → ∀ H', Same H H' → E (.ref C) none H')
def spRefused : Sp := fun vs H Q _ => ∃ (a : Addr) (P : List Int), vs = [.ref a] ∧ IL H a P ∧ P.length ≤ 100 ∧ PV P ∧ (∀ D : List Int, IsDep P D → treeL D ≠ P) ∧ ∀ H', Same H H' → Q (.bl true) H'
end Sky

namespace Sky
/-! ### the tree by the first lowest bar -/
structure Sg (b : List Int) (lo hi : Nat) (ab : Int) : Prop where
  h1 : lo ≤ hi
  h2 : hi ≤ b.length
  l : 0 < lo → ∀ k, lo ≤ k → k < hi → b.getD (lo - 1) 0 ≤ b.getD k 0
  r : hi < b.length → ∀ k, lo ≤ k → k < hi → b.getD hi 0 < b.getD k 0
  ab : ab = if hi = b.length then (lo : Int) - 1 else if lo = 0 ∨ b.getD (lo - 1) 0 ≤ b.getD hi 0 then (hi : Int) else (lo : Int) - 1
/-- the first lowest of [lo, hi) -/
structure Lw (b : List Int) (lo hi m : Nat) : Prop where
  h1 : lo ≤ m
  h2 : m < hi
  l : ∀ k, lo ≤ k → k < m → b.getD m 0 < b.getD k 0
  r : ∀ k, m < k → k < hi → b.getD m 0 ≤ b.getD k 0
theorem Lw.start (b : List Int) (lo : Nat) : Lw b lo (lo + 1) lo := ⟨Nat.le_refl _, Nat.lt_succ_self _, fun k h1 h2 => by omega, fun k h1 h2 => by omega⟩
theorem Lw.step {b : List Int} {lo hi m : Nat} (g : Lw b lo hi m) (h : b.getD hi 0 < b.getD m 0) : Lw b lo (hi + 1) hi := by
  have g1 := g.h1
  have g2 := g.h2
  refine ⟨by omega, Nat.lt_succ_self _, fun k h1 h2 => ?_, fun k h1 h2 => by omega⟩
  rcases Nat.lt_trichotomy k m with z | z | z
  · have := g.l k h1 z; omega
  · subst z; exact h
  · have := g.r k z h2; omega
theorem Lw.stay {b : List Int} {lo hi m : Nat} (g : Lw b lo hi m) (h : ¬ b.getD hi 0 < b.getD m 0) : Lw b lo (hi + 1) m := by
  have g1 := g.h1
  have g2 := g.h2
  refine ⟨g1, by omega, g.l, fun k h1 h2 => ?_⟩
  by_cases hk : k < hi
  · exact g.r k h1 hk
  · have : k = hi := by omega
    subst this; omega
theorem Sg.par {b : List Int} {lo hi m : Nat} {ab : Int} (h : Sg b lo hi ab) (g : Lw b lo hi m) : par b m b.length = ab := by
  have g1 := g.h1
  have g2 := g.h2
  have e2 := h.h2
  have n : Nb b m ((lo : Int) - 1) hi := by
    refine ⟨by omega, by omega, fun k hk hkm => g.l k (by omega) hkm, fun h0 => ?_, g2, e2, g.r, fun hh => h.r hh m g1 g2⟩
    rw [show ((lo : Int) - 1).toNat = lo - 1 by omega]
    exact h.l (by omega) m g1 g2
  rw [n.par, h.ab]
  by_cases hh : hi = b.length
  · rw [if_pos hh, if_pos hh]
  · rw [if_neg hh, if_neg hh]
    by_cases h0 : lo = 0
    · rw [if_pos (.inl (by omega)), if_pos (.inl h0)]
    · rw [show ((lo : Int) - 1).toNat = lo - 1 by omega]
      by_cases hb : b.getD (lo - 1) 0 ≤ b.getD hi 0
      · rw [if_pos (.inr hb), if_pos (.inr hb)]
      · rw [if_neg (fun z => z.elim (fun z => by omega) hb), if_neg (fun z => z.elim h0 hb)]
theorem Sg.left {b : List Int} {lo hi m : Nat} {ab : Int} (h : Sg b lo hi ab) (g : Lw b lo hi m) : Sg b lo m (m : Int) := by
  have g1 := g.h1
  have g2 := g.h2
  have e2 := h.h2
  refine ⟨g1, by omega, fun h0 k h1 h2 => h.l h0 k h1 (by omega), fun _ k h1 h2 => g.l k h1 h2, ?_⟩
  rw [if_neg (by omega)]
  by_cases h0 : lo = 0
  · rw [if_pos (.inl h0)]
  · rw [if_pos (.inr (h.l (by omega) m g1 g2))]
theorem Sg.right {b : List Int} {lo hi m : Nat} {ab : Int} (h : Sg b lo hi ab) (g : Lw b lo hi m) : Sg b (m + 1) hi (m : Int) := by
  have g1 := g.h1
  have g2 := g.h2
  have e2 := h.h2
  refine ⟨g2, e2, fun _ k h1 h2 => ?_, fun hh k h1 h2 => h.r hh k (by omega) h2, ?_⟩
  · rw [Nat.add_sub_cancel]; exact g.r k (by omega) h2
  · rw [Nat.add_sub_cancel]
    by_cases hh : hi = b.length
    · rw [if_pos hh]; omega
    · have := h.r (by omega) m g1 g2
      rw [if_neg hh, if_neg (fun z => z.elim (fun z => by omega) (fun z => by omega))]; omega
structure HInv (b F : List Int) (ws : List (Nat × Nat × Int)) : Prop where
  len : F.length = b.length
  sg : ∀ w ∈ ws, Sg b w.1 w.2.1 w.2.2
  at_ : ∀ i, i < b.length → (∃ w ∈ ws, w.1 ≤ i ∧ i < w.2.1) ∨ F.getD i 0 = par b i b.length
theorem HInv.start (b : List Int) : HInv b (List.replicate b.length (-1)) [(0, b.length, -1)] := by
  refine ⟨by simp, fun w hw => ?_, fun i hi => .inl ⟨_, List.mem_cons_self, Nat.zero_le _, hi⟩⟩
  have e : w = (0, b.length, -1) := by simpa using hw
  subst e
  exact ⟨Nat.zero_le _, Nat.le_refl _, fun z => absurd z (Nat.lt_irrefl 0), fun z => absurd z (Nat.lt_irrefl _), by simp⟩
theorem HInv.skip {b F : List Int} {ws : List (Nat × Nat × Int)} {lo hi : Nat} {ab : Int} (h : HInv b F (ws ++ [(lo, hi, ab)])) (hh : ¬ lo < hi) : HInv b F ws := by
  refine ⟨h.len, fun w hw => h.sg w (List.mem_append_left _ hw), fun i hib => ?_⟩
  rcases h.at_ i hib with ⟨w, hw, h1, h2⟩ | z
  · rcases List.mem_append.mp hw with hw | hw
    · exact .inl ⟨w, hw, h1, h2⟩
    · have e : w = (lo, _, ab) := List.mem_singleton.mp hw
      rw [e] at h1 h2
      simp only at h1 h2
      omega
  · exact .inr z
theorem HInv.split {b F : List Int} {ws : List (Nat × Nat × Int)} {lo hi m : Nat} {ab : Int} (h : HInv b F (ws ++ [(lo, hi, ab)])) (g : Lw b lo hi m) : HInv b (F.set m ab) (ws ++ [(lo, m, (m : Int))] ++ [(m + 1, hi, (m : Int))]) := by
  have S := h.sg (lo, hi, ab) (by simp)
  have hl := h.len
  have g1 := g.h1
  have g2 := g.h2
  have e2 := S.h2
  simp only at e2
  refine ⟨by rw [List.length_set]; exact hl, fun w hw => ?_, fun i hi' => ?_⟩
  · simp only [List.mem_append, List.mem_singleton] at hw
    rcases hw with (hw | hw) | hw
    · exact h.sg w (List.mem_append_left _ hw)
    · subst hw; exact S.left g
    · subst hw; exact S.right g
  · by_cases him : i = m
    · subst him
      right
      rw [List.getD_eq_getElem?_getD, List.getElem?_set_self (by omega)]
      exact (S.par g).symm
    · have e : (F.set m ab).getD i 0 = F.getD i 0 := by rw [List.getD_eq_getElem?_getD, List.getElem?_set_ne (Ne.symm him), ← List.getD_eq_getElem?_getD]
      rw [e]
      rcases h.at_ i hi' with ⟨w, hw, h1, h2⟩ | z
      · rcases List.mem_append.mp hw with hw | hw
        · exact .inl ⟨w, by simp [hw], h1, h2⟩
        · have e : w = (lo, hi, ab) := by simpa using hw
          subst e
          simp only at h1 h2
          by_cases him2 : i < m
          · exact .inl ⟨(lo, m, (m : Int)), by simp, h1, him2⟩
          · exact .inl ⟨(m + 1, hi, (m : Int)), by simp, by simp only; omega, h2⟩
      · exact .inr z
theorem HInv.done {b F : List Int} (h : HInv b F []) : F = treeL b := by
  apply List.ext_getElem?
  intro i
  by_cases hi : i < b.length
  · rw [treeL_get hi]
    rcases h.at_ i hi with ⟨w, hw, _⟩ | z
    · simp at hw
    · have hl := h.len
      rw [List.getElem?_eq_getElem (by omega)]
      rw [List.getD_eq_getElem?_getD, List.getElem?_eq_getElem (by omega)] at z
      exact congrArg some z
  · have hl := h.len
    rw [List.getElem?_eq_none (by omega), List.getElem?_eq_none (by rw [treeL_length]; omega)]
def hms (ws : List (Nat × Nat × Int)) : Nat := (ws.map fun w => 2 * (w.2.1 - w.1) + 1).sum
theorem hms_snoc (ws : List (Nat × Nat × Int)) (lo hi : Nat) (ab : Int) : hms (ws ++ [(lo, hi, ab)]) = hms ws + (2 * (hi - lo) + 1) := by simp [hms]
theorem hms_len (ws : List (Nat × Nat × Int)) : ws.length ≤ hms ws := by
  induction ws with
  | nil => simp [hms]
  | cons w r ih => simp [hms] at ih ⊢; omega
/-! ### the walk up -/
structure Up (P : List Int) (i k j : Nat) : Prop where
  lt : j < P.length
  iff : ∀ d, Dep P j d ↔ Dep P i (d + k)
  no : ∀ d, d < k → ¬ Dep P i d
theorem Up.start {P : List Int} {i : Nat} (h : i < P.length) : Up P i 0 i := ⟨h, fun d => Iff.rfl, fun d h => absurd h (Nat.not_lt_zero _)⟩
theorem Up.step {P : List Int} {i k j j' : Nat} (h : Up P i k j) (e : P.getD j 0 = (j' : Int)) (hj : j' < P.length) : Up P i (k + 1) j' := by
  have nr : ¬ Dep P j 0 := fun z => by
    cases z with
    | root _ q => rw [e] at q; omega
  refine ⟨hj, fun d => ?_, fun d hd => ?_⟩
  · rw [show d + (k + 1) = (d + 1) + k by omega, ← h.iff]
    constructor
    · intro z; exact .under h.lt e z
    · intro z
      cases z with
      | under _ q t =>
        rw [e] at q
        have := Int.ofNat.inj q
        subst this
        exact t
  · by_cases hk : d < k
    · exact h.no d hk
    · have e2 : d = k := by omega
      subst e2
      intro z
      exact nr ((h.iff 0).mpr (by rw [Nat.zero_add]; exact z))
theorem Up.root {P : List Int} {i k j : Nat} (h : Up P i k j) (e : P.getD j 0 = -1) : Dep P i k := by
  have := (h.iff 0).mp (.root h.lt e)
  rwa [Nat.zero_add] at this
theorem Up.never {P : List Int} {i k j : Nat} (h : Up P i k j) (hk : P.length < k) : ∀ d, ¬ Dep P i d := fun d z => h.no d (by have := z.small; omega) z
open Classical in
/-- how many steps the walk says -/
noncomputable def stp (P : List Int) (i : Nat) : Int := if h : ∃ d, Dep P i d then ((Classical.choose h : Nat) : Int) else (P.length : Int) + 1
theorem stp_dep {P : List Int} {i d : Nat} (h : Dep P i d) : stp P i = (d : Int) := by
  have hh : ∃ d, Dep P i d := ⟨d, h⟩
  unfold stp
  rw [dif_pos hh]
  exact congrArg _ ((Classical.choose_spec hh).uniq h)
theorem stp_no {P : List Int} {i : Nat} (h : ∀ d, ¬ Dep P i d) : stp P i = (P.length : Int) + 1 := by
  unfold stp
  rw [dif_neg fun ⟨d, z⟩ => h d z]
noncomputable def stpL (P : List Int) : List Int := (List.range P.length).map (stp P)
theorem stpL_length (P : List Int) : (stpL P).length = P.length := by simp [stpL]
theorem stpL_get {P : List Int} {i : Nat} (h : i < P.length) : (stpL P)[i]? = some (stp P i) := by
  unfold stpL; rw [List.getElem?_map, List.getElem?_range h]; rfl
/-- all hang somewhere, or one does not -/
theorem stpL_cases (P : List Int) : ((∀ x ∈ stpL P, x ≤ (P.length : Int)) ∧ IsDep P (stpL P) ∧ ∀ i, i < P.length → ∃ d, Dep P i d) ∨ (∃ i, i < P.length ∧ (∀ d, ¬ Dep P i d) ∧ (P.length : Int) + 1 ∈ stpL P) := by
  by_cases h : ∃ i, i < P.length ∧ ∀ d, ¬ Dep P i d
  · obtain ⟨i, hi, hn⟩ := h
    refine .inr ⟨i, hi, hn, ?_⟩
    rw [← stp_no hn]
    exact List.mem_of_getElem? (stpL_get hi)
  · have all : ∀ i, i < P.length → ∃ d, Dep P i d := fun i hi => Classical.byContradiction fun z => h ⟨i, hi, fun d hd => z ⟨d, hd⟩⟩
    refine .inl ⟨fun x hx => ?_, ⟨stpL_length P, fun i hi => ?_⟩, all⟩
    · unfold stpL at hx
      obtain ⟨i, hi, rfl⟩ := List.mem_map.mp hx
      obtain ⟨d, hd⟩ := all i (List.mem_range.mp hi)
      rw [stp_dep hd]
      have := hd.small
      omega
    · obtain ⟨d, hd⟩ := all i hi
      exact .inl ⟨d, hd, by rw [List.getD_eq_getElem?_getD, stpL_get hi]; exact stp_dep hd⟩
theorem not_tree {P D : List Int} {i : Nat} (hi : i < P.length) (hn : ∀ d, ¬ Dep P i d) (h : IsDep P D) : treeL D ≠ P := fun e => by
  have hl := h.1
  obtain ⟨d, hd⟩ := tree_deps (b := D) (fun i hi => h.ge hi) (i := i) (by omega)
  rw [e] at hd
  exact hn d hd
end Sky

namespace PySem.W
theorem exm_of {K : Frag} {t c : Value} (h1 : subIn K c (.type "BaseException") = some true) (hne : (t == c) = false) (h2 : kitOne K t c = some true) : exmOne K t c = some true := by
  unfold exmOne
  rw [if_pos (by rw [h1]; rfl)]
  unfold kitOne at h2
  rw [if_neg (by rw [hne]; decide)] at h2
  exact h2
end PySem.W
namespace L2
open PySem PySem.Spec PyProof.Rows
/-! ### lists of triples -/
def t3D (p : Int × Int × Int) : PyData := .tuple [.int p.1, .int p.2.1, .int p.2.2]
theorem t3D_lay : ∀ ps : List (Int × Int × Int), PyData.canLayAll0 (ps.map t3D) = true
  | [] => rfl
  | _ :: r => by simp [PyData.canLayAll0, PyData.canLay0, t3D, t3D_lay r]
theorem t3D_deep : ∀ ps : List (Int × Int × Int), PyData.depthAll (ps.map t3D) ≤ 1
  | [] => by simp [PyData.depthAll]
  | _ :: r => by
    have := t3D_deep r
    simp [PyData.depthAll, PyData.depth, t3D]
    omega
theorem t3D_shaped (ps : List (Int × Int × Int)) : SeqAt.shaped (.list (ps.map t3D)) = true := by
  have := t3D_deep ps
  simp [SeqAt.shaped, PyData.canLay0, PyData.depth, t3D_lay]
  omega
theorem t3D_has (ps : List (Int × Int × Int)) : (Shape.list (.tuple [.int, .int, .int])).has (.list (ps.map t3D)) = true := by
  simp [Shape.has, t3D, Shape.hasAll]
structure T3e (H : Hp) (l : Addr) (ps : List Addr) (ws : List (Int × Int × Int)) : Prop where
  at_ : H l = some (.lst (ps.map V.ref))
  len : ps.length = ws.length
  it : ∀ (j : Nat) (p : Addr), ps[j]? = some p → ∃ w, ws[j]? = some w ∧ H p = some (.tup [.int w.1, .int w.2.1, .int w.2.2])
theorem datAll_t3 {K : PySem.W.Frag} {H : Hp} : ∀ {ps : List Addr} {ws : List (Int × Int × Int)}, ps.length = ws.length → (∀ (j : Nat) (p : Addr), ps[j]? = some p → ∃ q, ws[j]? = some q ∧ H p = some (.tup [.int q.1, .int q.2.1, .int q.2.2])) → DatAll K H (ps.map V.ref) (ws.map t3D)
  | [], [], _, _ => .nil
  | [], _ :: _, h, _ => by simp at h
  | _ :: _, [], h, _ => by simp at h
  | p :: ps, q :: ws, hl, h => by
    obtain ⟨q', e, hq⟩ := h 0 p rfl
    cases Option.some.inj (show some q = some q' from e)
    exact .cons (.tup (SqT.of hq) (.cons (.int _) (.cons (.int _) (.cons (.int _) .nil)))) (datAll_t3 (by simpa using hl) fun j p' e => h (j + 1) p' e)
def rNe3 (K : PySem.W.Frag) : R2 := fun x y H Q => ∃ (a b : Addr) (ps : List Addr) (ws : List (Int × Int × Int)), x = .ref a ∧ y = .ref b ∧ T3e H a ps ws ∧ H b = some (.lst []) ∧ Q (.bl (!decide (ws = []))) H
theorem op_ne3 {X : Cx} (hu : X.A.units + 64 < cLine) : OpR X (compareOp .NotEq) (rNe3 X.K) := by
  intro pins s σ H x y v u Q I rx ry h
  obtain ⟨a, b, ps, ws, rfl, rfl, ha, hb, q⟩ := h
  refine op_neD hu pins s σ H _ _ v u Q I rx ry ⟨.list (ws.map t3D), .list (([] : List (Int × Int × Int)).map t3D), .list (.tuple [.int, .int, .int]), .lst (SqL.of ha.at_) (datAll_t3 ha.len ha.it), .lst (SqL.of (xs := []) hb) .nil, rfl, t3D_has ws, t3D_has [], t3D_shaped ws, t3D_shaped [], ?_⟩
  have e : PySem.Spec.same (.list (ws.map t3D)) (.list (([] : List (Int × Int × Int)).map t3D)) = decide (ws = []) := by
    rw [PySem.Spec.same]
    cases ws with
    | nil => simp [PySem.Spec.sameAll]
    | cons => simp [PySem.Spec.sameAll]
  rw [e]
  exact q
theorem T3e.same {H H' : Hp} {l : Addr} {ps : List Addr} {ws : List (Int × Int × Int)} (h : T3e H l ps ws) (s : ∀ b o, H b = some o → H' b = some o) : T3e H' l ps ws :=
  ⟨s _ _ h.at_, h.len, fun j p e => by obtain ⟨q, a, b⟩ := h.it j p e; exact ⟨q, a, s _ _ b⟩⟩
/-- another list at l; the triples stay -/
theorem T3e.ne {H : Hp} {l : Addr} {ps : List Addr} {ws : List (Int × Int × Int)} (h : T3e H l ps ws) : ∀ (j : Nat) (p : Addr), ps[j]? = some p → p ≠ l := fun j p e z => by
  obtain ⟨w, _, q⟩ := h.it j p e
  rw [z, h.at_] at q; cases q
theorem T3e.push {H : Hp} {l t : Addr} {ps : List Addr} {ws : List (Int × Int × Int)} {w : Int × Int × Int} (h : T3e H l ps ws) (ht : H t = some (.tup [.int w.1, .int w.2.1, .int w.2.2])) : T3e (upd H l (.lst (ps.map V.ref ++ [V.ref t]))) l (ps ++ [t]) (ws ++ [w]) := by
  have ntl : t ≠ l := fun z => by rw [z, h.at_] at ht; cases ht
  refine ⟨upd_same.trans (by rw [List.map_append]; rfl), by rw [List.length_append, List.length_append, h.len]; rfl, fun j p e => ?_⟩
  by_cases hj : j < ps.length
  · rw [List.getElem?_append_left hj] at e
    obtain ⟨w', a, b⟩ := h.it j p e
    exact ⟨w', by rw [List.getElem?_append_left (by rw [← h.len]; exact hj)]; exact a, (upd_ne (h.ne j p e)).trans b⟩
  · have hj2 : j = ps.length := by
      have := (List.getElem?_eq_some_iff.mp e).1
      rw [List.length_append] at this
      simp at this
      omega
    subst hj2
    rw [List.getElem?_append_right (Nat.le_refl _), Nat.sub_self] at e
    cases Option.some.inj e
    exact ⟨w, by rw [h.len, List.getElem?_append_right (Nat.le_refl _), Nat.sub_self]; rfl, (upd_ne ntl).trans ht⟩
theorem T3e.pop {H : Hp} {l t : Addr} {ps : List Addr} {ws : List (Int × Int × Int)} {w : Int × Int × Int} (h : T3e H l (ps ++ [t]) (ws ++ [w])) : H t = some (.tup [.int w.1, .int w.2.1, .int w.2.2]) ∧ T3e (upd H l (.lst (ps.map V.ref))) l ps ws := by
  have hl : ps.length = ws.length := by have := h.len; rw [List.length_append, List.length_append] at this; simpa using this
  constructor
  · obtain ⟨w', a, b⟩ := h.it ps.length t (by rw [List.getElem?_append_right (Nat.le_refl _), Nat.sub_self]; rfl)
    rw [hl, List.getElem?_append_right (Nat.le_refl _), Nat.sub_self] at a
    cases Option.some.inj a
    exact b
  · refine ⟨upd_same, hl, fun j p e => ?_⟩
    have hj : j < ps.length := (List.getElem?_eq_some_iff.mp e).1
    have e' : (ps ++ [t])[j]? = some p := by rw [List.getElem?_append_left hj]; exact e
    obtain ⟨w', a, b⟩ := h.it j p e'
    rw [List.getElem?_append_left (by omega)] at a
    exact ⟨w', a, (upd_ne (h.ne j p e')).trans b⟩
theorem T3e.other {H : Hp} {l k : Addr} {ps : List Addr} {ws : List (Int × Int × Int)} {xs : List V} {o : HO} (h : T3e H l ps ws) (hk : H k = some (.lst xs)) (hkl : k ≠ l) : T3e (upd H k o) l ps ws :=
  ⟨(upd_ne (Ne.symm hkl)).trans h.at_, h.len, fun j p e => by
    obtain ⟨w, a, b⟩ := h.it j p e
    have : p ≠ k := fun z => by rw [z, hk] at b; cases b
    exact ⟨w, a, (upd_ne this).trans b⟩⟩
theorem T3e.new {H : Hp} {l k : Addr} {ps : List Addr} {ws : List (Int × Int × Int)} {o : HO} (h : T3e H l ps ws) (hk : H k = none) : T3e (upd H k o) l ps ws :=
  h.same fun b o q => (upd_ne (fun z => by rw [z, hk] at q; cases q)).trans q
end L2
namespace Sky
open PySem L2
theorem iteNegF {p : Prop} [Decidable p] {A B : Prop} (h : p) (b : B) : if (!decide p) = true then A else B := by rw [if_neg (by simp [h])]; exact b
def w3 (w : Nat × Nat × Int) : Int × Int × Int := ((w.1 : Int), (w.2.1 : Int), w.2.2)
theorem PV.set {P : List Int} {j : Nat} {v : Int} (h : PV P) (h1 : -1 ≤ v) (h2 : v < (P.length : Int)) : PV (P.set j v) := fun i hi => by
  rw [List.length_set] at hi ⊢
  rw [getD_set hi]
  split
  · exact ⟨h1, h2⟩
  · exact h i hi
theorem last_at {ns : List Int} (h : ns ≠ []) : ∃ z, atI (ns.map V.int) (-1) = some (V.int z) := by
  refine ⟨ns.getLast h, ?_⟩
  conv => lhs; rw [← List.dropLast_concat_getLast h, List.map_append]
  exact atI_last _ _
def spDeep7 : Sp := fun vs H Q _ => ∃ (a : Addr) (P : List Int), vs = [.ref a] ∧ IL H a P ∧ P.length ≤ 100 ∧ PV P ∧
  ((∃ i, i < P.length ∧ ∀ d, ¬ Dep P i d) → newL H Q []) ∧ (∀ D : List Int, IsDep P D → (∀ i, i < P.length → ∃ d, Dep P i d) → newL H Q D)
def spHung : Sp := fun vs H Q _ => ∃ (a : Addr) (b : List Int), vs = [.ref a] ∧ IL H a b ∧ b.length ≤ 100 ∧ newL H Q (treeL b)
def spDrawn7 (K : PySem.W.Frag) : Sp := fun vs H Q _ => ∃ (a : Addr) (ns : List Int), vs = [.ref a] ∧ SqL K H a (ns.map V.int) ∧ ns.length ≤ 63 ∧ ∀ P : List Int, P.length = ns.length → PV P → newL H Q P
end Sky

namespace Sky
open PySem L2
def top (i : Nat) : Stmt := PySem.Challenge.pw_skybars_k07_whole_tree_back.main.body.getD i (.Pass ⟨0, 0, 0, 0⟩)
abbrev sWithin : Stmt := top 9
abbrev sChk : Stmt := top 10
abbrev sChkP : Stmt := top 11
abbrev sPar : Stmt := top 13
abbrev sTree : Stmt := top 14
abbrev sDepths : Stmt := top 15
abbrev sBarsOf : Stmt := top 16
abbrev sBars : Stmt := top 18
abbrev sNums : Stmt := top 19
abbrev sDeep : Stmt := top 20
abbrev sHung : Stmt := top 21
abbrev sDrawn : Stmt := top 22
abbrev sRefused : Stmt := top 23
abbrev sLaw : Stmt := top 24
end Sky

namespace Sky
open PySem L2
section
variable {P : Program} {w : World} {K : PySem.W.Frag} {mg : Str → Option Value} {base : Heap}
theorem scWithin : FnScope ["value", "least", "most"] ["value", "least", "most"] (defScope sWithin) := ⟨rfl, rfl, rfl, by decide +kernel, rfl, by decide +kernel, by decide +kernel⟩
theorem ok_within {f : Addr} {fd : FuncData} (F : Fun K "is_whole_within" "is_whole_within" sWithin f fd) (B : Blt mg) : FnOk P w K mg base CX0 1 f fd ["value", "least", "most"] spWithin := by
  refine F.ok scWithin (fun vs H Q E h => ?_) (fun cdv A outer s H vs Q E hr h => ?_)
  · obtain ⟨i, lo, hi, rfl, _⟩ := h
    rfl
  · obtain ⟨i, lo, hi, rfl, k⟩ := h
    refine ⟨_, pss_one (ps_ret (pe_and (pe_callB call_isinst rfl B.isinstance boot_isinst' (pa_cons (pv 0) (pa_cons (pe_bltn rfl B.int boot_int' (v := .ty "int") rfl) pa_nil)))
      (pe_and (pe_not (pe_callB call_isinst rfl B.isinstance boot_isinst' (pa_cons (pv 0) (pa_cons (pe_bltn rfl B.bool boot_bool' (v := .ty "bool") rfl) pa_nil)))) (pe_one (pe_chain op_le op_le (pv 1) (pv 0) (pv 2)))))), ?_⟩
    refine ⟨_, rfl, _, _, _, _, _, rfl, .int i, rfl, kit_ii _, true, rfl, iteT ?_⟩
    refine ⟨_, rfl, _, _, _, _, _, rfl, .int i, rfl, kit_ib _, false, rfl, true, rfl, iteT ?_⟩
    refine ⟨_, rfl, _, rfl, lo, i, rfl, rfl, _, rfl, ite2 (fun h => ⟨_, rfl, i, hi, rfl, rfl, ?_⟩) (fun h => ?_)⟩
    · have h' : lo ≤ i := of_decide_eq_true h
      have e : decide (i ≤ hi) = decide (lo ≤ i ∧ i ≤ hi) := by simp [h']
      show Q (.bl (decide (i ≤ hi))) H
      rw [e]; exact k
    · have h' : ¬ lo ≤ i := fun z => h (decide_eq_true z)
      have e : false = decide (lo ≤ i ∧ i ≤ hi) := by simp [h']
      show Q (.bl false) H
      rw [e]; exact k
end
end Sky

namespace Sky
open PySem L2
section
variable {P : Program} {w : World} {K : PySem.W.Frag} {mg : Str → Option Value} {base : Heap}
theorem scChk : FnScope ["bars"] ["bars"] (defScope sChk) := ⟨rfl, rfl, rfl, by decide +kernel, rfl, by decide +kernel, by decide +kernel⟩
theorem ok_chk {f : Addr} {fd : FuncData} (F : Fun K "check_bars" "check_bars" sChk f fd) (B : Blt mg) (hh : Hi mg) (cW : Callee P w K mg base 1 "is_whole_within" ["value", "least", "most"] spWithin) : FnOk P w K mg base CX0 3 f fd ["bars"] spChk := by
  refine F.ok scChk (fun vs H Q E h => ?_) (fun cdv A outer s H vs Q E hr h => ?_)
  · obtain ⟨a, xs, rfl, _⟩ := h
    rfl
  · obtain ⟨t, hh⟩ := hh
    obtain ⟨a, xs, rfl, hS, hb, k⟩ := h
    refine ⟨_, pss_cons (ps_if (pt_not (pt_val (pe_callB call_isinst rfl B.isinstance boot_isinst' (pa_cons (pv 0) (pa_cons (pe_bltn rfl B.list boot_list' (v := .ty "list") rfl) pa_nil))))) pss_never pss_nil)
      (pss_one (ps_if (pt_not (pt_val (pe_callB (call_all rfl) rfl B.all boot_all' (pa_cons (pe_lc (cap := []) ["value"] rfl (CompOk.of (defScope sChk) ["bars"] rfl rfl (by decide +kernel)) (pi_list (pv 0)) (fun C s H fp => pg_name (i := 0) (show List.Nodup (["value"] : List Str) from by decide +kernel) rfl (Or.inl rfl)) (fun C s H fp => pf_nil)
        (fun C s H fp => pe_fn cW (hr.mono (by decide)) rfl (pa_cons (pv 0) (pa_cons pe_int (pa_cons (pe_glob rfl hh (v := .int 10000000) ⟨t, rfl⟩) pa_nil))))) pa_nil)))) pss_never pss_nil)), ?_⟩
    refine ⟨_, rfl, _, _, _, _, _, rfl, .lst hS, rfl, kit_ll _, true, rfl, iteF ?_⟩
    have hz : xs.length ≤ sizeLine := Nat.le_of_lt (small100 hb.1)
    refine ⟨_, rfl, a, rfl, ⟨_, SqL.of hS⟩, fun D hD => lc_listP (xs := xs.map V.int) (fun v => match v with | .int i => .bl (decide (0 ≤ i ∧ i ≤ 10000000)) | _ => .non) hD (SqL.of hS) (by rw [List.length_map]; exact hz) ?_ ?_⟩
    · intro i x ys C s H0 fp R hx hR
      obtain ⟨z, rfl, _⟩ := get_mapM hx
      exact ⟨_, rfl, z, 0, 10000000, rfl, hR⟩
    · refine ⟨D, xs.map (fun i => decide (0 ≤ i ∧ i ≤ 10000000)), rfl, SqL.of (by rw [upd_same, List.map_map, List.map_map]; rfl), _, rfl, ?_⟩
      have e : (xs.map (fun i => decide (0 ≤ i ∧ i ≤ 10000000))).all id = true := by
        rw [List.all_eq_true]
        intro b hb'
        obtain ⟨z, hz, rfl⟩ := List.mem_map.mp hb'
        exact decide_eq_true (hb.2 z hz)
      rw [e]
      exact iteF (k _ (Same.new hD _))
end
end Sky

namespace Sky
open PySem L2
section
variable {P : Program} {w : World} {K : PySem.W.Frag} {mg : Str → Option Value} {base : Heap}
theorem scChkP : FnScope ["parents", "final"] ["parents"] (defScope sChkP) := ⟨rfl, rfl, rfl, by decide +kernel, rfl, by decide +kernel, by decide +kernel⟩
theorem ok_chkP {f : Addr} {fd : FuncData} (F : Fun K "check_parents" "check_parents" sChkP f fd) (B : Blt mg) (cW : Callee P w K mg base 1 "is_whole_within" ["value", "least", "most"] spWithin) : FnOk P w K mg base CX0 2 f fd ["parents"] spChkP := by
  refine F.ok scChkP (fun vs H Q E h => ?_) (fun cdv A outer s H vs Q E hr h => ?_)
  · obtain ⟨a, Pa, rfl, _⟩ := h
    rfl
  · obtain ⟨a, Pa, rfl, hS, hl, hv, k⟩ := h
    refine ⟨_, (pss_cons (ps_if (pt_not (pt_val (pe_callB call_isinst rfl B.isinstance boot_isinst' (pa_cons (pv 0) (pa_cons (pe_bltn rfl B.list boot_list' (v := .ty "list") rfl) pa_nil))))) pss_never pss_nil)
      (pss_cons (ps_set (i := 1) scChkP.nd rfl (Or.inr rfl) (pe_op op_sub (pe_callB call_len_seq rfl B.len PySem.boot_len (pa_cons (pv 0) pa_nil)) pe_int))
      (pss_one (ps_if (pt_not (pt_val (pe_callB (call_all rfl) rfl B.all boot_all' (pa_cons (pe_lc (cap := [1]) ["value"] rfl (CompOk.of (defScope sChkP) ["parents", "final"] rfl rfl (by decide +kernel)) (pi_list (pv 0)) (fun C s H fp => (pg_name (i := 0) (show List.Nodup (["value", "final"] : List Str) from by decide +kernel) rfl (Or.inl rfl))) (fun C s H fp => pf_nil)
        (fun C s H fp => (pe_fn cW hr rfl (pa_cons (pv 0) (pa_cons (pe_un un_neg pe_int) (pa_cons (pv 1) pa_nil)))))) pa_nil)))) pss_never pss_nil)))), ?_⟩
    refine ⟨_, rfl, _, _, _, _, _, rfl, .lst hS, rfl, kit_ll _, true, rfl, iteF ?_⟩
    refine ⟨_, rfl, a, _, rfl, .inl (SqL.of hS), _, 1, rfl, rfl, ?_⟩
    refine ⟨_, rfl, a, rfl, ⟨_, SqL.of hS⟩, fun D hD => lc_listP (xs := Pa.map V.int) (fun v => .bl true) hD (SqL.of hS) (by rw [List.length_map]; exact Nat.le_of_lt (small100 hl)) ?_ ?_⟩
    · intro i x ys C s H0 fp R hx hR
      obtain ⟨z, rfl, b1⟩ := get_mapM hx
      have hi : i < Pa.length := (List.getElem?_eq_some_iff.mp b1).1
      have e : Pa.getD i 0 = z := by rw [List.getD_eq_getElem?_getD, b1]; rfl
      have v := hv i hi
      rw [e] at v
      refine ⟨_, rfl, 1, rfl, _, rfl, z, -1, _, rfl, ?_⟩
      rw [List.length_map, decide_eq_true (show -1 ≤ z ∧ z ≤ (Pa.length : Int) - 1 by omega)]
      exact hR
    · refine ⟨D, Pa.map (fun _ => true), rfl, SqL.of (by rw [upd_same, List.map_map, List.map_map]; rfl), _, rfl, ?_⟩
      have e : (Pa.map (fun _ => true)).all id = true := by
        rw [List.all_eq_true]
        intro b hb'
        obtain ⟨z, hz, rfl⟩ := List.mem_map.mp hb'
        rfl
      rw [e]
      exact iteF (k _ (Same.new hD _))
end
end Sky

namespace Sky
open PySem L2
section
variable {P : Program} {w : World} {K : PySem.W.Frag} {mg : Str → Option Value} {base : Heap}
theorem scPar : FnScope ["bars", "parents", "rising", "place", "height", "topmost"] ["bars"] (defScope sPar) := ⟨rfl, rfl, rfl, by decide +kernel, rfl, by decide +kernel, by decide +kernel⟩
theorem ok_par {f : Addr} {fd : FuncData} (F : Fun K "parents_in_tree" "parents_in_tree" sPar f fd) (B : Blt mg)  : FnOk P w K mg base CX0 1 f fd ["bars"] spPar := by
  refine F.ok scPar (fun vs H Q E h => ?_) (fun cdv A outer s H vs Q E hr h => ?_)
  · obtain ⟨a, xs, rfl, _⟩ := h
    rfl
  · obtain ⟨a, xs, rfl, hS, hl, k⟩ := h
    refine ⟨_, (pss_cons (ps_set (i := 1) scPar.nd rfl (Or.inl rfl) (pe_lst pa_nil))
      (pss_cons (ps_set (i := 2) scPar.nd rfl (Or.inl rfl) (pe_lst pa_nil))
      (pss_cons (ps_for PassesOwn.never rfl (pi_enum rfl B.enumerate (pa_cons (pv 0) pa_nil)) (pg_tup rfl (pgs_cons (pg_name (i := 3) scPar.nd rfl (Or.inl rfl)) (pgs_cons (pg_name (i := 4) scPar.nd rfl (Or.inl rfl)) pgs_nil)))
      (pss_cons (ps_set (i := 5) scPar.nd rfl (Or.inl rfl) (pe_un un_neg pe_int))
      (pss_cons (ps_while PassesOwn.never (PW.pt (pw_and (pt_truth (pv 2) (fun _ => rfl)) (pw_and1 (pt_cmpR op_gt (pe_ix ix_list (pv 0) (pe_ix ix_list (pv 2) (pe_un un_neg pe_int) (fun _ _ => rfl)) (fun _ _ => rfl)) (pv 4) (nomark _)))))
      (pss_one (ps_set (i := 5) scPar.nd rfl (Or.inl rfl) (pe_bm0 PySem.F.plainAttrs_list PySem.F.slot_list_pop PySem.F.type_list_pop mt_pop (pv 2)))))
      (pss_cons (ps_expr (pe_bm PySem.F.plainAttrs_list PySem.F.slot_list_append PySem.F.type_list_append mt_append (pv 1) (pa_cons (pe_ifExp (pt_truth (pv 2) (fun _ => rfl)) (pe_ix ix_list (pv 2) (pe_un un_neg pe_int) (fun _ _ => rfl)) (pe_un un_neg pe_int)) pa_nil)))
      (pss_cons (ps_if (pt_cmpR op_ge (pv 5) pe_int (nomark _)) (pss_one (ps_asg (pv 3) (pg_sub (pv 1) (pv 5) set_list))) pss_nil)
      (pss_one (ps_expr (pe_bm PySem.F.plainAttrs_list PySem.F.slot_list_append PySem.F.type_list_append mt_append (pv 2) (pa_cons (pv 3) pa_nil)))))))))
      (pss_one (ps_ret (pv 1)))))), ?_⟩
    refine ⟨Nat.zero_le _, fun c hc => ⟨Nat.zero_le _, fun q hq => ?_⟩⟩
    have hcq : c ≠ q := ne_of_none upd_same hq
    have nq : H q = none := (Same.new hc _).free hq
    have s3 : Same H (upd (upd H c (.lst [])) q (.lst [])) := (Same.new hc _).put nq
    refine ⟨_, rfl, a, rfl, ⟨_, SqL.of (s3 _ _ hS)⟩, for_enum (K := K) (a := a) (xs := xs.map V.int) (fun i σ H2 => ∃ v3 v4 v5, σ = [some (.ref a), some (.ref c), some (.ref q), v3, v4, v5] ∧ Same H H2 ∧ IL H2 c (parL xs i) ∧ IL H2 q (cst (stkT xs i)).reverse)
      ⟨none, none, none, rfl, s3, (upd_ne hcq).trans upd_same, upd_same⟩ (fun i σ H2 _ ⟨_, _, _, _, s2, _⟩ => SqL.of (s2 _ _ hS)) ?_ ?_⟩
    · rintro i y σ H2 p hi ⟨v3, v4, v5, rfl, s2, hC, hQ⟩ hp
      obtain ⟨h, rfl, hx⟩ := get_mapM hi
      have hil : i < xs.length := (List.getElem?_eq_some_iff.mp hx).1
      have hxd : xs.getD i 0 = h := by rw [List.getD_eq_getElem?_getD, hx]; rfl
      have s4 : Same H2 (upd H2 p (.tup [.int (i : Nat), .int h])) := Same.new hp _
      refine ⟨p, _, rfl, SqT.of upd_same, rfl, _, _, rfl, _, _, rfl, rfl, ?_⟩
      have s2' := s2.trans s4
      have hC' := s4 _ _ hC
      have hQ' := s4 _ _ hQ
      generalize upd H2 p (.tup [.int (i : Nat), .int h]) = H3 at s2' hC' hQ'
      have hcl : ((parL xs i).map V.int).length < sizeLine := by rw [List.length_map, parL_length]; exact small100 (by omega)
      refine ⟨1, rfl, ?_⟩
      refine ⟨fun m σ H4 => ∃ (pop st : List Nat), σ = [some (.ref a), some (.ref c), some (.ref q), some (.int (i : Nat)), some (.int h), some (.int (lastI pop))] ∧ Same H H4 ∧ IL H4 c (parL xs i) ∧ IL H4 q (cst st).reverse ∧ m = st.length ∧ pop ++ st = stkT xs i ∧ (∀ x ∈ pop, h < xs.getD x 0),
        ⟨_, [], stkT xs i, rfl, s2', hC', hQ', rfl, rfl, fun x hx => by simp at hx⟩, ?_⟩
      rintro m σ H4 ⟨pop, st, rfl, s4, hC, hQ, rfl, hd, hp⟩
      have hsl : st.length ≤ i := by have := congrArg List.length hd; rw [List.length_append] at this; have := stkT_length xs i; omega
      refine ⟨_, rfl, _, .inl ⟨_, SqL.of hQ, rfl⟩, ?_⟩
      cases st with
      | nil =>
        refine iteF (iteF ?_)
        have hst : ∀ (x : Nat) (r : List Nat), ([] : List Nat) = x :: r → xs.getD x 0 ≤ xs.getD i 0 := fun x r z => by cases z
        obtain ⟨hA, hstep⟩ := parL_step hd (fun x hx => by rw [hxd]; exact hp x hx) hst
        refine ⟨_, rfl, .inl ⟨rfl, _, SqL.of hC⟩, ⟨_, rfl, _, .inl ⟨_, SqL.of hQ, rfl⟩, iteF ⟨1, rfl, c, _, V.int (aN xs i), rfl, (by rw [← hA]; rfl), hC, hcl, ?_⟩⟩⟩
        -- behind the loop: the list c grew by the bar beneath which this one hangs so far
        have hcl2 : ((parL xs i).map V.int ++ [V.int (aN xs i)]).length = i + 1 := by rw [List.length_append, List.length_map, parL_length]; rfl
        have hC5 : (upd H4 c (.lst ((parL xs i).map V.int ++ [.int (aN xs i)]))) c = some (.lst ((parL xs i ++ [aN xs i]).map V.int)) := upd_same.trans (by rw [List.map_append]; rfl)
        have hQ5 : (upd H4 c (.lst ((parL xs i).map V.int ++ [.int (aN xs i)]))) q = some (.lst ((cst ([] : List Nat)).reverse.map V.int)) := (upd_ne hcq.symm).trans hQ
        have s5 : Same H (upd H4 c (.lst ((parL xs i).map V.int ++ [.int (aN xs i)]))) := s4.put hc
        generalize upd H4 c (.lst ((parL xs i).map V.int ++ [.int (aN xs i)])) = H5 at hC5 hQ5 s5
        have hstk : stkT xs (i + 1) = i :: ([] : List Nat) := by
          show i :: _ = _
          rw [← hd, drop_app (fun x hx => decide_eq_true (by rw [hxd]; exact hp x hx)) (fun x r hx => decide_eq_false (by have := hst x r hx; omega))]
        have hrl : ((cst ([] : List Nat)).reverse.map V.int).length < sizeLine := by rw [List.length_map, List.length_reverse, cst_length]; exact small100 (by omega)
        have hnew : ∀ o, (upd H5 q (.lst ((cst ([] : List Nat)).reverse.map V.int ++ [.int (i : Nat)]))) q = o → (∃ w, o = w) := fun o _ => ⟨o, rfl⟩
        have eR : (.lst ((cst ([] : List Nat)).reverse.map V.int ++ [.int (i : Nat)]) : HO) = .lst ((cst (stkT xs (i + 1))).reverse.map V.int) := by
          rw [hstk, show cst (i :: ([] : List Nat)) = (i : Int) :: cst ([] : List Nat) from rfl, List.reverse_cons, List.map_append]; rfl
        refine ⟨_, rfl, _, 0, rfl, rfl, _, rfl, ite2 (fun ht0 => ?_) (fun ht0 => ?_)⟩
        · have ht0' : 0 ≤ lastI pop := of_decide_eq_true ht0
          rw [if_pos ht0'] at hstep
          have htl : (lastI pop).toNat < i := stkT_lt xs i _ (hd ▸ List.mem_append_left _ (lastI_mem ht0'))
          refine ⟨_, rfl, _, rfl, _, rfl, c, _, _, (lastI pop).toNat, rfl, rfl, hC5, ?_, ?_⟩
          · have := ixN_nat (n := ((parL xs i ++ [aN xs i]).map V.int).length) (i := (lastI pop).toNat) (by rw [List.length_map, List.length_append, parL_length]; simp; omega)
            rwa [show (((lastI pop).toNat : Nat) : Int) = lastI pop by omega] at this
          have hC6 : (upd H5 c (.lst (((parL xs i ++ [aN xs i]).map V.int).set (lastI pop).toNat (.int (i : Nat))))) c = some (.lst ((parL xs (i + 1)).map V.int)) := upd_same.trans (by rw [hstep, List.map_set])
          have hQ6 : (upd H5 c (.lst (((parL xs i ++ [aN xs i]).map V.int).set (lastI pop).toNat (.int (i : Nat))))) q = some (.lst ((cst ([] : List Nat)).reverse.map V.int)) := (upd_ne hcq.symm).trans hQ5
          exact ⟨_, rfl, .inl ⟨rfl, _, SqL.of hQ6⟩, _, rfl, q, _, _, rfl, rfl, hQ6, hrl, _, _, _, rfl, (s5.put hc).put nq, (upd_ne hcq).trans hC6, upd_same.trans (congrArg some eR)⟩
        · have ht0' : ¬ 0 ≤ lastI pop := fun z => ht0 (decide_eq_true z)
          rw [if_neg ht0'] at hstep
          exact ⟨_, rfl, .inl ⟨rfl, _, SqL.of hQ5⟩, _, rfl, q, _, _, rfl, rfl, hQ5, hrl, _, _, _, rfl, s5.put nq, (upd_ne hcq).trans (by rw [hstep]; exact hC5), upd_same.trans (congrArg some eR)⟩

      | cons y st =>
        have hem : (!((cst (y :: st)).reverse.map V.int).isEmpty) = true := by simp
        rw [hem]
        refine iteT ?_
        have hyi : y < i := stkT_lt xs i y (hd ▸ List.mem_append_right _ List.mem_cons_self)
        refine ⟨_, rfl, _, rfl, 1, rfl, q, _, -1, _, rfl, rfl, SqL.of hQ, atI_lastM (cst st) y, a, _, _, _, rfl, rfl, SqL.of (s4 _ _ hS), atI_mapM (by omega), _, rfl, _, h, rfl, rfl, _, rfl, ite2 (fun hy => ?_) (fun hy => ?_)⟩
        · have hy' : h < xs.getD y 0 := of_decide_eq_true hy
          refine ⟨_, fun _ _ z => z, ?_⟩
          refine ⟨_, rfl, .inl ⟨rfl, _, SqL.of hQ⟩, q, _, _, rfl, rfl, hQ, get_lastM (cst st) y, ?_⟩
          refine ⟨st.length, Nat.lt_succ_self _, pop ++ [y], st, ?_, s4.put nq, (upd_ne hcq).trans hC, upd_same.trans ?_, rfl, by rw [List.append_assoc]; exact hd, fun x hx => ?_⟩
          · rw [lastI_snoc]; rfl
          · show some (HO.lst ((((y : Int) :: cst st).reverse.map V.int).dropLast)) = _
            rw [dropLastM]
          · rcases List.mem_append.mp hx with hx | hx
            · exact hp x hx
            · rw [List.mem_singleton.mp hx]; exact hy'
        · have hy' : ¬ h < xs.getD y 0 := fun z => hy (decide_eq_true z)
          have hst : ∀ (x : Nat) (r : List Nat), (y :: st) = x :: r → xs.getD x 0 ≤ xs.getD i 0 := fun x r z => by
            obtain ⟨rfl, _⟩ := List.cons.inj z
            omega
          obtain ⟨hA, hstep⟩ := parL_step hd (fun x hx => by rw [hxd]; exact hp x hx) hst
          refine ⟨_, rfl, .inl ⟨rfl, _, SqL.of hC⟩, ⟨_, rfl, _, .inl ⟨_, SqL.of hQ, rfl⟩, ?_⟩⟩
          rw [hem]
          refine iteT ⟨_, rfl, 1, rfl, q, _, -1, _, rfl, rfl, SqL.of hQ, atI_lastM (cst st) y, c, _, V.int (aN xs i), rfl, (by rw [← hA]; rfl), hC, hcl, ?_⟩
          -- behind the loop: the list c grew by the bar beneath which this one hangs so far
          have hcl2 : ((parL xs i).map V.int ++ [V.int (aN xs i)]).length = i + 1 := by rw [List.length_append, List.length_map, parL_length]; rfl
          have hC5 : (upd H4 c (.lst ((parL xs i).map V.int ++ [.int (aN xs i)]))) c = some (.lst ((parL xs i ++ [aN xs i]).map V.int)) := upd_same.trans (by rw [List.map_append]; rfl)
          have hQ5 : (upd H4 c (.lst ((parL xs i).map V.int ++ [.int (aN xs i)]))) q = some (.lst ((cst (y :: st)).reverse.map V.int)) := (upd_ne hcq.symm).trans hQ
          have s5 : Same H (upd H4 c (.lst ((parL xs i).map V.int ++ [.int (aN xs i)]))) := s4.put hc
          generalize upd H4 c (.lst ((parL xs i).map V.int ++ [.int (aN xs i)])) = H5 at hC5 hQ5 s5
          have hstk : stkT xs (i + 1) = i :: (y :: st) := by
            show i :: _ = _
            rw [← hd, drop_app (fun x hx => decide_eq_true (by rw [hxd]; exact hp x hx)) (fun x r hx => decide_eq_false (by have := hst x r hx; omega))]
          have hrl : ((cst (y :: st)).reverse.map V.int).length < sizeLine := by rw [List.length_map, List.length_reverse, cst_length]; exact small100 (by omega)
          have hnew : ∀ o, (upd H5 q (.lst ((cst (y :: st)).reverse.map V.int ++ [.int (i : Nat)]))) q = o → (∃ w, o = w) := fun o _ => ⟨o, rfl⟩
          have eR : (.lst ((cst (y :: st)).reverse.map V.int ++ [.int (i : Nat)]) : HO) = .lst ((cst (stkT xs (i + 1))).reverse.map V.int) := by
            rw [hstk, show cst (i :: (y :: st)) = (i : Int) :: cst (y :: st) from rfl, List.reverse_cons, List.map_append]; rfl
          refine ⟨_, rfl, _, 0, rfl, rfl, _, rfl, ite2 (fun ht0 => ?_) (fun ht0 => ?_)⟩
          · have ht0' : 0 ≤ lastI pop := of_decide_eq_true ht0
            rw [if_pos ht0'] at hstep
            have htl : (lastI pop).toNat < i := stkT_lt xs i _ (hd ▸ List.mem_append_left _ (lastI_mem ht0'))
            refine ⟨_, rfl, _, rfl, _, rfl, c, _, _, (lastI pop).toNat, rfl, rfl, hC5, ?_, ?_⟩
            · have := ixN_nat (n := ((parL xs i ++ [aN xs i]).map V.int).length) (i := (lastI pop).toNat) (by rw [List.length_map, List.length_append, parL_length]; simp; omega)
              rwa [show (((lastI pop).toNat : Nat) : Int) = lastI pop by omega] at this
            have hC6 : (upd H5 c (.lst (((parL xs i ++ [aN xs i]).map V.int).set (lastI pop).toNat (.int (i : Nat))))) c = some (.lst ((parL xs (i + 1)).map V.int)) := upd_same.trans (by rw [hstep, List.map_set])
            have hQ6 : (upd H5 c (.lst (((parL xs i ++ [aN xs i]).map V.int).set (lastI pop).toNat (.int (i : Nat))))) q = some (.lst ((cst (y :: st)).reverse.map V.int)) := (upd_ne hcq.symm).trans hQ5
            exact ⟨_, rfl, .inl ⟨rfl, _, SqL.of hQ6⟩, _, rfl, q, _, _, rfl, rfl, hQ6, hrl, _, _, _, rfl, (s5.put hc).put nq, (upd_ne hcq).trans hC6, upd_same.trans (congrArg some eR)⟩
          · have ht0' : ¬ 0 ≤ lastI pop := fun z => ht0 (decide_eq_true z)
            rw [if_neg ht0'] at hstep
            exact ⟨_, rfl, .inl ⟨rfl, _, SqL.of hQ5⟩, _, rfl, q, _, _, rfl, rfl, hQ5, hrl, _, _, _, rfl, s5.put nq, (upd_ne hcq).trans (by rw [hstep]; exact hC5), upd_same.trans (congrArg some eR)⟩

    · rintro σ H2 ⟨v3, v4, v5, rfl, s2, hC, hQ⟩
      rw [List.length_map, parL_all] at hC
      exact ⟨_, rfl, k c H2 hc s2 hC⟩
end
end Sky

namespace Sky
open PySem L2
section
variable {P : Program} {w : World} {K : PySem.W.Frag} {mg : Str → Option Value} {base : Heap}
theorem scTree : FnScope ["bars"] ["bars"] (defScope sTree) := ⟨rfl, rfl, rfl, by decide +kernel, rfl, by decide +kernel, by decide +kernel⟩
theorem ok_tree {f : Addr} {fd : FuncData} (F : Fun K "tree" "tree" sTree f fd) (B : Blt mg) (cC : Callee P w K mg base 3 "check_bars" ["bars"] spChk) (cP : Callee P w K mg base 1 "parents_in_tree" ["bars"] spPar) : FnOk P w K mg base CX0 4 f fd ["bars"] spTree := by
  refine F.ok scTree (fun vs H Q E h => ?_) (fun cdv A outer s H vs Q E hr h => ?_)
  · obtain ⟨a, xs, rfl, _⟩ := h
    rfl
  · obtain ⟨a, xs, rfl, hS, hh, k⟩ := h
    refine ⟨_, (pss_cons (ps_expr (pe_fn cC hr rfl (pa_cons (pv 0) pa_nil)))
      (pss_one (ps_ret (pe_fn cP (hr.mono (by decide)) rfl (pa_cons (pv 0) pa_nil))))), ?_⟩
    refine ⟨_, rfl, a, xs, rfl, hS, hh, fun H1 s1 => ?_⟩
    exact ⟨_, rfl, a, xs, rfl, s1 _ _ hS, hh.1, fun l H2 nl s2 hL => k l H2 (s1.free nl) (s1.trans s2) hL⟩
end
end Sky

namespace Sky
open PySem L2
section
variable {P : Program} {w : World} {K : PySem.W.Frag} {mg : Str → Option Value} {base : Heap}
theorem scDepths : FnScope ["parents", "beneath", "deep", "waiting", "place", "parent", "above"] ["parents"] (defScope sDepths) := ⟨rfl, rfl, rfl, by decide +kernel, rfl, by decide +kernel, by decide +kernel⟩
theorem ok_depths {f : Addr} {fd : FuncData} (F : Fun K "depths" "depths" sDepths f fd) (B : Blt mg)  : FnOk P w K mg base CX0 1 f fd ["parents"] spDepths := by
  refine F.ok scDepths (fun vs H Q E h => ?_) (fun cdv A outer s H vs Q E hr h => ?_)
  · obtain ⟨a, Pa, rfl, _⟩ := h
    rfl
  · obtain ⟨a, Pa, rfl, hS, hl, hv, k⟩ := h
    refine ⟨_, (pss_cons (ps_lc (i := 1) (cap := []) ["parent"] rfl (CompOk.of (defScope sDepths) ["parents", "beneath", "deep", "waiting", "place", "parent", "above"] rfl rfl (by decide +kernel)) scDepths.nd rfl (Or.inl rfl) (pi_list (pv 0)) (fun C s H fp => (pg_name (i := 0) (show List.Nodup (["parent"] : List Str) from by decide +kernel) rfl (Or.inl rfl))) (fun C s H fp => pf_nil)
        (fun C s H fp => (pe_lst pa_nil)) rfl)
      (pss_cons (ps_lc (i := 2) (cap := []) ["parent"] rfl (CompOk.of (defScope sDepths) ["parents", "beneath", "deep", "waiting", "place", "parent", "above"] rfl rfl (by decide +kernel)) scDepths.nd rfl (Or.inl rfl) (pi_list (pv 0)) (fun C s H fp => (pg_name (i := 0) (show List.Nodup (["parent"] : List Str) from by decide +kernel) rfl (Or.inl rfl))) (fun C s H fp => pf_nil)
        (fun C s H fp => (pe_un un_neg pe_int)) rfl)
      (pss_cons (ps_set (i := 3) scDepths.nd rfl (Or.inl rfl) (pe_lst pa_nil))
      (pss_cons (ps_for PassesOwn.never rfl (pi_enum rfl B.enumerate (pa_cons (pv 0) pa_nil)) (pg_tup rfl (pgs_cons (pg_name (i := 4) scDepths.nd rfl (Or.inl rfl)) (pgs_cons (pg_name (i := 5) scDepths.nd rfl (Or.inl rfl)) pgs_nil)))
      (pss_one (ps_if (pt_cmpR op_eq (pv 5) (pe_un un_neg pe_int) (nomark _)) (pss_cons (ps_asg pe_int (pg_sub (pv 2) (pv 4) set_list))
      (pss_one (ps_expr (pe_bm PySem.F.plainAttrs_list PySem.F.slot_list_append PySem.F.type_list_append mt_append (pv 3) (pa_cons (pv 4) pa_nil))))) (pss_one (ps_expr (pe_bm PySem.F.plainAttrs_list PySem.F.slot_list_append PySem.F.type_list_append mt_append (pe_ix ix_list (pv 1) (pv 5) (fun _ _ => rfl)) (pa_cons (pv 4) pa_nil)))))))
      (pss_cons (ps_while PassesOwn.never (pt_truth (pv 3) (fun _ => rfl))
      (pss_cons (ps_set (i := 6) scDepths.nd rfl (Or.inl rfl) (pe_bm0 PySem.F.plainAttrs_list PySem.F.slot_list_pop PySem.F.type_list_pop mt_pop (pv 3)))
      (pss_one (ps_for PassesOwn.never rfl (pi_list (pe_ix ix_list (pv 1) (pv 6) (fun _ _ => rfl))) (pg_name (i := 4) scDepths.nd rfl (Or.inl rfl))
      (pss_cons (ps_asg (pe_op op_add (pe_ix ix_list (pv 2) (pv 6) (fun _ _ => rfl)) pe_int) (pg_sub (pv 2) (pv 4) set_list))
      (pss_one (ps_expr (pe_bm PySem.F.plainAttrs_list PySem.F.slot_list_append PySem.F.type_list_append mt_append (pv 3) (pa_cons (pv 4) pa_nil)))))))))
      (pss_one (ps_ret (pv 2)))))))), ?_⟩
    -- a list for each place
    refine ⟨_, rfl, a, rfl, ⟨_, SqL.of hS⟩, fun bn hbn => lc_list (xs := Pa.map V.int) (fun i H2 ys => Same H H2 ∧ H2 bn = some (.lst ys) ∧ ∃ ps : List Addr, ys = ps.map V.ref ∧ ps.length = i ∧ ps.Nodup ∧ ∀ p ∈ ps, H2 p = some (.lst []) ∧ p ≠ bn ∧ H p = none)
      ⟨Same.new hbn _, upd_same, [], rfl, rfl, List.nodup_nil, fun p hp => by simp at hp⟩ (fun i H2 ys _ h => ⟨SqL.of (h.1 _ _ hS), h.2.1⟩) ?_ ?_⟩
    · rintro i x H2 ys hx ⟨s2, hb2, ps, rfl, hpl, hnd, hps⟩ C s H0 fp
      have hi : i < Pa.length := by have := (List.getElem?_eq_some_iff.mp hx).1; rwa [List.length_map] at this
      refine ⟨Nat.zero_le _, fun p hp => ?_⟩
      have npb : p ≠ bn := fun z => by rw [z, hb2] at hp; cases hp
      refine ⟨(upd_ne (Ne.symm npb)).trans hb2, by rw [List.length_map, hpl]; exact small100 (by omega), (s2.put (s2.free hp)).put hbn, upd_same, ps ++ [p], by rw [List.map_append]; rfl, by rw [List.length_append, hpl]; rfl, ?_, fun p2 hp2 => ?_⟩
      · rw [List.nodup_append]
        refine ⟨hnd, by simp, fun x hx y hy e => ?_⟩
        rw [List.mem_singleton.mp hy] at e
        subst e
        rw [(hps x hx).1] at hp; cases hp
      · rcases List.mem_append.mp hp2 with hp2 | hp2
        · obtain ⟨z1, z2, z3⟩ := hps p2 hp2
          refine ⟨?_, z2, z3⟩
          rw [upd_ne z2, upd_ne (ne_of_none z1 hp)]; exact z1
        · rw [List.mem_singleton.mp hp2]
          exact ⟨by rw [upd_ne npb, upd_same], npb, s2.free hp⟩
    rintro H2 ys ⟨s2, hb2, ps, rfl, hpl, hnd, hps⟩
    rw [List.length_map] at hpl
    have K2 : KL H2 bn ps fun j => kidN Pa (j : Int) 0 := ⟨hb2, hnd, fun j p e => ⟨(hps p (List.mem_of_getElem? e)).1, (hps p (List.mem_of_getElem? e)).2.1⟩⟩
    have hps0 : ∀ p ∈ ps, H p = none := fun p hp => (hps p hp).2.2
    have hps2 : ∀ p ∈ ps, ∃ o, H2 p = some o := fun p hp => ⟨_, (hps p hp).1⟩
    -- the depths so far
    refine ⟨_, rfl, a, rfl, ⟨_, SqL.of (s2 _ _ hS)⟩, fun dn hdn => lc_listP (xs := Pa.map V.int) (fun _ => .int (-1)) hdn (SqL.of (s2 _ _ hS)) (by rw [List.length_map]; exact Nat.le_of_lt (small100 hl)) (fun i x ys C s H0 fp R hx hR => ⟨1, rfl, hR⟩) ?_⟩
    have ndb : dn ≠ bn := fun z => by rw [z, hb2] at hdn; cases hdn
    have ndp : dn ∉ ps := fun z => by rw [(hps dn z).1] at hdn; cases hdn
    have hd0 : H dn = none := s2.free hdn
    have s3 : Same H2 (upd H2 dn (.lst ((Pa.map V.int).map fun _ => V.int (-1)))) := Same.new hdn _
    have hD3 : IL (upd H2 dn (.lst ((Pa.map V.int).map fun _ => V.int (-1)))) dn (dep0 Pa 0) := upd_same.trans (by
      rw [dep0_zero, List.map_map, List.map_replicate]
      congr 2
      apply List.ext_getElem?
      intro i
      by_cases hi : i < Pa.length
      · rw [List.getElem?_map, List.getElem?_eq_getElem hi, List.getElem?_replicate, if_pos hi]; rfl
      · rw [List.getElem?_eq_none (by rw [List.length_map]; omega), List.getElem?_eq_none (by rw [List.length_replicate]; omega)])
    have K3 := K2.keep (H' := upd H2 dn (.lst ((Pa.map V.int).map fun _ => V.int (-1)))) fun b o e _ => s3 b o e
    have s03 := s2.trans s3
    generalize upd H2 dn (.lst ((Pa.map V.int).map fun _ => V.int (-1))) = H3 at s3 hD3 K3 s03
    -- the places that wait
    refine ⟨Nat.zero_le _, fun wn hwn => ?_⟩
    have nwb : wn ≠ bn := fun z => by rw [z, K3.at_] at hwn; cases hwn
    have nwd : wn ≠ dn := fun z => by rw [z, hD3] at hwn; cases hwn
    have nwp : wn ∉ ps := fun z => by obtain ⟨o, e⟩ := hps2 wn z; rw [s3 _ _ e] at hwn; cases hwn
    have hw0 : H wn = none := s03.free hwn
    have s04 : Same H (upd H3 wn (.lst [])) := s03.put hw0
    have hD4 : IL (upd H3 wn (.lst [])) dn (dep0 Pa 0) := (upd_ne (Ne.symm nwd)).trans hD3
    have K4 := K3.keep (H' := upd H3 wn (.lst [])) fun b o e _ => (Same.new hwn _) b o e
    have hW4 : IL (upd H3 wn (.lst [])) wn (cst (kidN Pa (-1) 0)) := upd_same
    generalize upd H3 wn (.lst []) = H4 at s04 hD4 K4 hW4
    refine ⟨_, rfl, a, rfl, ⟨_, SqL.of (s04 _ _ hS)⟩, for_enum (K := K) (a := a) (xs := Pa.map V.int) (fun i σ H5 => i ≤ Pa.length ∧ ∃ v4 v5, σ = [some (.ref a), some (.ref bn), some (.ref dn), some (.ref wn), v4, v5, none] ∧ Same H H5 ∧ IL H5 dn (dep0 Pa i) ∧ IL H5 wn (cst (kidN Pa (-1) i)) ∧ KL H5 bn ps fun j => kidN Pa (j : Int) i)
      ⟨Nat.zero_le _, none, none, rfl, s04, hD4, hW4, K4⟩ (fun i σ H5 _ ⟨_, _, _, _, s5, _⟩ => SqL.of (s5 _ _ hS)) ?_ ?_⟩
    · rintro i y σ H5 t hi ⟨_, v4, v5, rfl, s5, hD5, hW5, K5⟩ ht
      obtain ⟨h, rfl, hx⟩ := get_mapM hi
      have hil : i < Pa.length := (List.getElem?_eq_some_iff.mp hx).1
      have hxd : Pa.getD i 0 = h := by rw [List.getD_eq_getElem?_getD, hx]; rfl
      have hvi := hv i hil
      rw [hxd] at hvi
      have st : Same H5 (upd H5 t (.tup [.int (i : Nat), .int h])) := Same.new ht _
      refine ⟨t, _, rfl, SqT.of upd_same, rfl, _, _, rfl, _, _, rfl, rfl, ?_⟩
      have s6 := s5.trans st
      have hD6 := st _ _ hD5
      have hW6 := st _ _ hW5
      have K6 := K5.keep fun b o e _ => st b o e
      generalize upd H5 t (.tup [.int (i : Nat), .int h]) = H6 at s6 hD6 hW6 K6
      refine ⟨_, rfl, 1, rfl, rfl, _, rfl, ?_⟩
      rw [dec_int']
      refine ite2 (fun h1 => ?_) (fun h1 => ?_)
      · have h1' : h = -1 := of_decide_eq_true h1
        have hxm : Pa.getD i 0 = -1 := by rw [hxd]; exact h1'
        refine ⟨_, rfl, _, rfl, dn, _, _, i, rfl, rfl, hD6, ixN_nat (by rw [List.length_map, dep0_length]; exact hil), ?_⟩
        have hD7 : IL (upd H6 dn (.lst (((dep0 Pa i).map V.int).set i (.int 0)))) dn (dep0 Pa (i + 1)) := upd_same.trans (by rw [← dep0_set hil hxm, List.map_set])
        have hW7 : IL (upd H6 dn (.lst (((dep0 Pa i).map V.int).set i (.int 0)))) wn (cst (kidN Pa (-1) i)) := (upd_ne nwd).trans hW6
        have K7 := K6.keep (H' := upd H6 dn (.lst (((dep0 Pa i).map V.int).set i (.int 0)))) fun b o e z => by
          rw [upd_ne]; exact e
          rcases z with z | z
          · rw [z]; exact Ne.symm ndb
          · exact fun w => ndp (w ▸ z)
        have s7 := s6.put (q := dn) (o := .lst (((dep0 Pa i).map V.int).set i (.int 0))) hd0
        generalize upd H6 dn (.lst (((dep0 Pa i).map V.int).set i (.int 0))) = H7 at hD7 hW7 K7 s7
        have hkl := kidN_length Pa (-1) i
        refine ⟨_, rfl, .inl ⟨rfl, _, SqL.of hW7⟩, _, rfl, wn, _, _, rfl, rfl, hW7, by rw [List.length_map, cst_length]; exact small100 (by omega), hil, _, _, rfl, s7.put hw0, (upd_ne (Ne.symm nwd)).trans hD7, upd_same.trans ?_, ?_⟩
        · rw [kidN_succ, if_pos hxm, cst_snoc, List.map_append]; rfl
        · have e : (fun j : Nat => kidN Pa (j : Int) (i + 1)) = fun j : Nat => kidN Pa (j : Int) i := by
            funext j
            rw [kidN_succ, if_neg (by omega)]
          rw [e]
          refine K7.keep fun b o e z => ?_
          rw [upd_ne]; exact e
          rcases z with z | z
          · rw [z]; exact Ne.symm nwb
          · exact fun w => nwp (w ▸ z)
      · have h1' : ¬ h = -1 := fun z => h1 (decide_eq_true z)
        have hxm : ¬ Pa.getD i 0 = -1 := by rw [hxd]; exact h1'
        have hjl : h.toNat < ps.length := by omega
        obtain ⟨g1, g2⟩ := K6.get hjl
        rw [show ((h.toNat : Nat) : Int) = h by omega] at g1
        have hkl := kidN_length Pa ((h.toNat : Nat) : Int) i
        have hne : ps[h.toNat] ≠ dn ∧ ps[h.toNat] ≠ wn := ⟨fun z => ndp (z ▸ List.getElem_mem hjl), fun z => nwp (z ▸ List.getElem_mem hjl)⟩
        refine ⟨_, rfl, _, rfl, bn, _, _, _, rfl, rfl, SqL.of K6.at_, g1, .inl ⟨rfl, _, SqL.of g2⟩, _, rfl, ps[h.toNat], _, _, rfl, rfl, g2, by rw [List.length_map, cst_length]; exact small100 (by omega), hil, _, _, rfl, s6.put (hps0 _ (List.getElem_mem hjl)), ?_, ?_, ?_⟩
        · rw [dep0_skip hxm]; exact (upd_ne (Ne.symm hne.1)).trans hD6
        · rw [kidN_succ, if_neg hxm]; exact (upd_ne (Ne.symm hne.2)).trans hW6
        · refine K6.grow hjl fun k hk => ?_
          rw [kidN_succ, hxd]
          by_cases hkj : k = h.toNat
          · rw [if_pos hkj, if_pos (by omega)]
          · rw [if_neg hkj, if_neg (by omega)]
    rintro σ H5 ⟨_, v4, v5, rfl, s5, hD5, hW5, K5⟩
    rw [List.length_map] at hD5 hW5 K5
    -- from above
    refine ⟨fun m σ H6 => ∃ (D : List Int) (Pd Wt : List Nat) (v4 v6 : Option V), σ = [some (.ref a), some (.ref bn), some (.ref dn), some (.ref wn), v4, v5, v6] ∧ Same H H6 ∧ IL H6 dn D ∧ IL H6 wn (cst Wt) ∧ (KL H6 bn ps fun j => kidN Pa (j : Int) Pa.length) ∧ DInv Pa D Pd Wt ∧ m = Pa.length - Pd.length,
      ⟨_, dep0 Pa Pa.length, [], kidN Pa (-1) Pa.length, v4, none, rfl, s5, hD5, hW5, K5, DInv.start Pa, rfl⟩, ?_⟩
    rintro m σ H6 ⟨D, Pd, Wt, v4, v6, rfl, s6, hD6, hW6, K6, I6, rfl⟩
    refine ⟨_, rfl, _, .inl ⟨_, SqL.of hW6, rfl⟩, ?_⟩
    rcases List.eq_nil_or_concat Wt with rfl | ⟨Wt, ab, rfl⟩
    · refine iteF ?_
      exact ⟨_, rfl, k D I6.done dn H6 hd0 s6 hD6⟩
    · rw [List.concat_eq_append] at hW6 I6
      have hem : (!((cst (Wt.concat ab)).map V.int).isEmpty) = true := by rw [List.concat_eq_append, cst_snoc]; simp
      rw [hem]
      refine iteT ⟨_, fun _ _ z => z, ?_⟩
      have few := I6.few
      obtain ⟨hal, hkd⟩ := I6.kids
      have hgl : ((cst (Wt ++ [ab])).map V.int)[((cst (Wt ++ [ab])).map V.int).length - 1]? = some (V.int (ab : Nat)) := by rw [cst_snoc, List.map_append, List.length_append]; simp
      refine ⟨_, rfl, .inl ⟨rfl, _, SqL.of hW6⟩, wn, _, _, rfl, rfl, hW6, hgl, ?_⟩
      have hW7 : IL (upd H6 wn (.lst ((cst (Wt ++ [ab])).map V.int).dropLast)) wn (cst Wt) := upd_same.trans (by rw [cst_snoc, List.map_append]; simp)
      have hD7 : IL (upd H6 wn (.lst ((cst (Wt ++ [ab])).map V.int).dropLast)) dn D := (upd_ne (Ne.symm nwd)).trans hD6
      have K7 := K6.keep (H' := upd H6 wn (.lst ((cst (Wt ++ [ab])).map V.int).dropLast)) fun b o e z => by
        rw [upd_ne]; exact e
        rcases z with z | z
        · rw [z]; exact Ne.symm nwb
        · exact fun w => nwp (w ▸ z)
      have s7 := s6.put (q := wn) (o := .lst ((cst (Wt ++ [ab])).map V.int).dropLast) hw0
      generalize upd H6 wn (.lst ((cst (Wt ++ [ab])).map V.int).dropLast) = H7 at hW7 hD7 K7 s7
      have hjl : ab < ps.length := by omega
      obtain ⟨g1, g2⟩ := K7.get hjl
      have hkl := kidN_length Pa (ab : Int) Pa.length
      have hDl := I6.len
      -- those beneath it
      have loop : ∀ H8 : Hp, Same H H8 → IL H8 wn (cst Wt) → IL H8 dn D → (KL H8 bn ps fun j => kidN Pa (j : Int) Pa.length) → IL H8 ps[ab] (cst (kidN Pa (ab : Int) Pa.length)) := fun H8 _ _ _ K8 => (K8.get hjl).2
      refine ⟨_, rfl, _, rfl, bn, _, _, _, rfl, rfl, SqL.of K7.at_, g1, ps[ab], rfl, ⟨_, SqL.of g2⟩, for_list (K := K) (a := ps[ab]) (xs := (cst (kidN Pa (ab : Int) Pa.length)).map V.int) (fun i σ H8 => i ≤ (kidN Pa (ab : Int) Pa.length).length ∧ ∃ v4 : Option V, σ = [some (.ref a), some (.ref bn), some (.ref dn), some (.ref wn), v4, v5, some (.int (ab : Nat))] ∧ Same H H8 ∧ IL H8 dn (setAll D (D.getD ab 0 + 1) ((kidN Pa (ab : Int) Pa.length).take i)) ∧ IL H8 wn (cst (Wt ++ (kidN Pa (ab : Int) Pa.length).take i)) ∧ (KL H8 bn ps fun j => kidN Pa (j : Int) Pa.length))
        ⟨Nat.zero_le _, v4, rfl, s7, hD7, by rw [List.take_zero, List.append_nil]; exact hW7, K7⟩ (fun i σ H8 _ ⟨_, _, _, _, _, _, K8⟩ => SqL.of (K8.get hjl).2) ?_ ?_⟩
      · rintro i y σ H8 hi ⟨_, v4, rfl, s8, hD8, hW8, K8⟩
        obtain ⟨z, rfl, hz⟩ := get_mapM hi
        rw [List.getElem?_map] at hz
        cases ez : (kidN Pa (ab : Int) Pa.length)[i]? with
        | none => rw [ez] at hz; cases hz
        | some c =>
          rw [ez] at hz
          cases Option.some.inj hz
          have hik : i < (kidN Pa (ab : Int) Pa.length).length := (List.getElem?_eq_some_iff.mp ez).1
          have hck := kidN_mem.mp (List.mem_of_getElem? ez)
          have hsl : (setAll D (D.getD ab 0 + 1) ((kidN Pa (ab : Int) Pa.length).take i)).length = Pa.length := by rw [setAll_length, hDl]
          have htk : (kidN Pa (ab : Int) Pa.length).take (i + 1) = (kidN Pa (ab : Int) Pa.length).take i ++ [c] := by rw [List.take_add_one, ez]; rfl
          have hva : (setAll D (D.getD ab 0 + 1) ((kidN Pa (ab : Int) Pa.length).take i)).getD ab 0 = D.getD ab 0 := by
            rw [setAll_getD _ _ _ _ (by omega), if_neg fun z => ?_]
            exact hkd ab (List.mem_of_mem_take z) (List.mem_append_right _ (List.mem_append_right _ (by simp)))
          refine ⟨_, rfl, _, rfl, dn, _, _, _, rfl, rfl, SqL.of hD8, atI_mapM (by omega), _, 1, rfl, rfl, _, rfl, _, rfl, dn, _, _, c, rfl, rfl, hD8, ixN_nat (by rw [List.length_map]; omega), ?_⟩
          rw [hva]
          have hD9 : IL (upd H8 dn (.lst (((setAll D (D.getD ab 0 + 1) ((kidN Pa (ab : Int) Pa.length).take i)).map V.int).set c (.int (D.getD ab 0 + 1))))) dn (setAll D (D.getD ab 0 + 1) ((kidN Pa (ab : Int) Pa.length).take (i + 1))) := upd_same.trans (by rw [htk, setAll_snoc, List.map_set])
          have hW9 : IL (upd H8 dn (.lst (((setAll D (D.getD ab 0 + 1) ((kidN Pa (ab : Int) Pa.length).take i)).map V.int).set c (.int (D.getD ab 0 + 1))))) wn (cst (Wt ++ (kidN Pa (ab : Int) Pa.length).take i)) := (upd_ne nwd).trans hW8
          have K9 := K8.keep (H' := upd H8 dn (.lst (((setAll D (D.getD ab 0 + 1) ((kidN Pa (ab : Int) Pa.length).take i)).map V.int).set c (.int (D.getD ab 0 + 1))))) fun b o e z => by
            rw [upd_ne]; exact e
            rcases z with z | z
            · rw [z]; exact Ne.symm ndb
            · exact fun w => ndp (w ▸ z)
          have s9 := s8.put (q := dn) (o := .lst (((setAll D (D.getD ab 0 + 1) ((kidN Pa (ab : Int) Pa.length).take i)).map V.int).set c (.int (D.getD ab 0 + 1)))) hd0
          dsimp only
          generalize upd H8 dn (.lst (((setAll D (D.getD ab 0 + 1) ((kidN Pa (ab : Int) Pa.length).take i)).map V.int).set c (.int (D.getD ab 0 + 1)))) = H9 at hD9 hW9 K9 s9
          refine ⟨_, rfl, .inl ⟨rfl, _, SqL.of hW9⟩, _, rfl, wn, _, _, rfl, rfl, hW9, ?_, hik, _, rfl, s9.put hw0, (upd_ne (Ne.symm nwd)).trans hD9, upd_same.trans ?_, ?_⟩
          · rw [List.length_map, cst_length, List.length_append, List.length_take]
            rw [List.length_append] at few
            exact small1000 (by omega)
          · rw [htk, ← List.append_assoc, cst_snoc, List.map_append]; rfl
          · refine K9.keep fun b o e z => ?_
            rw [upd_ne]; exact e
            rcases z with z | z
            · rw [z]; exact Ne.symm nwb
            · exact fun w => nwp (w ▸ z)
      · rintro σ H8 ⟨_, v4, rfl, s8, hD8, hW8, K8⟩
        have hlen : ((cst (kidN Pa (ab : Int) Pa.length)).map V.int).length = (kidN Pa (ab : Int) Pa.length).length := by rw [List.length_map, cst_length]
        rw [hlen, List.take_of_length_le (Nat.le_refl _)] at hD8 hW8
        rw [List.length_append, List.length_singleton] at few
        exact ⟨Pa.length - (ab :: Pd).length, by simp only [List.length_cons]; omega, _, ab :: Pd, _, v4, _, rfl, s8, hD8, hW8, K8, I6.step, rfl⟩
end
end Sky

namespace Sky
open PySem L2
section
variable {P : Program} {w : World} {K : PySem.W.Frag} {mg : Str → Option Value} {base : Heap}
theorem scBarsOf : FnScope ["parents", "bars"] ["parents"] (defScope sBarsOf) := ⟨rfl, rfl, rfl, by decide +kernel, rfl, by decide +kernel, by decide +kernel⟩
theorem ok_barsOf7 {f C : Addr} {fd : FuncData} (F : Fun K "bars_of" "bars_of" sBarsOf f fd) (B : Blt mg) (xT : ExC K C) (mgT : mg "BadTree" = some (.ref C)) (cK : Callee P w K mg base 2 "check_parents" ["parents"] spChkP) (cD : Callee P w K mg base 1 "depths" ["parents"] spDepths) (cP : Callee P w K mg base 1 "parents_in_tree" ["bars"] spPar) : FnOk P w K mg base (CX1 P w) 4 f fd ["parents"] (spBarsOf7 C) := by
  refine F.okx scBarsOf (fun vs H Q E h => ?_) (fun cdv A outer s H vs Q E hr h => ?_)
  · obtain ⟨a, Pa, rfl, _⟩ := h
    rfl
  · obtain ⟨a, Pa, rfl, hS, hl, hv, k⟩ := h
    have hu := hr.units
    refine ⟨_, (pss_cons (ps_expr (pe_fn cK (hr.mono (by decide)) rfl (pa_cons (pv 0) pa_nil)))
      (pss_cons (ps_set (i := 1) scBarsOf.nd rfl (Or.inl rfl) (pe_fn cD (hr.mono (by decide)) rfl (pa_cons (pv 0) pa_nil)))
      (pss_cons (ps_if (pt_cmpR (op_neI hu) (pe_fn cP (hr.mono (by decide)) rfl (pa_cons (pv 1) pa_nil)) (pv 0) (nomark _)) (pss_one (ps_raise cx_raise PySem.F.excBase_ValueError xT.raises rfl rfl mgT (pa_cons pe_str pa_nil))) pss_nil)
      (pss_one (ps_ret (pv 1)))))), ?_⟩
    refine ⟨_, rfl, a, Pa, rfl, hS, hl, hv, fun H1 s1 => ?_⟩
    refine ⟨_, rfl, a, Pa, rfl, s1 _ _ hS, hl, hv, fun D hD l H2 nl s2 hL => ?_⟩
    have s02 := s1.trans s2
    refine ⟨_, rfl, l, D, rfl, hL, by rw [hD.1]; exact hl, fun l2 H3 nl2 s3 hL2 => ?_⟩
    have s03 := s02.trans s3
    refine ⟨_, rfl, l2, a, _, _, rfl, rfl, SqL.of hL2, SqL.of (s03 _ _ hS), _, rfl, ?_⟩
    by_cases ht : treeL D = Pa
    · refine iteNeg ht ?_
      exact ⟨_, rfl, (k D hD).1 ht l H3 (s1.free nl) s03 (s3 _ _ hL)⟩
    · exact iteNegT ht ⟨by decide, (k D hD).2 ht H3 s03⟩
end
end Sky

namespace Sky
open PySem L2
section
variable {P : Program} {w : World} {K : PySem.W.Frag} {mg : Str → Option Value} {base : Heap}
theorem scBars : FnScope ["_law_script", "_law_mixed", "_law_most", "_law_bars_here"] ["_law_script"] (defScope sBars) := ⟨rfl, rfl, rfl, by decide +kernel, rfl, by decide +kernel, by decide +kernel⟩
theorem ok_bars {f : Addr} {fd : FuncData} (F : Fun K "_law_bars" "_law_bars" sBars f fd) (B : Blt mg) : FnOk P w K mg base CX0 1 f fd ["_law_script"] (spBars K) := by
  refine F.ok scBars (fun vs H Q E h => ?_) (fun cdv A outer s H vs Q E hr h => ?_)
  · obtain ⟨a, ns, rfl, _⟩ := h
    rfl
  · obtain ⟨a, ns, rfl, hS, hl, k⟩ := h
    refine ⟨_, pss_cons (ps_set (i := 1) scBars.nd rfl (Or.inl rfl) (pe_callB (call_sum rfl) rfl B.sum boot_sum' (pa_cons (pv 0) pa_nil)))
      (pss_cons (ps_set (i := 2) scBars.nd rfl (Or.inr rfl) (pe_ix ix_tup (pe_tup (pa_cons pe_int (pa_cons pe_int (pa_cons pe_int (pa_cons pe_int pa_nil))))) (pe_op op_mod (pv 1) pe_int) (fun _ _ => rfl)))
      (pss_cons (ps_lc (i := 3) (cap := [2]) ["_law_cell"] rfl (CompOk.of (defScope sBars) ["_law_script", "_law_mixed", "_law_most", "_law_bars_here"] rfl rfl (by decide +kernel)) scBars.nd rfl (Or.inl rfl) (pi_list (pv 0)) (fun C s H fp => pg_name (i := 0) (show List.Nodup (["_law_cell", "_law_most"] : List Str) from by decide +kernel) rfl (Or.inl rfl)) (fun C s H fp => pf_nil)
        (fun C s H fp => pe_op op_mod (pv 0) (pv 1)) rfl)
      (pss_cons (ps_if (pt_cmpR op_eq (pe_op op_mod (pe_op op_fdiv (pv 1) pe_int) pe_int) pe_int (nomark _)) (pss_one (ps_ret (pe_callB call_sorted rfl B.sorted boot_sorted' (pa_cons (pv 3) pa_nil)))) pss_nil)
      (pss_one (ps_ret (pe_ifExp (pt_cmpR op_eq (pe_op op_mod (pe_op op_fdiv (pv 1) pe_int) pe_int) pe_int (nomark _)) (pe_rev (pe_callB call_sorted rfl B.sorted boot_sorted' (pa_cons (pv 3) pa_nil))) (pv 3))))))), ?_⟩
    refine ⟨_, rfl, a, ns, rfl, hS, ?_⟩
    obtain ⟨v, hv, v0, v1⟩ : ∃ v : Int, atI [V.int 3, V.int 3, V.int 10, V.int 10000001] (ns.sum % 4) = some (V.int v) ∧ 0 < v ∧ v ≤ 10000001 := by
      have h : ns.sum % 4 = 0 ∨ ns.sum % 4 = 1 ∨ ns.sum % 4 = 2 ∨ ns.sum % 4 = 3 := by omega
      rcases h with h | h | h | h
      · rw [h]; exact ⟨3, rfl, by omega, by omega⟩
      · rw [h]; exact ⟨3, rfl, by omega, by omega⟩
      · rw [h]; exact ⟨10, rfl, by omega, by omega⟩
      · rw [h]; exact ⟨10000001, rfl, by omega, by omega⟩
    refine ⟨by show 4 ≤ sizeLine; decide, fun t ht => ⟨_, rfl, _, _, rfl, rfl, (by show (0 : Int) < 4; decide), t, [V.int 3, V.int 3, V.int 10, V.int 10000001], ns.sum % 4, V.int v, rfl, rfl, SqT.of upd_same, hv, ?_⟩⟩
    have s1 : Same H (upd H t (.tup [V.int 3, V.int 3, V.int 10, V.int 10000001])) := Same.new ht _
    have hz : (ns.map V.int).length ≤ sizeLine := by rw [List.length_map]; exact Nat.le_of_lt (small100 (by omega))
    refine ⟨_, rfl, a, rfl, ⟨_, s1.seq hS⟩, fun D hD => lc_listP (fun u => match u with | .int x => .int (x % v) | _ => .non) hD (s1.seq hS) hz ?_ ?_⟩
    · intro i x ys C s H0 fp R hx hR
      obtain ⟨z, rfl, _⟩ := get_mapM hx
      exact ⟨_, rfl, _, rfl, z, v, rfl, rfl, v0, hR⟩
    have hbl : (ns.map (· % v)).length = ns.length := List.length_map _
    have hbh : Hts (ns.map (· % v)) := by
      refine ⟨by rw [hbl]; omega, fun x hx => ?_⟩
      obtain ⟨z, _, rfl⟩ := List.mem_map.mp hx
      have := Int.emod_nonneg z (by omega : v ≠ 0)
      have := Int.emod_lt_of_pos z v0
      omega
    have nD : H D = none := s1.free hD
    generalize hH2 : upd (upd H t (.tup [V.int 3, V.int 3, V.int 10, V.int 10000001])) D _ = H2
    have s2 : Same H H2 := by rw [← hH2]; exact s1.put nD
    have hB : IL H2 D (ns.map (· % v)) := by
      rw [← hH2]
      refine upd_same.trans ?_
      rw [List.map_map, List.map_map]; rfl
    have fin : ∀ l ns', H2 l = none → ns'.Perm (ns.map (· % v)) → H l = none ∧ ns'.length = ns.length ∧ Hts ns' := fun l ns' hl' hp => ⟨s2.free hl', hp.length_eq.trans hbl, by rw [hp.length_eq]; exact hbh.1, fun x hx => hbh.2 x (hp.mem_iff.mp hx)⟩
    refine ⟨_, rfl, _, _, rfl, rfl, ⟨by decide, by decide⟩, _, _, rfl, rfl, (by show (0 : Int) < 7; decide), rfl, _, rfl, ite2 (fun _ => ?_) (fun _ => ?_)⟩
    · refine ⟨_, rfl, D, ns.map (· % v), rfl, SqL.of hB, by rw [hbl]; omega, fun l ns' hl' hp _ => ?_⟩
      obtain ⟨f1, f2, f3⟩ := fin l ns' hl' hp
      exact k ns' f2 f3 l _ f1 (s2.put f1) upd_same
    · refine ⟨_, rfl, _, _, rfl, rfl, ⟨by decide, by decide⟩, _, _, rfl, rfl, (by show (0 : Int) < 7; decide), rfl, _, rfl, ite2 (fun _ => ?_) (fun _ => ?_)⟩
      · refine ⟨_, rfl, D, ns.map (· % v), rfl, SqL.of hB, by rw [hbl]; omega, fun l ns' hl' hp _ => ?_⟩
        obtain ⟨f1, f2, f3⟩ := fin l ns' hl' hp
        refine ⟨l, _, rfl, SqL.of upd_same, fun p hp' => ?_⟩
        have s3 : Same H (upd H2 l (.lst (ns'.map V.int))) := s2.put f1
        have np : H p = none := s3.free hp'
        refine k ns'.reverse (by rw [List.length_reverse]; exact f2) ⟨by rw [List.length_reverse]; exact f3.1, fun x hx => f3.2 x (List.mem_reverse.mp hx)⟩ p _ np (s3.put np) (upd_same.trans ?_)
        rw [List.map_reverse]
      · exact ⟨_, rfl, k _ hbl hbh D H2 nD s2 hB⟩
end
end Sky

namespace Sky
open PySem L2
section
variable {P : Program} {w : World} {K : PySem.W.Frag} {mg : Str → Option Value} {base : Heap}
theorem scNums : FnScope ["_law_found"] ["_law_found"] (defScope sNums) := ⟨rfl, rfl, rfl, by decide +kernel, rfl, by decide +kernel, by decide +kernel⟩
theorem ok_nums {f : Addr} {fd : FuncData} (F : Fun K "_law_numbers" "_law_numbers" sNums f fd) (B : Blt mg) : FnOk P w K mg base CX0 1 f fd ["_law_found"] spNums := by
  refine F.ok scNums (fun vs H Q E h => ?_) (fun cdv A outer s H vs Q E hr h => ?_)
  · obtain ⟨a, ns, rfl, _⟩ := h
    rfl
  · obtain ⟨a, xs, rfl, hS, hl, k⟩ := h
    refine ⟨_, pss_cons (ps_if (pt_not (pt_val (pe_callB call_isinst rfl B.isinstance boot_isinst' (pa_cons (pv 0) (pa_cons (pe_bltn rfl B.list boot_list' (v := .ty "list") rfl) pa_nil))))) pss_never pss_nil)
      (pss_one (ps_ret (pe_callB (call_all rfl) rfl B.all boot_all' (pa_cons (pe_lc (cap := []) ["_law_one"] rfl (CompOk.of (defScope sNums) ["_law_found"] rfl rfl (by decide +kernel)) (pi_list (pv 0)) (fun C s H fp => pg_name (i := 0) (show List.Nodup (["_law_one"] : List Str) from by decide +kernel) rfl (Or.inl rfl)) (fun C s H fp => pf_nil)
        (fun C s H fp => pe_and (pe_callB call_isinst rfl B.isinstance boot_isinst' (pa_cons (pv 0) (pa_cons (pe_bltn rfl B.int boot_int' (v := .ty "int") rfl) pa_nil)))
          (pe_one (pe_not (pe_callB call_isinst rfl B.isinstance boot_isinst' (pa_cons (pv 0) (pa_cons (pe_bltn rfl B.bool boot_bool' (v := .ty "bool") rfl) pa_nil))))))) pa_nil)))), ?_⟩
    refine ⟨_, rfl, _, _, _, _, _, rfl, .lst hS, rfl, kit_ll _, true, rfl, iteF ?_⟩
    refine ⟨_, rfl, a, rfl, ⟨_, SqL.of hS⟩, fun D hD => lc_listP (fun v => .bl true) hD (SqL.of hS) (by rw [List.length_map]; exact Nat.le_of_lt (small100 hl)) ?_ ?_⟩
    · intro i x ys C s H0 fp R hx hR
      obtain ⟨z, rfl, _⟩ := get_mapM hx
      refine ⟨_, rfl, _, _, _, _, _, rfl, .int z, rfl, kit_ii _, true, rfl, iteT ?_⟩
      exact ⟨_, rfl, _, _, _, _, _, rfl, .int z, rfl, kit_ib _, false, rfl, hR⟩
    · refine ⟨D, xs.map (fun _ => true), rfl, SqL.of (by rw [upd_same, List.map_map, List.map_map]; rfl), ?_⟩
      have e : (xs.map (fun _ => true)).all id = true := by
        rw [List.all_eq_true]
        intro b hb
        obtain ⟨z, hz, rfl⟩ := List.mem_map.mp hb
        rfl
      rw [e]
      exact k _ (Same.new hD _)
end
end Sky

namespace Sky
open PySem L2
section
variable {P : Program} {w : World} {K : PySem.W.Frag} {mg : Str → Option Value} {base : Heap}
theorem scDeep : FnScope ["_law_parents", "_law_found", "_law_place", "_law_many"] ["_law_parents"] (defScope sDeep) := ⟨rfl, rfl, rfl, by decide +kernel, rfl, by decide +kernel, by decide +kernel⟩
theorem ok_deep7 {f : Addr} {fd : FuncData} (F : Fun K "_law_deep" "_law_deep" sDeep f fd) (B : Blt mg)  : FnOk P w K mg base CX0 1 f fd ["_law_parents"] spDeep7 := by
  refine F.ok scDeep (fun vs H Q E h => ?_) (fun cdv A outer s H vs Q E hr h => ?_)
  · obtain ⟨a, Pa, rfl, _⟩ := h
    rfl
  · obtain ⟨a, Pa, rfl, hS, hl, hv, kN, kD⟩ := h
    have hu := hr.units
    refine ⟨_, (pss_cons (ps_set (i := 1) scDeep.nd rfl (Or.inl rfl) (pe_lst pa_nil))
      (pss_cons (ps_for PassesOwn.never rfl (pi_range1 rfl B.range (pa_cons (pe_callB call_len_seq rfl B.len PySem.boot_len (pa_cons (pv 0) pa_nil)) pa_nil)) (pg_name (i := 2) scDeep.nd rfl (Or.inl rfl))
      (pss_cons (ps_set (i := 3) scDeep.nd rfl (Or.inl rfl) pe_int)
      (pss_cons (ps_while PassesOwn.never (PW.pt (pw_and (pt_cmpR op_ge (pe_ix ix_list (pv 0) (pv 2) (fun _ _ => rfl)) pe_int (nomark _)) (pw_and1 (pt_cmpR op_le (pv 3) (pe_callB call_len_seq rfl B.len PySem.boot_len (pa_cons (pv 0) pa_nil)) (nomark _)))))
      (pss_cons (ps_set (i := 2) scDeep.nd rfl (Or.inl rfl) (pe_ix ix_list (pv 0) (pv 2) (fun _ _ => rfl)))
      (pss_one (ps_set (i := 3) scDeep.nd rfl (Or.inl rfl) (pe_op op_add (pv 3) pe_int)))))
      (pss_one (ps_expr (pe_bm PySem.F.plainAttrs_list PySem.F.slot_list_append PySem.F.type_list_append mt_append (pv 1) (pa_cons (pv 3) pa_nil)))))))
      (pss_cons (ps_if (PW.pt (pw_and (pt_cmpR (op_neI hu) (pv 0) (pe_lst pa_nil) (nomark _)) (pw_and1 (pt_cmpR op_gt (pe_callB (call_maxL rfl) rfl B.max PyProof.Rows.boot_max (pa_cons (pv 1) pa_nil)) (pe_callB call_len_seq rfl B.len PySem.boot_len (pa_cons (pv 0) pa_nil)) (nomark _))))) (pss_one (ps_ret (pe_lst pa_nil))) pss_nil)
      (pss_one (ps_ret (pv 1)))))), ?_⟩
    refine ⟨Nat.zero_le _, fun l hl0 => ?_⟩
    have s1 := Same.new hl0 (.lst [])
    have hL1 : IL (upd H l (.lst [])) l ((stpL Pa).take 0) := upd_same
    generalize upd H l (.lst []) = H1 at s1 hL1
    have hlen := stpL_length Pa
    refine ⟨_, rfl, a, _, rfl, .inl (SqL.of (s1 _ _ hS)), ((Pa.map V.int).length : Int), rfl, by omega, by rw [List.length_map]; omega, ?_⟩
    rw [show (((Pa.map V.int).length : Int)).toNat = Pa.length by rw [List.length_map]; rfl]
    refine for_range (n := Pa.length) (fun i σ H2 => ∃ v2 v3, σ = [some (.ref a), some (.ref l), v2, v3] ∧ Same H H2 ∧ IL H2 l ((stpL Pa).take i)) ⟨none, none, rfl, s1, hL1⟩ ?_ ?_
    · rintro i σ H2 hi ⟨v2, v3, rfl, s2, hL⟩
      have hS2 := s2 _ _ hS
      refine ⟨fun m σ H3 => ∃ k j : Nat, m = Pa.length + 2 - k ∧ k ≤ Pa.length + 1 ∧ σ = [some (.ref a), some (.ref l), some (.int (j : Nat)), some (.int (k : Nat))] ∧ Up Pa i k j ∧ H3 = H2, ⟨_, 0, i, rfl, by omega, ?_, Up.start hi, rfl⟩, ?_⟩
      · show ([some (V.ref a), some (V.ref l), some (V.int (0 + (i : Int))), some (V.int 0)] : St) = _
        rw [Int.zero_add]; rfl
      rintro m σ H3 ⟨k, j, rfl, hk, rfl, u, rfl⟩
      have hj := u.lt
      obtain ⟨hv1, hv2⟩ := hv j hj
      have hS3 := SqL.of hS2 (K := K)
      refine ⟨_, rfl, _, rfl, a, _, _, _, rfl, rfl, hS3, atI_mapM hj, _, 0, rfl, rfl, _, rfl, ?_⟩
      by_cases hp : Pa.getD j 0 = -1
      · have est := stp_dep (u.root hp)
        rw [hp]
        refine iteD (by omega) ?_
        exact ⟨_, rfl, .inl ⟨rfl, _, SqL.of hL⟩, _, rfl, l, _, _, rfl, rfl, hL, by rw [List.length_map, List.length_take]; exact small100 (by omega), _, _, rfl, s2.put hl0, upd_same.trans (by rw [List.take_add_one, stpL_get hi, List.map_append, est]; rfl)⟩
      · refine iteE (by omega) ?_
        refine ⟨_, rfl, _, rfl, a, _, rfl, .inl hS3, _, _, rfl, rfl, _, rfl, ?_⟩
        rw [List.length_map]
        by_cases hkn : k ≤ Pa.length
        · obtain ⟨j2, hj2⟩ := Int.eq_ofNat_of_zero_le (a := Pa.getD j 0) (by omega)
          refine iteE (by omega) ⟨_, fun _ _ z => z, ⟨_, rfl, _, rfl, a, _, _, _, rfl, rfl, hS3, atI_mapM hj, _, rfl, _, 1, rfl, rfl, Pa.length + 2 - (k + 1), by omega, k + 1, j2, rfl, by omega, ?_, u.step hj2 (by omega), rfl⟩⟩
          show ([some (V.ref a), some (V.ref l), some (V.int (Pa.getD j 0)), some (V.int ((k : Int) + 1))] : St) = _
          rw [hj2]; rfl
        · have est : stp Pa i = (k : Int) := by rw [stp_no (u.never (by omega))]; omega
          refine iteD (by omega) ?_
          exact ⟨_, rfl, .inl ⟨rfl, _, SqL.of hL⟩, _, rfl, l, _, _, rfl, rfl, hL, by rw [List.length_map, List.length_take]; exact small100 (by omega), _, _, rfl, s2.put hl0, upd_same.trans (by rw [List.take_add_one, stpL_get hi, List.map_append, est]; rfl)⟩
    · rintro σ H2 ⟨v2, v3, rfl, s2, hL⟩
      have hS2 := s2 _ _ hS
      rw [List.take_of_length_le (by omega)] at hL
      refine ⟨_, rfl, Nat.zero_le _, fun e he0 => ?_⟩
      have s3 := s2.trans (Same.new he0 (.lst []))
      have hE : IL (upd H2 e (.lst [])) e [] := upd_same
      have hL3 := (Same.new he0 (.lst [])) _ _ hL
      have fre : ∀ b, upd H2 e (.lst []) b = none → H b = none := fun b z => s3.free z
      generalize upd H2 e (.lst []) = H3 at s3 hE hL3 fre
      have hS3 := s3 _ _ hS
      refine ⟨a, e, Pa, [], rfl, rfl, SqL.of hS3, SqL.of hE, _, rfl, ?_⟩
      by_cases hn : Pa = []
      · refine iteNeg hn ?_
        rcases stpL_cases Pa with ⟨hall, hD, hd⟩ | ⟨i, hi, _⟩
        · exact ⟨_, rfl, kD _ hD hd l H3 hl0 s3 hL3⟩
        · rw [hn] at hi; exact absurd hi (Nat.not_lt_zero _)
      · refine iteNegT hn ?_
        refine ⟨_, rfl, l, stpL Pa, rfl, SqL.of hL3, fun z => hn (List.eq_nil_of_length_eq_zero (by rw [← hlen, z]; rfl)), fun M hM1 hM2 => ⟨_, rfl, a, _, rfl, .inl (SqL.of hS3), _, _, rfl, rfl, _, rfl, ?_⟩⟩
        rw [List.length_map]
        rcases stpL_cases Pa with ⟨hall, hD, hd⟩ | ⟨i, hi, hno, hmem⟩
        · have := hall M hM1
          refine iteD (by omega) ?_
          exact ⟨_, rfl, kD _ hD hd l H3 hl0 s3 hL3⟩
        · have := hM2 _ hmem
          refine iteE (by omega) ⟨Nat.zero_le _, fun r hr0 => kN ⟨i, hi, hno⟩ r _ (fre r hr0) (s3.trans (Same.new hr0 _)) upd_same⟩
end
end Sky

namespace Sky
open PySem L2
section
variable {P : Program} {w : World} {K : PySem.W.Frag} {mg : Str → Option Value} {base : Heap}
theorem scHung : FnScope ["_law_bars_here", "_law_found", "_law_waiting", "_law_low", "_law_high", "_law_above", "_law_at", "_law_place"] ["_law_bars_here"] (defScope sHung) := ⟨rfl, rfl, rfl, by decide +kernel, rfl, by decide +kernel, by decide +kernel⟩
theorem ok_hung {f : Addr} {fd : FuncData} (F : Fun K "_law_hung" "_law_hung" sHung f fd) (B : Blt mg)  : FnOk P w K mg base CX0 1 f fd ["_law_bars_here"] spHung := by
  refine F.ok scHung (fun vs H Q E h => ?_) (fun cdv A outer s H vs Q E hr h => ?_)
  · obtain ⟨a, b, rfl, _⟩ := h
    rfl
  · obtain ⟨a, b, rfl, hS, hl, k⟩ := h
    have hu := hr.units
    refine ⟨_, (pss_cons (ps_lc (i := 1) (cap := []) ["_law_bar"] rfl (CompOk.of (defScope sHung) ["_law_bars_here", "_law_found", "_law_waiting", "_law_low", "_law_high", "_law_above", "_law_at", "_law_place"] rfl rfl (by decide +kernel)) scHung.nd rfl (Or.inl rfl) (pi_list (pv 0)) (fun C s H fp => (pg_name (i := 0) (show List.Nodup (["_law_bar"] : List Str) from by decide +kernel) rfl (Or.inl rfl))) (fun C s H fp => pf_nil)
        (fun C s H fp => (pe_un un_neg pe_int)) rfl)
      (pss_cons (ps_set (i := 2) scHung.nd rfl (Or.inl rfl) (pe_lst (pa_cons (pe_tup (pa_cons pe_int (pa_cons (pe_callB call_len_seq rfl B.len PySem.boot_len (pa_cons (pv 0) pa_nil)) (pa_cons (pe_un un_neg pe_int) pa_nil)))) pa_nil)))
      (pss_cons (ps_while PassesOwn.never (pt_cmpR (op_ne3 hu) (pv 2) (pe_lst pa_nil) (nomark _))
      (pss_cons (ps_asg (pe_bm0 PySem.F.plainAttrs_list PySem.F.slot_list_pop PySem.F.type_list_pop mt_pop (pv 2)) (pg_tup rfl (pgs_cons (pg_name (i := 3) scHung.nd rfl (Or.inl rfl)) (pgs_cons (pg_name (i := 4) scHung.nd rfl (Or.inl rfl)) (pgs_cons (pg_name (i := 5) scHung.nd rfl (Or.inl rfl)) pgs_nil)))))
      (pss_one (ps_if (pt_cmpR op_lt (pv 3) (pv 4) (nomark _)) (pss_cons (ps_set (i := 6) scHung.nd rfl (Or.inl rfl) (pv 3))
      (pss_cons (ps_for PassesOwn.never rfl (pi_range2 rfl B.range (pa_cons (pv 3) (pa_cons (pv 4) pa_nil))) (pg_name (i := 7) scHung.nd rfl (Or.inl rfl))
      (pss_one (ps_if (pt_cmpR op_lt (pe_ix ix_list (pv 0) (pv 7) (fun _ _ => rfl)) (pe_ix ix_list (pv 0) (pv 6) (fun _ _ => rfl)) (nomark _)) (pss_one (ps_set (i := 6) scHung.nd rfl (Or.inl rfl) (pv 7))) pss_nil)))
      (pss_cons (ps_asg (pv 5) (pg_sub (pv 1) (pv 6) set_list))
      (pss_cons (ps_expr (pe_bm PySem.F.plainAttrs_list PySem.F.slot_list_append PySem.F.type_list_append mt_append (pv 2) (pa_cons (pe_tup (pa_cons (pv 3) (pa_cons (pv 6) (pa_cons (pv 6) pa_nil)))) pa_nil)))
      (pss_one (ps_expr (pe_bm PySem.F.plainAttrs_list PySem.F.slot_list_append PySem.F.type_list_append mt_append (pv 2) (pa_cons (pe_tup (pa_cons (pe_op op_add (pv 6) pe_int) (pa_cons (pv 4) (pa_cons (pv 6) pa_nil)))) pa_nil)))))))) pss_nil))))
      (pss_one (ps_ret (pv 1)))))), ?_⟩
    refine ⟨_, rfl, a, rfl, ⟨_, SqL.of hS⟩, fun l hl0 => lc_list (xs := b.map V.int) (fun i H2 ys => Same H H2 ∧ H2 l = some (.lst ys) ∧ ys = (List.replicate i (-1 : Int)).map V.int) ⟨Same.new hl0 _, upd_same, rfl⟩ (fun i H2 ys _ h => ⟨SqL.of (h.1 _ _ hS), h.2.1⟩) ?_ ?_⟩
    · rintro i x H2 ys hx ⟨s2, hL, rfl⟩ C s H0 fp
      have hi : i < b.length := by have := (List.getElem?_eq_some_iff.mp hx).1; rwa [List.length_map] at this
      refine ⟨_, rfl, hL, by rw [List.length_map, List.length_replicate]; exact small100 (by omega), s2.put hl0, upd_same, by rw [List.replicate_succ', List.map_append]; rfl⟩
    rintro H2 ys ⟨s2, hL, rfl⟩
    rw [List.length_map] at hL
    -- the first segment
    refine ⟨_, rfl, a, _, rfl, .inl (SqL.of (s2 _ _ hS)), _, rfl, by show 3 ≤ sizeLine; decide, fun t ht0 => ⟨by show 1 ≤ sizeLine; decide, fun w hw0 => ?_⟩⟩
    rw [List.length_map] at hw0 ⊢
    have hH3 : upd H2 t (.tup [.int 0, .int (b.length : Nat), .int (-1)]) t = some (.tup [.int 0, .int (b.length : Nat), .int (-1)]) := upd_same
    have s3 := s2.trans (Same.new ht0 (.tup [.int 0, .int (b.length : Nat), .int (-1)]))
    have hL3 := (Same.new ht0 (.tup [.int 0, .int (b.length : Nat), .int (-1)])) _ _ hL
    have hw00 := s3.free hw0
    have nlw : l ≠ w := fun z => by rw [z] at hL3; rw [show upd H2 t (.tup [.int 0, .int (b.length : Nat), .int (-1)]) w = none from hw0] at hL3; cases hL3
    have s4 := s3.trans (Same.new hw0 (.lst [.ref t]))
    have hL4 := (Same.new hw0 (.lst [.ref t])) _ _ hL3
    have T4 : T3e (upd (upd H2 t (.tup [.int 0, .int (b.length : Nat), .int (-1)])) w (.lst [.ref t])) w [t] ([((0 : Nat), b.length, (-1 : Int))].map w3) := by
      refine ⟨upd_same, rfl, fun j p e => ?_⟩
      cases j with
      | zero =>
        cases Option.some.inj (show some t = some p from e)
        exact ⟨_, rfl, (Same.new hw0 _) _ _ hH3⟩
      | succ j => simp at e
    generalize upd (upd H2 t (.tup [.int 0, .int (b.length : Nat), .int (-1)])) w (.lst [.ref t]) = H4 at s4 hL4 T4
    refine ⟨fun m σ H5 => ∃ F ws ps v3 v4 v5 v6 v7, σ = [some (.ref a), some (.ref l), some (.ref w), v3, v4, v5, v6, v7] ∧ Same H H5 ∧ IL H5 l F ∧ T3e H5 w ps (ws.map w3) ∧ HInv b F ws ∧ hms ws = m ∧ hms ws ≤ 2 * b.length + 1, ⟨_, _, _, [t], none, none, none, none, none, rfl, s4, hL4, T4, HInv.start b, rfl, by simp [hms]⟩, ?_⟩
    rintro m σ H5 ⟨F, ws, ps, v3, v4, v5, v6, v7, rfl, s5, hF, T5, I, rfl, hb⟩
    refine ⟨_, rfl, Nat.zero_le _, fun e he0 => ?_⟩
    have se := Same.new he0 (.lst [])
    have s6 := s5.trans se
    have hF6 := se _ _ hF
    have T6 := T5.same se
    have hE : upd H5 e (.lst []) e = some (.lst []) := upd_same
    generalize upd H5 e (.lst []) = H6 at s6 hF6 T6 hE
    refine ⟨w, e, ps, _, rfl, rfl, T6, hE, _, rfl, ?_⟩
    by_cases hn : ws = []
    · subst hn
      refine iteNegF rfl ?_
      have ef := I.done
      subst ef
      exact ⟨_, rfl, k l H6 hl0 s6 hF6⟩
    refine iteNegT (fun z => hn (List.map_eq_nil_iff.mp z)) ?_
    obtain ⟨ws', ⟨lo, hi, ab⟩, rfl⟩ : ∃ ws' w', ws = ws' ++ [w'] := ⟨ws.dropLast, ws.getLast hn, (List.dropLast_concat_getLast hn).symm⟩
    have T6' : T3e H6 w ps (ws'.map w3 ++ [w3 (lo, hi, ab)]) := by rw [List.map_append] at T6; exact T6
    obtain ⟨ps', t2, rfl⟩ : ∃ ps' t2, ps = ps' ++ [t2] := by
      have hp : ps ≠ [] := fun z => by have := T6'.len; rw [z] at this; simp at this
      exact ⟨ps.dropLast, ps.getLast hp, (List.dropLast_concat_getLast hp).symm⟩
    obtain ⟨ht2, T7⟩ := T6'.pop
    refine ⟨_, fun _ _ z => z, ⟨_, rfl, .inl ⟨rfl, _, SqL.of T6'.at_⟩, w, _, .ref t2, rfl, rfl, T6'.at_, by simp, ?_⟩⟩
    rw [show ((ps' ++ [t2]).map V.ref).dropLast = ps'.map V.ref by simp]
    have nt2 : t2 ≠ w := T6'.ne ps'.length t2 (by simp)
    have s7 : Same H (upd H6 w (.lst (ps'.map V.ref))) := s6.put hw00
    have hF7 : IL (upd H6 w (.lst (ps'.map V.ref))) l F := (upd_ne nlw).trans hF6
    have ht7 : upd H6 w (.lst (ps'.map V.ref)) t2 = some (.tup [.int (lo : Nat), .int (hi : Nat), .int ab]) := (upd_ne nt2).trans ht2
    generalize upd H6 w (.lst (ps'.map V.ref)) = H7 at s7 hF7 ht7 T7
    refine ⟨t2, _, rfl, SqT.of ht7, rfl, _, _, rfl, _, _, rfl, _, _, rfl, rfl, ?_⟩
    refine ⟨_, rfl, _, rfl, _, _, rfl, rfl, _, rfl, ?_⟩
    have Sg0 := I.sg (lo, hi, ab) (by simp)
    have hloh := Sg0.h1
    have hhib := Sg0.h2
    simp only at hloh hhib
    have hb' := hb
    rw [hms_snoc] at hb'
    by_cases hlt : lo < hi
    rotate_left
    · refine iteD (by omega) ?_
      exact ⟨_, by rw [hms_snoc]; omega, F, ws', ps', _, _, _, _, _, rfl, s7, hF7, T7, I.skip hlt, rfl, by omega⟩
    refine iteE (by omega) ?_
    refine ⟨_, rfl, _, rfl, _, rfl, _, _, rfl, ⟨by omega, by omega, by omega, by omega⟩, ?_⟩
    rw [show ((hi : Int) - (lo : Int)).toNat = hi - lo by omega]
    have hS7 := s7 _ _ hS
    refine for_range (lo := (lo : Int)) (n := hi - lo) (fun i σ H8 => ∃ (m : Nat) (v7 : Option V), σ = [some (.ref a), some (.ref l), some (.ref w), some (.int (lo : Nat)), some (.int (hi : Nat)), some (.int ab), some (.int (m : Nat)), v7] ∧ H8 = H7 ∧ (i = 0 → m = lo) ∧ (0 < i → Lw b lo (lo + i) m)) ⟨lo, _, rfl, rfl, fun _ => rfl, fun z => absurd z (Nat.lt_irrefl 0)⟩ ?_ ?_
    · rintro i σ H8 hi8 ⟨m, v7, rfl, rfl, h0, h1⟩
      have hm : lo ≤ m ∧ m < hi := by
        by_cases z : i = 0
        · have := h0 z; omega
        · have g := h1 (by omega); have g1 := g.h1; have g2 := g.h2; omega
      have e : ((lo : Int) + (i : Int)) = ((lo + i : Nat) : Int) := by omega
      refine ⟨_, rfl, _, rfl, a, _, _, _, rfl, rfl, SqL.of hS7, by rw [e]; exact atI_mapM (by omega), _, rfl, _, rfl, a, _, _, _, rfl, rfl, SqL.of hS7, atI_mapM (by omega), _, _, rfl, rfl, _, rfl, ?_⟩
      by_cases hc : b.getD (lo + i) 0 < b.getD m 0
      · refine iteE hc ⟨_, rfl, lo + i, some (.int ((lo : Int) + (i : Int))), ?_, rfl, fun z => by omega, fun _ => ?_⟩
        · show ([some (V.ref a), some (V.ref l), some (V.ref w), some (V.int (lo : Nat)), some (V.int (hi : Nat)), some (V.int ab), some (V.int ((lo : Int) + (i : Int))), some (V.int ((lo : Int) + (i : Int)))] : St) = _
          rw [show (V.int ((lo + i : Nat) : Int)) = V.int ((lo : Int) + (i : Int)) by rw [e]]
        · by_cases z : i = 0
          · have := h0 z; subst this; subst z; exact absurd hc (Int.lt_irrefl _)
          · exact (h1 (by omega)).step hc
      · refine iteD hc ⟨m, _, rfl, rfl, fun z => by omega, fun _ => ?_⟩
        by_cases z : i = 0
        · have := h0 z; subst this; subst z; exact Lw.start b _
        · exact (h1 (by omega)).stay hc
    rintro σ H8 ⟨m, v7, rfl, rfl, _, h1⟩
    have g := h1 (by omega)
    rw [show lo + (hi - lo) = hi by omega] at g
    have g1 := g.h1
    have g2 := g.h2
    have hFl := I.len
    refine ⟨_, rfl, _, rfl, _, rfl, l, _, _, m, rfl, rfl, hF7, ixN_nat (by rw [List.length_map]; omega), ?_⟩
    have s9 := s7.put hl0 (o := .lst ((F.map V.int).set m (.int ab)))
    have hF9 : IL (upd H8 l (.lst ((F.map V.int).set m (.int ab)))) l (F.set m ab) := upd_same.trans (by rw [List.map_set])
    have T9 := T7.other (o := .lst ((F.map V.int).set m (.int ab))) hF7 nlw
    generalize upd H8 l (.lst ((F.map V.int).set m (.int ab))) = H9 at s9 hF9 T9
    have hpl : ps'.length ≤ 201 := by have := T9.len; rw [List.length_map] at this; have := hms_len ws'; omega
    -- the two new ones
    refine ⟨_, rfl, .inl ⟨rfl, _, SqL.of T9.at_⟩, _, rfl, _, rfl, _, rfl, by show 3 ≤ sizeLine; decide, fun t3 ht3 => ⟨w, _, _, rfl, rfl, (T9.new ht3).at_, by rw [List.length_map]; exact small1000 (by omega), ?_⟩⟩
    have s10 := (s9.trans (Same.new ht3 (.tup [.int (lo : Nat), .int (m : Nat), .int (m : Nat)]))).put hw00 (o := .lst (ps'.map V.ref ++ [V.ref t3]))
    have T10 := (T9.new ht3 (o := .tup [.int (lo : Nat), .int (m : Nat), .int (m : Nat)])).push (w := w3 (lo, m, (m : Int))) upd_same
    have hF10 : IL (upd (upd H9 t3 (.tup [.int (lo : Nat), .int (m : Nat), .int (m : Nat)])) w (.lst (ps'.map V.ref ++ [V.ref t3]))) l (F.set m ab) := (upd_ne nlw).trans ((Same.new ht3 _) _ _ hF9)
    generalize upd (upd H9 t3 (.tup [.int (lo : Nat), .int (m : Nat), .int (m : Nat)])) w (.lst (ps'.map V.ref ++ [V.ref t3])) = H10 at s10 T10 hF10
    refine ⟨_, rfl, .inl ⟨rfl, _, SqL.of T10.at_⟩, _, rfl, _, _, rfl, rfl, _, rfl, _, rfl, by show 3 ≤ sizeLine; decide, fun t4 ht4 => ⟨w, _, _, rfl, rfl, (T10.new ht4).at_, by rw [List.length_map, List.length_append]; exact small1000 (by simp; omega), ?_⟩⟩
    have s11 := (s10.trans (Same.new ht4 (.tup [.int ((m : Int) + 1), .int (hi : Nat), .int (m : Nat)]))).put hw00 (o := .lst ((ps' ++ [t3]).map V.ref ++ [V.ref t4]))
    have T11 := (T10.new ht4 (o := .tup [.int ((m : Int) + 1), .int (hi : Nat), .int (m : Nat)])).push (w := w3 (m + 1, hi, (m : Int))) upd_same
    have hF11 : IL (upd (upd H10 t4 (.tup [.int ((m : Int) + 1), .int (hi : Nat), .int (m : Nat)])) w (.lst ((ps' ++ [t3]).map V.ref ++ [V.ref t4]))) l (F.set m ab) := (upd_ne nlw).trans ((Same.new ht4 _) _ _ hF10)
    refine ⟨_, ?_, F.set m ab, ws' ++ [(lo, m, (m : Int))] ++ [(m + 1, hi, (m : Int))], ps' ++ [t3] ++ [t4], _, _, _, _, _, rfl, s11, hF11, ?_, I.split g, rfl, ?_⟩
    · rw [hms_snoc, hms_snoc, hms_snoc]; omega
    · rw [show (ws' ++ [(lo, m, (m : Int))] ++ [(m + 1, hi, (m : Int))]).map w3 = ws'.map w3 ++ [w3 (lo, m, (m : Int))] ++ [w3 (m + 1, hi, (m : Int))] by simp]; exact T11
    · rw [hms_snoc, hms_snoc]; omega
end
end Sky

namespace Sky
open PySem L2
section
variable {P : Program} {w : World} {K : PySem.W.Frag} {mg : Str → Option Value} {base : Heap}
theorem scDrawn : FnScope ["_law_script", "_law_many", "_law_mixed", "_law_found", "_law_one", "_law_other", "_law_kept"] ["_law_script"] (defScope sDrawn) := ⟨rfl, rfl, rfl, by decide +kernel, rfl, by decide +kernel, by decide +kernel⟩
theorem ok_drawn7 {f : Addr} {fd : FuncData} (F : Fun K "_law_drawn" "_law_drawn" sDrawn f fd) (B : Blt mg) (cB : Callee P w K mg base 1 "_law_bars" ["_law_script"] (spBars K)) (cH : Callee P w K mg base 1 "_law_hung" ["_law_bars_here"] spHung) : FnOk P w K mg base CX0 2 f fd ["_law_script"] (spDrawn7 K) := by
  refine F.ok scDrawn (fun vs H Q E h => ?_) (fun cdv A outer s H vs Q E hr h => ?_)
  · obtain ⟨a, ns, rfl, _⟩ := h
    rfl
  · obtain ⟨a, ns, rfl, hS, hl, k⟩ := h
    have hu := hr.units
    refine ⟨_, (pss_cons (ps_set (i := 1) scDrawn.nd rfl (Or.inr rfl) (pe_callB call_len_seq rfl B.len PySem.boot_len (pa_cons (pv 0) pa_nil)))
      (pss_cons (ps_set (i := 2) scDrawn.nd rfl (Or.inl rfl) (pe_callB (call_sum rfl) rfl B.sum boot_sum' (pa_cons (pv 0) pa_nil)))
      (pss_cons (ps_if (PW.pt (pw_or (pt_cmpR (op_eqI hu) (pv 0) (pe_lst pa_nil) (nomark _)) (pw_or1 (pt_cmpR op_eq (pe_op op_mod (pe_op op_fdiv (pv 2) pe_int) pe_int) pe_int (nomark _))))) (pss_one (ps_ret (pe_lc (cap := [1]) ["_law_cell"] rfl (CompOk.of (defScope sDrawn) ["_law_script", "_law_many", "_law_mixed", "_law_found", "_law_one", "_law_other", "_law_kept"] rfl rfl (by decide +kernel)) (pi_list (pv 0)) (fun C s H fp => (pg_name (i := 0) (show List.Nodup (["_law_cell", "_law_many"] : List Str) from by decide +kernel) rfl (Or.inl rfl))) (fun C s H fp => pf_nil)
        (fun C s H fp => (pe_op op_sub (pe_op op_mod (pv 0) (pe_op op_add (pv 1) pe_int)) pe_int))))) pss_nil)
      (pss_cons (ps_set (i := 3) scDrawn.nd rfl (Or.inl rfl) (pe_fn cH (hr.mono (by decide)) rfl (pa_cons (pe_fn cB (hr.mono (by decide)) rfl (pa_cons (pv 0) pa_nil)) pa_nil)))
      (pss_cons (ps_set (i := 4) scDrawn.nd rfl (Or.inl rfl) (pe_op op_mod (pe_ix ix_list (pv 0) pe_int (fun _ _ => rfl)) (pv 1)))
      (pss_cons (ps_set (i := 5) scDrawn.nd rfl (Or.inl rfl) (pe_op op_mod (pe_ix ix_list (pv 0) (pe_un un_neg pe_int) (fun _ _ => rfl)) (pv 1)))
      (pss_cons (ps_if (pt_cmpR op_eq (pe_op op_mod (pe_op op_fdiv (pv 2) pe_int) pe_int) pe_int (nomark _)) (pss_one (ps_asg (pe_op op_sub (pe_op op_mod (pe_op op_fdiv (pe_ix ix_list (pv 0) (pe_un un_neg pe_int) (fun _ _ => rfl)) pe_int) (pe_op op_add (pv 1) pe_int)) pe_int) (pg_sub (pv 3) (pv 4) set_list))) pss_nil)
      (pss_cons (ps_if (pt_cmpR op_eq (pe_op op_mod (pe_op op_fdiv (pv 2) pe_int) pe_int) pe_int (nomark _)) (pss_cons (ps_set (i := 6) scDrawn.nd rfl (Or.inl rfl) (pe_ix ix_list (pv 3) (pv 4) (fun _ _ => rfl)))
      (pss_cons (ps_asg (pe_ix ix_list (pv 3) (pv 5) (fun _ _ => rfl)) (pg_sub (pv 3) (pv 4) set_list))
      (pss_one (ps_asg (pv 6) (pg_sub (pv 3) (pv 5) set_list))))) pss_nil)
      (pss_one (ps_ret (pv 3))))))))))), ?_⟩
    refine ⟨_, rfl, a, _, rfl, .inl hS, ?_⟩
    refine ⟨_, rfl, a, ns, rfl, hS, ?_⟩
    rw [List.length_map]
    -- by the cells
    have byc : ∀ H1 : Hp, Same H H1 → ∀ σ : St, σ[0]? = some (some (V.ref a)) → σ[1]? = some (some (V.int (ns.length : Nat))) → tLc (iList K (tVar 0)) 1 [1] (fun C s H fp => gName 0) (fun C s H fp => tAlw) (fun C s H fp => tOp (rI0 fun i j => V.int (i - j)) (tOp (rI (fun x j => 0 < j) fun i j => V.int (i % j)) (tVar 0) (tOp (rI0 fun i j => V.int (i + j)) (tVar 1) (tC (V.int 1)))) (tC (V.int 1))) σ H1 Q := by
      intro H1 s1 σ e0 e1
      refine ⟨_, e0, a, rfl, ⟨_, s1.seq hS⟩, fun D hD => lc_list (xs := ns.map V.int) (fun i H2 ys => i ≤ ns.length ∧ Same H H2 ∧ H2 D = some (.lst ys) ∧ ∃ P : List Int, ys = P.map V.int ∧ P.length = i ∧ ∀ j, j < i → -1 ≤ P.getD j 0 ∧ P.getD j 0 < (ns.length : Int)) ⟨Nat.zero_le _, s1.trans (Same.new hD _), upd_same, [], rfl, rfl, fun j hj => absurd hj (Nat.not_lt_zero _)⟩ (fun i H2 ys _ h => ⟨h.2.1.seq hS, h.2.2.1⟩) ?_ ?_⟩
      · rintro i x H2 ys hx ⟨_, s2, hD2, P, rfl, hpl, hp⟩ C s H0 fp
        obtain ⟨z, rfl, b1⟩ := get_mapM hx
        have hi : i < ns.length := (List.getElem?_eq_some_iff.mp b1).1
        have hpos : (0 : Int) < (ns.length : Int) + 1 := by omega
        have m0 := Int.emod_nonneg z (show (ns.length : Int) + 1 ≠ 0 by omega)
        have m1 := Int.emod_lt_of_pos z hpos
        have ec : (capS σ 1 [1]).set 0 (some (V.int z)) = [some (V.int z), some (V.int (ns.length : Nat))] := by unfold capS; simp [e1]
        rw [ec]
        refine ⟨_, rfl, _, rfl, _, 1, rfl, rfl, z, _, rfl, rfl, hpos, _, 1, rfl, rfl, hD2, by rw [List.length_map, hpl]; exact small100 (by omega), hi, s2.put (s1.free hD), upd_same, P ++ [z % ((ns.length : Int) + 1) - 1], by rw [List.map_append]; rfl, by rw [List.length_append, hpl]; rfl, fun j hj => ?_⟩
        by_cases hji : j < P.length
        · rw [List.getD_eq_getElem?_getD, List.getElem?_append_left hji, ← List.getD_eq_getElem?_getD]
          exact hp j (by omega)
        · have e : j = P.length := by omega
          rw [List.getD_eq_getElem?_getD, List.getElem?_append_right (by omega), e, Nat.sub_self]
          show -1 ≤ z % ((ns.length : Int) + 1) - 1 ∧ z % ((ns.length : Int) + 1) - 1 < _
          omega
      · rintro H2 ys ⟨_, s2, hD2, P, rfl, hpl, hp⟩
        rw [List.length_map] at hpl hp
        exact k P hpl (fun j hj => by rw [hpl] at hj ⊢; exact hp j hj) D H2 (s1.free hD) s2 hD2
    refine ⟨_, rfl, Nat.zero_le _, fun e he0 => ?_⟩
    have s1 := Same.new he0 (.lst [])
    have hE : upd H e (.lst []) e = some (.lst []) := upd_same
    generalize upd H e (.lst []) = H1 at s1 hE
    refine ⟨a, e, ns, [], rfl, rfl, s1.seq hS, SqL.of (xs := ([] : List Int).map V.int) hE, _, rfl, ?_⟩
    rw [ifF]
    refine ite2 (fun _ => byc H1 s1 _ rfl rfl) (fun hne => ?_)
    have hne' : ns ≠ [] := fun z => hne (decide_eq_true z)
    refine ⟨_, rfl, _, _, rfl, rfl, ⟨by decide, by decide⟩, _, _, rfl, rfl, (by show (0 : Int) < 4; decide), rfl, _, rfl, ite2 (fun _ => byc H1 s1 _ rfl rfl) (fun _ => ?_)⟩
    have hpos : 0 < ns.length := List.length_pos_iff.mpr hne'
    -- those of drawn bars
    refine ⟨_, rfl, a, ns, rfl, s1.seq hS, hl, fun xs hxl hh b H2 nb s2 hB => ⟨b, xs, rfl, hB, hh.1, fun l H3 nl s3 hL => ?_⟩⟩
    have s03 := (s1.trans s2).trans s3
    have nl0 : H l = none := (s1.trans s2).free nl
    have hn0 : (0 : Int) < (ns.length : Int) := by omega
    have m0 := Int.emod_nonneg (ns.getD 0 0) (show (ns.length : Int) ≠ 0 by omega)
    have m1 := Int.emod_lt_of_pos (ns.getD 0 0) hn0
    obtain ⟨j1, e1⟩ : ∃ j : Nat, ns.getD 0 0 % (ns.length : Int) = (j : Int) := ⟨(ns.getD 0 0 % (ns.length : Int)).toNat, by omega⟩
    obtain ⟨zl, hzl⟩ := last_at hne'
    have m2 := Int.emod_nonneg zl (show (ns.length : Int) ≠ 0 by omega)
    have m3 := Int.emod_lt_of_pos zl hn0
    obtain ⟨j2, e2⟩ : ∃ j : Nat, zl % (ns.length : Int) = (j : Int) := ⟨(zl % (ns.length : Int)).toNat, by omega⟩
    refine ⟨_, rfl, a, _, _, _, rfl, rfl, s03.seq hS, atI_map' 0 rfl hpos, _, rfl, _, _, rfl, rfl, hn0, ?_⟩
    refine ⟨_, rfl, _, rfl, a, _, _, _, rfl, rfl, s03.seq hS, hzl, _, rfl, _, _, rfl, rfl, hn0, ?_⟩
    dsimp only
    rw [e1, e2]
    rw [e1] at m0 m1
    rw [e2] at m2 m3
    have hj1 : j1 < ns.length := by omega
    have hj2 : j2 < ns.length := by omega
    have M0 : ∃ (Pa : List Int) (v6 : Option V), ([some (V.ref a), some (V.int (ns.length : Nat)), some (V.int ns.sum), some (V.ref l), some (V.int (j1 : Nat)), some (V.int (j2 : Nat)), none] : St) = [some (.ref a), some (.int (ns.length : Nat)), some (.int ns.sum), some (.ref l), some (.int (j1 : Nat)), some (.int (j2 : Nat)), v6] ∧ Same H H3 ∧ IL H3 l Pa ∧ Pa.length = ns.length ∧ PV Pa :=
      ⟨treeL xs, none, rfl, s03, hL, by rw [treeL_length, hxl], treeL_pv⟩
    refine seq_cut (fun σ H4 => ∃ (Pa : List Int) (v6 : Option V), σ = [some (.ref a), some (.int (ns.length : Nat)), some (.int ns.sum), some (.ref l), some (.int (j1 : Nat)), some (.int (j2 : Nat)), v6] ∧ Same H H4 ∧ IL H4 l Pa ∧ Pa.length = ns.length ∧ PV Pa) (fun N hN => ?_) ?_
    · refine ⟨_, rfl, _, _, rfl, rfl, ⟨by decide, by decide⟩, _, _, rfl, rfl, (by show (0 : Int) < 4; decide), rfl, _, rfl, ite2 (fun _ => ?_) (fun _ => hN _ _ M0)⟩
      have hp1 : (0 : Int) < (ns.length : Int) + 1 := by omega
      have n0 := Int.emod_nonneg (zl / 7) (show (ns.length : Int) + 1 ≠ 0 by omega)
      have n1 := Int.emod_lt_of_pos (zl / 7) hp1
      refine ⟨_, rfl, _, rfl, a, _, _, _, rfl, rfl, s03.seq hS, hzl, _, _, rfl, rfl, ⟨by decide, by decide⟩, _, rfl, _, 1, rfl, rfl, _, _, rfl, rfl, hp1, _, 1, rfl, rfl, _, rfl, _, rfl, l, _, _, j1, rfl, rfl, hL, ixN_nat (by rw [List.length_map, treeL_length]; omega), ?_⟩
      exact hN _ _ ⟨(treeL xs).set j1 (zl / 7 % ((ns.length : Int) + 1) - 1), none, rfl, s03.put nl0, upd_same.trans (by rw [List.map_set]), by rw [List.length_set, treeL_length, hxl], treeL_pv.set (by omega) (by rw [treeL_length, hxl]; omega)⟩
    rintro σ H4 ⟨Pa, v6, rfl, s4, hL4, hPl, hPv⟩
    refine seq_cut (fun σ H4 => ∃ (Pa : List Int) (v6 : Option V), σ = [some (.ref a), some (.int (ns.length : Nat)), some (.int ns.sum), some (.ref l), some (.int (j1 : Nat)), some (.int (j2 : Nat)), v6] ∧ Same H H4 ∧ IL H4 l Pa ∧ Pa.length = ns.length ∧ PV Pa) (fun N hN => ?_) ?_
    · refine ⟨_, rfl, _, _, rfl, rfl, ⟨by decide, by decide⟩, _, _, rfl, rfl, (by show (0 : Int) < 4; decide), rfl, _, rfl, ite2 (fun _ => ?_) (fun _ => hN _ _ ⟨Pa, v6, rfl, s4, hL4, hPl, hPv⟩)⟩
      obtain ⟨w1, w2⟩ := hPv j1 (by omega)
      obtain ⟨w3', w4⟩ := hPv j2 (by omega)
      refine ⟨_, rfl, _, rfl, l, _, _, _, rfl, rfl, SqL.of hL4, atI_mapM (by omega), ?_⟩
      refine ⟨_, rfl, _, rfl, l, _, _, _, rfl, rfl, SqL.of hL4, atI_mapM (by omega), _, rfl, _, rfl, l, _, _, j1, rfl, rfl, hL4, ixN_nat (by rw [List.length_map]; omega), ?_⟩
      have s5 := s4.put nl0 (o := .lst ((Pa.map V.int).set j1 (.int (Pa.getD j2 0))))
      have hL5 : IL (upd H4 l (.lst ((Pa.map V.int).set j1 (.int (Pa.getD j2 0))))) l (Pa.set j1 (Pa.getD j2 0)) := upd_same.trans (by rw [List.map_set])
      generalize upd H4 l (.lst ((Pa.map V.int).set j1 (.int (Pa.getD j2 0)))) = H5 at s5 hL5
      refine ⟨_, rfl, _, rfl, _, rfl, l, _, _, j2, rfl, rfl, hL5, ixN_nat (by rw [List.length_map, List.length_set]; omega), ?_⟩
      exact hN _ _ ⟨(Pa.set j1 (Pa.getD j2 0)).set j2 (Pa.getD j1 0), _, rfl, s5.put nl0, upd_same.trans (by simp only [List.map_set]), by rw [List.length_set, List.length_set, hPl], (hPv.set w3' w4).set w1 (by rw [List.length_set]; exact w2)⟩
    rintro σ H5 ⟨Pb, v6', rfl, s5, hL5, hPl', hPv'⟩
    exact ⟨_, rfl, k Pb hPl' hPv' l H5 nl0 s5 hL5⟩
end
end Sky

namespace Sky
open PySem L2
section
variable {P : Program} {w : World} {K : PySem.W.Frag} {mg : Str → Option Value} {base : Heap}
theorem scRefused : FnScope ["_law_parents", "error", "_law_others"] ["_law_parents"] (defScope sRefused) := ⟨rfl, rfl, rfl, by decide +kernel, rfl, by decide +kernel, by decide +kernel⟩
theorem ok_refused {f CT CE CB CL CP CN : Addr} {fd : FuncData} (F : Fun K "_law_refused" "_law_refused" sRefused f fd) (B : Blt mg) (xT : ExC K CT) (mgT : mg "BadTree" = some (.ref CT)) (mgE : mg "BarError" = some (.ref CE)) (mgB : mg "BadBars" = some (.ref CB)) (mgL : mg "BadLinks" = some (.ref CL)) (mgP : mg "BadPlace" = some (.ref CP)) (mgN : mg "NoBar" = some (.ref CN)) (mgV : mg "ValueError" = none)
    (hE : PySem.W.exmOne K (.ref CT) (.ref CE) = some true) (kT : PySem.W.kitOne K (.ref CT) (.ref CT) = some true) (kV : PySem.W.kitOne K (.ref CT) (.type "ValueError") = some true) (kB : PySem.W.kitOne K (.ref CT) (.ref CB) = some false) (kL : PySem.W.kitOne K (.ref CT) (.ref CL) = some false) (kP : PySem.W.kitOne K (.ref CT) (.ref CP) = some false) (kN : PySem.W.kitOne K (.ref CT) (.ref CN) = some false)
    (cB : CalleeX P w K mg base 4 "bars_of" ["parents"] (spBarsOf7 CT)) : FnOk P w K mg base CX0 5 f fd ["_law_parents"] spRefused := by
  refine F.ok scRefused (fun vs H Q E h => ?_) (fun cdv A outer s H vs Q E hr h => ?_)
  · obtain ⟨a, Pa, rfl, _⟩ := h
    rfl
  · obtain ⟨a, Pa, rfl, hS, hl, hv, ht, k⟩ := h
    have hu := hr.units
    refine' ⟨_, (pss_cons (ps_try (i := 1) (PC := fun C => C = CT) rfl rfl rfl scRefused.nd rfl rfl rfl mgE rfl (fun pn xe E hp => (pss_one (ps_expr (pe_fnx cB hp (hr.mono (by decide)) rfl (pa_cons (pv 0) pa_nil)))))
        (fun ea C oe pn H0 hm hC ct => ?su)) (pss_one (ps_ret pe_bl))), ?_⟩
    case su =>
      have ie := call_isexc (X := Cx.su (cxOf CX0 P w K mg base ["_law_parents", "error", "_law_others"] "_law_refused" (defScope sRefused) f cdv A outer s H E).nox ea pn) hm (hC ▸ xT.asks) ct.cls ct.dict ct.no
      have an := call_any_h (X := Cx.su (cxOf CX0 P w K mg base ["_law_parents", "error", "_law_others"] "_law_refused" (defScope sRefused) f cdv A outer s H E).nox ea pn) rfl hm ct
      exact (pss_cons (ps_set (i := 2) scRefused.nd rfl (Or.inl rfl) (pe_lst (pa_cons (pe_callB ie rfl B.isinstance boot_isinst' (pa_cons (pv 1) (pa_cons (pe_glob rfl mgB (v := .ref CB) rfl) pa_nil))) (pa_cons (pe_callB ie rfl B.isinstance boot_isinst' (pa_cons (pv 1) (pa_cons (pe_glob rfl mgL (v := .ref CL) rfl) pa_nil))) (pa_cons (pe_callB ie rfl B.isinstance boot_isinst' (pa_cons (pv 1) (pa_cons (pe_glob rfl mgP (v := .ref CP) rfl) pa_nil))) pa_nil)))))
        (pss_cons (ps_expr (pe_bm PySem.F.plainAttrs_list PySem.F.slot_list_append PySem.F.type_list_append mt_append (pv 2) (pa_cons (by exact (pe_callB ie rfl B.isinstance boot_isinst' (pa_cons (pv 1) (pa_cons (pe_glob rfl mgN (v := .ref CN) rfl) pa_nil)))) pa_nil)))
        (pss_one (ps_ret (pe_and (pe_callB ie rfl B.isinstance boot_isinst' (pa_cons (pv 1) (pa_cons (pe_glob rfl mgT (v := .ref CT) rfl) pa_nil))) (pe_and (pe_callB ie rfl B.isinstance boot_isinst' (pa_cons (pv 1) (pa_cons (pe_bltn rfl mgV PyProof.Rows.Boot.«ValueError» (v := .ty "ValueError") rfl) pa_nil))) (pe_one (pe_not (pe_callB an rfl B.any boot_any' (pa_cons (pv 2) pa_nil))))))))))
    refine ⟨_, rfl, a, Pa, rfl, hS, hl, hv, fun D hD => ⟨fun z => absurd z (ht D hD), fun _ H1 s1 => ?_⟩⟩
    refine ⟨CT, rfl, rfl, hE, fun ea pn hea => ?_⟩
    refine ⟨_, rfl, _, _, _, rfl, rfl, kB, _, rfl, _, _, _, rfl, rfl, kL, _, rfl, _, _, _, rfl, rfl, kP, by decide, fun l hl => ?_⟩
    have s2 := Same.new hl (.lst [V.bl false, V.bl false, V.bl false])
    have hL : upd H1 l (.lst [V.bl false, V.bl false, V.bl false]) l = some (.lst [V.bl false, V.bl false, V.bl false]) := upd_same
    generalize upd H1 l (.lst [V.bl false, V.bl false, V.bl false]) = H2 at s2 hL
    refine ⟨_, rfl, .inl ⟨rfl, _, SqL.of hL⟩, _, rfl, _, _, _, rfl, rfl, kN, l, _, _, rfl, rfl, hL, by decide, ?_⟩
    have s3 := s2.put hl (o := .lst ([V.bl false, V.bl false, V.bl false] ++ [V.bl false]))
    have hL3 : upd H2 l (.lst ([V.bl false, V.bl false, V.bl false] ++ [V.bl false])) l = some (.lst ([false, false, false, false].map V.bl)) := upd_same
    generalize upd H2 l (.lst ([V.bl false, V.bl false, V.bl false] ++ [V.bl false])) = H3 at s3 hL3
    refine ⟨_, rfl, _, _, _, rfl, rfl, kT, true, rfl, iteT ?_⟩
    refine ⟨_, rfl, _, _, _, rfl, rfl, kV, true, rfl, iteT ?_⟩
    exact ⟨_, rfl, l, [false, false, false, false], rfl, SqL.of hL3, _, rfl, k H3 (s1.trans s3)⟩
end
end Sky

namespace Sky
open PySem L2
section
variable {P : Program} {w : World} {K : PySem.W.Frag} {mg : Str → Option Value} {base : Heap}
abbrev nLaw : List Str := ["_law_script", "_law_parents", "_law_deep_here", "_law_handed", "_law_found", "_law_bars_here"]
theorem scLaw : FnScope nLaw ["_law_script"] (defScope sLaw) := ⟨rfl, rfl, rfl, by decide +kernel, rfl, by decide +kernel, by decide +kernel⟩
theorem ok_law {f CT : Addr} {fd : FuncData} (F : Fun K "law" "law" sLaw f fd) (B : Blt mg) (cB : Callee P w K mg base 1 "_law_bars" ["_law_script"] (spBars K)) (cH : Callee P w K mg base 1 "_law_hung" ["_law_bars_here"] spHung) (cN : Callee P w K mg base 1 "_law_numbers" ["_law_found"] spNums) (cD : Callee P w K mg base 2 "_law_drawn" ["_law_script"] (spDrawn7 K)) (cP : Callee P w K mg base 1 "_law_deep" ["_law_parents"] spDeep7) (cR : Callee P w K mg base 5 "_law_refused" ["_law_parents"] spRefused) (cT : Callee P w K mg base 4 "tree" ["bars"] spTree) (cO : CalleeX P w K mg base 4 "bars_of" ["parents"] (spBarsOf7 CT)) : FnOk P w K mg base CX0 6 f fd ["_law_script"] (spLaw K) := by
  refine F.ok scLaw (fun vs H Q E h => ?_) (fun cdv A outer s H vs Q E hr h => ?_)
  · obtain ⟨a, ns, rfl, _⟩ := h
    rfl
  · obtain ⟨a, ns, rfl, hS, hl, k⟩ := h
    have hr1 : Room 1 _ := hr.mono (by decide)
    have hu := hr.units
    refine ⟨_, (pss_cons (ps_set (i := 1) scLaw.nd rfl (Or.inl rfl) (pe_fn cD (hr.mono (by decide)) rfl (pa_cons (pv 0) pa_nil)))
      (pss_cons (ps_set (i := 2) scLaw.nd rfl (Or.inl rfl) (pe_fn cP hr1 rfl (pa_cons (pv 1) pa_nil)))
      (pss_cons (ps_set (i := 3) scLaw.nd rfl (Or.inl rfl) (pe_callTy call_list_of rfl B.list boot_list' (pa_cons (pv 1) pa_nil)))
      (pss_cons (ps_if (PW.pt (pw_or (pt_cmpR op_ne (pe_callB call_len_seq rfl B.len PySem.boot_len (pa_cons (pv 2) pa_nil)) (pe_callB call_len_seq rfl B.len PySem.boot_len (pa_cons (pv 1) pa_nil)) (nomark _)) (pw_or1 (pt_cmpR (op_neI hu) (pe_fn cH hr1 rfl (pa_cons (pv 2) pa_nil)) (pv 1) (nomark _))))) (pss_one (ps_ret (pe_fn cR hr rfl (pa_cons (pv 3) pa_nil)))) pss_nil)
      (pss_cons (ps_set (i := 4) scLaw.nd rfl (Or.inl rfl) (pe_fnx cO pass1 (hr.mono (by decide)) rfl (pa_cons (pv 3) pa_nil)))
      (pss_cons (ps_if (PW.pt (pw_or (pt_not (pt_val (pe_fn cN hr1 rfl (pa_cons (pv 4) pa_nil)))) (pw_or (pt_cmpR (op_neI hu) (pv 4) (pv 2) (nomark _)) (pw_or1 (pt_cmpR (op_neI hu) (pv 3) (pv 1) (nomark _)))))) pss_never pss_nil)
      (pss_cons (ps_set (i := 5) scLaw.nd rfl (Or.inl rfl) (pe_fn cB hr1 rfl (pa_cons (pv 0) pa_nil)))
      (pss_one (ps_ret (pe_and (pe_cmpR (op_eqI hu) (pe_fn cT (hr.mono (by decide)) rfl (pa_cons (pv 4) pa_nil)) (pv 1) (nomark _)) (pe_and (pe_cmpR (op_eqI hu) (pe_fn cT (hr.mono (by decide)) rfl (pa_cons (pv 5) pa_nil)) (pe_fn cH hr1 rfl (pa_cons (pv 5) pa_nil)) (nomark _)) (pe_one (pe_cmpR (op_eqI hu) (pe_fnx cO pass1 (hr.mono (by decide)) rfl (pa_cons (pe_lst pa_nil) pa_nil)) (pe_lst pa_nil) (nomark _)))))))))))))), ?_⟩
    refine ⟨_, rfl, a, ns, rfl, hS, hl, fun Pa hPl hPv p H1 np s1 hP => ?_⟩
    have hPn : Pa.length ≤ 100 := by omega
    refine ⟨_, rfl, p, Pa, rfl, hP, hPn, hPv, ?_, ?_⟩
    · -- one place hangs nowhere
      rintro ⟨i, hi, hno⟩ d H2 nd s2 hD
      have hP2 := s2 _ _ hP
      refine ⟨_, rfl, p, _, rfl, .inl (SqL.of hP2), fun h hh0 => ?_⟩
      have s3 := Same.new hh0 (.lst (Pa.map V.int))
      have hH3 : IL (upd H2 h (.lst (Pa.map V.int))) h Pa := upd_same
      have hP3 := s3 _ _ hP2
      have hD3 := s3 _ _ hD
      generalize upd H2 h (.lst (Pa.map V.int)) = H3 at s3 hH3 hP3 hD3
      refine ⟨_, rfl, d, _, rfl, .inl (SqL.of hD3), _, rfl, p, _, rfl, .inl (SqL.of hP3), rfl, _, rfl, iteNegT (fun z => ?_) ?_⟩
      · have := V.int.inj z
        rw [List.length_map, List.length_map] at this
        simp at this
        omega
      · exact ⟨_, rfl, h, Pa, rfl, hH3, hPn, hPv, fun D hD => not_tree hi hno hD, fun H4 s4 => k _⟩
    intro D hDd hall d H2 nd s2 hD
    have hDl := hDd.1
    have hP2 := s2 _ _ hP
    refine ⟨_, rfl, p, _, rfl, .inl (SqL.of hP2), fun h hh0 => ?_⟩
    have s3 := Same.new hh0 (.lst (Pa.map V.int))
    have hH3 : IL (upd H2 h (.lst (Pa.map V.int))) h Pa := upd_same
    have s13 := s1.trans (s2.trans s3)
    have hP3 := s3 _ _ hP2
    have hD3 := s3 _ _ hD
    generalize upd H2 h (.lst (Pa.map V.int)) = H3 at s3 hH3 hP3 hD3 s13
    refine ⟨_, rfl, d, _, rfl, .inl (SqL.of hD3), _, rfl, p, _, rfl, .inl (SqL.of hP3), rfl, _, rfl, iteNegF (by rw [List.length_map, List.length_map, hDl]) ?_⟩
    refine ⟨_, rfl, d, D, rfl, hD3, by omega, fun u H4 nu s4 hU => ?_⟩
    have hH4 := s4 _ _ hH3
    refine ⟨_, rfl, u, p, _, _, rfl, rfl, SqL.of hU, SqL.of (s4 _ _ hP3), _, rfl, ?_⟩
    by_cases ht : treeL D = Pa
    rotate_left
    · refine iteNegT ht ?_
      exact ⟨_, rfl, h, Pa, rfl, hH4, hPn, hPv, fun E hE => by rw [hE.uniq hDd]; exact ht, fun H5 s5 => k _⟩
    refine iteNeg ht ?_
    refine ⟨_, rfl, h, Pa, rfl, hH4, hPn, hPv, fun E hE => ⟨fun _ g H5 ng s5 hG => ?_, fun z => absurd (by rw [hE.uniq hDd]; exact ht) z⟩⟩
    have eE := hE.uniq hDd
    subst eE
    have s35 := s4.trans s5
    refine ⟨_, rfl, g, E, rfl, hG, by omega, fun H6 s6 => ⟨true, rfl, iteF ?_⟩⟩
    have s36 := s35.trans s6
    have hG6 := s6 _ _ hG
    refine ⟨_, rfl, _, rfl, g, d, _, _, rfl, rfl, SqL.of hG6, SqL.of (s36 _ _ hD3), _, rfl, iteNeg rfl ?_⟩
    refine ⟨_, rfl, _, rfl, h, p, _, _, rfl, rfl, SqL.of (s36 _ _ hH3), SqL.of (s36 _ _ hP3), _, rfl, iteNeg rfl ?_⟩
    refine ⟨_, rfl, a, ns, rfl, (s13.trans s36).seq hS, hl, fun xs hxl hh b H7 nb s7 hB => ?_⟩
    have hhE : Hts E := IsDep.hts (b := E) (fun i hi => hE.ge hi) (by omega) (by rw [ht]; exact hE)
    refine ⟨_, rfl, g, E, rfl, s7 _ _ hG6, hhE, fun t1 H8 nt1 s8 hT1 => ?_⟩
    refine ⟨_, rfl, t1, p, _, _, rfl, rfl, SqL.of hT1, SqL.of (((s36.trans s7).trans s8) _ _ hP3), _, rfl, ?_⟩
    rw [ifF]
    refine iteE ht ?_
    refine ⟨_, rfl, b, xs, rfl, s8 _ _ hB, hh, fun t2 H9 nt2 s9 hT2 => ?_⟩
    refine ⟨_, rfl, b, xs, rfl, (s8.trans s9) _ _ hB, hh.1, fun t3 H10 nt3 s10 hT3 => ?_⟩
    refine ⟨t2, t3, _, _, rfl, rfl, SqL.of (s10 _ _ hT2), SqL.of hT3, _, rfl, ?_⟩
    rw [ifF]
    refine iteE rfl ?_
    refine ⟨Nat.zero_le _, fun e he0 => ⟨e, [], rfl, upd_same, Nat.zero_le _, fun i hi => absurd hi (Nat.not_lt_zero _), fun F hF => ?_⟩⟩
    have eF : F = [] := List.eq_nil_of_length_eq_zero hF.1
    subst eF
    refine ⟨fun _ q H12 nq s12 hQ => ⟨Nat.zero_le _, fun e2 he2 => ⟨q, e2, [], [], rfl, rfl, SqL.of ((Same.new he2 _) _ _ hQ), SqL.of (xs := ([] : List Int).map V.int) upd_same, ?_⟩⟩, fun z => absurd rfl z⟩
    exact k _
end
end Sky

namespace Sky
open PySem L2
theorem all_mk {l : PySem.W.OpenLaw} {w : World} {K : PySem.W.Frag} {h : Heap} {mg : Str → Option Value} {fa fL f__law_bars f__law_hung f__law_numbers f__law_drawn7 f__law_deep7 f_is_whole_within f_check_parents f_depths f_parents_in_tree f_bars_of7 f__law_refused f_check_bars f_tree BadTree BarError BadBars BadLinks BadPlace NoBar : Addr} (X : K.In h) (G : h.Ns mainGlobals mg) (hfa : mg "law" = some (.ref fa))
    (d__law_bars : DefIn K "_law_bars" sBars f__law_bars)
    (d__law_hung : DefIn K "_law_hung" sHung f__law_hung)
    (d__law_numbers : DefIn K "_law_numbers" sNums f__law_numbers)
    (d__law_drawn7 : DefIn K "_law_drawn" sDrawn f__law_drawn7)
    (d__law_deep7 : DefIn K "_law_deep" sDeep f__law_deep7)
    (d_is_whole_within : DefIn K "is_whole_within" sWithin f_is_whole_within)
    (d_check_parents : DefIn K "check_parents" sChkP f_check_parents)
    (d_depths : DefIn K "depths" sDepths f_depths)
    (d_parents_in_tree : DefIn K "parents_in_tree" sPar f_parents_in_tree)
    (d_bars_of7 : DefIn K "bars_of" sBarsOf f_bars_of7)
    (d__law_refused : DefIn K "_law_refused" sRefused f__law_refused)
    (d_check_bars : DefIn K "check_bars" sChk f_check_bars)
    (d_tree : DefIn K "tree" sTree f_tree)
    (aC_BadTree : PySem.W.nsIn K mainGlobals "BadTree" = some (some (.ref BadTree)))
    (aC_BarError : PySem.W.nsIn K mainGlobals "BarError" = some (some (.ref BarError)))
    (aC_BadBars : PySem.W.nsIn K mainGlobals "BadBars" = some (some (.ref BadBars)))
    (aC_BadLinks : PySem.W.nsIn K mainGlobals "BadLinks" = some (some (.ref BadLinks)))
    (aC_BadPlace : PySem.W.nsIn K mainGlobals "BadPlace" = some (some (.ref BadPlace)))
    (aC_NoBar : PySem.W.nsIn K mainGlobals "NoBar" = some (some (.ref NoBar)))
    (xr_BadTree : PySem.W.excIn K BadTree [.type "ValueError", .type "Exception", .type "BaseException", .type "object"] "ValueError.__new__" = true) (xa_BadTree : PySem.W.ExcC K BadTree)
    (no_ValueError : PySem.W.nsIn K mainGlobals "ValueError" = some none)
    (kt0 : PySem.W.exmOne K (.ref BadTree) (.ref BarError) = some true)
    (kt1 : PySem.W.kitOne K (.ref BadTree) (.ref BadTree) = some true)
    (kt2 : PySem.W.kitOne K (.ref BadTree) (.type "ValueError") = some true)
    (kt3 : PySem.W.kitOne K (.ref BadTree) (.ref BadBars) = some false)
    (kt4 : PySem.W.kitOne K (.ref BadTree) (.ref BadLinks) = some false)
    (kt5 : PySem.W.kitOne K (.ref BadTree) (.ref BadPlace) = some false)
    (kt6 : PySem.W.kitOne K (.ref BadTree) (.ref NoBar) = some false)
    {oc : Value} {od an : Option Addr} {osl : Array (Option Value)} {kV doc pm cdv ct : Value} (aL : PySem.W.nsIn K mainGlobals "law" = some (some (.ref fL)))
    (lL : K.lookup fL = some ⟨oc, od, .func (PySem.W.fnOf "law" "law" (defArgs sLaw) (defBody sLaw) (defScope sLaw) .none kV doc pm an cdv ct), osl⟩) (cL : PySem.W.codeIn K cdv "law" = true) (kL : PySem.W.keepIn K (.ref fL) = true)
    {t : Tok} (hh : PySem.W.nsIn K mainGlobals "HIGHEST" = some (some (.int 10000000 t)))
    (z1 : PySem.W.nsIn K mainGlobals "isinstance" = some none)
    (z2 : PySem.W.nsIn K mainGlobals "int" = some none)
    (z3 : PySem.W.nsIn K mainGlobals "bool" = some none)
    (z4 : PySem.W.nsIn K mainGlobals "list" = some none)
    (z5 : PySem.W.nsIn K mainGlobals "len" = some none)
    (z6 : PySem.W.nsIn K mainGlobals "range" = some none)
    (z7 : PySem.W.nsIn K mainGlobals "enumerate" = some none)
    (z8 : PySem.W.nsIn K mainGlobals "reversed" = some none)
    (z9 : PySem.W.nsIn K mainGlobals "min" = some none)
    (z10 : PySem.W.nsIn K mainGlobals "max" = some none)
    (z11 : PySem.W.nsIn K mainGlobals "sum" = some none)
    (z12 : PySem.W.nsIn K mainGlobals "all" = some none)
    (z13 : PySem.W.nsIn K mainGlobals "sorted" = some none)
    (z14 : PySem.W.nsIn K mainGlobals "zip" = some none)
    (z15 : PySem.W.nsIn K mainGlobals "any" = some none)
    (z16 : PySem.W.nsIn K mainGlobals "tuple" = some none)
    : ∃ fd : FuncData, (∀ (s : Shared) (v : Value), BindsTo s fd ⟨[v], []⟩ [("_law_script", v)]) ∧ ∀ base : Heap, K.In base → base.Ns mainGlobals mg → FnOk l.prog w K mg base CX0 6 fa fd ["_law_script"] (spLaw K) := by
  have e := hfa.symm.trans (PySem.W.mg_of X G aL)
  cases e
  have B : Blt mg := ⟨PySem.W.mg_none_of X G z1, PySem.W.mg_none_of X G z2, PySem.W.mg_none_of X G z3, PySem.W.mg_none_of X G z4, PySem.W.mg_none_of X G z5, PySem.W.mg_none_of X G z6, PySem.W.mg_none_of X G z7, PySem.W.mg_none_of X G z8, PySem.W.mg_none_of X G z9, PySem.W.mg_none_of X G z10, PySem.W.mg_none_of X G z11, PySem.W.mg_none_of X G z12, PySem.W.mg_none_of X G z13, PySem.W.mg_none_of X G z14, PySem.W.mg_none_of X G z15, PySem.W.mg_none_of X G z16⟩
  have HI : Hi mg := ⟨t, PySem.W.mg_of X G hh⟩
  obtain ⟨g__law_bars, fd__law_bars, F__law_bars⟩ := d__law_bars
  obtain ⟨g__law_hung, fd__law_hung, F__law_hung⟩ := d__law_hung
  obtain ⟨g__law_numbers, fd__law_numbers, F__law_numbers⟩ := d__law_numbers
  obtain ⟨g__law_drawn7, fd__law_drawn7, F__law_drawn7⟩ := d__law_drawn7
  obtain ⟨g__law_deep7, fd__law_deep7, F__law_deep7⟩ := d__law_deep7
  obtain ⟨g_is_whole_within, fd_is_whole_within, F_is_whole_within⟩ := d_is_whole_within
  obtain ⟨g_check_parents, fd_check_parents, F_check_parents⟩ := d_check_parents
  obtain ⟨g_depths, fd_depths, F_depths⟩ := d_depths
  obtain ⟨g_parents_in_tree, fd_parents_in_tree, F_parents_in_tree⟩ := d_parents_in_tree
  obtain ⟨g_bars_of7, fd_bars_of7, F_bars_of7⟩ := d_bars_of7
  obtain ⟨g__law_refused, fd__law_refused, F__law_refused⟩ := d__law_refused
  obtain ⟨g_check_bars, fd_check_bars, F_check_bars⟩ := d_check_bars
  obtain ⟨g_tree, fd_tree, F_tree⟩ := d_tree
  have FL := fun_mk (st := sLaw) lL cL kL
  refine ⟨PySem.W.fnOf "law" "law" (defArgs sLaw) (defBody sLaw) (defScope sLaw) .none kV doc pm an cdv ct, fun s v => .of_eq rfl, fun base _ _ => ?_⟩
  have c__law_bars : Callee l.prog w K mg base 1 "_law_bars" ["_law_script"] (spBars K) := Callee.of F__law_bars (ok_bars F__law_bars B) (PySem.W.mg_of X G g__law_bars) (F__law_bars.binds fun _ _ _ _ _ _ us hl => match us, hl with | [_], _ => rfl)
  have c__law_hung : Callee l.prog w K mg base 1 "_law_hung" ["_law_bars_here"] spHung := Callee.of F__law_hung (ok_hung F__law_hung B) (PySem.W.mg_of X G g__law_hung) (F__law_hung.binds fun _ _ _ _ _ _ us hl => match us, hl with | [_], _ => rfl)
  have c__law_numbers : Callee l.prog w K mg base 1 "_law_numbers" ["_law_found"] spNums := Callee.of F__law_numbers (ok_nums F__law_numbers B) (PySem.W.mg_of X G g__law_numbers) (F__law_numbers.binds fun _ _ _ _ _ _ us hl => match us, hl with | [_], _ => rfl)
  have c__law_drawn7 : Callee l.prog w K mg base 2 "_law_drawn" ["_law_script"] (spDrawn7 K) := Callee.of F__law_drawn7 (ok_drawn7 F__law_drawn7 B c__law_bars c__law_hung) (PySem.W.mg_of X G g__law_drawn7) (F__law_drawn7.binds fun _ _ _ _ _ _ us hl => match us, hl with | [_], _ => rfl)
  have c__law_deep7 : Callee l.prog w K mg base 1 "_law_deep" ["_law_parents"] spDeep7 := Callee.of F__law_deep7 (ok_deep7 F__law_deep7 B) (PySem.W.mg_of X G g__law_deep7) (F__law_deep7.binds fun _ _ _ _ _ _ us hl => match us, hl with | [_], _ => rfl)
  have x_BadTree : ExC K BadTree := ⟨xr_BadTree, xa_BadTree⟩
  have c_is_whole_within : Callee l.prog w K mg base 1 "is_whole_within" ["value", "least", "most"] spWithin := Callee.of F_is_whole_within (ok_within F_is_whole_within B) (PySem.W.mg_of X G g_is_whole_within) (F_is_whole_within.binds fun _ _ _ _ _ _ us hl => match us, hl with | [_, _, _], _ => rfl)
  have c_check_parents : Callee l.prog w K mg base 2 "check_parents" ["parents"] spChkP := Callee.of F_check_parents (ok_chkP F_check_parents B c_is_whole_within) (PySem.W.mg_of X G g_check_parents) (F_check_parents.binds fun _ _ _ _ _ _ us hl => match us, hl with | [_], _ => rfl)
  have c_depths : Callee l.prog w K mg base 1 "depths" ["parents"] spDepths := Callee.of F_depths (ok_depths F_depths B) (PySem.W.mg_of X G g_depths) (F_depths.binds fun _ _ _ _ _ _ us hl => match us, hl with | [_], _ => rfl)
  have c_parents_in_tree : Callee l.prog w K mg base 1 "parents_in_tree" ["bars"] spPar := Callee.of F_parents_in_tree (ok_par F_parents_in_tree B) (PySem.W.mg_of X G g_parents_in_tree) (F_parents_in_tree.binds fun _ _ _ _ _ _ us hl => match us, hl with | [_], _ => rfl)
  have c_bars_of7 : CalleeX l.prog w K mg base 4 "bars_of" ["parents"] (spBarsOf7 BadTree) := CalleeX.of F_bars_of7 (ok_barsOf7 F_bars_of7 B x_BadTree (PySem.W.mg_of X G aC_BadTree) c_check_parents c_depths c_parents_in_tree) (PySem.W.mg_of X G g_bars_of7) (F_bars_of7.binds fun _ _ _ _ _ _ us hl => match us, hl with | [_], _ => rfl)
  have c__law_refused : Callee l.prog w K mg base 5 "_law_refused" ["_law_parents"] spRefused := Callee.of F__law_refused (ok_refused F__law_refused B x_BadTree (PySem.W.mg_of X G aC_BadTree) (PySem.W.mg_of X G aC_BarError) (PySem.W.mg_of X G aC_BadBars) (PySem.W.mg_of X G aC_BadLinks) (PySem.W.mg_of X G aC_BadPlace) (PySem.W.mg_of X G aC_NoBar) (PySem.W.mg_none_of X G no_ValueError) kt0 kt1 kt2 kt3 kt4 kt5 kt6 c_bars_of7) (PySem.W.mg_of X G g__law_refused) (F__law_refused.binds fun _ _ _ _ _ _ us hl => match us, hl with | [_], _ => rfl)
  have c_check_bars : Callee l.prog w K mg base 3 "check_bars" ["bars"] spChk := Callee.of F_check_bars (ok_chk F_check_bars B HI c_is_whole_within) (PySem.W.mg_of X G g_check_bars) (F_check_bars.binds fun _ _ _ _ _ _ us hl => match us, hl with | [_], _ => rfl)
  have c_tree : Callee l.prog w K mg base 4 "tree" ["bars"] spTree := Callee.of F_tree (ok_tree F_tree B c_check_bars c_parents_in_tree) (PySem.W.mg_of X G g_tree) (F_tree.binds fun _ _ _ _ _ _ us hl => match us, hl with | [_], _ => rfl)
  exact ok_law FL B c__law_bars c__law_hung c__law_numbers c__law_drawn7 c__law_deep7 c__law_refused c_tree c_bars_of7
end Sky
open PySem PySem.W PyProof.Rows
set_option maxRecDepth 100000 in
set_option maxHeartbeats 0 in
theorem PySem.Challenge.cw_skybars_k07_whole_tree_back_holds : PySem.Challenge.rw_skybars_k07_whole_tree_back.Holds := by
  w_on; o_law; k_head; (case hw => w_witness2)
  k_fill
  refine Sky.walk 6 (l := PySem.Challenge.rw_skybars_k07_whole_tree_back) ⟨rfl, by decide, by decide⟩ rfl rfl (fun w h Y => PySem.W.kIn_of Y) ?F
  case F =>
    intro w mg fa h KX G hmg
    refine' Sky.all_mk KX G hmg (Sky.def_mk ?a__law_bars ?l__law_bars ?c__law_bars ?k__law_bars) (Sky.def_mk ?a__law_hung ?l__law_hung ?c__law_hung ?k__law_hung) (Sky.def_mk ?a__law_numbers ?l__law_numbers ?c__law_numbers ?k__law_numbers) (Sky.def_mk ?a__law_drawn7 ?l__law_drawn7 ?c__law_drawn7 ?k__law_drawn7) (Sky.def_mk ?a__law_deep7 ?l__law_deep7 ?c__law_deep7 ?k__law_deep7) (Sky.def_mk ?a_is_whole_within ?l_is_whole_within ?c_is_whole_within ?k_is_whole_within) (Sky.def_mk ?a_check_parents ?l_check_parents ?c_check_parents ?k_check_parents) (Sky.def_mk ?a_depths ?l_depths ?c_depths ?k_depths) (Sky.def_mk ?a_parents_in_tree ?l_parents_in_tree ?c_parents_in_tree ?k_parents_in_tree) (Sky.def_mk ?a_bars_of7 ?l_bars_of7 ?c_bars_of7 ?k_bars_of7) (Sky.def_mk ?a__law_refused ?l__law_refused ?c__law_refused ?k__law_refused) (Sky.def_mk ?a_check_bars ?l_check_bars ?c_check_bars ?k_check_bars) (Sky.def_mk ?a_tree ?l_tree ?c_tree ?k_tree) ?aC_BadTree ?aC_BarError ?aC_BadBars ?aC_BadLinks ?aC_BadPlace ?aC_NoBar ?xr_BadTree ⟨?xga_BadTree, ?xgn_BadTree, ?xha_BadTree, ?xhn_BadTree, ?xhtk_BadTree, ?xhm_BadTree, ?xhb_BadTree, ?xhc_BadTree⟩ ?no_ValueError ?kt0 ?kt1 ?kt2 ?kt3 ?kt4 ?kt5 ?kt6 ?aL ?lL ?cL ?kL ?hh ?z1 ?z2 ?z3 ?z4 ?z5 ?z6 ?z7 ?z8 ?z9 ?z10 ?z11 ?z12 ?z13 ?z14 ?z15 ?z16
    (case a__law_bars => k_is); (case l__law_bars => k_is); (case c__law_bars => k_is); (case k__law_bars => k_is)
    (case a__law_hung => k_is); (case l__law_hung => k_is); (case c__law_hung => k_is); (case k__law_hung => k_is)
    (case a__law_numbers => k_is); (case l__law_numbers => k_is); (case c__law_numbers => k_is); (case k__law_numbers => k_is)
    (case a__law_drawn7 => k_is); (case l__law_drawn7 => k_is); (case c__law_drawn7 => k_is); (case k__law_drawn7 => k_is)
    (case a__law_deep7 => k_is); (case l__law_deep7 => k_is); (case c__law_deep7 => k_is); (case k__law_deep7 => k_is)
    (case a_is_whole_within => k_is); (case l_is_whole_within => k_is); (case c_is_whole_within => k_is); (case k_is_whole_within => k_is)
    (case a_check_parents => k_is); (case l_check_parents => k_is); (case c_check_parents => k_is); (case k_check_parents => k_is)
    (case a_depths => k_is); (case l_depths => k_is); (case c_depths => k_is); (case k_depths => k_is)
    (case a_parents_in_tree => k_is); (case l_parents_in_tree => k_is); (case c_parents_in_tree => k_is); (case k_parents_in_tree => k_is)
    (case a_bars_of7 => k_is); (case l_bars_of7 => k_is); (case c_bars_of7 => k_is); (case k_bars_of7 => k_is)
    (case a__law_refused => k_is); (case l__law_refused => k_is); (case c__law_refused => k_is); (case k__law_refused => k_is)
    (case a_check_bars => k_is); (case l_check_bars => k_is); (case c_check_bars => k_is); (case k_check_bars => k_is)
    (case a_tree => k_is); (case l_tree => k_is); (case c_tree => k_is); (case k_tree => k_is)
    (case aC_BadTree => k_is); (case aC_BarError => k_is); (case aC_BadBars => k_is); (case aC_BadLinks => k_is)
    (case aC_BadPlace => k_is); (case aC_NoBar => k_is); (case xr_BadTree => k_exc); (case xga_BadTree => k_is)
    (case xgn_BadTree => k_is); (case xha_BadTree => k_is); (case xhn_BadTree => k_is); (case xhtk_BadTree => k_is)
    (case xhm_BadTree => k_is); (case xhb_BadTree => k_is); (case xhc_BadTree => exact (show PySem.W.isClsIn _ _ = true by k_is)); (case no_ValueError => k_is)
    (case kt0 => exact PySem.W.exm_of (by k_is) (by decide) (by kit_is)); (case kt1 => kit_is); (case kt2 => kit_is); (case kt3 => kit_is)
    (case kt4 => kit_is); (case kt5 => kit_is); (case kt6 => kit_is); (case aL => k_is)
    (case lL => k_is); (case cL => k_is); (case kL => k_is); (case hh => k_is)
    (case z1 => k_is); (case z2 => k_is); (case z3 => k_is); (case z4 => k_is)
    (case z5 => k_is); (case z6 => k_is); (case z7 => k_is); (case z8 => k_is)
    (case z9 => k_is); (case z10 => k_is); (case z11 => k_is); (case z12 => k_is)
    (case z13 => k_is); (case z14 => k_is); (case z15 => k_is); (case z16 => k_is)
