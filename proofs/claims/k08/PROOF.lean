import PyProof.Rows.All
import Wide.All
import OpenK.AllK
import Wide.FinOn
import Lean
import PyProof.EqAt
import PyProof.EqKinds
import PyProof.TupleCall
import PyProof.FactsAll.range
import PyProof.ListNew
import PyProof.ZipIter
import PyProof.Rows.EqDataRows
import PyProof.Rows.CallKwBuiltin
import PySem.Challenge.RW_skybars_k08_answers_by_hand
set_option Elab.async false
set_option linter.all false
set_option maxRecDepth 100000
/-! THE HAND LAYER, for ints, bools, texts, own classes, LISTS and tuples (index, slices, in, append, pop ..), calls, loops. Paste it whole ahead of your own text; what your proof does not reach may be deleted. -/
namespace L2
open PySem PySem.Spec PyProof.Rows

/-- a key: an int or a str -/
abbrev Key := Sum Int Str
def keyIs : Key → Value → Bool
  | .inl k, v => Value.isInt k v
  | .inr x, v => Value.isStrOf x v
def keyH (w : World) : Key → Int
  | .inl k => hashInt k
  | .inr x => hashStr w x
theorem keyIs_shape : ∀ {k : Key} {v : Value}, keyIs k v = true → (∃ i t, k = Sum.inl i ∧ v = Value.int i t) ∨ (∃ x t, k = Sum.inr x ∧ v = Value.str x t)
  | .inl i, v, h => by
    obtain ⟨t, e⟩ := Value.isInt_shape (k := i) (v := v) h
    exact .inl ⟨i, t, rfl, e⟩
  | .inr x, v, h => by
    obtain ⟨t, e⟩ := Value.isStrOf_shape (x := x) (v := v) h
    exact .inr ⟨x, t, rfl, e⟩
theorem key_ll (a b : Int) : decide ((Sum.inl a : Key) = Sum.inl b) = (a == b) := by
  by_cases e : a = b
  · subst e; simp
  · have h : ¬ (Sum.inl a : Key) = Sum.inl b := fun q => e (Sum.inl.inj q)
    rw [decide_eq_false h]
    exact (beq_eq_false_iff_ne.mpr e).symm
theorem key_rr (a b : Str) : decide ((Sum.inr a : Key) = Sum.inr b) = decide (a = b) := by
  by_cases e : a = b
  · subst e; simp
  · have h : ¬ (Sum.inr a : Key) = Sum.inr b := fun q => e (Sum.inr.inj q)
    rw [decide_eq_false h, decide_eq_false e]
theorem key_lr (a : Int) (b : Str) : decide ((Sum.inl a : Key) = Sum.inr b) = false := decide_eq_false (fun q => nomatch q)
theorem key_rl (a : Str) (b : Int) : decide ((Sum.inr a : Key) = Sum.inl b) = false := decide_eq_false (fun q => nomatch q)

def mixKind (prog : Program) (w : World) : PySem.KeyKind prog w Key where
  is := keyIs
  hash := keyH w
  inj := fun v a b ha hb => by
    rcases keyIs_shape ha with ⟨i, t, rfl, rfl⟩ | ⟨x, t, rfl, rfl⟩
    · rcases keyIs_shape hb with ⟨j, u, rfl, e⟩ | ⟨y, u, rfl, e⟩
      · injection e with e1 _; rw [e1]
      · exact nomatch e
    · rcases keyIs_shape hb with ⟨j, u, rfl, e⟩ | ⟨y, u, rfl, e⟩
      · exact nomatch e
      · injection e with e1 _; rw [e1]
  byValue := fun k v h => by
    rcases keyIs_shape h with ⟨i, t, rfl, rfl⟩ | ⟨x, t, rfl, rfl⟩ <;> rfl
  pyHash := fun hv h => by
    rcases keyIs_shape hv with ⟨i, t, rfl, rfl⟩ | ⟨x, t, rfl, rfl⟩
    · exact wpAny_pyHash_int h
    · exact wpAny_pyHash_str h
  eqBool := fun hu hv h => by
    rcases keyIs_shape hu with ⟨i, t, rfl, rfl⟩ | ⟨x, t, rfl, rfl⟩
    · rcases keyIs_shape hv with ⟨j, u, rfl, rfl⟩ | ⟨y, u, rfl, rfl⟩
      · rw [key_ll] at h; exact wpAny_eqBool_int h
      · rw [key_lr] at h; exact SeqAt.EqAt.int_str i t y u _ _ _ _ h
    · rcases keyIs_shape hv with ⟨j, u, rfl, rfl⟩ | ⟨y, u, rfl, rfl⟩
      · rw [key_rl] at h; exact SeqAt.EqAt.str_int x t j u _ _ _ _ h
      · rw [key_rr] at h; exact wpAny_eqBool_str h
  «strs» := fun k x t v h => by
    rcases keyIs_shape h with ⟨i, u, rfl, e⟩ | ⟨y, u, rfl, e⟩
    · exact nomatch e
    · injection e with e1 _
      subst e1
      cases v <;> rfl

end L2

namespace L2
open PySem PySem.Spec PyProof.Rows

/-- a value, without the heap -/
inductive V where
  | non | bl (b : Bool) | int (i : Int) | str (x : Str) | byt (b : Array UInt8) | flt (b : UInt64) | ref (a : Addr) | ty (n : String)
  deriving DecidableEq

def RelV : V → Value → Prop
  | .non, u => u = Value.none
  | .bl b, u => u = Value.bool b
  | .int i, u => ∃ t, u = Value.int i t
  | .str x, u => ∃ t, u = Value.str x t
  | .byt b, u => ∃ t, u = Value.bytes b t
  | .flt b, u => ∃ t, u = Value.float b t
  | .ref a, u => u = Value.ref a
  | .ty n, u => u = Value.type n

abbrev Vals : List V → List Value → Prop := Paired RelV
theorem Vals.length {xs : List V} {us : List Value} (r : Vals xs us) : xs.length = us.length := Paired.length r
theorem Vals.get : ∀ {xs : List V} {us : List Value} {i : Nat} {x : V}, Vals xs us → xs[i]? = some x → ∃ u, us[i]? = some u ∧ RelV x u
  | _, _, _, _, .nil, e => by simp at e
  | _, _, 0, _, .cons r _, e => by simp at e; subst e; exact ⟨_, rfl, r⟩
  | _, _, i + 1, x, .cons _ t, e => by
    obtain ⟨u, h1, h2⟩ := Vals.get (i := i) (x := x) t (by simpa using e)
    exact ⟨u, by simpa using h1, h2⟩
theorem Vals.set {x : V} {u : Value} (r : RelV x u) : ∀ {xs : List V} {us : List Value} (i : Nat), Vals xs us → Vals (xs.set i x) (us.set i u)
  | _, _, _, .nil => .nil
  | _, _, 0, .cons _ t => .cons r t
  | _, _, i + 1, .cons q t => .cons q (Vals.set r i t)
theorem Vals.append : ∀ {xs ys : List V} {us ws : List Value}, Vals xs us → Vals ys ws → Vals (xs ++ ys) (us ++ ws)
  | _, _, _, _, .nil, s => s
  | _, _, _, _, .cons r t, s => .cons r (Vals.append t s)
theorem Vals.take : ∀ {xs : List V} {us : List Value} (n : Nat), Vals xs us → Vals (xs.take n) (us.take n)
  | _, _, 0, _ => .nil
  | _, _, _ + 1, .nil => .nil
  | _, _, n + 1, .cons r t => .cons r (Vals.take n t)
theorem Vals.drop : ∀ {xs : List V} {us : List Value} (n : Nat), Vals xs us → Vals (xs.drop n) (us.drop n)
  | _, _, 0, r => r
  | _, _, _ + 1, .nil => .nil
  | _, _, n + 1, .cons _ t => Vals.drop n t
def RelO : Option V → Option Value → Prop
  | some v, some u => RelV v u
  | none, none => True
  | _, _ => False
def KV {κ : Type} : List (κ × V) → List (κ × Value) → Prop := Paired fun (p : κ × V) (q : κ × Value) => p.1 = q.1 ∧ RelV p.2 q.2

/-- a key of a dict (00_mix): an int or a text -/
def kV : Key → V
  | .inl i => .int i
  | .inr x => .str x

/-- what stands at a tracked address -/
inductive HO where
  /-- a list -/
  | lst (xs : List V)
  /-- a tuple (never changes) -/
  | tup (xs : List V)
  /-- a dict whose keys are ints and texts; one whose keys are tuples of ints and texts (the empty one is both) -/
  | dK (kvs : List (Key × V)) | dT (kvs : List (List Key × V))
  /-- a set of ints: its members, its size -/
  | set (S : Int → Bool) (n : Nat)
  /-- an instance of the class at C, its dict at dx, its attributes -/
  | ins (C dx : Addr) (fs : List (Str × V))
  /-- the dict of the instance at x -/
  | own (x : Addr)
  /-- the dict of an exception -/
  | xd (fs : List (Str × V))
  /-- a bound method, f of x -/
  | met (f x : Addr)
  /-- a range object lo, lo + 1, .. below hi -/
  | rng (lo hi : Int)
  /-- a thing that is known to the object (the script; a dict while a loop walks it): read, never written while it is so -/
  | frz (o : Obj) (u : HO)
  /-- a code object's table -/
  | tbl (ps : Array Value)
  /-- any other thing, by what is true of its one object (a def of one's own: SetO a S n := HO.ext fun h => ..) -/
  | ext (φ : Heap → Prop)

abbrev Hp := Addr → Option HO
def upd (H : Hp) (a : Addr) (o : HO) : Hp := fun b => if b = a then some o else H b
theorem upd_same {H : Hp} {a : Addr} {o : HO} : upd H a o a = some o := by unfold upd; rw [if_pos rfl]
theorem upd_ne {H : Hp} {a b : Addr} {o : HO} (h : b ≠ a) : upd H a o b = H b := by unfold upd; rw [if_neg h]
theorem upd_upd {H : Hp} {a : Addr} {o u : HO} : upd (upd H a o) a u = upd H a u := by
  funext b; unfold upd; split <;> rfl
/-- two objects of different content stand apart -/
theorem ne_of {H : Hp} {a b : Addr} {o u : HO} (h : H a = some o) (h' : H b = some u) (d : o ≠ u) : a ≠ b := by
  intro e; subst e; rw [h] at h'; exact d (Option.some.inj h')
theorem ne_of_none {H : Hp} {a b : Addr} {o : HO} (h : H a = some o) (h' : H b = none) : a ≠ b := by
  intro e; subst e; rw [h] at h'; cases h'

section
variable (P : Program) (w : World)
def ObjOk (H : Hp) (h : Heap) (a : Addr) : HO → Prop
  | .lst xs => xs.length ≤ sizeLine ∧ ∃ (its : List Value) (n : Nat), Vals xs its ∧ h.get? a = some { cls := .type "list", data := .seq its.toArray n }
  | .tup xs => xs.length ≤ sizeLine ∧ ∃ its : List Value, Vals xs its ∧ IsTup h a its.toArray
  | .dK kvs => kvs.length ≤ sizeLine ∧ (a == sysModules) = false ∧ ∃ vs, KV kvs vs ∧ h.DictOf (mixKind P w) a vs
  | .dT kvs => kvs.length ≤ sizeLine ∧ (a == sysModules) = false ∧ ∃ xs : List (List Key × Addr × Value),
      Paired (fun (p : List Key × V) (q : List Key × Addr × Value) => p.1 = q.1 ∧ H q.2.1 = some (.tup (p.1.map kV)) ∧ RelV p.2 q.2.2) kvs xs ∧
      ∃ o es ep, h.get? a = some o ∧ o.ExactDict ∧ o.data = .dict es ep ∧ es.toList = xs.map (entryOfKey (tupleKind (mixKind P w))) ∧ (xs.map (·.1)).Nodup
  | .set S n => h.SetOf (intKind P w) a S n
  | .ins C dx fs => H dx = some (.own a) ∧ fs.length ≤ 1000 ∧ dx ≠ a ∧ h.get? a = some (PySem.W.instObj C dx) ∧
      ∃ mA, h.Ns1 dx mA ∧ (∀ f, RelO (fs.lookup f) (mA f)) ∧ PySem.Within mA (fs.map (·.1))
  | .own _ => ∃ o, h.get? a = some o
  | .xd fs => ∃ mA, h.Ns1 a mA ∧ ∀ f, RelO (fs.lookup f) (mA f)
  | .rng lo hi => ∃ t u v, h.get? a = some { cls := .type "range", data := .fields #[.int lo t, .int hi u, .int 1 v] }
  | .frz o u => h.get? a = some o ∧ ObjOk H h a u
  | .tbl ps => h.get? a = some { cls := .none, data := .fields ps }
  | .met f x => h.get? a = some (PySem.W.methodObj (.ref f) (.ref x))
  | .ext φ => φ h ∧ (∃ o, h.get? a = some o) ∧ ∀ h1 h2 : Heap, φ h1 → (∀ o, h1.get? a = some o → h2.get? a = some o) → φ h2
/-- the abstract heap is held -/
def HOk (H : Hp) (h : Heap) : Prop := ∀ a o, H a = some o → ObjOk P w H h a o
end

section
variable {P : Program} {w : World} {H H' : Hp} {h h' : Heap} {a : Addr} {o : HO}
theorem ObjOk.lt (x : ObjOk P w H h a o) : a < h.objs.size := by
  cases o with
  | lst xs => obtain ⟨_, _, _, _, e⟩ := x; exact Heap.lt_size e
  | tup xs => obtain ⟨_, _, _, p⟩ := x; exact p.lt
  | dK kvs => obtain ⟨_, _, _, _, o, _, _, e, _⟩ := x; exact Heap.lt_size e
  | dT kvs => obtain ⟨_, _, _, _, o, _, _, e, _⟩ := x; exact Heap.lt_size e
  | set S n => obtain ⟨o, _, _, _, e, _⟩ := x; exact Heap.lt_size e
  | ins C dx fs => obtain ⟨_, _, _, e, _⟩ := x; exact Heap.lt_size e
  | own y => obtain ⟨_, e⟩ := x; exact Heap.lt_size e
  | xd fs => obtain ⟨_, ⟨_, _, _, e, _⟩, _⟩ := x; exact Heap.lt_size e
  | rng lo hi => obtain ⟨_, _, _, e⟩ := x; exact Heap.lt_size e
  | frz ob u => obtain ⟨e, _⟩ := x; exact Heap.lt_size e
  | tbl ps => exact Heap.lt_size (show h.get? a = some _ from x)
  | met f y => exact Heap.lt_size (show h.get? a = some _ from x)
  | ext φ => obtain ⟨_, ⟨_, e⟩, _⟩ := x; exact Heap.lt_size e
theorem Paired.mapP {α β : Type} {F G : α → β → Prop} : ∀ {l₁ : List α} {l₂ : List β}, Paired F l₁ l₂ → (∀ a b, F a b → G a b) → Paired G l₁ l₂
  | _, _, .nil, _ => .nil
  | _, _, .cons r t, f => .cons (f _ _ r) (Paired.mapP t f)
/-- what an object's description leans on: its own object, its own dict, the tuples -/
theorem ObjOk.stay (x : ObjOk P w H h a o) (k : ∀ b u, (b = a ∨ H b = some (.own a)) → h.get? b = some u → h'.get? b = some u)
    (ho : ∀ b, H b = some (.own a) → H' b = some (.own a)) (ht : ∀ b xs, H b = some (.tup xs) → H' b = some (.tup xs)) : ObjOk P w H' h' a o := by
  induction o with
  | lst xs => obtain ⟨z, its, n, r, e⟩ := x; exact ⟨z, its, n, r, k _ _ (.inl rfl) e⟩
  | tup xs => obtain ⟨z, its, r, ob, e, c⟩ := x; exact ⟨z, its, r, ob, k _ _ (.inl rfl) e, c⟩
  | dK kvs => obtain ⟨z, y, vs, r, ob, es, ep, e, c⟩ := x; exact ⟨z, y, vs, r, ob, es, ep, k _ _ (.inl rfl) e, c⟩
  | dT kvs =>
    obtain ⟨z, y, xs, r, ob, es, ep, e, c⟩ := x
    exact ⟨z, y, xs, Paired.mapP r fun p q z => ⟨z.1, ht _ _ z.2.1, z.2.2⟩, ob, es, ep, k _ _ (.inl rfl) e, c⟩
  | set S n => obtain ⟨ob, es, ep, t, e, c⟩ := x; exact ⟨ob, es, ep, t, k _ _ (.inl rfl) e, c⟩
  | ins C dx fs =>
    obtain ⟨d, z, ne, e, mA, ⟨od, es, ep, e2, c⟩, r⟩ := x
    exact ⟨ho _ d, z, ne, k _ _ (.inl rfl) e, mA, ⟨od, es, ep, k _ _ (.inr d) e2, c⟩, r⟩
  | own y => obtain ⟨ob, e⟩ := x; exact ⟨ob, k _ _ (.inl rfl) e⟩
  | xd fs => obtain ⟨mA, ⟨od, es, ep, e, c⟩, r⟩ := x; exact ⟨mA, ⟨od, es, ep, k _ _ (.inl rfl) e, c⟩, r⟩
  | rng lo hi => obtain ⟨t, u, v, e⟩ := x; exact ⟨t, u, v, k _ _ (.inl rfl) e⟩
  | frz ob u ih => obtain ⟨e, q⟩ := x; exact ⟨k _ _ (.inl rfl) e, ih q⟩
  | tbl ps =>
    have e : h.get? a = some { cls := .none, data := .fields ps } := x
    show h'.get? a = some { cls := .none, data := .fields ps }
    exact k a _ (.inl rfl) e
  | met f y =>
    have e : h.get? a = some (PySem.W.methodObj (.ref f) (.ref y)) := x
    show h'.get? a = some (PySem.W.methodObj (.ref f) (.ref y))
    exact k a _ (.inl rfl) e
  | ext φ => obtain ⟨p, ⟨o, e⟩, st⟩ := x; exact ⟨st _ _ p fun o q => k _ _ (.inl rfl) q, ⟨o, k _ _ (.inl rfl) e⟩, st⟩
theorem HOk.lt (x : HOk P w H h) (e : H a = some o) : a < h.objs.size := (x a o e).lt
theorem HOk.fresh (x : HOk P w H h) (e : h.objs.size ≤ a) : H a = none := by
  cases q : H a with
  | none => rfl
  | some u => exact absurd (Nat.lt_of_lt_of_le (x.lt q) e) (Nat.lt_irrefl _)
/-- every object of the heap is kept -/
theorem HOk.kept (x : HOk P w H h) (k : ∀ b u, h.get? b = some u → h'.get? b = some u) : HOk P w H h' := fun a o e =>
  (x a o e).stay (fun b u _ q => k b u q) (fun _ q => q) fun _ _ q => q
/-- a new object is laid and tracked -/
theorem HOk.laid (x : HOk P w H h) (k : ∀ b u, h.get? b = some u → h'.get? b = some u) (hp : h.objs.size ≤ a) (new : ObjOk P w (upd H a o) h' a o) : HOk P w (upd H a o) h' := fun b u e => by
  have hn := x.fresh hp
  by_cases hb : b = a
  · subst hb; rw [upd_same] at e; cases e; exact new
  · rw [upd_ne hb] at e
    exact (x b u e).stay (fun c v _ q => k c v q) (fun c q => by rw [upd_ne (ne_of_none q hn)]; exact q) fun c xs q => by rw [upd_ne (ne_of_none q hn)]; exact q
end

/-- what may be read as u: it is u, or a known u -/
def Rd (H : Hp) (a : Addr) (u : HO) : Prop := H a = some u ∨ ∃ o, H a = some (.frz o u)
theorem Rd.ok {P : Program} {w : World} {H : Hp} {h : Heap} {a : Addr} {u : HO} (r : Rd H a u) (x : HOk P w H h) : ObjOk P w H h a u := by
  rcases r with r | ⟨o, r⟩
  · exact x a u r
  · obtain ⟨_, q⟩ := x a _ r
    exact q
/-- what may be written -/
def Mut : Option HO → Prop
  | some (.lst _) => True
  | some (.dK _) => True
  | some (.dT _) => True
  | some (.set _ _) => True
  | some (.ins _ _ _) => True
  | some (.ext _) => True
  | _ => False
section
variable {P : Program} {w : World} {H : Hp} {h h' : Heap} {x e : Addr} {o' : HO}
/-- the object at e is changed: x itself, or the dict of the instance x -/
theorem HOk.write (ok : HOk P w H h) (mu : Mut (H x)) (he : e = x ∨ H e = some (.own x)) (k : ∀ b u, b ≠ e → h.get? b = some u → h'.get? b = some u) (heo : ∃ u, h'.get? e = some u)
    (new : ObjOk P w (upd H x o') h' x o') : HOk P w (upd H x o') h' := fun b u q => by
  have nown : ∀ c y, H c = some (.own y) → c ≠ x := fun c y r z => by subst z; rw [r] at mu; exact mu
  have ntup : ∀ c xs, H c = some (.tup xs) → c ≠ x := fun c xs r z => by subst z; rw [r] at mu; exact mu
  by_cases hb : b = x
  · subst hb; rw [upd_same] at q; cases q; exact new
  · rw [upd_ne hb] at q
    by_cases hbe : b = e
    · have q' : H b = some (.own x) := by
        rcases he with z | z
        · exact absurd (hbe.trans z) hb
        · rw [hbe]; exact z
      rw [q] at q'; cases q'
      obtain ⟨v, hv⟩ := heo
      exact ⟨v, by rw [hbe]; exact hv⟩
    · refine (ok b u q).stay (fun c v hc r => k c v ?_ r) (fun c r => by rw [upd_ne (nown c b r)]; exact r) fun c xs r => by rw [upd_ne (ntup c xs r)]; exact r
      rcases hc with rfl | hc
      · exact hbe
      · rintro rfl
        rcases he with z | z
        · exact nown c b hc z
        · rw [hc] at z; cases z; exact hb rfl
end

/-! ### kept unless tracked; of the frames at fs (the callers') the slots may change (an exception that passes writes there); of the records at ex (iterators) nothing is said -/
structure Un (fs ex : List Addr) (H H' : Hp) (h h' : Heap) : Prop where
  keep : ∀ b o, h.get? b = some o → H b = none → b ∉ fs → b ∉ ex → h'.get? b = some o
  slot : ∀ b o, h.get? b = some o → H b = none → b ∈ fs → b ∉ ex → ∃ sl, h'.get? b = some { o with slots := sl }
  free : ∀ b o, h.get? b = some o → H b = none → b ∉ ex → H' b = none
  there : ∀ b o, h.get? b = some o → b ∉ ex → ∃ o', h'.get? b = some o'
  tups : ∀ b xs, H b = some (.tup xs) → H' b = some (.tup xs)
  frzs : ∀ b o u, H b = some (.frz o u) → H' b = some (.frz o u)
  tbls : ∀ b ps, H b = some (.tbl ps) → ∃ more, H' b = some (.tbl (ps ++ more))
section
variable {fs fs' ex ex' : List Addr} {H H1 H2 : Hp} {h h1 h2 h' : Heap} {a x e : Addr} {o : HO}
theorem Un.any (u : Un fs ex H H1 h h1) {b : Addr} {ob : Obj} (q : h.get? b = some ob) (n : H b = none) (hx : b ∉ ex) : ∃ sl, h1.get? b = some { ob with slots := sl } := by
  by_cases hb : b ∈ fs
  · exact u.slot b ob q n hb hx
  · exact ⟨ob.slots, u.keep b ob q n hb hx⟩
theorem Un.kept (k : ∀ b u, h.get? b = some u → h'.get? b = some u) : Un fs ex H H h h' :=
  ⟨fun b ob q _ _ _ => k b ob q, fun b ob q _ _ _ => ⟨ob.slots, k b ob q⟩, fun _ _ _ n _ => n, fun b ob q _ => ⟨ob, k b ob q⟩, fun _ _ q => q, fun _ _ _ q => q, fun _ ps q => ⟨#[], by rw [q]; simp⟩⟩
theorem Un.refl : Un fs ex H H h h := Un.kept fun _ _ q => q
theorem Un.laid (k : ∀ b u, h.get? b = some u → h'.get? b = some u) (hp : h.objs.size ≤ a) (hn : H a = none) : Un fs ex H (upd H a o) h h' where
  keep := fun b u q _ _ _ => k b u q
  slot := fun b u q _ _ _ => ⟨u.slots, k b u q⟩
  free := fun b u q n _ => by rw [upd_ne (Nat.ne_of_lt (Nat.lt_of_lt_of_le (Heap.lt_size q) hp))]; exact n
  there := fun b u q _ => ⟨u, k b u q⟩
  tups := fun b xs q => by rw [upd_ne (ne_of_none q hn)]; exact q
  frzs := fun b u xs q => by rw [upd_ne (ne_of_none q hn)]; exact q
  tbls := fun b ps q => ⟨#[], by rw [upd_ne (ne_of_none q hn), q]; simp⟩
theorem Un.write (mu : Mut (H x)) (he : e = x ∨ H e = some (.own x)) (k : ∀ b u, b ≠ e → h.get? b = some u → h'.get? b = some u) (heo : ∃ u, h'.get? e = some u) : Un fs ex H (upd H x o) h h' := by
  have hx : ∀ b, H b = none → b ≠ x := fun b n z => by subst z; rw [n] at mu; exact mu
  have hb : ∀ b, H b = none → b ≠ e := fun b n z => by
    subst z
    rcases he with r | r
    · exact hx b n r
    · rw [n] at r; cases r
  have hm : ∀ b u, H b = some u → ¬ Mut (some u) → b ≠ x := fun b u q nm z => by subst z; rw [q] at mu; exact nm mu
  refine ⟨fun b u q n _ _ => k b u (hb b n) q, fun b u q n _ _ => ⟨u.slots, k b u (hb b n) q⟩, fun b u q n _ => by rw [upd_ne (hx b n)]; exact n, fun b u q _ => ?_,
    fun b xs q => by rw [upd_ne (hm b _ q fun z => z)]; exact q, fun b u xs q => by rw [upd_ne (hm b _ q fun z => z)]; exact q, fun b ps q => ⟨#[], by rw [upd_ne (hm b _ q fun z => z), q]; simp⟩⟩
  by_cases hbe : b = e
  · subst hbe; exact heo
  · exact ⟨u, k b u hbe q⟩
end

/-! ### the heap without what is tracked -/
def trk (h : Heap) (H : Hp) : List Addr := (List.range h.objs.size).filter fun a => (H a).isSome
def hidT (h : Heap) (H : Hp) : Heap := PySem.W.hideAll h (trk h H)
theorem hidT_size (h : Heap) (H : Hp) : (hidT h H).objs.size = h.objs.size := PySem.W.hideAll_size _ _
theorem hidT_get {h : Heap} {H : Hp} {b : Addr} {o : Obj} (e : h.get? b = some o) (n : H b = none) : (hidT h H).get? b = some o :=
  PySem.W.hideAll_get _ e fun hm => by
    have q : (H b).isSome = true := (List.mem_filter.mp hm).2
    rw [n] at q; simp at q
theorem of_hidT {h : Heap} {H : Hp} {b : Addr} {o : Obj} (e : (hidT h H).get? b = some o) : h.get? b = some o ∧ H b = none := by
  have e' : h.get? b = some o := PySem.W.of_hideAll (trk h H) e
  refine ⟨e', ?_⟩
  cases q : H b with
  | none => rfl
  | some x =>
    have hm : b ∈ trk h H := List.mem_filter.mpr ⟨List.mem_range.mpr (Heap.lt_size e'), by simp [q]⟩
    have z : (hidT h H).get? b = none := PySem.W.hideAll_none (trk h H) hm
    rw [z] at e; cases e

/-! ### OpenK's ledger, filled with every new object but one -/
end L2

namespace L2
open PySem PySem.Spec PyProof.Rows

/-- the module's facts, over the base: the heap at the law's entry without what is tracked there -/
structure Mod (K : PySem.W.Frag) (mg : Str → Option Value) (base : Heap) : Prop where
  kin : K.In base
  glob : base.Ns mainGlobals mg
  blt : ∃ mb, base.Ns builtinsNs mb ∧ ∀ x : Str, x ≠ "__name__" → mb x = bootBuiltins x
  nolimit : base.NoLimit

/-- the context: a def's body (or a comprehension's block) running. base: fixed through the whole law; s₀, H₀: the entry; outer: the frames whose slots others may change (a def's callers); stack: all frames that run;
   ex: iterators that were made ahead of the entry and are walked here (a comprehension's); fn: the names whose cells were made at the entry (a def: all; a comprehension's block: its own); calm: not within an except suite; pn: pins that every state bears; xe: what is wanted of an exception that leaves the code -/
structure Cx where
  prog : Program
  w : World
  K : PySem.W.Frag
  mg : Str → Option Value
  base : Heap
  A : Around
  N : List Str
  s₀ : Shared
  H₀ : Hp
  env : Env
  outer : List Env
  stack : List Env
  ex : List Addr
  fn : Str → Bool
  calm : Bool
  pn : List (Addr × Obj)
  xe : Value → Shared → Prop
/-- the callers' frames -/
def frs (l : List Env) : List Addr := l.filterMap (·.frame)
abbrev Cx.fs (X : Cx) : List Addr := frs X.outer

def Vis (sc : Scope) (x : Str) : Prop := sc.names.lookup x = some .local ∨ sc.names.lookup x = some .cell ∨ sc.names.lookup x = some .free
def Loc (sc : Scope) (x : Str) : Prop := sc.names.lookup x = some .local ∨ sc.names.lookup x = some .cell
def Look (env : Env) (h : Heap) (m : Str → Option Value) (x : Str) (u : Value) : Prop :=
  (env.kindOf x = some .local ∧ m x = some u) ∨ ((env.kindOf x = some .cell ∨ env.kindOf x = some .free) ∧ ∃ c, env.cells.lookup x = some c ∧ h.IsCell c (some u))

structure Cx.Ok (X : Cx) : Prop where
  mod : Mod X.K X.mg X.base
  kind : X.env.scope.kind = .function
  glob : X.env.globals = mainGlobals
  blt : X.env.builtins = builtinsNs
  above : X.s₀.heap.objs.size ≤ X.env.locals
  inj : ∀ x y c, X.env.cells.lookup x = some c → X.env.cells.lookup y = some c → x = y
  has : ∀ x, (X.env.kindOf x = some .cell ∨ X.env.kindOf x = some .free) → ∃ c, X.env.cells.lookup x = some c
  cab : ∀ x c, X.fn x = true → X.env.cells.lookup x = some c → X.s₀.heap.objs.size ≤ c
  hd : X.calm = true → X.A.handled = none
  frames : X.A.frames = some X.stack
  stk : X.stack = X.outer ∨ (X.stack = X.env :: X.outer ∧ X.env.frame = some X.env.locals)
  exf : ∀ b ∈ X.ex, b ≠ X.env.locals ∧ ∀ x c, X.env.cells.lookup x = some c → c ≠ b
  bs : ∀ b o, X.base.get? b = some o → X.s₀.heap.get? b = some o ∧ X.H₀ b = none
  bsz : X.base.objs.size ≤ X.s₀.heap.objs.size
  noex : ∀ b o, X.base.get? b = some o → b ∉ X.ex
  exfs : ∀ b ∈ X.ex, b ∉ X.fs
  funs : X.s₀.heap.FunFrames X.base X.outer
  frf : ∀ b ∈ X.fs, X.H₀ b = none

structure Inv (X : Cx) (pins : List (Addr × Obj)) (σ : List (Option V)) (H : Hp) (s : Shared) : Prop where
  ok : X.Ok
  os : s.os = X.s₀.os
  bare : AllBare s.gens
  base : Un X.fs X.ex X.H₀ H X.s₀.heap s.heap
  loc : ∃ m, s.heap.Ns X.env.locals m ∧ ∀ (i : Nat) (x : Str) (v : V), X.N[i]? = some x → σ[i]? = some (some v) → Vis X.env.scope x → ∃ u, RelV v u ∧ Look X.env s.heap m x u
  cell : ∀ x c, X.env.cells.lookup x = some c → ∃ v, s.heap.IsCell c v
  free : H X.env.locals = none
  freeC : ∀ x c, X.env.cells.lookup x = some c → H c = none
  pin : ∀ p ∈ X.pn ++ pins, s.heap.get? p.1 = some p.2 ∧ H p.1 = none ∧ p.1 ≠ X.env.locals ∧ p.1 ∉ X.fs ∧ ∀ v, p.2.data ≠ .cell v
  hok : HOk X.prog X.w H s.heap
  len : σ.length = X.N.length

section
variable {X : Cx} {pins : List (Addr × Obj)} {σ : List (Option V)} {H H' : Hp} {s : Shared} {h' : Heap}

theorem Cx.Ok.nofr (ok : X.Ok) {b : Addr} {o : Obj} (e : X.base.get? b = some o) : b ∉ X.fs := fun hb => by
  have := (ok.funs.mem hb).1
  rw [e] at this; cases this
theorem Inv.bs (I : Inv X pins σ H s) : ∀ b o, X.base.get? b = some o → s.heap.get? b = some o ∧ H b = none := fun b o e =>
  ⟨I.base.keep b o (I.ok.bs b o e).1 (I.ok.bs b o e).2 (I.ok.nofr e) (I.ok.noex b o e), I.base.free b o (I.ok.bs b o e).1 (I.ok.bs b o e).2 (I.ok.noex b o e)⟩
theorem Inv.bk (I : Inv X pins σ H s) : ∀ b o, X.base.get? b = some o → s.heap.get? b = some o := fun b o e => (I.bs b o e).1
theorem Inv.mod (I : Inv X pins σ H s) : Mod X.K X.mg X.base := I.ok.mod
theorem Inv.kIn (I : Inv X pins σ H s) : X.K.In s.heap := I.ok.mod.kin.keeps I.bk
theorem Inv.lt (I : Inv X pins σ H s) : X.env.locals < s.heap.objs.size := let ⟨_, hn, _⟩ := I.loc; hn.lt
theorem Inv.sz (I : Inv X pins σ H s) : X.s₀.heap.objs.size ≤ s.heap.objs.size := Nat.le_trans I.ok.above (Nat.le_of_lt I.lt)
theorem Inv.nofs (I : Inv X pins σ H s) {a : Addr} (h : s.heap.objs.size ≤ a) : a ∉ X.fs := fun hb => by
  obtain ⟨_, o, ho, _⟩ := I.ok.funs.mem hb
  exact absurd (Nat.lt_of_lt_of_le (Heap.lt_size ho) (Nat.le_trans I.sz h)) (Nat.lt_irrefl _)
theorem Inv.cne (I : Inv X pins σ H s) : ∀ x c, X.env.cells.lookup x = some c → c ≠ X.env.locals := fun x c e z => by
  obtain ⟨v, o, ho, hd⟩ := I.cell x c e
  obtain ⟨m, ⟨o', es, ep, ho', hd', _⟩, _⟩ := I.loc
  rw [z, ho'] at ho; cases ho; rw [hd'] at hd; cases hd
theorem Inv.funs (I : Inv X pins σ H s) : s.heap.FunFrames X.base X.outer := by
  have all : ∀ (l : List Env), (∀ b ∈ frs l, b ∈ X.fs) → X.s₀.heap.FunFrames X.base l → s.heap.FunFrames X.base l := by
    intro l
    induction l with
    | nil => intro _ _; trivial
    | cons env r ih =>
      intro hs hl
      obtain ⟨hk, ⟨L, o, hf, hn, ho, hd⟩, hr⟩ := hl
      have hL : L ∈ X.fs := hs L (by unfold frs; rw [List.filterMap_cons, hf]; exact List.mem_cons_self)
      obtain ⟨sl, e⟩ := I.base.slot L o ho (I.ok.frf L hL) hL fun z => I.ok.exfs L z hL
      exact ⟨hk, ⟨L, _, hf, hn, e, hd⟩, ih (fun b hb => hs b (by unfold frs; rw [List.filterMap_cons, hf]; exact List.mem_cons_of_mem _ hb)) hr⟩
  exact all X.outer (fun _ hb => hb) I.ok.funs

/-- the frames that run, for a call -/
theorem Inv.stack (I : Inv X pins σ H s) : s.heap.FunFrames X.base X.stack := by
  rcases I.ok.stk with e | ⟨e, hf⟩
  · rw [e]; exact I.funs
  · rw [e]
    obtain ⟨m, hn, _⟩ := I.loc
    refine .cons (by rw [I.ok.kind]; decide) hf hn ?_ I.funs
    exact Heap.get?_none_of_le (Nat.le_trans I.ok.bsz I.ok.above)
theorem Inv.stkSub (I : Inv X pins σ H s) : ∀ b ∈ frs X.stack, b ∈ X.env.locals :: X.fs := fun b hb => by
  rcases I.ok.stk with e | ⟨e, hf⟩
  · rw [e] at hb; exact List.mem_cons_of_mem _ hb
  · rw [e] at hb
    unfold frs at hb
    rw [List.filterMap_cons, hf] at hb
    exact hb
theorem Inv.stkFree (I : Inv X pins σ H s) : ∀ b ∈ frs X.stack, H b = none := fun b hb => by
  rcases List.mem_cons.mp (I.stkSub b hb) with e | hb
  · rw [e]; exact I.free
  · obtain ⟨_, o, ho, _⟩ := I.ok.funs.mem hb
    exact I.base.free b o ho (I.ok.frf b hb) fun z => I.ok.exfs b z hb

/-- THE STEP: the untracked objects but the frame and the records at ch are kept (the callers' frames up to slots), the frame's map is kept, the new abstract heap is held -/
theorem Inv.step {g' : Array GenState} {t' : Nat} {d' : Drawn} {ch : List Addr} (I : Inv X pins σ H s)
    (hch : ∀ b ∈ ch, (b ∈ X.ex ∨ X.s₀.heap.objs.size ≤ b) ∧ b ≠ X.env.locals ∧ (∀ x c, X.env.cells.lookup x = some c → c ≠ b) ∧ ∀ p ∈ X.pn ++ pins, p.1 ≠ b)
    (keep : ∀ b o, b ≠ X.env.locals → b ∉ X.fs → b ∉ ch → s.heap.get? b = some o → H b = none → h'.get? b = some o)
    (slot : ∀ b o, b ≠ X.env.locals → b ∈ X.fs → b ∉ ch → s.heap.get? b = some o → H b = none → ∃ sl, h'.get? b = some { o with slots := sl }) (free : ∀ b o, b ∉ ch → s.heap.get? b = some o → H b = none → H' b = none)
    (there : ∀ b o, b ∉ ch → s.heap.get? b = some o → ∃ o', h'.get? b = some o')
    (tups : ∀ b xs, H b = some (.tup xs) → H' b = some (.tup xs)) (frzs : ∀ b o u, H b = some (.frz o u) → H' b = some (.frz o u)) (tbls : ∀ b ps, H b = some (.tbl ps) → ∃ more, H' b = some (.tbl (ps ++ more)))
    (ns : ∀ m, s.heap.Ns X.env.locals m → h'.Ns X.env.locals m) (hok : HOk X.prog X.w H' h') (hg : AllBare g') :
    Inv X pins σ H' { s with heap := h', gens := g', drawn := d', toks := t' } := by
  have neL : ∀ b o, X.s₀.heap.get? b = some o → b ≠ X.env.locals := fun b o e => Nat.ne_of_lt (Nat.lt_of_lt_of_le (Heap.lt_size e) I.ok.above)
  have neC : ∀ b o, X.s₀.heap.get? b = some o → b ∉ X.ex → b ∉ ch := fun b o e hx hb => by
    rcases (hch b hb).1 with z | z
    · exact hx z
    · exact absurd (Nat.lt_of_lt_of_le (Heap.lt_size e) z) (Nat.lt_irrefl _)
  have cellK : ∀ x c, X.env.cells.lookup x = some c → ∀ v, s.heap.IsCell c v → h'.IsCell c v := fun x c e v ⟨o, ho, hd⟩ => by
    have nch : c ∉ ch := fun z => (hch c z).2.2.1 x c e rfl
    by_cases hc : c ∈ X.fs
    · obtain ⟨sl, q⟩ := slot c o (I.cne x c e) hc nch ho (I.freeC x c e)
      exact ⟨_, q, hd⟩
    · exact ⟨o, keep c o (I.cne x c e) hc nch ho (I.freeC x c e), hd⟩
  refine ⟨I.ok, I.os, hg, ⟨fun b o e n hb hx => ?_, fun b o e n hb hx => ?_, fun b o e n hx => ?_, fun b o e hx => ?_, fun b xs e => tups b xs (I.base.tups b xs e), fun b o xs e => frzs b o xs (I.base.frzs b o xs e), fun b ps e => ?_⟩, ?_, fun x c e => ?_, ?_, fun x c e => ?_, fun p hp => ?_, hok, I.len⟩
  · exact keep b o (neL b o e) hb (neC b o e hx) (I.base.keep b o e n hb hx) (I.base.free b o e n hx)
  · obtain ⟨sl, e1⟩ := I.base.slot b o e n hb hx
    obtain ⟨sl', e2⟩ := slot b _ (neL b o e) hb (neC b o e hx) e1 (I.base.free b o e n hx)
    exact ⟨sl', e2⟩
  · obtain ⟨o', e1⟩ := I.base.there b o e hx
    exact free b o' (neC b o e hx) e1 (I.base.free b o e n hx)
  · obtain ⟨o', e1⟩ := I.base.there b o e hx
    exact there b o' (neC b o e hx) e1
  · obtain ⟨m1, e1⟩ := I.base.tbls b ps e
    obtain ⟨m2, e2⟩ := tbls b _ e1
    exact ⟨m1 ++ m2, by rw [e2, Array.append_assoc]⟩
  · obtain ⟨m, hn, hl⟩ := I.loc
    refine ⟨m, ns m hn, fun i x v e1 e2 e3 => ?_⟩
    obtain ⟨u, r, l⟩ := hl i x v e1 e2 e3
    refine ⟨u, r, ?_⟩
    rcases l with l | ⟨k, c, e, z⟩
    · exact .inl l
    · exact .inr ⟨k, c, e, cellK x c e _ z⟩
  · obtain ⟨v, z⟩ := I.cell x c e
    exact ⟨v, cellK x c e v z⟩
  · obtain ⟨m, ⟨o, _, _, ho, _⟩, _⟩ := I.loc
    exact free _ o (fun z => (hch _ z).2.1 rfl) ho I.free
  · obtain ⟨v, o, ho, hd⟩ := I.cell x c e
    exact free c o (fun z => (hch c z).2.2.1 x c e rfl) ho (I.freeC x c e)
  · obtain ⟨e, n, ne, nf, d⟩ := I.pin p hp
    have nch : p.1 ∉ ch := fun z => (hch p.1 z).2.2.2 p hp rfl
    exact ⟨keep p.1 p.2 ne nf nch e n, free p.1 p.2 nch e n, ne, nf, d⟩
/-- .. where the frame's own object is kept too -/
theorem Inv.un {t' : Nat} (I : Inv X pins σ H s) (u : Un X.fs [] H H' s.heap h') (hok : HOk X.prog X.w H' h') : Inv X pins σ H' { s with heap := h', toks := t' } := by
  obtain ⟨m, ⟨o, es, ep, ho, r⟩, _⟩ := id I.loc
  obtain ⟨sl, hL⟩ := u.any ho I.free (by simp)
  exact I.step (g' := s.gens) (d' := s.drawn) (ch := []) (fun _ z => nomatch z) (fun b o _ hb _ e n => u.keep b o e n hb (by simp)) (fun b o _ hb _ e n => u.slot b o e n hb (by simp)) (fun b o _ e n => u.free b o e n (by simp)) (fun b o _ e => u.there b o e (by simp)) u.tups u.frzs u.tbls (fun m' hm => by
    obtain ⟨o', es', ep', ho', r'⟩ := hm
    rw [ho] at ho'; cases ho'
    exact ⟨_, es', ep', hL, r'⟩) hok I.bare
/-- behind a call (or a comprehension's block): the slots of this frame may have changed too, the records at ch may have turned -/
theorem Inv.call {g' : Array GenState} {t' : Nat} {d' : Drawn} {ch : List Addr} (I : Inv X pins σ H s) (u : Un (frs X.stack) ch H H' s.heap h') (hok : HOk X.prog X.w H' h') (hg : AllBare g')
    (hch : ∀ b ∈ ch, (b ∈ X.ex ∨ X.s₀.heap.objs.size ≤ b) ∧ b ≠ X.env.locals ∧ (∀ x c, X.env.cells.lookup x = some c → c ≠ b) ∧ ∀ p ∈ X.pn ++ pins, p.1 ≠ b) :
    Inv X pins σ H' { s with heap := h', gens := g', drawn := d', toks := t' } := by
  obtain ⟨m, ⟨o, es, ep, ho, r⟩, _⟩ := id I.loc
  obtain ⟨sl, hL⟩ := u.any ho I.free fun z => (hch _ z).2.1 rfl
  exact I.step (ch := ch) hch (fun b o hL hb hc e n => u.keep b o e n (fun z => (List.mem_cons.mp (I.stkSub b z)).elim hL hb) hc) (fun b o _ _ hc e n => u.any e n hc) (fun b o hc e n => u.free b o e n hc) (fun b o hc e => u.there b o e hc) u.tups u.frzs u.tbls (fun m' hm => by
    obtain ⟨o', es', ep', ho', r'⟩ := hm
    rw [ho] at ho'; cases ho'
    exact ⟨_, es', ep', hL, r'⟩) hok hg
/-- an untracked record of ours (an iterator) has turned -/
theorem Inv.turned {t' : Nat} {it : Addr} (I : Inv X pins σ H s) (k : ∀ b o, b ≠ it → s.heap.get? b = some o → h'.get? b = some o) (hn : H it = none) (hL : it ≠ X.env.locals)
    (h1 : it ∈ X.ex ∨ X.s₀.heap.objs.size ≤ it) (h2 : ∀ x c, X.env.cells.lookup x = some c → c ≠ it) (h3 : ∀ p ∈ X.pn ++ pins, p.1 ≠ it) : Inv X pins σ H { s with heap := h', toks := t' } := by
  have nit : ∀ b u, H b = some u → b ≠ it := fun b u e z => by rw [z, hn] at e; cases e
  refine I.step (g' := s.gens) (d' := s.drawn) (ch := [it]) (fun b hb => ?_) (fun b o _ _ hc e _ => k b o (fun z => hc (by simp [z])) e) (fun b o _ _ hc e _ => ⟨o.slots, k b o (fun z => hc (by simp [z])) e⟩) (fun _ _ _ _ n => n)
    (fun b o hc e => ⟨o, k b o (fun z => hc (by simp [z])) e⟩) (fun _ _ e => e) (fun _ _ _ e => e) (fun b ps e => ⟨#[], by rw [e]; simp⟩) (fun m hm => ?_) (fun b u e => ?_) I.bare
  · have e : b = it := by simpa using hb
    subst e
    exact ⟨h1, hL, h2, h3⟩
  · obtain ⟨o, es, ep, ho, r⟩ := hm
    exact ⟨o, es, ep, k _ o (Ne.symm hL) ho, r⟩
  · refine (I.hok b u e).stay (fun c v hc q => k c v ?_ q) (fun _ q => q) fun _ _ q => q
    rcases hc with z | z
    · rw [z]; exact nit b u e
    · exact nit c _ z
theorem Inv.tok (I : Inv X pins σ H s) (t : Nat) : Inv X pins σ H { s with toks := t } := I.un (h' := s.heap) (t' := t) Un.refl I.hok
/-- all objects kept -/
theorem Inv.kept {t' : Nat} (I : Inv X pins σ H s) (k : ∀ b u, s.heap.get? b = some u → h'.get? b = some u) : Inv X pins σ H { s with heap := h', toks := t' } := I.un (Un.kept k) (I.hok.kept k)
/-- a new object laid and tracked -/
theorem Inv.laid {a : Addr} {o : HO} {t' : Nat} (I : Inv X pins σ H s) (k : ∀ b u, s.heap.get? b = some u → h'.get? b = some u) (hp : s.heap.objs.size ≤ a) (new : ObjOk X.prog X.w (upd H a o) h' a o) :
    Inv X pins σ (upd H a o) { s with heap := h', toks := t' } := I.un (Un.laid k hp (I.hok.fresh hp)) (I.hok.laid k hp new)
/-- an object written -/
theorem Inv.write {x e : Addr} {o : HO} {t' : Nat} (I : Inv X pins σ H s) (mu : Mut (H x)) (he : e = x ∨ H e = some (.own x)) (k : ∀ b u, b ≠ e → s.heap.get? b = some u → h'.get? b = some u) (heo : ∃ u, h'.get? e = some u)
    (new : ObjOk X.prog X.w (upd H x o) h' x o) : Inv X pins σ (upd H x o) { s with heap := h', toks := t' } := I.un (Un.write mu he k heo) (I.hok.write mu he k heo new)
/-- forgetting slots, pins -/
theorem Inv.weak {σ' : List (Option V)} (I : Inv X pins σ H s) (hl : σ'.length = σ.length) (w : ∀ (i : Nat) v, σ'[i]? = some (some v) → σ[i]? = some (some v)) : Inv X pins σ' H s :=
  ⟨I.ok, I.os, I.bare, I.base, let ⟨m, hn, hl'⟩ := I.loc; ⟨m, hn, fun i x v e1 e2 e3 => hl' i x v e1 (w i v e2) e3⟩, I.cell, I.free, I.freeC, I.pin, I.hok, hl.trans I.len⟩
theorem Inv.pins_of {pins' : List (Addr × Obj)} (I : Inv X pins σ H s) (h : ∀ p ∈ pins', s.heap.get? p.1 = some p.2 ∧ H p.1 = none ∧ p.1 ≠ X.env.locals ∧ p.1 ∉ X.fs ∧ ∀ v, p.2.data ≠ .cell v) : Inv X pins' σ H s :=
  ⟨I.ok, I.os, I.bare, I.base, I.loc, I.cell, I.free, I.freeC, fun p hp => (List.mem_append.mp hp).elim (fun z => I.pin p (List.mem_append_left _ z)) (h p), I.hok, I.len⟩

theorem nodup_ix {N : List Str} (hN : N.Nodup) {i j : Nat} {x : Str} (a : N[i]? = some x) (b : N[j]? = some x) : i = j := by
  obtain ⟨h1, e1⟩ := List.getElem?_eq_some_iff.mp a
  obtain ⟨h2, e2⟩ := List.getElem?_eq_some_iff.mp b
  exact (List.getElem_inj hN).mp (e1.trans e2.symm)

/-- a name is stored; what changed -/
theorem store_ok2 {M : Model} {A : Around} {E : Value → Shared → Prop} {i : Nat} {x : Str} {v : V} {u : Value} {Q : Unit → Shared → Prop} (I : Inv X pins σ H s) (hN : X.N.Nodup) (hi : X.N[i]? = some x) (hx : Loc X.env.scope x) (r : RelV v u)
    (h : ∀ s', Inv X pins (σ.set i (some v)) H s' → (∃ a, Heap.SameBut a s.heap s'.heap ∧ (a = X.env.locals ∨ X.env.cells.lookup x = some a)) → Q () s') (hf : X.fn x = true ∨ X.env.scope.names.lookup x = some .local := by first | exact .inl rfl | exact .inr rfl | assumption) : wpAny M A (storeName X.env x u) Q E s := by
  obtain ⟨m, hn, hl⟩ := id I.loc
  have hcls : (X.env.scope.kind == .class || (X.env.scope.kind == .module && X.env.locals != X.env.globals)) = false := by rw [I.ok.kind]; rfl
  have hiσ : i < σ.length := by rw [I.len]; exact (List.getElem?_eq_some_iff.mp hi).1
  have cne := I.cne
  have tracked : ∀ {a : Addr} {h' : Heap}, (∃ o, s.heap.get? a = some o ∧ H a = none) → Heap.SameBut a s.heap h' → HOk X.prog X.w H h' := fun {a h'} ha hs b ob e => by
    obtain ⟨_, _, hfree⟩ := ha
    refine (I.hok b ob e).stay (fun c w' hc q => (hs.2 c ?_).trans q) (fun _ q => q) fun _ _ q => q
    rintro rfl
    rcases hc with rfl | hc
    · rw [hfree] at e; cases e
    · rw [hfree] at hc; cases hc
  rcases hx with hk | hk
  · refine wpAny_storeName_local hk hn (fun h' hn' hs => ?_) hcls
    obtain ⟨oL, _, _, hoL, _⟩ := id hn
    refine h _ ⟨I.ok, I.os, I.bare, ⟨fun b o e n hb hx => ?_, fun b o e n hb hx => ?_, I.base.free, fun b o e hx => ?_, I.base.tups, I.base.frzs, I.base.tbls⟩, ⟨_, hn', fun j y v' e1 e2 e3 => ?_⟩, fun y c e => ?_, I.free, I.freeC, fun p hp => ?_, tracked ⟨oL, hoL, I.free⟩ hs, by simpa using I.len⟩ ⟨_, hs, .inl rfl⟩
    · exact (hs.2 b (Nat.ne_of_lt (Nat.lt_of_lt_of_le (Heap.lt_size e) I.ok.above))).trans (I.base.keep b o e n hb hx)
    · obtain ⟨sl, e1⟩ := I.base.slot b o e n hb hx
      exact ⟨sl, (hs.2 b (Nat.ne_of_lt (Nat.lt_of_lt_of_le (Heap.lt_size e) I.ok.above))).trans e1⟩
    · obtain ⟨o', e1⟩ := I.base.there b o e hx
      exact ⟨o', (hs.2 b (Nat.ne_of_lt (Nat.lt_of_lt_of_le (Heap.lt_size e) I.ok.above))).trans e1⟩
    · by_cases hj : j = i
      · subst hj
        rw [hi] at e1; cases e1
        rw [List.getElem?_set_self hiσ] at e2
        cases e2
        exact ⟨u, r, .inl ⟨hk, by simp⟩⟩
      · rw [List.getElem?_set_ne (Ne.symm hj)] at e2
        obtain ⟨u', r', q⟩ := hl j y v' e1 e2 e3
        refine ⟨u', r', ?_⟩
        rcases q with ⟨k, e⟩ | ⟨k, c, e, z⟩
        · refine .inl ⟨k, ?_⟩
          have : y ≠ x := fun e => hj (nodup_ix hN e1 (e ▸ hi))
          simp [this, e]
        · exact .inr ⟨k, c, e, z.sameBut hs (cne y c e)⟩
    · obtain ⟨w', z⟩ := I.cell y c e
      exact ⟨w', z.sameBut hs (cne y c e)⟩
    · obtain ⟨e, n, ne, nf, d⟩ := I.pin p hp
      exact ⟨(hs.2 p.1 ne).trans e, n, ne, nf, d⟩
  · have hfn : X.fn x = true := by
      rcases hf with z | z
      · exact z
      · rw [z] at hk; cases hk
    obtain ⟨c, hc⟩ := I.ok.has x (.inl hk)
    obtain ⟨w', z⟩ := I.cell x c hc
    refine wpAny_storeName_cell I.ok.kind hk hc z (fun h' hc' hs => ?_)
    obtain ⟨oc, hoc, hocd⟩ := id z
    refine h { s with heap := h' } ⟨I.ok, I.os, I.bare, ⟨fun b o e n hb hx => ?_, fun b o e n hb hx => ?_, I.base.free, fun b o e hx => ?_, I.base.tups, I.base.frzs, I.base.tbls⟩, ⟨m, hn.sameBut hs (Ne.symm (cne x c hc)), fun j y v' e1 e2 e3 => ?_⟩, fun y c' e => ?_, I.free, I.freeC, fun p hp => ?_, tracked ⟨oc, hoc, I.freeC x c hc⟩ hs, by simpa using I.len⟩ ⟨c, hs, .inr hc⟩
    · exact (hs.2 b (Nat.ne_of_lt (Nat.lt_of_lt_of_le (Heap.lt_size e) (I.ok.cab x c hfn hc)))).trans (I.base.keep b o e n hb hx)
    · obtain ⟨sl, e1⟩ := I.base.slot b o e n hb hx
      exact ⟨sl, (hs.2 b (Nat.ne_of_lt (Nat.lt_of_lt_of_le (Heap.lt_size e) (I.ok.cab x c hfn hc)))).trans e1⟩
    · obtain ⟨o', e1⟩ := I.base.there b o e hx
      exact ⟨o', (hs.2 b (Nat.ne_of_lt (Nat.lt_of_lt_of_le (Heap.lt_size e) (I.ok.cab x c hfn hc)))).trans e1⟩
    · by_cases hj : j = i
      · subst hj
        rw [hi] at e1; cases e1
        rw [List.getElem?_set_self hiσ] at e2
        cases e2
        exact ⟨u, r, .inr ⟨.inl hk, c, hc, hc'⟩⟩
      · rw [List.getElem?_set_ne (Ne.symm hj)] at e2
        obtain ⟨u', r', q⟩ := hl j y v' e1 e2 e3
        refine ⟨u', r', ?_⟩
        rcases q with q | ⟨k, c', e, z'⟩
        · exact .inl q
        · refine .inr ⟨k, c', e, z'.sameBut hs ?_⟩
          rintro rfl
          exact hj (nodup_ix hN e1 (I.ok.inj _ _ _ e hc ▸ hi))
    · by_cases hcc : c' = c
      · subst hcc; exact ⟨_, hc'⟩
      · obtain ⟨w2, z2⟩ := I.cell y c' e
        exact ⟨w2, z2.sameBut hs hcc⟩
    · obtain ⟨e, n, ne, nf, d⟩ := I.pin p hp
      refine ⟨(hs.2 p.1 ?_).trans e, n, ne, nf, d⟩
      intro q
      rw [q, hoc] at e
      have q' : oc = p.2 := Option.some.inj e
      exact d w' (by rw [← q']; exact hocd)
theorem store_ok {M : Model} {A : Around} {E : Value → Shared → Prop} {i : Nat} {x : Str} {v : V} {u : Value} {Q : Unit → Shared → Prop} (I : Inv X pins σ H s) (hN : X.N.Nodup) (hi : X.N[i]? = some x) (hx : Loc X.env.scope x) (r : RelV v u)
    (h : ∀ s', Inv X pins (σ.set i (some v)) H s' → Q () s') (hf : X.fn x = true ∨ X.env.scope.names.lookup x = some .local := by first | exact .inl rfl | exact .inr rfl | assumption) : wpAny M A (storeName X.env x u) Q E s :=
  store_ok2 I hN hi hx r (fun s' I' _ => h s' I') hf
/-- behind a call or a block, the state as it is -/
theorem Inv.call' {s' : Shared} {ch : List Addr} (I : Inv X pins σ H s) (ho : s'.os = s.os) (u : Un (frs X.stack) ch H H' s.heap s'.heap) (hok : HOk X.prog X.w H' s'.heap) (hg : AllBare s'.gens)
    (hch : ∀ b ∈ ch, (b ∈ X.ex ∨ X.s₀.heap.objs.size ≤ b) ∧ b ≠ X.env.locals ∧ (∀ x c, X.env.cells.lookup x = some c → c ≠ b) ∧ ∀ p ∈ X.pn ++ pins, p.1 ≠ b) : Inv X pins σ H' s' := by
  obtain ⟨h', g', d', t', o'⟩ := s'
  have e : o' = s.os := ho
  subst e
  exact I.call (g' := g') (t' := t') (d' := d') u hok hg hch
end

/-! ### the judgements -/
/-- an exception: its class, its own dict's address (where it has one), the abstract heap behind it -/
abbrev XK := Value → Option Addr → Hp → Prop
abbrev St := List (Option V)
abbrev VK := V → Hp → Prop
/-- an expression's reading; a test's; an argument list's -/
abbrev TE := St → Hp → VK → Prop
abbrev TT := St → Hp → (Bool → Hp → Prop) → Prop
abbrev TA := St → Hp → (List V → Hp → Prop) → Prop
/-- what is wanted behind a statement -/
structure Ends where
  nx : St → Hp → Prop
  rt : VK
  bk : St → Hp → Prop := fun _ _ => False
  ct : St → Hp → Prop := fun _ _ => False
abbrev TS := Ends → St → Hp → Prop

def EP (X : Cx) (pins : List (Addr × Obj)) (σ : St) (Q : VK) (u : Value) (s' : Shared) : Prop := ∃ v H', Inv X pins σ H' s' ∧ RelV v u ∧ Q v H'
def TP (X : Cx) (pins : List (Addr × Obj)) (σ : St) (Q : Bool → Hp → Prop) (b : Bool) (s' : Shared) : Prop := ∃ H', Inv X pins σ H' s' ∧ Q b H'
def AP (X : Cx) (pins : List (Addr × Obj)) (σ : St) (Q : List V → Hp → Prop) (us : List Value) (s' : Shared) : Prop := ∃ vs H', Inv X pins σ H' s' ∧ Vals vs us ∧ Q vs H'
def SP (X : Cx) (pins : List (Addr × Obj)) (D : Ends) (f : Flow) (s' : Shared) : Prop :=
  match f with
  | .next => ∃ σ' H', Inv X pins σ' H' s' ∧ D.nx σ' H'
  | .brk => ∃ σ' H', Inv X pins σ' H' s' ∧ D.bk σ' H'
  | .cont => ∃ σ' H', Inv X pins σ' H' s' ∧ D.ct σ' H'
  | .ret u => ∃ v σ' H', Inv X pins σ' H' s' ∧ RelV v u ∧ D.rt v H'

def PE (X : Cx) (e : Expr) (t : TE) : Prop :=
  ∀ (pins : List (Addr × Obj)) (s : Shared) (σ : St) (H : Hp) (Q : VK), Inv X pins σ H s → t σ H Q → wpAny (model X.prog X.w) X.A (eval e X.env) (EP X pins σ Q) X.xe s
def PT (X : Cx) (e : Expr) (t : TT) : Prop :=
  ∀ (pins : List (Addr × Obj)) (s : Shared) (σ : St) (H : Hp) (Q : Bool → Hp → Prop), Inv X pins σ H s → t σ H Q → wpAny (model X.prog X.w) X.A (isTrue e X.env (eval e X.env)) (TP X pins σ Q) X.xe s
/-- a test whatever its 'whole' is (and, or) -/
def PW (X : Cx) (e : Expr) (t : TT) : Prop :=
  ∀ (whole : Sem Value) (pins : List (Addr × Obj)) (s : Shared) (σ : St) (H : Hp) (Q : Bool → Hp → Prop), Inv X pins σ H s → t σ H Q → wpAny (model X.prog X.w) X.A (isTrue e X.env whole) (TP X pins σ Q) X.xe s
theorem PW.pt {X : Cx} {e : Expr} {t : TT} (h : PW X e t) : PT X e t := h _
/-- an argument list (no star), from the left -/
def PA (X : Cx) (es : List Expr) (t : TA) : Prop :=
  ∀ (pos : Pos) (pins : List (Addr × Obj)) (s : Shared) (σ : St) (H : Hp) (Q : List V → Hp → Prop), Inv X pins σ H s → t σ H Q → wpAny (model X.prog X.w) X.A (spliced (backTo pos (starEach es X.env))) (AP X pins σ Q) X.xe s
def PS (X : Cx) (st : Stmt) (t : TS) : Prop :=
  ∀ (pins : List (Addr × Obj)) (s : Shared) (σ : St) (H : Hp) (D : Ends), Inv X pins σ H s → t D σ H → wpAny (model X.prog X.w) X.A (exec st X.env) (SP X pins D) X.xe s
def PSs (X : Cx) (st : List Stmt) (t : TS) : Prop :=
  ∀ (pins : List (Addr × Obj)) (s : Shared) (σ : St) (H : Hp) (D : Ends), Inv X pins σ H s → t D σ H → wpAny (model X.prog X.w) X.A (execs st X.env) (SP X pins D) X.xe s
/-- weaken the end -/
theorem thn {α : Type} {t : Sem α} {Q Q' : α → Shared → Prop} {M : Model} {A : Around} {E : Value → Shared → Prop} {s : Shared} (h : wpAny M A t Q E s) (hQ : ∀ a s, Q a s → Q' a s) : wpAny M A t Q' E s := wpAny_mono h hQ fun _ _ x => x
end L2

namespace L2
open PySem PySem.Spec PyProof.Rows
section
variable {X : Cx}

/-! ### names and constants -/
def tVar (i : Nat) : TE := fun σ H Q => ∃ v, σ[i]? = some (some v) ∧ Q v H
def tC (v : V) : TE := fun _ H Q => Q v H
theorem pe_var {i : Nat} {x : Str} {pos : Pos} (hN : X.N[i]? = some x) (hv : Vis X.env.scope x) (hd : (x == ("__debug__" : Str)) = false := by decide) (hcd : (x == ("__classdict__" : Str)) = false := by decide) : PE X (.Name x pos) (tVar i) := by
  intro pins s σ H Q I h
  obtain ⟨v, e, h⟩ := h
  obtain ⟨m, hn, hl⟩ := I.loc
  obtain ⟨u, r, l⟩ := hl i x v hN e hv
  have fin : EP X pins σ Q u s := ⟨v, H, I, r, h⟩
  rcases l with ⟨hk, hm⟩ | ⟨hk, c, hc, hcell⟩
  · exact wpAny_Name (wpAny_loadName_local I.ok.kind hk hn hm fin) hd
  · rcases hk with hk | hk
    · exact wpAny_Name (wpAny_loadName_cell I.ok.kind hk hc hcell fin) hd
    · exact wpAny_Name (wpAny_loadName_free I.ok.kind hk hc hcell fin hcd) hd
theorem pe_int {i j pos} : PE X (.Constant (.int i) j pos) (tC (.int i)) := fun _ _ _ H _ I h => wpAny_Constant_int ⟨.int i, H, I.tok _, ⟨_, rfl⟩, h⟩
theorem pe_bl {b j pos} : PE X (.Constant (.bool b) j pos) (tC (.bl b)) := fun _ _ _ H _ I h => Constant_bool ⟨.bl b, H, I, rfl, h⟩
/-- a global name of the def -/
def Gl (X : Cx) (x : Str) : Prop := X.env.kindOf x = some .globalImplicit
theorem ld_glob {E : Value → Shared → Prop} {pins : List (Addr × Obj)} {s : Shared} {σ : St} {H : Hp} {x : Str} {u : Value} {pos : Pos} {Q : Value → Shared → Prop} (I : Inv X pins σ H s) (hg : Gl X x) (hm : X.mg x = some u) (h : Q u s)
    (hd : (x == ("__debug__" : Str)) = false := by decide) : wpAny (model X.prog X.w) X.A (eval (.Name x pos) X.env) Q E s :=
  Calls.Name_function_global I.ok.kind hg (Calls.loadGlobal_global (by rw [I.ok.glob]; exact I.mod.glob.keeps I.bk) hm h) hd
theorem ld_blt {E : Value → Shared → Prop} {pins : List (Addr × Obj)} {s : Shared} {σ : St} {H : Hp} {x : Str} {u : Value} {pos : Pos} {Q : Value → Shared → Prop} (I : Inv X pins σ H s) (hg : Gl X x) (hm : X.mg x = none) (hv : bootBuiltins x = some u) (h : Q u s)
    (hn : x ≠ "__name__" := by decide) (hd : (x == ("__debug__" : Str)) = false := by decide) : wpAny (model X.prog X.w) X.A (eval (.Name x pos) X.env) Q E s := by
  obtain ⟨mb, h1, h2⟩ := I.mod.blt
  exact Calls.Name_function_global I.ok.kind hg (Calls.loadGlobal_builtin (by rw [I.ok.glob]; exact I.mod.glob.keeps I.bk) hm (by rw [I.ok.blt]; exact h1.keeps I.bk) ((h2 x hn).trans hv) h) hd
/-- a module's constant, a class, a function, as a value -/
theorem pe_glob {x : Str} {v : V} {u : Value} {pos : Pos} (hg : Gl X x) (hm : X.mg x = some u) (r : RelV v u) (hd : (x == ("__debug__" : Str)) = false := by decide) : PE X (.Name x pos) (tC v) :=
  fun _ _ _ H _ I h => ld_glob I hg hm ⟨v, H, I, r, h⟩ hd
theorem pe_bltn {x : Str} {v : V} {u : Value} {pos : Pos} (hg : Gl X x) (hm : X.mg x = none) (hv : bootBuiltins x = some u) (r : RelV v u) (hn : x ≠ "__name__" := by decide) (hd : (x == ("__debug__" : Str)) = false := by decide) : PE X (.Name x pos) (tC v) :=
  fun _ _ _ H _ I h => ld_blt I hg hm hv ⟨v, H, I, r, h⟩ hn hd

/-! ### arithmetic -/
variable {a b : Expr} {ta tb : TE} {pos : Pos}
/-! ### comparisons -/
/-- a comparison as a value, as a test -/
def tB (t : TE) : TT := fun σ H Q => t σ H fun x H1 => ∃ c, x = .bl c ∧ Q c H1
/-- an expression whose value is a bool, as a test -/
theorem pt_val {e : Expr} {t : TE} (h : PE X e t) (he : ∀ whole, isTrue e X.env whole = (do let v ← whole; standAt e.pos; holding [v] (truthy v)) := by intro _; rfl) : PT X e (tB t) := by
  intro pins s σ H Q I hw
  refine isTrue_plain (thn (h pins s σ H _ I hw) fun v s1 ⟨x, H1, I1, r1, q1⟩ => ?_) (he _)
  obtain ⟨d, rfl, q⟩ := q1
  cases r1
  exact wpAny_truthy_bool ⟨H1, I1, q⟩

/-! ### and, or, not -/
variable {tA tB' : TT} {rest : List Expr}
def tAnd (t u : TT) : TT := fun σ H Q => t σ H fun c H1 => if c = true then u σ H1 Q else Q false H1
def tOr (t u : TT) : TT := fun σ H Q => t σ H fun c H1 => if c = true then Q true H1 else u σ H1 Q
def tNot (t : TT) : TT := fun σ H Q => t σ H fun c H1 => Q (!c) H1
theorem pw_and1 (ha : PT X a tA) : PW X (.BoolOp .And [a] pos) tA := by
  intro wh pins s σ H Q I h
  refine isTrue_and (thn (ha pins s σ H Q I h) fun c s1 e => ?_)
  cases c with
  | true => exact isTrue_and_nil e
  | false => exact e
theorem pw_or1 (ha : PT X a tA) : PW X (.BoolOp .Or [a] pos) tA := by
  intro wh pins s σ H Q I h
  refine isTrue_or (thn (ha pins s σ H Q I h) fun c s1 e => ?_)
  cases c with
  | false => exact isTrue_or_nil e
  | true => exact e
theorem pw_and (ha : PT X a tA) (hb : PW X (.BoolOp .And (b :: rest) pos) tB') : PW X (.BoolOp .And (a :: b :: rest) pos) (tAnd tA tB') := by
  intro wh pins s σ H Q I h
  refine isTrue_and (thn (ha pins s σ H _ I h) fun c s1 ⟨H1, I1, q1⟩ => ?_)
  cases c with
  | true => exact hb wh pins s1 σ H1 Q I1 q1
  | false => exact ⟨H1, I1, q1⟩
theorem pw_or (ha : PT X a tA) (hb : PW X (.BoolOp .Or (b :: rest) pos) tB') : PW X (.BoolOp .Or (a :: b :: rest) pos) (tOr tA tB') := by
  intro wh pins s σ H Q I h
  refine isTrue_or (thn (ha pins s σ H _ I h) fun c s1 ⟨H1, I1, q1⟩ => ?_)
  cases c with
  | true => exact ⟨H1, I1, q1⟩
  | false => exact hb wh pins s1 σ H1 Q I1 q1
theorem pt_not (ha : PT X a tA) : PT X (.UnaryOp .Not a pos) (tNot tA) := by
  intro pins s σ H Q I h
  exact isTrue_not (ha pins s σ H (fun c H1 => Q (!c) H1) I h)
/-- .. as values (bools) -/
def tAndV (ta tb : TE) : TE := fun σ H Q => ta σ H fun x H1 => ∃ c, x = .bl c ∧ if c = true then tb σ H1 Q else Q (.bl false) H1
def tOrV (ta tb : TE) : TE := fun σ H Q => ta σ H fun x H1 => ∃ c, x = .bl c ∧ if c = true then Q (.bl true) H1 else tb σ H1 Q
def tNotV (ta : TE) : TE := fun σ H Q => ta σ H fun x H1 => ∃ c, x = .bl c ∧ Q (.bl (!c)) H1
theorem pe_one {op} {t : TE} (h : PE X a t) : PE X (.BoolOp op [a] pos) t := fun pins s σ H Q I hw => BoolOp_one (h pins s σ H Q I hw)
theorem pe_and (ha : PE X a ta) (hb : PE X (.BoolOp .And (b :: rest) pos) tb) : PE X (.BoolOp .And (a :: b :: rest) pos) (tAndV ta tb) := by
  intro pins s σ H Q I h
  refine BoolOp_and (thn (ha pins s σ H _ I h) fun v s1 ⟨x, H1, I1, r1, q1⟩ => ?_)
  obtain ⟨c, rfl, q1⟩ := q1
  cases r1
  refine wpAny_truthy_bool ?_
  cases c with
  | true => exact hb pins s1 σ H1 Q I1 q1
  | false => exact ⟨.bl false, H1, I1, rfl, q1⟩
theorem pe_or (ha : PE X a ta) (hb : PE X (.BoolOp .Or (b :: rest) pos) tb) : PE X (.BoolOp .Or (a :: b :: rest) pos) (tOrV ta tb) := by
  intro pins s σ H Q I h
  refine BoolOp_or (thn (ha pins s σ H _ I h) fun v s1 ⟨x, H1, I1, r1, q1⟩ => ?_)
  obtain ⟨c, rfl, q1⟩ := q1
  cases r1
  refine wpAny_truthy_bool ?_
  cases c with
  | false => exact hb pins s1 σ H1 Q I1 q1
  | true => exact ⟨.bl true, H1, I1, rfl, q1⟩
theorem pe_not (ha : PE X a ta) : PE X (.UnaryOp .Not a pos) (tNotV ta) := by
  intro pins s σ H Q I h
  refine UnaryOp_ (thn (ha pins s σ H _ I h) fun v s1 ⟨x, H1, I1, r1, q1⟩ => ?_)
  obtain ⟨c, rfl, q1⟩ := q1
  cases r1
  exact not_of (wpAny_truthy_bool ⟨.bl (!c), H1, I1, rfl, q1⟩)
/-- a if t else b -/
def tIf (t : TT) (ta tb : TE) : TE := fun σ H Q => t σ H fun c H1 => if c = true then ta σ H1 Q else tb σ H1 Q
theorem pe_ifExp {c : Expr} (hc : PT X c tA) (ha : PE X a ta) (hb : PE X b tb) : PE X (.IfExp c a b pos) (tIf tA ta tb) := by
  intro pins s σ H Q I h
  refine wpAny_IfExp (thn (hc pins s σ H _ I h) fun d s1 ⟨H1, I1, q1⟩ => ?_)
  cases d with
  | true => exact ha pins s1 σ H1 Q I1 q1
  | false => exact hb pins s1 σ H1 Q I1 q1
end
end L2

namespace L2
open PySem PySem.Spec PyProof.Rows

/-! ### a list, a tuple that is read: tracked, frozen, or an object of the module -/
def SqL (K : PySem.W.Frag) (H : Hp) (a : Addr) (xs : List V) : Prop :=
  Rd H a (.lst xs) ∨
    ∃ (o : Obj) (its : Array Value) (n : Nat), K.lookup a = some o ∧ o.cls = .type "list" ∧ o.dict = none ∧ o.data = .seq its n ∧ its.size ≤ sizeLine ∧ Vals xs its.toList
def SqT (K : PySem.W.Frag) (H : Hp) (a : Addr) (xs : List V) : Prop :=
  Rd H a (.tup xs) ∨
    ∃ (o : Obj) (its : Array Value) (n : Nat), K.lookup a = some o ∧ o.cls = .type "tuple" ∧ o.data = .seq its n ∧ its.size ≤ sizeLine ∧ Vals xs its.toList
def absV : Value → Option V
  | .none => some .non
  | .bool b => some (.bl b)
  | .int i _ => some (.int i)
  | .str x _ => some (.str x)
  | .bytes b _ => some (.byt b)
  | .float b _ => some (.flt b)
  | .ref a => some (.ref a)
  | .type n => some (.ty n)
  | _ => none
theorem RelV.abs {x : V} {u : Value} (r : RelV x u) : absV u = some x := by
  cases x with
  | non => cases r; rfl
  | bl _ => cases r; rfl
  | int _ => obtain ⟨t, rfl⟩ := r; rfl
  | str _ => obtain ⟨t, rfl⟩ := r; rfl
  | byt _ => obtain ⟨t, rfl⟩ := r; rfl
  | flt _ => obtain ⟨t, rfl⟩ := r; rfl
  | ref _ => cases r; rfl
  | ty _ => cases r; rfl
theorem RelV.inj {x y : V} {u : Value} (r : RelV x u) (q : RelV y u) : x = y := Option.some.inj (r.abs.symm.trans q.abs)
theorem Vals.inj : ∀ {xs ys : List V} {us : List Value}, Vals xs us → Vals ys us → xs = ys
  | _, _, _, .nil, .nil => rfl
  | _, _, _, .cons r t, .cons r' t' => by rw [r.inj r', Vals.inj t t']
section
variable {X : Cx} {pins : List (Addr × Obj)} {σ : St} {H : Hp} {s : Shared} {a : Addr} {xs ys : List V}
theorem SqL.of {K : PySem.W.Frag} (h : H a = some (.lst xs)) : SqL K H a xs := .inl (.inl h)
theorem SqT.of {K : PySem.W.Frag} (h : H a = some (.tup xs)) : SqT K H a xs := .inl (.inl h)
theorem Inv.list (I : Inv X pins σ H s) (h : SqL X.K H a xs) : ∃ its : List Value, Vals xs its ∧ PlainL s.heap a its.toArray ∧ xs.length ≤ sizeLine := by
  rcases h with h | ⟨o, its, n, hk, hc, hd, hs, hz, r⟩
  · obtain ⟨z, its, n, r, e⟩ := h.ok I.hok
    exact ⟨its, r, ⟨_, n, e, rfl, rfl, rfl⟩, z⟩
  · refine ⟨its.toList, r, ⟨o, n, I.kIn a o hk, hc, hd, by simpa using hs⟩, ?_⟩
    have e := r.length
    simp only [Array.length_toList] at e
    omega
theorem Inv.tuple (I : Inv X pins σ H s) (h : SqT X.K H a xs) : ∃ its : List Value, Vals xs its ∧ IsTup s.heap a its.toArray ∧ xs.length ≤ sizeLine := by
  rcases h with h | ⟨o, its, n, hk, hc, hs, hz, r⟩
  · obtain ⟨z, its, r, p⟩ := h.ok I.hok
    exact ⟨its, r, p, z⟩
  · refine ⟨its.toList, r, ⟨o, I.kIn a o hk, hc, n, by simpa using hs⟩, ?_⟩
    have e := r.length
    simp only [Array.length_toList] at e
    omega
theorem Inv.list_inj (I : Inv X pins σ H s) (h : SqL X.K H a xs) (h' : SqL X.K H a ys) : xs = ys := by
  obtain ⟨its, r, ⟨o, n, e, _, _, d⟩, _⟩ := I.list h
  obtain ⟨its', r', ⟨o', n', e', _, _, d'⟩, _⟩ := I.list h'
  rw [e] at e'; cases e'
  rw [d] at d'
  injection d' with d1 _
  have : its = its' := by simpa using congrArg Array.toList d1
  subst this
  exact r.inj r'
end

/-! ### another wish about exceptions -/
abbrev Cx.wish (X : Cx) (E : Value → Shared → Prop) : Cx := { X with xe := E }
/-- no exception leaves -/
abbrev Cx.nox (X : Cx) : Cx := X.wish fun _ _ => False
theorem Cx.Ok.wish {X : Cx} (ok : X.Ok) (E : Value → Shared → Prop) : (X.wish E).Ok :=
  ⟨ok.mod, ok.kind, ok.glob, ok.blt, ok.above, ok.inj, ok.has, ok.cab, ok.hd, ok.frames, ok.stk, ok.exf, ok.bs, ok.bsz, ok.noex, ok.exfs, ok.funs, ok.frf⟩
theorem Cx.Ok.unwish {X : Cx} {E : Value → Shared → Prop} (ok : (X.wish E).Ok) : X.Ok :=
  ⟨ok.mod, ok.kind, ok.glob, ok.blt, ok.above, ok.inj, ok.has, ok.cab, ok.hd, ok.frames, ok.stk, ok.exf, ok.bs, ok.bsz, ok.noex, ok.exfs, ok.funs, ok.frf⟩
section
variable {X : Cx} {pins : List (Addr × Obj)} {σ : St} {H : Hp} {s : Shared} {E : Value → Shared → Prop}
theorem Inv.wish (I : Inv X pins σ H s) (E : Value → Shared → Prop) : Inv (X.wish E) pins σ H s := ⟨I.ok.wish E, I.os, I.bare, I.base, I.loc, I.cell, I.free, I.freeC, I.pin, I.hok, I.len⟩
theorem Inv.unwish (I : Inv (X.wish E) pins σ H s) : Inv X pins σ H s := ⟨I.ok.unwish, I.os, I.bare, I.base, I.loc, I.cell, I.free, I.freeC, I.pin, I.hok, I.len⟩
theorem SP.unwish {D : Ends} {f : Flow} {s' : Shared} (h : SP (X.wish E) pins D f s') : SP X pins D f s' := by
  cases f with
  | next => obtain ⟨σ', H', I, q⟩ := h; exact ⟨σ', H', I.unwish, q⟩
  | brk => obtain ⟨σ', H', I, q⟩ := h; exact ⟨σ', H', I.unwish, q⟩
  | cont => obtain ⟨σ', H', I, q⟩ := h; exact ⟨σ', H', I.unwish, q⟩
  | ret u => obtain ⟨v, σ', H', I, r, q⟩ := h; exact ⟨v, σ', H', I.unwish, r, q⟩
theorem PSs.nox {st : List Stmt} {t : TS} (h : PSs X.nox st t) : PSs X st t := fun pins s σ H D I hw =>
  wpAny_mono (h pins s σ H D (I.wish _) hw) (fun _ _ q => q.unwish) fun _ _ z => False.elim z
end

/-! ### blocks and small statements -/
section
variable {X : Cx} {st : Stmt} {rest : List Stmt} {t u : TS} {e : Expr} {te : TE} {pos : Pos}
def tNext : TS := fun D σ H => D.nx σ H
def tSeq (t u : TS) : TS := fun D σ H => t { D with nx := u D } σ H
theorem pss_nil : PSs X [] tNext := fun _ _ σ H _ I h => wpAny_execs_nil ⟨σ, H, I, h⟩
theorem pss_cons (h1 : PS X st t) (h2 : PSs X rest u) : PSs X (st :: rest) (tSeq t u) := by
  intro pins s σ H D I h
  refine wpAny_execs_cons (thn (h1 pins s σ H { D with nx := u D } I h) fun f s1 q => ?_)
  cases f with
  | next =>
    obtain ⟨σ', H', I', q⟩ := q
    exact h2 pins s1 σ' H' D I' q
  | ret v => exact q
  | brk => exact q
  | cont => exact q
theorem pss_one (h1 : PS X st t) : PSs X [st] t := by
  intro pins s σ H D I h
  refine wpAny_execs_cons (thn (h1 pins s σ H D I h) fun f s1 q => ?_)
  cases f with
  | next => exact wpAny_execs_nil q
  | ret v => exact q
  | brk => exact q
  | cont => exact q
/-- in a def's body nothing is shown -/
theorem Inv.quiet {pins : List (Addr × Obj)} {σ : St} {H : Hp} {s : Shared} (I : Inv X pins σ H s) : interactive X.env = false := by simp [interactive, I.ok.kind]
/-- an expression whose value is dropped -/
def tDrop (te : TE) : TS := fun D σ H => te σ H fun _ H1 => D.nx σ H1
theorem ps_expr (he : PE X e te) (hs : swapsWith e none pos.line X.env = pure false := by rfl) : PS X (.Expr e pos) (tDrop te) := by
  intro pins s σ H D I h
  exact wpAny_Expr_any (thn (he pins s σ H _ I h) fun v s1 ⟨x, H1, I1, r1, q1⟩ => ⟨σ, H1, I1, q1⟩) I.quiet hs
def tRet (te : TE) : TS := fun D σ H => te σ H D.rt
theorem ps_ret (he : PE X e te) : PS X (.Return (some e) pos) (tRet te) := by
  intro pins s σ H D I h
  exact wpAny_Return_some (thn (he pins s σ H _ I h) fun v s1 ⟨x, H1, I1, r1, q1⟩ => ⟨x, σ, H1, I1, r1, q1⟩)
def tIfS (c : TT) (t u : TS) : TS := fun D σ H => c σ H fun b H1 => if b = true then t D σ H1 else u D σ H1
theorem ps_if {c : Expr} {a b : List Stmt} {tc : TT} (hc : PT X c tc) (ha : PSs X a t) (hb : PSs X b u) : PS X (.If c a b pos) (tIfS tc t u) := by
  intro pins s σ H D I h
  refine wpAny_If (thn (hc pins s σ H _ I h) fun d s1 ⟨H1, I1, q1⟩ => ?_)
  cases d with
  | true => exact ha pins s1 σ H1 D I1 q1
  | false => exact hb pins s1 σ H1 D I1 q1
/-- code that the proof never comes to -/
def tNever : TS := fun _ _ _ => False
theorem pss_never {sts : List Stmt} : PSs X sts tNever := fun _ _ _ _ _ _ h => h.elim
end

/-! ### targets -/
abbrev TG := V → St → Hp → (St → Hp → Prop) → Prop
abbrev TGs := List V → St → Hp → (St → Hp → Prop) → Prop
def PG (X : Cx) (target : Expr) (t : TG) : Prop :=
  ∀ (pins : List (Addr × Obj)) (s : Shared) (σ : St) (H : Hp) (v : V) (u : Value) (Q : St → Hp → Prop), Inv X pins σ H s → RelV v u → t v σ H Q →
    wpAny (model X.prog X.w) X.A (assign target X.env u) (fun _ s' => ∃ σ' H', Inv X pins σ' H' s' ∧ Q σ' H') X.xe s
/-- several targets, one after another -/
def PGs (X : Cx) (ts : List Expr) (t : TGs) : Prop :=
  ∀ (pins : List (Addr × Obj)) (s : Shared) (σ : St) (H : Hp) (vs : List V) (us : List Value) (Q : St → Hp → Prop), Inv X pins σ H s → Vals vs us → t vs σ H Q →
    wpAny (model X.prog X.w) X.A (assignInOrder ((assignEach ts X.env).map (·.2)) us) (fun _ s' => ∃ σ' H', Inv X pins σ' H' s' ∧ Q σ' H') X.xe s
/-- o[i] = v, by values -/
abbrev TSet := V → V → V → Hp → (Hp → Prop) → Prop
def PSet (X : Cx) (t : TSet) : Prop :=
  ∀ (pins : List (Addr × Obj)) (s : Shared) (σ : St) (H : Hp) (o i v : V) (ov iv u : Value) (Q : Hp → Prop), Inv X pins σ H s → RelV o ov → RelV i iv → RelV v u → t o i v H Q →
    wpAny (model X.prog X.w) X.A (setItem ov iv u) (fun _ s' => ∃ H', Inv X pins σ H' s' ∧ Q H') X.xe s
section
variable {X : Cx} {pos : Pos}
def gName (i : Nat) : TG := fun v σ H Q => Q (σ.set i (some v)) H
theorem pg_name {i : Nat} {x : Str} (hN : X.N.Nodup) (hi : X.N[i]? = some x) (hx : Loc X.env.scope x) (hf : X.fn x = true ∨ X.env.scope.names.lookup x = some .local := by first | exact .inl rfl | exact .inr rfl | assumption) : PG X (.Name x pos) (gName i) := by
  intro pins s σ H v u Q I r h
  exact wpAny_assign_Name (store_ok I hN hi hx r (fun s' I' => ⟨_, H, I', h⟩) hf)
def gNil : TGs := fun vs σ H Q => vs = [] ∧ Q σ H
def gCons (t : TG) (u : TGs) : TGs := fun vs σ H Q => ∃ v r, vs = v :: r ∧ t v σ H fun σ' H' => u r σ' H' Q
theorem pgs_nil : PGs X [] gNil := by
  intro pins s σ H vs us Q I r h
  obtain ⟨e, h⟩ := h
  subst e
  cases r
  exact assignInOrder_nil ⟨σ, H, I, h⟩
theorem pgs_cons {e : Expr} {es : List Expr} {t : TG} {u : TGs} (h1 : PG X e t) (h2 : PGs X es u)
    (hs : (assignEach (e :: es) X.env).map (·.2) = assign e X.env :: (assignEach es X.env).map (·.2) := by rfl) : PGs X (e :: es) (gCons t u) := by
  intro pins s σ H vs us Q I r h
  obtain ⟨v, vr, e1, h⟩ := h
  subst e1
  cases r with
  | cons r rr =>
    rw [hs]
    refine assignInOrder_cons (thn (h1 pins s σ H _ _ _ I r h) fun _ s1 ⟨σ1, H1, I1, q1⟩ => ?_)
    exact h2 pins s1 σ1 H1 _ _ Q I1 rr q1
/-- (a, b, ..) = a tuple of that length -/
def gTup (K : PySem.W.Frag) (n : Nat) (t : TGs) : TG := fun v σ H Q => ∃ a xs, v = .ref a ∧ SqT K H a xs ∧ xs.length = n ∧ t xs σ H Q
theorem pg_tup {es : List Expr} {k : Nat} {t : TGs} {n : Nat} (hc : X.calm = true) (h : PGs X es t)
    (hn : (assignEach es X.env).length = n := by rfl) (hst : (assignEach es X.env).findIdx? (·.1) = none := by rfl) : PG X (.Tuple es k pos) (gTup X.K n t) := by
  intro pins s σ H v u Q I r hw
  obtain ⟨a, xs, e1, hq, hl, hw⟩ := hw
  subst e1
  cases r
  obtain ⟨its, rv, ht, hz⟩ := I.tuple hq
  refine assign_Tuple_tuple (I.ok.hd hc) ht (by simp [hn, ← hl, rv.length]) hst fun h' hx => ?_
  have I1 : Inv X pins σ H { s with heap := h' } := I.kept (t' := s.toks) fun b o e => hx b o (Nat.ne_of_lt (Heap.lt_size e)) e
  exact h pins _ σ H xs _ Q I1 (by simpa using rv) hw
/-- o[i] = .. -/
def gSub (to ti : TE) (t : TSet) : TG := fun v σ H Q => to σ H fun o H1 => ti σ H1 fun i H2 => t o i v H2 fun H3 => Q σ H3
theorem pg_sub {o i : Expr} {to ti : TE} {t : TSet} (ho : PE X o to) (hi : PE X i ti) (hs : PSet X t)
    (ha : ∀ v, assign (.Subscript o i pos) X.env v = (do
      let ov ← holding [v] (eval o X.env)
      let iv ← holding [v, ov] (eval i X.env)
      standAt pos
      holding [v, ov, iv] (setItem ov iv v)
      release [v, ov, iv] []) := by intro _; rfl) : PG X (.Subscript o i pos) (gSub to ti t) := by
  intro pins s σ H v u Q I r h
  rw [ha]
  refine wpAny_bind (wpAny_holding (thn (ho pins s σ H _ I h) fun ov s1 ⟨x, H1, I1, r1, q1⟩ => ?_))
  refine wpAny_bind (wpAny_holding (thn (hi pins s1 σ H1 _ I1 q1) fun iv s2 ⟨y, H2, I2, r2, q2⟩ => ?_))
  refine wpAny_bind (wpAny_standAt (wpAny_bind (wpAny_holding (thn (hs pins s2 σ H2 x y v ov iv u _ I2 r1 r2 r q2) fun _ s3 ⟨H3, I3, q3⟩ => ?_))))
  exact wpAny_release ⟨σ, H3, I3, q3⟩
/-- target = value -/
def tAsg (te : TE) (g : TG) : TS := fun D σ H => te σ H fun x H1 => g x σ H1 D.nx
theorem ps_asg {tg e : Expr} {te : TE} {g : TG} (he : PE X e te) (hg : PG X tg g) (hs : swapsWithSole [tg] e pos.line X.env = pure false := by rfl) (hw : swappedStores [tg] e X.env = pure none := by rfl)
    (h1 : (assignEach [tg] X.env).map (·.2) = [assign tg X.env] := by rfl) : PS X (.Assign [tg] e pos) (tAsg te g) := by
  intro pins s σ H D I h
  refine wpAny_Assign_stores (thn (he pins s σ H _ I h) fun v s1 ⟨x, H1, I1, r1, q1⟩ => ?_) hs hw
  rw [h1]
  exact thn (hg pins s1 σ H1 x v _ I1 r1 q1) fun _ s2 q => q
/-- name = value -/
theorem ps_set {i : Nat} {x : Str} {e : Expr} {te : TE} {pos' : Pos} (hN : X.N.Nodup) (hi : X.N[i]? = some x) (hx : Loc X.env.scope x) (he : PE X e te) (hs : swapsWith e (some (.Name x pos')) pos.line X.env = pure false := by rfl) (hf : X.fn x = true ∨ X.env.scope.names.lookup x = some .local := by first | exact .inl rfl | exact .inr rfl | assumption) :
    PS X (.Assign [.Name x pos'] e pos) (tAsg te (gName i)) := by
  intro pins s σ H D I h
  refine wpAny_Assign_Name (thn (he pins s σ H _ I h) fun v s1 ⟨y, H1, I1, r1, q1⟩ => ?_) hs
  exact store_ok I1 hN hi hx r1 (fun s2 I2 => ⟨_, H1, I2, q1⟩) hf
end

/-! ### while -/
section
variable {X : Cx} {pos : Pos}
/-- the invariant W with its measure -/
def tWhile (c : TT) (tb : TS) : TS := fun D σ H => ∃ W : Nat → St → Hp → Prop, (∃ m, W m σ H) ∧ ∀ m σ H, W m σ H →
  c σ H fun b H1 => if b = true then ∃ N : St → Hp → Prop, (∀ σ' H', N σ' H' → ∃ m', m' < m ∧ W m' σ' H') ∧ tb { D with nx := N, ct := N, bk := D.nx } σ H1 else D.nx σ H1
theorem ps_while {c : Expr} {body : List Stmt} {tc : TT} {tb : TS} (hp : PassesOwn (model X.prog X.w) X.A X.env X.xe) (hc : PT X c tc) (hb : PSs X body tb) : PS X (.While c body [] pos) (tWhile tc tb) := by
  intro pins s σ H D I h
  obtain ⟨W, ⟨m0, w0⟩, turn⟩ := h
  refine wpAny_While (codeAny_whileLoop (fun n s' => ∃ σ' H', Inv X pins σ' H' s' ∧ W n σ' H') ?_ m0 ⟨σ, H, I, w0⟩)
  rintro n s1 ⟨σ1, H1, I1, w1⟩
  refine wpAny_passesOwn hp (thn (hc pins s1 σ1 H1 _ I1 (turn n σ1 H1 w1)) fun b s2 ⟨H2, I2, q2⟩ => ?_)
  cases b with
  | true =>
    obtain ⟨N, hN, q2⟩ := q2
    rw [if_pos rfl]
    refine wpAny_passesOwn hp (thn (hb pins s2 σ1 H2 _ I2 q2) fun f s3 q3 => ?_)
    cases f with
    | next =>
      obtain ⟨σ3, H3, I3, n3⟩ := q3
      obtain ⟨m', hm, w3⟩ := hN σ3 H3 n3
      exact ⟨m', hm, σ3, H3, I3, w3⟩
    | cont =>
      obtain ⟨σ3, H3, I3, n3⟩ := q3
      obtain ⟨m', hm, w3⟩ := hN σ3 H3 n3
      exact ⟨m', hm, σ3, H3, I3, w3⟩
    | brk => exact q3
    | ret v => exact q3
  | false =>
    rw [if_neg Bool.false_ne_true]
    exact wpAny_execs_nil ⟨σ1, H2, I2, q2⟩
end

/-! ### what a loop or a comprehension walks -/
/-- at turn i: it yields x (the heap may grow), or it stops -/
structure It where
  go : Nat → Hp → Prop
  yld : Nat → Hp → V → Hp → Prop
  stop : Nat → Hp → Prop
/-- the iterator's own objects may turn: they are not the frame's, not pinned, younger than the entry (or a comprehension's own) -/
def FpOk (X : Cx) (pins : List (Addr × Obj)) (H : Hp) (b : Addr) : Prop :=
  H b = none ∧ b ≠ X.env.locals ∧ b ∉ X.fs ∧ (b ∈ X.ex ∨ X.s₀.heap.objs.size ≤ b) ∧ (∀ x c, X.env.cells.lookup x = some c → c ≠ b) ∧ ∀ p ∈ X.pn ++ pins, p.1 ≠ b
theorem Inv.fpOk {X : Cx} {pins : List (Addr × Obj)} {σ : St} {H H' : Hp} {s : Shared} {b : Addr} (I : Inv X pins σ H s) (hb : s.heap.objs.size ≤ b) (hn : H' b = none) : FpOk X pins H' b := by
  refine ⟨hn, Nat.ne_of_gt (Nat.lt_of_lt_of_le I.lt hb), I.nofs hb, .inr (Nat.le_trans I.sz hb), fun x c e z => ?_, fun p hp z => ?_⟩
  · obtain ⟨v, q⟩ := I.cell x c e
    exact absurd (Nat.lt_of_lt_of_le q.lt (by rw [z]; exact hb)) (Nat.lt_irrefl _)
  · exact absurd (Nat.lt_of_lt_of_le (Heap.lt_size (I.pin p hp).1) (by rw [z]; exact hb)) (Nat.lt_irrefl _)
structure Turn (P : Program) (w : World) (K : PySem.W.Frag) (tg : Expr) (J : It) (fp : List Addr) (it : Addr) (tn : Nat → Heap → Prop) : Prop where
  mem : it ∈ fp
  obj : ∀ i h, tn i h → ∀ b ∈ fp, ∃ o, h.get? b = some o ∧ ∀ v, o.data ≠ .cell v
  keep : ∀ i h h', tn i h → (∀ b ∈ fp, ∀ o, h.get? b = some o → h'.get? b = some o) → tn i h'
  item : ∀ (X : Cx), X.prog = P → X.w = w → X.K = K → X.calm = true → ∀ (i : Nat) (pins : List (Addr × Obj)) (s : Shared) (σ : St) (H : Hp) (E : Value → Shared → Prop), Inv X pins σ H s → (∀ b ∈ fp, FpOk X pins H b) → tn i s.heap → J.go i H →
    wpAny (model P w) X.A (pyNext (.ref it)) (fun r s1 => ∃ u, r = some u ∧
      wpAny (model P w) X.A (letOwnedTupleGo tg (.ref it) u) (fun _ s2 => ∃ x H', Inv X pins σ H' s2 ∧ RelV x u ∧ J.yld i H x H' ∧ tn (i + 1) s2.heap ∧ ∀ b ∈ fp, H' b = none) E s1) E s
  done : ∀ (X : Cx), X.prog = P → X.w = w → X.K = K → X.calm = true → ∀ (i : Nat) (pins : List (Addr × Obj)) (s : Shared) (σ : St) (H : Hp) (E : Value → Shared → Prop), Inv X pins σ H s → (∀ b ∈ fp, FpOk X pins H b) → tn i s.heap → J.stop i H →
    wpAny (model P w) X.A (pyNext (.ref it)) (fun r s1 => r = none ∧ Inv X pins σ H s1) E s
  self : ∀ (A : Around) (i : Nat) (s : Shared) (Q : Value → Shared → Prop) (E : Value → Shared → Prop), tn i s.heap → Q (.ref it) s → wpAny (model P w) A (pyIter (.ref it)) Q E s
abbrev TI := St → Hp → (It → Hp → Prop) → Prop
/-- an iterator has come -/
def PIE (X : Cx) (pins : List (Addr × Obj)) (σ : St) (tg : Expr) (R : It → Hp → Prop) (itv : Value) (s2 : Shared) : Prop :=
  ∃ (it : Addr) (fp : List Addr) (tn : Nat → Heap → Prop) (J : It) (H' : Hp), itv = .ref it ∧ Inv X pins σ H' s2 ∧ Turn X.prog X.w X.K tg J fp it tn ∧ tn 0 s2.heap ∧ (∀ b ∈ fp, FpOk X pins H' b) ∧ R J H'
def PI (X : Cx) (tg iter : Expr) (wi : TI) : Prop :=
  ∀ (pins : List (Addr × Obj)) (s : Shared) (σ : St) (H : Hp) (R : It → Hp → Prop), Inv X pins σ H s → wi σ H R →
    wpAny (model X.prog X.w) X.A (eval iter X.env) (fun v s1 => wpAny (model X.prog X.w) X.A (pyIter v) (PIE X pins σ tg R) X.xe s1) X.xe s

/-- the step ahead of the store is nothing for an iterator that keeps no tuple -/
theorem go_of {M : Model} {A : Around} {E : Value → Shared → Prop} {s : Shared} {tg : Expr} {it : Addr} {u : Value} {o : Obj} {n : String} {vs : Array Value} {Q : Unit → Shared → Prop} (ho : s.heap.get? it = some o) (hc : o.cls = .type n) (hd : o.data = .fields vs)
    (hn : ["enumerate", "zip", "dict_itemiterator", "dict_reverseitemiterator", "odict_iterator", "itertools.zip_longest", "itertools.pairwise"].contains n = false) (hQ : Q () s) : wpAny M A (letOwnedTupleGo tg (.ref it) u) Q E s := by
  unfold letOwnedTupleGo
  cases tg <;> first
    | exact wpAny_pure hQ
    | (cases u <;> first
        | exact wpAny_pure hQ
        | (refine wpAny_bind (wpAny_load ho ?_)
           rw [hc, hd]
           show wpAny M A (if (["enumerate", "zip", "dict_itemiterator", "dict_reverseitemiterator", "odict_iterator", "itertools.zip_longest", "itertools.pairwise"].contains n && vs[0]? == some (rawInt _)) = true then _ else _) Q E s
           rw [if_neg (by intro h; rw [hn, Bool.false_and] at h; cases h)]
           exact wpAny_pure hQ))

/-- the list at a, as it stands at each turn (a loop may append to it) -/
def Itl (K : PySem.W.Frag) (a : Addr) : It :=
  ⟨fun i H => ∃ xs x, SqL K H a xs ∧ xs[i]? = some x, fun i H x H' => H' = H ∧ ∀ xs, SqL K H a xs → xs[i]? = some x, fun i H => ∃ xs, SqL K H a xs ∧ xs.length ≤ i⟩
/-- lo, lo + 1, .. (n of them) -/
def Itr (lo : Int) (n : Nat) : It := ⟨fun i _ => i < n, fun i H x H' => H' = H ∧ x = .int (lo + i), fun i _ => n ≤ i⟩
theorem turn_list {P : Program} {w : World} {K : PySem.W.Frag} {tg : Expr} (a it : Addr) : Turn P w K tg (Itl K a) [it] it (fun i h => h.IsListIter it a i) where
  mem := by simp
  obj := fun i h st b hb => by
    have e : b = it := by simpa using hb
    subst e
    obtain ⟨o, e, c, d⟩ := st
    exact ⟨o, e, fun v z => by rw [d] at z; cases z⟩
  keep := fun i h h' st k => st.at fun o e => k it (by simp) o e
  item := by
    intro X hP hw hK hc i pins s σ H E I hf st hg
    subst hP hw hK
    obtain ⟨xs, x, hq, hx⟩ := hg
    obtain ⟨its, rv, p, hz⟩ := I.list hq
    obtain ⟨u, hu, ru⟩ := rv.get hx
    obtain ⟨f0, f1, f2, f3, f4, f5⟩ := hf it (by simp)
    refine wpAny_pyNext_list_item st p.isList (x := u) (by simpa using hu) fun h' st' sb => ?_
    have I1 : Inv X pins σ H { s with heap := h' } := I.turned (t' := s.toks) (fun b o hb e => (sb.2 b hb).trans e) f0 f1 f3 f4 f5
    obtain ⟨o, e, c, d⟩ := id st'
    exact ⟨u, rfl, go_of (s := { s with heap := h' }) e c d (by decide) ⟨x, H, I1, ru, ⟨rfl, fun ys hy => by rw [I.list_inj hy hq]; exact hx⟩, st', fun b hb => (hf b hb).1⟩⟩
  done := by
    intro X hP hw hK hc i pins s σ H E I hf st hg
    subst hP hw hK
    obtain ⟨xs, hq, hx⟩ := hg
    obtain ⟨its, rv, p, hz⟩ := I.list hq
    obtain ⟨f0, f1, f2, f3, f4, f5⟩ := hf it (by simp)
    have hl := rv.length
    exact wpAny_pyNext_list_end (I.ok.hd hc) st p.isList (by simp; omega) fun h' eb => ⟨rfl, I.turned (t' := s.toks) (fun b o hb e => eb b o hb e) f0 f1 f3 f4 f5⟩
  self := fun _ _ _ _ _ st h => wpAny_pyIter_listiter st h
theorem turn_range {P : Program} {w : World} {K : PySem.W.Frag} {tg : Expr} (it : Addr) (lo : Int) (n : Nat) : Turn P w K tg (Itr lo n) [it] it (fun i h => IsRangeIter h it (lo + (i : Nat) * 1) ((n : Int) - (i : Nat)) 1) where
  mem := by simp
  obj := fun i h st b hb => by
    have e : b = it := by simpa using hb
    subst e
    exact ⟨_, st, fun v z => by
      have z' : Data.fields _ = Data.cell v := z
      cases z'⟩
  keep := fun i h h' st k => k it (by simp) _ st
  item := by
    intro X hP hw hK hc i pins s σ H E I hf st hg
    subst hP hw hK
    obtain ⟨f0, f1, f2, f3, f4, f5⟩ := hf it (by simp)
    have W := Walks.range (prog := X.prog) (w := X.w) (I.ok.hd hc) it lo 1 n
    refine W.item i s _ _ hg st fun v h' tk hv st' kk => ?_
    obtain ⟨t, rfl⟩ := hv
    have I1 : Inv X pins σ H { s with heap := h', toks := tk } := I.turned (fun b o hb e => kk b o (by simpa using hb) e) f0 f1 f3 f4 f5
    refine ⟨_, rfl, go_of (s := { s with heap := h', toks := tk }) (n := "range_iterator") st' rfl rfl (by decide) ⟨.int (lo + i), H, I1, ⟨t, ?_⟩, ⟨rfl, rfl⟩, st', fun b hb => (hf b hb).1⟩⟩
    rw [Int.mul_one]
  done := by
    intro X hP hw hK hc i pins s σ H E I hf st hg
    subst hP hw hK
    obtain ⟨f0, f1, f2, f3, f4, f5⟩ := hf it (by simp)
    exact wpAny_pyNext_range_end (I.ok.hd hc) st (by have : n ≤ i := hg; omega) fun h' eb => ⟨rfl, I.turned (t' := s.toks) (fun b o hb e => eb b o hb e) f0 f1 f3 f4 f5⟩
  self := fun _ _ _ _ _ st h => wpAny_pyIter_rangeiter st h
end L2

namespace L2
open PySem PySem.Spec PyProof.Rows
section
variable {X : Cx} {tg : Expr}
def iList (K : PySem.W.Frag) (tl : TE) : TI := fun σ H R => tl σ H fun x H1 => ∃ a, x = .ref a ∧ (∃ xs, SqL K H1 a xs) ∧ R (Itl K a) H1
theorem pi_list {l : Expr} {tl : TE} (hl : PE X l tl) : PI X tg l (iList X.K tl) := by
  intro pins s σ H R I h
  refine thn (hl pins s σ H _ I h) fun v s1 ⟨x, H1, I1, r1, q1⟩ => ?_
  obtain ⟨a, e, ⟨xs, hq⟩, q⟩ := q1
  subst e
  cases r1
  obtain ⟨its, rv, p, hz⟩ := I1.list hq
  refine wpAny_pyIter_list p.isList ?_
  refine ⟨s1.heap.objs.size, [s1.heap.objs.size], _, _, H1, rfl, I1.kept (t' := s1.toks) fun b o e => Heap.get?_push_of_some _ e, turn_list a _, ⟨_, Heap.get?_push_size _ rfl, rfl, rfl⟩, fun b hb => ?_, q⟩
  have e : b = s1.heap.objs.size := by simpa using hb
  subst e
  exact I1.fpOk (Nat.le_refl _) (I1.hok.fresh (Nat.le_refl _))
/-- a range object just made, walked -/
theorem range_it {pins : List (Addr × Obj)} {σ : St} {H : Hp} {s : Shared} {R : It → Hp → Prop} {E : Value → Shared → Prop} {lo hi : Int} {t u v : Tok} {tk : Nat} (I : Inv X pins σ H s) (h1 : -(2 ^ 62) ≤ lo) (h2 : lo < 2 ^ 62) (h3 : -(2 ^ 62) ≤ hi) (h4 : hi < 2 ^ 62)
    (q : R (Itr lo (hi - lo).toNat) H) : wpAny (model X.prog X.w) X.A (pyIter (.ref s.heap.objs.size)) (PIE X pins σ tg R) E { s with heap := s.heap.push { cls := .type "range", data := .fields #[.int lo t, .int hi u, .int 1 v] }, toks := tk } := by
  refine wpAny_pyIter_range (IsRange.new ..) (small_one h1 h2 h3 h4) ?_
  have I1 : Inv X pins σ H { s with heap := s.heap.push { cls := .type "range", data := .fields #[.int lo t, .int hi u, .int 1 v] }, toks := tk } := I.kept fun b o e => Heap.get?_push_of_some _ e
  refine ⟨(s.heap.push { cls := .type "range", data := .fields #[.int lo t, .int hi u, .int 1 v] }).objs.size, [(s.heap.push { cls := .type "range", data := .fields #[.int lo t, .int hi u, .int 1 v] }).objs.size], _, _, H, rfl,
    I1.kept (t' := tk) fun b o e => Heap.get?_push_of_some _ e, turn_range _ lo (hi - lo).toNat, ?_, fun b hb => ?_, q⟩
  · have e1 : lo + ((0 : Nat) : Int) * 1 = lo := by simp
    have e2 : (((hi - lo).toNat : Nat) : Int) - ((0 : Nat) : Int) = Builtin.Range.rangeSize lo hi 1 := by rw [rangeSize_one]; split <;> omega
    show IsRangeIter _ _ (lo + ((0 : Nat) : Int) * 1) ((((hi - lo).toNat : Nat) : Int) - ((0 : Nat) : Int)) 1
    rw [e1, e2]
    exact Heap.get?_push_size _ rfl
  · have e : b = (s.heap.push { cls := .type "range", data := .fields #[.int lo t, .int hi u, .int 1 v] }).objs.size := by simpa using hb
    subst e
    exact I1.fpOk (Nat.le_refl _) (I1.hok.fresh (Nat.le_refl _))
def iRng1 (ta : TA) : TI := fun σ H R => ta σ H fun vs H1 => ∃ j : Int, vs = [.int j] ∧ -(2 ^ 62) ≤ j ∧ j < 2 ^ 62 ∧ R (Itr 0 j.toNat) H1
theorem pi_range1 {a : Expr} {ta : TA} {p pos : Pos} (hg : Gl X "range") (hm : X.mg "range" = none) (ha : PA X [a] ta) (hs : starEach [a] X.env = [(false, eval a X.env)] := by rfl) : PI X tg (.Call (.Name "range" p) [a] [] pos) (iRng1 ta) := by
  intro pins s σ H R I h
  refine Call_ (ld_blt I hg hm boot_range (PyProof.Rows.callWith_type1 (thn (ha pos pins s σ H _ I h) fun us s1 ⟨vs, H1, I1, r1, q1⟩ => ?_) hs rfl))
  obtain ⟨j, e, q1, q2, q⟩ := q1
  subst e
  cases r1 with
  | cons r rr =>
    cases rr
    obtain ⟨t, rfl⟩ := r
    exact call_range_1 (range_it I1 (by omega) (by omega) q1 q2 (by simpa using q))
/-! ### for -/
/-- W: the invariant by the turn and a measure; N: what the body is to reach -/
def tFor (wi : TI) (g : TG) (tb : TS) : TS := fun D σ H => wi σ H fun J H1 => ∃ W : Nat → Nat → St → Hp → Prop, (∃ m, W 0 m σ H1) ∧ ∀ i m σ H, W i m σ H →
  (J.stop i H ∧ D.nx σ H) ∨ (J.go i H ∧ ∃ N : St → Hp → Prop, (∀ σ' H', N σ' H' → ∃ m', m' < m ∧ W (i + 1) m' σ' H') ∧ ∀ x H', J.yld i H x H' → g x σ H' fun σ2 H2 => tb { D with nx := N, ct := N, bk := D.nx } σ2 H2)
/-- the records at fp as they stand -/
def pinsAt (fp : List Addr) (h : Heap) : List (Addr × Obj) := fp.filterMap fun b => (h.get? b).map fun o => (b, o)
theorem mem_pinsAt {fp : List Addr} {h : Heap} {b : Addr} {o : Obj} (hb : b ∈ fp) (e : h.get? b = some o) : (b, o) ∈ pinsAt fp h := List.mem_filterMap.mpr ⟨b, hb, by rw [e]; rfl⟩
theorem of_pinsAt {fp : List Addr} {h : Heap} {p : Addr × Obj} (hp : p ∈ pinsAt fp h) : p.1 ∈ fp ∧ h.get? p.1 = some p.2 := by
  obtain ⟨b, hb, e⟩ := List.mem_filterMap.mp hp
  cases q : h.get? b with
  | none => rw [q] at e; cases e
  | some o =>
    rw [q] at e
    have e' : (b, o) = p := Option.some.inj e
    subst e'
    exact ⟨hb, q⟩
theorem Inv.pinned {pins : List (Addr × Obj)} {σ : St} {H : Hp} {s : Shared} {fp : List Addr} (I : Inv X pins σ H s) (hf : ∀ b ∈ fp, FpOk X pins H b) (ho : ∀ b ∈ fp, ∃ o, s.heap.get? b = some o ∧ ∀ v, o.data ≠ .cell v) : Inv X (pins ++ pinsAt fp s.heap) σ H s :=
  I.pins_of fun p hp => (List.mem_append.mp hp).elim (fun z => I.pin p (List.mem_append_right _ z)) fun z => by
    obtain ⟨hb, e⟩ := of_pinsAt z
    obtain ⟨f0, f1, f2, _⟩ := hf p.1 hb
    obtain ⟨o, e', d⟩ := ho p.1 hb
    rw [e] at e'; cases e'
    exact ⟨e, f0, f1, f2, d⟩
theorem Inv.unpinned {pins pl : List (Addr × Obj)} {σ : St} {H : Hp} {s : Shared} (I : Inv X (pins ++ pl) σ H s) : Inv X pins σ H s := I.pins_of fun p hp => I.pin p (List.mem_append_right _ (List.mem_append_left _ hp))
theorem ps_for {iter : Expr} {body : List Stmt} {wi : TI} {g : TG} {tb : TS} {pos : Pos} (hp : PassesOwn (model X.prog X.w) X.A X.env X.xe) (hc : X.calm = true) (hi : PI X tg iter wi) (hg : PG X tg g) (hb : PSs X body tb)
    (hs : ∀ x, foldedSetIterable iter X.env x = pure x := by intro _; rfl) : PS X (.For tg iter body [] pos) (tFor wi g tb) := by
  intro pins s σ H D I h
  refine wpAny_For (thn (hi pins s σ H _ I h) fun v s1 h1 => thn h1 fun itv s2 h2 => ?_) hs
  obtain ⟨it, fp, tn, J, H2, e, I2, T, st2, f2, W, ⟨m0, w0⟩, turn⟩ := h2
  subst e
  -- what stays true of the iterator's objects through the loop
  have stat : ∀ {H' : Hp}, (∀ b ∈ fp, H' b = none) → ∀ b ∈ fp, FpOk X pins H' b := fun hn b hb => ⟨hn b hb, (f2 b hb).2⟩
  refine codeAny_forLoop_any (fun n s' => ∃ i σ' H', Inv X pins σ' H' s' ∧ tn i s'.heap ∧ (∀ b ∈ fp, H' b = none) ∧ W i n σ' H') ?_ m0 ⟨0, σ, H2, I2, st2, fun b hb => (f2 b hb).1, w0⟩
  rintro n s3 ⟨i, σ3, H3, I3, st3, fr3, w3⟩
  rcases turn i n σ3 H3 w3 with ⟨stop, qn⟩ | ⟨go, N, hN, step⟩
  · refine wpAny_passesOwn hp (thn (T.done X rfl rfl rfl hc i pins s3 σ3 H3 X.xe I3 (stat fr3) st3 stop) fun r s4 ⟨hr, I4⟩ => ?_)
    subst hr
    exact wpAny_execs_nil ⟨σ3, H3, I4, qn⟩
  · refine wpAny_passesOwn hp (thn (T.item X rfl rfl rfl hc i pins s3 σ3 H3 X.xe I3 (stat fr3) st3 go) fun r s4 ⟨u, hr, h4⟩ => ?_)
    subst hr
    refine wpAny_passesOwn hp (thn h4 fun _ s5 ⟨x, H5, I5, r5, y5, st5, fr5⟩ => ?_)
    have I5' := I5.pinned (stat fr5) (T.obj _ _ st5)
    refine wpAny_passesOwn hp (thn (hg _ s5 σ3 H5 x u _ I5' r5 (step x H5 y5)) fun _ s6 ⟨σ6, H6, I6, q6⟩ => ?_)
    refine wpAny_passesOwn hp (thn (hb _ s6 σ6 H6 _ I6 q6) fun f s7 q7 => ?_)
    have again : ∀ {σ7 : St} {H7 : Hp}, Inv X (pins ++ pinsAt fp s5.heap) σ7 H7 s7 → N σ7 H7 → ∃ m, m < n ∧ ∃ i σ' H', Inv X pins σ' H' s7 ∧ tn i s7.heap ∧ (∀ b ∈ fp, H' b = none) ∧ W i m σ' H' := fun {σ7 H7} I7 n7 => by
      obtain ⟨m', hm, w7⟩ := hN σ7 H7 n7
      refine ⟨m', hm, i + 1, σ7, H7, I7.unpinned, T.keep _ _ _ st5 fun b hb o e => (I7.pin (b, o) (List.mem_append_right _ (List.mem_append_right _ (mem_pinsAt hb e)))).1, fun b hb => ?_, w7⟩
      obtain ⟨o, e, d⟩ := T.obj _ _ st5 b hb
      exact (I7.pin (b, o) (List.mem_append_right _ (List.mem_append_right _ (mem_pinsAt hb e)))).2.1
    cases f with
    | next => obtain ⟨σ7, H7, I7, n7⟩ := q7; exact again I7 n7
    | cont => obtain ⟨σ7, H7, I7, n7⟩ := q7; exact again I7 n7
    | brk => obtain ⟨σ7, H7, I7, q7⟩ := q7; exact ⟨σ7, H7, I7.unpinned, q7⟩
    | ret v => obtain ⟨x7, σ7, H7, I7, r7, q7⟩ := q7; exact ⟨x7, σ7, H7, I7.unpinned, r7, q7⟩
end

/-! ### the forms one uses -/
theorem for_range {lo : Int} {n : Nat} {g : TG} {tb : TS} {D : Ends} {σ : St} {H : Hp} (Pv : Nat → St → Hp → Prop) (h0 : Pv 0 σ H)
    (hs : ∀ i σ H, i < n → Pv i σ H → g (.int (lo + i)) σ H fun σ2 H2 => tb { D with nx := Pv (i + 1), ct := Pv (i + 1), bk := D.nx } σ2 H2) (hd : ∀ σ H, Pv n σ H → D.nx σ H) :
    ∃ W : Nat → Nat → St → Hp → Prop, (∃ m, W 0 m σ H) ∧ ∀ i m σ H, W i m σ H →
      ((Itr lo n).stop i H ∧ D.nx σ H) ∨ ((Itr lo n).go i H ∧ ∃ N : St → Hp → Prop, (∀ σ' H', N σ' H' → ∃ m', m' < m ∧ W (i + 1) m' σ' H') ∧ ∀ x H', (Itr lo n).yld i H x H' → g x σ H' fun σ2 H2 => tb { D with nx := N, ct := N, bk := D.nx } σ2 H2) := by
  refine ⟨fun i m σ H => m = n - i ∧ i ≤ n ∧ Pv i σ H, ⟨n, by simp, Nat.zero_le _, h0⟩, ?_⟩
  rintro i m σ H ⟨rfl, hi, p⟩
  by_cases hlt : i < n
  · refine .inr ⟨hlt, Pv (i + 1), fun σ' H' p' => ⟨n - (i + 1), by omega, rfl, hlt, p'⟩, fun x H' y => ?_⟩
    obtain ⟨e, y⟩ := y
    subst e y
    exact hs i σ _ hlt p
  · have e : i = n := by omega
    subst e
    exact .inl ⟨Nat.le_refl _, hd σ H p⟩
end L2

namespace L2
open PySem PySem.Spec PyProof.Rows

abbrev R2 := V → V → Hp → VK → Prop
/-- a two-place operation on values: f is binaryOp op, inplaceOp op or compareOp op -/
def OpR (X : Cx) (f : Value → Value → Sem Value) (r : R2) : Prop :=
  ∀ (pins : List (Addr × Obj)) (s : Shared) (σ : St) (H : Hp) (x y : V) (v u : Value) (Q : VK), Inv X pins σ H s → RelV x v → RelV y u → r x y H Q →
    wpAny (model X.prog X.w) X.A (f v u) (EP X pins σ Q) X.xe s
/-- a one-place operation -/
def UnR (X : Cx) (f : Value → Sem Value) (r : V → Hp → VK → Prop) : Prop :=
  ∀ (pins : List (Addr × Obj)) (s : Shared) (σ : St) (H : Hp) (x : V) (v : Value) (Q : VK), Inv X pins σ H s → RelV x v → r x H Q →
    wpAny (model X.prog X.w) X.A (f v) (EP X pins σ Q) X.xe s
/-- a call of a value that is known (a builtin, a type) with values -/
def CallR (X : Cx) (f : Value) (r : List V → Hp → VK → Prop) : Prop :=
  ∀ (pins : List (Addr × Obj)) (s : Shared) (σ : St) (H : Hp) (xs : List V) (us : List Value) (Q : VK), Inv X pins σ H s → Vals xs us → r xs H Q →
    wpAny (model X.prog X.w) X.A (call f us) (EP X pins σ Q) X.xe s
/-- a value's truth -/
def TruR (X : Cx) (r : V → Hp → (Bool → Hp → Prop) → Prop) : Prop :=
  ∀ (pins : List (Addr × Obj)) (s : Shared) (σ : St) (H : Hp) (x : V) (v : Value) (Q : Bool → Hp → Prop), Inv X pins σ H s → RelV x v → r x H Q →
    wpAny (model X.prog X.w) X.A (truthy v) (TP X pins σ Q) X.xe s

def tOp (r : R2) (ta tb : TE) : TE := fun σ H Q => ta σ H fun x H1 => tb σ H1 fun y H2 => r x y H2 Q
def tUn (r : V → Hp → VK → Prop) (ta : TE) : TE := fun σ H Q => ta σ H fun x H1 => r x H1 Q
/-- ints in, under C, and a value out -/
def rI (C : Int → Int → Prop) (g : Int → Int → V) : R2 := fun x y H Q => ∃ i j, x = .int i ∧ y = .int j ∧ C i j ∧ Q (g i j) H
def rI0 (g : Int → Int → V) : R2 := fun x y H Q => ∃ i j, x = .int i ∧ y = .int j ∧ Q (g i j) H
def rU (g : Int → V) : V → Hp → VK → Prop := fun x H Q => ∃ i, x = .int i ∧ Q (g i) H

section
variable {X : Cx} {a b c : Expr} {ta tb tc : TE} {pos : Pos}

theorem binT (ha : PE X a ta) (hb : PE X b tb) {pins : List (Addr × Obj)} {s : Shared} {σ : St} {H : Hp} {R : V → V → Hp → Prop} (I : Inv X pins σ H s)
    (h : ta σ H fun x H1 => tb σ H1 fun y H2 => R x y H2) {Q : Value → Shared → Prop} {f : Value → Value → Sem Value}
    (hf : ∀ v u s2 x y H2, Inv X pins σ H2 s2 → RelV x v → RelV y u → R x y H2 → wpAny (model X.prog X.w) X.A (f v u) Q X.xe s2) :
    wpAny (model X.prog X.w) X.A (eval a X.env) (fun v s₁ => wpAny (model X.prog X.w) X.A (eval b X.env) (fun u s₂ => wpAny (model X.prog X.w) X.A (f v u) Q X.xe s₂) X.xe s₁) X.xe s := by
  refine thn (ha pins s σ H _ I h) fun v s1 ⟨x, H1, I1, r1, q1⟩ => ?_
  refine thn (hb pins s1 σ H1 _ I1 q1) fun u s2 ⟨y, H2, I2, r2, q2⟩ => ?_
  exact hf v u s2 x y H2 I2 r1 r2 q2

theorem pe_op {op : Operator} {r : R2} (ho : OpR X (binaryOp op) r) (ha : PE X a ta) (hb : PE X b tb) : PE X (.BinOp a op b pos) (tOp r ta tb) := by
  intro pins s σ H Q I h
  exact wpAny_BinOp (binT ha hb I h fun v u s2 x y H2 I2 rx ry q => ho pins s2 σ H2 x y v u Q I2 rx ry q)
theorem pe_un {op : UnaryOp} {r : V → Hp → VK → Prop} (ho : UnR X (unaryOp op) r) (ha : PE X a ta) : PE X (.UnaryOp op a pos) (tUn r ta) := by
  intro pins s σ H Q I h
  exact UnaryOp_ (thn (ha pins s σ H _ I h) fun v s1 ⟨x, H1, I1, r1, q1⟩ => ho pins s1 σ H1 x v Q I1 r1 q1)
/-! ### ints -/
theorem opI {f : Value → Value → Sem Value} {C : Int → Int → Prop} {g : Int → Int → Int}
    (rule : ∀ (i j : Int) (t u : Tok) (s : Shared) (Q : Value → Shared → Prop) (E : Value → Shared → Prop), C i j → Q (.int (g i j) s.toks) { s with toks := s.toks + 1 } → wpAny (model X.prog X.w) X.A (f (.int i t) (.int j u)) Q E s) :
    OpR X f (rI C fun i j => .int (g i j)) := by
  intro pins s σ H x y v u Q I rx ry h
  obtain ⟨i, j, rfl, rfl, hc, q⟩ := h
  obtain ⟨t, rfl⟩ := rx
  obtain ⟨t', rfl⟩ := ry
  exact rule i j t t' s _ _ hc ⟨.int (g i j), H, I.tok _, ⟨_, rfl⟩, q⟩
theorem opI0 {f : Value → Value → Sem Value} {g : Int → Int → Int}
    (rule : ∀ (i j : Int) (t u : Tok) (s : Shared) (Q : Value → Shared → Prop) (E : Value → Shared → Prop), Q (.int (g i j) s.toks) { s with toks := s.toks + 1 } → wpAny (model X.prog X.w) X.A (f (.int i t) (.int j u)) Q E s) :
    OpR X f (rI0 fun i j => .int (g i j)) := by
  intro pins s σ H x y v u Q I rx ry h
  obtain ⟨i, j, rfl, rfl, q⟩ := h
  obtain ⟨t, rfl⟩ := rx
  obtain ⟨t', rfl⟩ := ry
  exact rule i j t t' s _ _ ⟨.int (g i j), H, I.tok _, ⟨_, rfl⟩, q⟩
theorem opB0 {f : Value → Value → Sem Value} {g : Int → Int → Bool}
    (rule : ∀ (i j : Int) (t u : Tok) (s : Shared) (Q : Value → Shared → Prop) (E : Value → Shared → Prop), Q (.bool (g i j)) s → wpAny (model X.prog X.w) X.A (f (.int i t) (.int j u)) Q E s) :
    OpR X f (rI0 fun i j => .bl (g i j)) := by
  intro pins s σ H x y v u Q I rx ry h
  obtain ⟨i, j, rfl, rfl, q⟩ := h
  obtain ⟨t, rfl⟩ := rx
  obtain ⟨t', rfl⟩ := ry
  exact rule i j t t' s _ _ ⟨.bl (g i j), H, I, rfl, q⟩

def CDiv (i j : Int) : Prop := 0 < j ∧ j < 1073741824
def CMul (i j : Int) : Prop := (-(2 ^ 64) < i ∧ i < 2 ^ 64) ∨ (-(2 ^ 64) < j ∧ j < 2 ^ 64)
theorem CMul.ok {i j : Int} (h : CMul i j) : IntMulOk i j := by
  rcases h with ⟨h1, h2⟩ | ⟨h1, h2⟩
  · exact .of_left (intBits_le_64 h1 h2)
  · exact .of_right (intBits_le_64 h1 h2)
theorem op_add : OpR X (binaryOp .Add) (rI0 fun i j => .int (i + j)) := opI0 fun _ _ _ _ _ _ _ q => add_int q
theorem op_sub : OpR X (binaryOp .Sub) (rI0 fun i j => .int (i - j)) := opI0 fun _ _ _ _ _ _ _ q => sub_int q
theorem op_mul : OpR X (binaryOp .Mult) (rI CMul fun i j => .int (i * j)) := opI fun _ _ _ _ _ _ _ hc q => mul_int q hc.ok
/-- // by a positive divisor -/
theorem op_fdiv : OpR X (binaryOp .FloorDiv) (rI CDiv fun i j => .int (i / j)) := opI fun i j _ _ _ _ _ hc q => by
  have h1 : (0 : Int) < j := hc.1
  have h2 : j < 1073741824 := hc.2
  exact floordiv_int (by omega) (by rw [Int.fdiv_eq_ediv_of_nonneg i (by omega)]; exact q) (.inl (PyProof.noPylong_small (by omega)))
/-- % by a positive divisor of any size -/
theorem op_mod : OpR X (binaryOp .Mod) (rI (fun _ j => 0 < j) fun i j => .int (i % j)) := opI fun i j _ _ _ _ _ hc q => by
  have h1 : (0 : Int) < j := hc
  exact mod_int' (by omega) (by rw [Int.fmod_eq_emod_of_nonneg i (by omega)]; exact q)
theorem unI {f : Value → Sem Value} {g : Int → Int}
    (rule : ∀ (i : Int) (t : Tok) (s : Shared) (Q : Value → Shared → Prop) (E : Value → Shared → Prop), Q (.int (g i) s.toks) { s with toks := s.toks + 1 } → wpAny (model X.prog X.w) X.A (f (.int i t)) Q E s) :
    UnR X f (rU fun i => .int (g i)) := by
  intro pins s σ H x v Q I rx h
  obtain ⟨i, rfl, q⟩ := h
  obtain ⟨t, rfl⟩ := rx
  exact rule i t s _ _ ⟨.int (g i), H, I.tok _, ⟨_, rfl⟩, q⟩
theorem un_neg : UnR X (unaryOp .USub) (rU fun i => .int (-i)) := unI fun _ _ _ _ _ q => neg_int q
/-! ### bools among ints: n += (a < b) -/
end

/-! ### comparisons -/
/-- the scalars that == tells apart as data does -/
def scal : V → V → Bool
  | .non, .non => true | .non, .int _ => true | .int _, .non => true | .non, .bl _ => true | .bl _, .non => true | .non, .str _ => true | .str _, .non => true
  | .int _, .int _ => true | .bl _, .bl _ => true | .str _, .str _ => true | .byt _, .byt _ => true
  | .int _, .str _ => true | .str _, .int _ => true | .bl _, .str _ => true | .str _, .bl _ => true
  | _, _ => false
def rEq : R2 := fun x y H Q => scal x y = true ∧ Q (.bl (decide (x = y))) H
def rNe : R2 := fun x y H Q => scal x y = true ∧ Q (.bl (!decide (x = y))) H

theorem dec_int {i j : Int} : decide (V.int i = V.int j) = (i == j) := by
  rw [Bool.eq_iff_iff]
  simp
theorem dec_bl {i j : Bool} : decide (V.bl i = V.bl j) = (i == j) := by
  rw [Bool.eq_iff_iff]
  simp
theorem dec_str {i j : Str} : decide (V.str i = V.str j) = (i == j) := by
  rw [Bool.eq_iff_iff]
  simp
theorem dec_byt {i j : Array UInt8} : decide (V.byt i = V.byt j) = (i.toList == j.toList) := by
  rw [Bool.eq_iff_iff]
  cases i
  cases j
  simp

section
variable {X : Cx} {a b c : Expr} {ta tb tc : TE} {pos : Pos}
theorem fin_bl {pins : List (Addr × Obj)} {σ : St} {H : Hp} {s : Shared} {Q : VK} {k k' : Bool} (I : Inv X pins σ H s) (q : Q (.bl k) H) (e : k = k') : EP X pins σ Q (.bool k') s := by
  subst e
  exact ⟨.bl k, H, I, rfl, q⟩
theorem op_eq : OpR X (compareOp .Eq) rEq := by
  intro pins s σ H x y v u Q I rx ry h
  obtain ⟨hs, q⟩ := h
  cases x with
  | non =>
    cases rx
    cases y with
    | non => cases ry; exact PySem.EqNone.eq_none_none (fin_bl I q (by simp))
    | bl j => cases ry; exact PySem.EqNone.eq_none_bool (fin_bl I q (by simp))
    | int j => obtain ⟨t', rfl⟩ := ry; exact PySem.EqNone.eq_none_int (fin_bl I q (by simp))
    | str j => obtain ⟨t', rfl⟩ := ry; exact PySem.EqNone.eq_none_str (fin_bl I q (by simp))
    | _ => exact absurd (show false = true from hs) Bool.false_ne_true
  | bl i =>
    cases rx
    cases y with
    | non => cases ry; exact PySem.EqNone.eq_bool_none (fin_bl I q (by simp))
    | bl j => cases ry; exact eq_bool (fin_bl I q dec_bl)
    | str j => obtain ⟨t', rfl⟩ := ry; exact PySem.EqMixed.eq_bool_str (fin_bl I q (by simp))
    | _ => exact absurd (show false = true from hs) Bool.false_ne_true
  | int i =>
    obtain ⟨t, rfl⟩ := rx
    cases y with
    | non => cases ry; exact PySem.EqNone.eq_int_none (fin_bl I q (by simp))
    | int j => obtain ⟨t', rfl⟩ := ry; exact eq_int (fin_bl I q dec_int)
    | str j => obtain ⟨t', rfl⟩ := ry; exact PySem.EqMixed.eq_int_str (fin_bl I q (by simp))
    | _ => exact absurd (show false = true from hs) Bool.false_ne_true
  | str i =>
    obtain ⟨t, rfl⟩ := rx
    cases y with
    | non => cases ry; exact PySem.EqNone.eq_str_none (fin_bl I q (by simp))
    | bl j => cases ry; exact PySem.EqMixed.eq_str_bool (fin_bl I q (by simp))
    | int j => obtain ⟨t', rfl⟩ := ry; exact PySem.EqMixed.eq_str_int (fin_bl I q (by simp))
    | str j => obtain ⟨t', rfl⟩ := ry; exact eq_str (fin_bl I q dec_str)
    | _ => exact absurd (show false = true from hs) Bool.false_ne_true
  | byt i =>
    obtain ⟨t, rfl⟩ := rx
    cases y with
    | byt j => obtain ⟨t', rfl⟩ := ry; exact PySem.W.eq_bytes (fin_bl I q dec_byt)
    | _ => exact absurd (show false = true from hs) Bool.false_ne_true
  | _ => cases y <;> exact absurd (show false = true from hs) Bool.false_ne_true
theorem op_ne : OpR X (compareOp .NotEq) rNe := by
  intro pins s σ H x y v u Q I rx ry h
  obtain ⟨hs, q⟩ := h
  cases x with
  | non =>
    cases rx
    cases y with
    | non => cases ry; exact PySem.EqNone.ne_none_none (fin_bl I q (by simp))
    | bl j => cases ry; exact PySem.EqNone.ne_none_bool (fin_bl I q (by simp))
    | int j => obtain ⟨t', rfl⟩ := ry; exact PySem.EqNone.ne_none_int (fin_bl I q (by simp))
    | str j => obtain ⟨t', rfl⟩ := ry; exact PySem.EqNone.ne_none_str (fin_bl I q (by simp))
    | _ => exact absurd (show false = true from hs) Bool.false_ne_true
  | bl i =>
    cases rx
    cases y with
    | non => cases ry; exact PySem.EqNone.ne_bool_none (fin_bl I q (by simp))
    | bl j => cases ry; exact ne_bool (fin_bl I q (congrArg not dec_bl))
    | str j => obtain ⟨t', rfl⟩ := ry; exact PySem.EqMixed.ne_bool_str (fin_bl I q (by simp))
    | _ => exact absurd (show false = true from hs) Bool.false_ne_true
  | int i =>
    obtain ⟨t, rfl⟩ := rx
    cases y with
    | non => cases ry; exact PySem.EqNone.ne_int_none (fin_bl I q (by simp))
    | int j => obtain ⟨t', rfl⟩ := ry; exact ne_int (fin_bl I q (congrArg not dec_int))
    | str j => obtain ⟨t', rfl⟩ := ry; exact PySem.EqMixed.ne_int_str (fin_bl I q (by simp))
    | _ => exact absurd (show false = true from hs) Bool.false_ne_true
  | str i =>
    obtain ⟨t, rfl⟩ := rx
    cases y with
    | non => cases ry; exact PySem.EqNone.ne_str_none (fin_bl I q (by simp))
    | bl j => cases ry; exact PySem.EqMixed.ne_str_bool (fin_bl I q (by simp))
    | int j => obtain ⟨t', rfl⟩ := ry; exact PySem.EqMixed.ne_str_int (fin_bl I q (by simp))
    | str j => obtain ⟨t', rfl⟩ := ry; exact ne_str (fin_bl I q (congrArg not dec_str))
    | _ => exact absurd (show false = true from hs) Bool.false_ne_true
  | byt i =>
    obtain ⟨t, rfl⟩ := rx
    cases y with
    | byt j => obtain ⟨t', rfl⟩ := ry; exact PySem.W.ne_bytes (fin_bl I q (congrArg not dec_byt))
    | _ => exact absurd (show false = true from hs) Bool.false_ne_true
  | _ => cases y <;> exact absurd (show false = true from hs) Bool.false_ne_true

theorem op_lt : OpR X (compareOp .Lt) (rI0 fun i j => .bl (decide (i < j))) := opB0 fun _ _ _ _ _ _ _ q => lt_int q
theorem op_le : OpR X (compareOp .LtE) (rI0 fun i j => .bl (decide (i ≤ j))) := opB0 fun _ _ _ _ _ _ _ q => le_int q
theorem op_gt : OpR X (compareOp .Gt) (rI0 fun i j => .bl (decide (j < i))) := opB0 fun _ _ _ _ _ _ _ q => gt_int q
theorem op_ge : OpR X (compareOp .GtE) (rI0 fun i j => .bl (decide (j ≤ i))) := opB0 fun _ _ _ _ _ _ _ q => ge_int q
theorem nomark (b : Expr) {op : CmpOp} (h : op ≠ .In := by decide) (h2 : op ≠ .NotIn := by decide) : behindInMarks op b = false := by
  have e1 : (op == CmpOp.In) = false := by cases op <;> first | rfl | exact absurd rfl h
  have e2 : (op == CmpOp.NotIn) = false := by cases op <;> first | rfl | exact absurd rfl h2
  cases b <;> simp [behindInMarks, e1, e2]
/-- a comparison as a value; hm: nomark b, or (for in, not in) by with_unfolding_all rfl -/
theorem pe_cmpR {op : CmpOp} {r : R2} (ho : OpR X (compareOp op) r) (ha : PE X a ta) (hb : PE X b tb) (hm : behindInMarks op b = false) : PE X (.Compare a [op] [b] pos) (tOp r ta tb) := by
  intro pins s σ H Q I h
  exact wpAny_Compare1 (binT ha hb I h fun v u s2 x y H2 I2 rx ry q => ho pins s2 σ H2 x y v u Q I2 rx ry q) hm
/-- a reading of a value as a test -/
def tTest (t : TE) : TT := fun σ H Q => t σ H fun x H' => ∃ k, x = .bl k ∧ Q k H'
theorem pt_cmpR {op : CmpOp} {r : R2} (ho : OpR X (compareOp op) r) (ha : PE X a ta) (hb : PE X b tb) (hm : behindInMarks op b = false) : PT X (.Compare a [op] [b] pos) (tTest (tOp r ta tb)) := by
  intro pins s σ H Q I h
  refine wpAny_isTrue_Compare1 (thn (ha pins s σ H _ I h) fun v s1 ⟨x, H1, I1, r1, q1⟩ => thn (hb pins s1 σ H1 _ I1 q1) fun u s2 ⟨y, H2, I2, r2, q2⟩ =>
    thn (ho pins s2 σ H2 x y v u _ I2 r1 r2 q2) fun c s3 ⟨z, H3, I3, r3, k, e, q3⟩ => ?_) hm
  subst e
  cases r3
  exact wpAny_truthy_bool ⟨H3, I3, q3⟩
/-- a op1 b op2 c -/
def tChain (r r' : R2) (ta tb tc : TE) : TE := fun σ H Q => ta σ H fun x H1 => tb σ H1 fun y H2 => r x y H2 fun z H3 => ∃ k, z = .bl k ∧
  (if k = true then tc σ H3 fun w' H4 => r' y w' H4 Q else Q (.bl false) H3)
theorem pe_chain {op op' : CmpOp} {r r' : R2} (ho : OpR X (compareOp op) r) (ho' : OpR X (compareOp op') r') (ha : PE X a ta) (hb : PE X b tb) (hc : PE X c tc)
    (hm : lastMarks [op, op'] [b, c] = false := by with_unfolding_all rfl) : PE X (.Compare a [op, op'] [b, c] pos) (tChain r r' ta tb tc) := by
  intro pins s σ H Q I h
  refine Compare_chain (thn (ha pins s σ H _ I h) fun v s1 ⟨x, H1, I1, r1, q1⟩ => chain_link (thn (hb pins s1 σ H1 _ I1 q1) fun u s2 ⟨y, H2, I2, r2, q2⟩ =>
    thn (ho pins s2 σ H2 x y v u _ I2 r1 r2 q2) fun d s3 ⟨z, H3, I3, r3, k, e, q3⟩ => ?_)) hm
  subst e
  cases r3
  refine wpAny_truthy_bool ?_
  cases k with
  | false => exact ite_ff ⟨.bl false, H3, I3, rfl, q3⟩
  | true => exact ite_tt (chain_last (thn (hc pins s3 σ H3 _ I3 q3) fun w' s4 ⟨z', H4, I4, r4, q4⟩ => ho' pins s4 σ H4 y z' u w' Q I4 r2 r4 q4))
/-! ### truth -/
/-- a value's truth by the abstract heap -/
def TruV (K : PySem.W.Frag) (x : V) (H : Hp) (k : Bool) : Prop :=
  match x with
  | .non => k = false
  | .bl b => k = b
  | .int i => k = (i != 0)
  | .str y => y.length ≤ sizeLine ∧ k = ((y.length : Int) != 0)
  | .byt y => y.size ≤ sizeLine ∧ k = ((y.size : Int) != 0)
  | .ref p => (∃ xs, SqL K H p xs ∧ k = !xs.isEmpty) ∨ (∃ xs, SqT K H p xs ∧ k = !xs.isEmpty) ∨ ∃ kvs, H p = some (.dK kvs) ∧ k = !kvs.isEmpty
  | _ => False
theorem isEmpty_kv {κ : Type} {kvs : List (κ × V)} {vs : List (κ × Value)} (r : KV kvs vs) : (!vs.isEmpty) = !kvs.isEmpty := by
  cases r <;> rfl
theorem isEmpty_of {xs : List V} {its : List Value} (r : Vals xs its) : (!its.toArray.isEmpty) = !xs.isEmpty := by
  cases r <;> simp
theorem line63 : (sizeLine : Nat) < 2 ^ 63 := by rw [sizeLine_eq]; decide
theorem tru_ok : TruR X (fun x H Q => ∃ k, TruV X.K x H k ∧ Q k H) := by
  intro pins s σ H x v Q I rx h
  obtain ⟨k, e, q⟩ := h
  have hl := line63
  have hs : sizeLine = 16777216 := sizeLine_eq
  cases x with
  | non =>
    cases rx
    have e' : k = false := e
    subst e'
    exact truthy_none ⟨H, I, q⟩
  | bl b =>
    cases rx
    have e' : k = b := e
    subst e'
    exact wpAny_truthy_bool ⟨H, I, q⟩
  | int i =>
    obtain ⟨t, rfl⟩ := rx
    have e' : k = (i != 0) := e
    subst e'
    exact PySem.P.truthy_int ⟨H, I, q⟩
  | str y =>
    obtain ⟨t, rfl⟩ := rx
    obtain ⟨hy, e'⟩ : y.length ≤ sizeLine ∧ k = ((y.length : Int) != 0) := e
    subst e'
    exact PySem.P.truthy_str (by omega) ⟨H, I.tok _, q⟩
  | byt y =>
    obtain ⟨t, rfl⟩ := rx
    obtain ⟨hy, e'⟩ : y.size ≤ sizeLine ∧ k = ((y.size : Int) != 0) := e
    subst e'
    exact PySem.W.truthy_bytes (by omega) ⟨H, I.tok _, q⟩
  | ref p =>
    cases rx
    have e' : (∃ xs, SqL X.K H p xs ∧ k = !xs.isEmpty) ∨ (∃ xs, SqT X.K H p xs ∧ k = !xs.isEmpty) ∨ ∃ kvs, H p = some (.dK kvs) ∧ k = !kvs.isEmpty := e
    rcases e' with ⟨xs, hx, e'⟩ | ⟨xs, hx, e'⟩ | ⟨kvs, hx, e'⟩
    · subst e'
      obtain ⟨its, r, pl, hz⟩ := I.list hx
      have hlen := r.length
      exact wpAny_truthy_list pl.isList (by simp only [List.size_toArray]; omega) ⟨H, I.tok _, by rw [isEmpty_of r]; exact q⟩
    · subst e'
      obtain ⟨its, r, pl, hz⟩ := I.tuple hx
      have hlen := r.length
      exact truthy_tuple pl (by simp only [List.size_toArray]; omega) ⟨H, I.tok _, by rw [isEmpty_of r]; exact q⟩
    · subst e'
      obtain ⟨hz, hS, vs, r, m⟩ : kvs.length ≤ sizeLine ∧ (p == sysModules) = false ∧ ∃ vs, KV kvs vs ∧ s.heap.DictOf (mixKind X.prog X.w) p vs := I.hok p _ hx
      have hlen : kvs.length = vs.length := Paired.length r
      exact wpAny_truthy_dict hS m (by omega) ⟨H, I.tok _, by rw [isEmpty_kv r]; exact q⟩
  | _ => exact (show False from e).elim
/-- any expression whose test is its value's truth (a name, a call, a subscript, a field ..: he by fun _ => rfl) -/
theorem pt_truth (ha : PE X a ta) (he : ∀ whole, isTrue a X.env whole = (do let v ← whole; standAt a.pos; holding [v] (truthy v))) :
    PT X a (fun σ H Q => ta σ H fun x H' => ∃ k, TruV X.K x H' k ∧ Q k H') := by
  intro pins s σ H Q I h
  exact isTrue_plain (thn (ha pins s σ H _ I h) fun v s1 ⟨x, H1, I1, r1, q1⟩ => tru_ok pins s1 σ H1 x v Q I1 r1 q1) (he _)

/-! ### strs and bytes -/
/-! ### scalar builtins, by CallR -/
theorem vals1 {x : V} {us : List Value} (r : Vals [x] us) : ∃ u, us = [u] ∧ RelV x u := by
  cases r with
  | cons r1 r2 => cases r2; exact ⟨_, rfl, r1⟩
theorem vals2 {x y : V} {us : List Value} (r : Vals [x, y] us) : ∃ u w', us = [u, w'] ∧ RelV x u ∧ RelV y w' := by
  cases r with
  | cons r1 r2 =>
    cases r2 with
    | cons r3 r4 => cases r4; exact ⟨_, _, rfl, r1, r3⟩
theorem call_max2 (hc : X.calm = true) : CallR X (.builtin "max") (fun xs H Q => ∃ i j, xs = [.int i, .int j] ∧ Q (.int (if j > i then j else i)) H) := by
  intro pins s σ H xs us Q I r h
  obtain ⟨i, j, rfl, q⟩ := h
  obtain ⟨u, w', rfl, ⟨t, rfl⟩, ⟨t', rfl⟩⟩ := vals2 r
  refine max_two_ints (I.ok.hd hc) fun h' tk k => ⟨_, H, I.kept k, ?_, q⟩
  by_cases hj : j > i
  · rw [if_pos hj, if_pos hj]; exact ⟨_, rfl⟩
  · rw [if_neg hj, if_neg hj]; exact ⟨_, rfl⟩
end
end L2

namespace L2
open PySem PySem.Spec PyProof.Rows

/-! ### an instance, its attributes a map -/
structure ObjM (h : Heap) (x dx C : Addr) (mA : Str → Option Value) : Prop where
  obj : h.get? x = some (PySem.W.instObj C dx)
  ns : h.Ns1 dx mA
  ne : dx ≠ x

theorem lookIn_ns {h : Heap} {dx : Addr} {mA : Str → Option Value} (n : h.Ns1 dx mA) : ∃ od, h.get? dx = some od ∧ ∀ name, PySem.W.lookIn name od = some (mA name) := by
  obtain ⟨o, es, ep, ho, hd, hk, _, hm⟩ := n
  refine ⟨o, ho, fun name => ?_⟩
  have e := hm name
  unfold nsFind findBy at e
  rw [← Array.find?_toList] at e
  unfold PySem.W.lookIn
  rw [hd]
  dsimp only
  split
  · rename_i y q
    rw [q] at e
    exact congrArg some e
  · rename_i q
    rw [q] at e
    have a : es.toList.any (·.refKey) = false := by
      rw [List.any_eq_false]
      intro y hy
      obtain ⟨z, t, hkey⟩ := hk y (Array.mem_toList_iff.mp hy)
      simp [DictEntry.refKey, hkey]
    have a' : ¬ es.toList.any (·.refKey) = true := by rw [a]; exact Bool.false_ne_true
    rw [if_neg a']
    exact congrArg some e

theorem ObjM.look {h : Heap} {x dx C : Addr} {mA : Str → Option Value} (I : ObjM h x dx C mA) : ∃ od, PySem.W.InstAt h x (PySem.W.instObj C dx) C (some od) ∧ ∀ name, PySem.W.lookIn name od = some (mA name) :=
  let ⟨od, ho, hl⟩ := lookIn_ns I.ns
  ⟨od, ⟨I.obj, rfl, rfl, ho⟩, hl⟩

section
variable {prog : Program} {w : World} {A : Around} {E : Value → Shared → Prop} {s : Shared} {K : PySem.W.Frag} {x dx C f : Addr} {mA : Str → Option Value} {name : Str} {v : Value}

theorem get_map {expr : Bool} {Q : Value → Shared → Prop} (X : K.In s.heap) (I : ObjM s.heap x dx C mA) (hg : PySem.W.plainGet K C name = true) (hh : PySem.W.hasDictIn K C = true)
    (ha : PySem.W.findIn K (.ref C) name = some none) (hv : mA name = some v) (hv' : PySem.W.handedIn v = true) (h : Q v { s with toks := s.toks + 1 }) :
    wpAny (model prog w) A (getAttr (.ref x) name expr) Q E s := by
  obtain ⟨od, J, hl⟩ := I.look
  exact PySem.W.get_value X J (PySem.W.plainGet_of hg).1 (PySem.W.findObj_own hh ha rfl (by rw [hl, hv])) hv' h

theorem get_meth {pl : Sem Bool} {Q : Value × List Value → Shared → Prop} (X : K.In s.heap) (I : ObjM s.heap x dx C mA) (hg : PySem.W.plainGet K C name = true)
    (hf : PySem.W.findIn K (.ref C) name = some (some (.ref f))) (ht : PySem.W.isFn K (.ref f) = true) (hv : mA name = none) (h : Q (.ref f, [.ref x]) s) :
    wpAny (model prog w) A (getMethod (.ref x) name pl) Q E s := by
  obtain ⟨od, J, hl⟩ := I.look
  exact PySem.W.method_fn X J (PySem.W.plainGet_of hg).1 (PySem.W.plainGet_of hg).2 hf (beq_iff_eq.mp ht) (by show (PySem.W.lookIn name od).map (·.isSome) = some false; rw [hl, hv]; rfl) h

theorem set_map {ns : List Str} {Q : Unit → Shared → Prop} (X : K.In s.heap) (I : ObjM s.heap x dx C mA)
    (hs : PySem.W.findIn K (.ref C) "__setattr__" = some (some (.builtin "object.__setattr__"))) (hp : PySem.W.plainOver K C = true) (ht : PySem.W.takerIn K C name = some none) (hh : PySem.W.hasDictIn K C = true)
    (hw : PySem.Within mA ns) (hsz : ns.length ≤ sizeLine)
    (h : ∀ h', ObjM h' x dx C (fun y => if y = name then some v else mA y) → Heap.SameBut dx s.heap h' → Q () { s with heap := h', toks := s.toks + 2 }) :
    wpAny (model prog w) A (setAttr (.ref x) name v) Q E s := by
  obtain ⟨od, J, hl⟩ := I.look
  refine PySem.W.set_plain X J hs (PySem.W.osa_open (s := { s with toks := s.toks + 1 }) (r := none) X J hp ht fun b => ?_)
  obtain ⟨cd, hc, hd'⟩ := PySem.W.any_some hh
  have hx : s.heap.get? x = some ⟨.ref C, some dx, .plain, #[]⟩ := I.obj
  refine wpAny_bind (wpAny_pure (wpAny_bind (wpAny_bind (wpAny_loadPart hx (wpAny_bind (PySem.W.Looks.here (s := { s with toks := s.toks + 1 }) (PySem.W.looks_clsIn X hc) ?_))))))
  rw [hd']
  refine wpAny_pure (a := some dx) (wpAny_bind (wpAny_pure (wpAny_bind ?_)))
  refine wpAny_nsSet1 (s := { s with toks := s.toks + 1 }) I.ns fun h' hn2 hs2 => ?_
  obtain ⟨oD, esD, epD, hoD, hdD, hcD⟩ := hn2.count (PySem.Within.cons name v hw)
  refine wpAny_bind (wpAny_lookBehind hoD (by rw [hdD]; exact pastItsLine_dict (Nat.le_trans hcD (by rw [List.length_cons]; omega))) ?_)
  exact wpAny_pure (h _ ⟨(hs2.2 _ (Ne.symm I.ne)).trans I.obj, hn2, I.ne⟩ hs2)

/-- C(..): the dict at the heap's end, the instance behind it; then its __init__ -/
theorem make_map {R : Result → Shared → Prop} {vs : List Value} {kw : List (Str × Value)} (X : K.In s.heap) (hm : PySem.W.makesIn K C = true)
    (hi : PySem.W.findIn K (.ref C) "__init__" = some (some (.ref f))) (hf : PySem.W.typeIn K (.ref f) = some (.type "function"))
    (h : codeAny (model prog w) (A.under (.builtin "type.__call__" ⟨.ref C :: vs, kw⟩)) (.call (.ref f) ⟨.ref (s.heap.objs.size + 1) :: vs, kw⟩) (PySem.W.InitBack (s.heap.objs.size + 1) R)
      { s with heap := (s.heap.push PySem.W.emptyDict).push (PySem.W.instObj C s.heap.objs.size) }) :
    codeAny (model prog w) A (.call (.ref C) ⟨vs, kw⟩) R s := by
  obtain ⟨hh, g, d, t, os⟩ := s
  exact PySem.W.make_core (PySem.W.makes_of X hm) (PySem.W.looks_findIn X hi) (fun self => PySem.W.bind_fn X self hf) (.inl rfl) h
end

/-! ### the attributes as a list of pairs -/
def putF (f : Str) (v : V) : List (Str × V) → List (Str × V)
  | [] => [(f, v)]
  | (g, x) :: r => if g = f then (g, v) :: r else (g, x) :: putF f v r
theorem lookup_putF (f g : Str) (v : V) : ∀ fs : List (Str × V), (putF f v fs).lookup g = if g = f then some v else fs.lookup g
  | [] => by
    show List.lookup g [(f, v)] = _
    by_cases h : g = f
    · have hb : (g == f) = true := beq_iff_eq.mpr h
      simp only [List.lookup, hb, if_pos h]
    · have hb : (g == f) = false := beq_eq_false_iff_ne.mpr h
      simp only [List.lookup, hb, if_neg h]
  | (k, x) :: r => by
    have ih := lookup_putF f g v r
    rw [show putF f v ((k, x) :: r) = (if k = f then (k, v) :: r else (k, x) :: putF f v r) from rfl]
    by_cases hk : k = f
    · rw [if_pos hk]
      by_cases h : g = k
      · have hb : (g == k) = true := beq_iff_eq.mpr h
        simp only [List.lookup, hb, if_pos (h.trans hk)]
      · have hb : (g == k) = false := beq_eq_false_iff_ne.mpr h
        simp only [List.lookup, hb, if_neg (fun e : g = f => h (e.trans hk.symm))]
    · rw [if_neg hk]
      by_cases h : g = k
      · have hb : (g == k) = true := beq_iff_eq.mpr h
        simp only [List.lookup, hb, if_neg (fun e : g = f => hk (h.symm.trans e))]
      · have hb : (g == k) = false := beq_eq_false_iff_ne.mpr h
        simp only [List.lookup, hb]
        exact ih
theorem keys_putF (f : Str) (v : V) : ∀ fs : List (Str × V), f ∈ (putF f v fs).map (·.1) ∧ ∀ g, g ∈ fs.map (·.1) → g ∈ (putF f v fs).map (·.1)
  | [] => ⟨by simp [putF], fun g h => by simp at h⟩
  | (k, x) :: r => by
    obtain ⟨i1, i2⟩ := keys_putF f v r
    rw [show putF f v ((k, x) :: r) = (if k = f then (k, v) :: r else (k, x) :: putF f v r) from rfl]
    by_cases hk : k = f
    · rw [if_pos hk]
      subst hk
      exact ⟨by simp, fun g h => by simpa using h⟩
    · rw [if_neg hk]
      refine ⟨?_, fun g h => ?_⟩
      · rw [List.map_cons]
        exact List.mem_cons_of_mem _ i1
      · rw [List.map_cons] at h ⊢
        rcases List.mem_cons.mp h with e | e
        · exact List.mem_cons.mpr (.inl e)
        · exact List.mem_cons_of_mem _ (i2 g e)
theorem length_putF (f : Str) (v : V) : ∀ fs : List (Str × V), (putF f v fs).length ≤ fs.length + 1
  | [] => by simp [putF]
  | (k, x) :: r => by
    have ih := length_putF f v r
    rw [show putF f v ((k, x) :: r) = (if k = f then (k, v) :: r else (k, x) :: putF f v r) from rfl]
    by_cases hk : k = f
    · rw [if_pos hk, List.length_cons, List.length_cons]; omega
    · rw [if_neg hk, List.length_cons, List.length_cons]; omega

theorem RelO.some_of {v : V} {o : Option Value} (r : RelO (some v) o) : ∃ u, o = some u ∧ RelV v u := by
  cases o with
  | none => exact (show False from r).elim
  | some u => exact ⟨u, rfl, r⟩
theorem RelO.none_of {o : Option Value} (r : RelO none o) : o = none := by
  cases o with
  | none => rfl
  | some u => exact (show False from r).elim
theorem handed_of {v : V} {u : Value} (r : RelV v u) : PySem.W.handedIn u = true := by
  cases v with
  | non => cases (show u = Value.none from r); rfl
  | bl b => cases (show u = Value.bool b from r); rfl
  | int i => obtain ⟨t, e⟩ := (show ∃ t, u = Value.int i t from r); cases e; rfl
  | str x => obtain ⟨t, e⟩ := (show ∃ t, u = Value.str x t from r); cases e; rfl
  | byt b => obtain ⟨t, e⟩ := (show ∃ t, u = Value.bytes b t from r); cases e; rfl
  | flt b => obtain ⟨t, e⟩ := (show ∃ t, u = Value.float b t from r); cases e; rfl
  | ref a => cases (show u = Value.ref a from r); rfl
  | ty n => cases (show u = Value.type n from r); rfl

section
variable {P : Program} {w : World} {H H' : Hp} {h h' : Heap} {a C dx : Addr} {fs fs' : List (Str × V)}
theorem ins_get (hok : HOk P w H h) (e : H a = some (.ins C dx fs)) : ∃ mA, ObjM h a dx C mA ∧ (∀ f, RelO (fs.lookup f) (mA f)) ∧ PySem.Within mA (fs.map (·.1)) ∧ fs.length ≤ 1000 ∧ H dx = some (.own a) := by
  obtain ⟨d, z, ne, ob, mA, n, r, q⟩ := (show ObjOk P w H h a (.ins C dx fs) from hok a _ e)
  exact ⟨mA, ⟨ob, n, ne⟩, r, q, z, d⟩
end

/-! ### what of the text a class must have -/
structure Cls (K : PySem.W.Frag) (C : Addr) : Prop where
  pg : PySem.W.plainGet K C Str.empty = true
  hd : PySem.W.hasDictIn K C = true
  po : PySem.W.plainOver K C = true
  sa : PySem.W.findIn K (.ref C) "__setattr__" = some (some (.builtin "object.__setattr__"))
theorem Cls.get {K : PySem.W.Frag} {C : Addr} (c : Cls K C) (f : Str) : PySem.W.plainGet K C f = true := c.pg
/-- no class of it has the name -/
def NoAttr (K : PySem.W.Frag) (C : Addr) (f : Str) : Prop := PySem.W.findIn K (.ref C) f = some none
theorem NoAttr.taker {K : PySem.W.Frag} {C : Addr} {f : Str} (n : NoAttr K C f) : PySem.W.takerIn K C f = some none := by
  unfold PySem.W.takerIn
  rw [show PySem.W.findIn K (.ref C) f = some none from n]
  rfl
/-- a constant of the class -/
structure Con (K : PySem.W.Frag) (C : Addr) (f : Str) (v : V) (u : Value) : Prop where
  at_ : PySem.W.findIn K (.ref C) f = some (some u)
  rel : RelV v u
  get : PySem.W.specialIn K u "__get__" = some none
  cp : PySem.W.copiedNames.contains f = false
/-- a method: a plain def of the class or of one above it -/
structure Meth (K : PySem.W.Frag) (C : Addr) (m : Str) (f : Addr) : Prop where
  at_ : PySem.W.findIn K (.ref C) m = some (some (.ref f))
  fn : PySem.W.isFn K (.ref f) = true
  kp : PySem.W.keepIn K (.ref f) = true

section
variable {X : Cx} {pins : List (Addr × Obj)} {σ : St} {H : Hp} {s : Shared} {a C dx : Addr} {fs : List (Str × V)} {f : Str} {v : V} {A : Around} {E : Value → Shared → Prop}

theorem getattr_ok {b : Bool} {Q : Value → Shared → Prop} (I : Inv X pins σ H s) (e : H a = some (.ins C dx fs)) (c : Cls X.K C) (n : NoAttr X.K C f) (l : fs.lookup f = some v)
    (h : ∀ u s', Inv X pins σ H s' → RelV v u → Q u s') : wpAny (model X.prog X.w) A (getAttr (.ref a) f b) Q E s := by
  obtain ⟨mA, O, r, _, _, _⟩ := ins_get I.hok e
  obtain ⟨u, hu, ru⟩ := RelO.some_of (v := v) (o := mA f) (by rw [← l]; exact r f)
  exact get_map I.kIn O (c.get f) c.hd n hu (handed_of ru) (h u _ (I.tok _) ru)

theorem getmeth_ok {m : Str} {g : Addr} {pl : Sem Bool} {Q : Value × List Value → Shared → Prop} (I : Inv X pins σ H s) (e : H a = some (.ins C dx fs)) (c : Cls X.K C) (k : Meth X.K C m g) (l : fs.lookup m = none)
    (h : Q (.ref g, [.ref a]) s) : wpAny (model X.prog X.w) A (getMethod (.ref a) m pl) Q E s := by
  obtain ⟨mA, O, r, _, _, _⟩ := ins_get I.hok e
  have hn : mA m = none := RelO.none_of (by rw [← l]; exact r m)
  exact get_meth I.kIn O (c.get m) k.at_ k.fn hn h

theorem setattr_ok {y : V} {u : Value} {Q : Unit → Shared → Prop} (I : Inv X pins σ H s) (e : H a = some (.ins C dx fs)) (c : Cls X.K C) (n : NoAttr X.K C f) (hl : fs.length < 1000) (ry : RelV y u)
    (h : ∀ s', Inv X pins σ (upd H a (.ins C dx (putF f y fs))) s' → Q () s') : wpAny (model X.prog X.w) A (setAttr (.ref a) f u) Q E s := by
  obtain ⟨mA, O, r, wi, _, ho⟩ := ins_get I.hok e
  have hz : (fs.map (·.1)).length ≤ sizeLine := by rw [List.length_map, sizeLine_eq]; omega
  refine set_map I.kIn O c.sa c.po n.taker c.hd wi hz fun h' O' sb => h _ ?_
  have hd : ∃ o, h'.get? dx = some o := let ⟨o, _, _, e', _⟩ := O'.ns; ⟨o, e'⟩
  refine I.write (x := a) (e := dx) (by rw [e]; exact True.intro) (.inr ho) (fun b q hb z => (sb.2 b hb).trans z) hd ?_
  refine ⟨by rw [upd_ne O.ne]; exact ho, ?_, O.ne, O'.obj, _, O'.ns, fun g => ?_, fun g hg => ?_⟩
  · have := length_putF f y fs; omega
  · show RelO ((putF f y fs).lookup g) (if g = f then some u else mA g)
    rw [lookup_putF]
    by_cases q : g = f
    · rw [if_pos q, if_pos q]; exact ry
    · rw [if_neg q, if_neg q]; exact r g
  · by_cases q : g = f
    · rw [q]; exact (keys_putF f y fs).1
    · refine (keys_putF f y fs).2 g (wi g fun z => hg ?_)
      show (if g = f then some u else mA g) = none
      rw [if_neg q]; exact z

/-- a new instance, tracked, without attributes -/
theorem Inv.made (I : Inv X pins σ H s) : Inv X pins σ (upd (upd H s.heap.objs.size (.own (s.heap.objs.size + 1))) (s.heap.objs.size + 1) (.ins C s.heap.objs.size []))
    { s with heap := (s.heap.push PySem.W.emptyDict).push (PySem.W.instObj C s.heap.objs.size) } := by
  have e1 : (s.heap.push PySem.W.emptyDict).get? s.heap.objs.size = some PySem.W.emptyDict := Heap.get?_push_size s.heap rfl
  have e2 : ((s.heap.push PySem.W.emptyDict).push (PySem.W.instObj C s.heap.objs.size)).get? (s.heap.objs.size + 1) = some (PySem.W.instObj C s.heap.objs.size) := by
    have := Heap.get?_push_size (s.heap.push PySem.W.emptyDict) (o := PySem.W.instObj C s.heap.objs.size) rfl
    rwa [Heap.size_push] at this
  have e3 : (s.heap.push PySem.W.emptyDict).Ns s.heap.objs.size (fun _ => none) := ⟨PySem.W.emptyDict, #[], _, e1, rfl, (fun e he => absurd he (by simp)), fun _ => rfl⟩
  have I1 := I.laid (a := s.heap.objs.size) (o := .own (s.heap.objs.size + 1)) (h' := s.heap.push PySem.W.emptyDict) (t' := s.toks) (fun b u q => Heap.get?_push_of_some _ q) (Nat.le_refl _) ⟨_, e1⟩
  refine I1.laid (a := s.heap.objs.size + 1) (o := .ins C s.heap.objs.size []) (t' := s.toks) (fun b u q => Heap.get?_push_of_some _ q) (Nat.le_of_eq (Heap.size_push _ _)) ?_
  have ne : s.heap.objs.size ≠ s.heap.objs.size + 1 := Nat.ne_of_lt (Nat.lt_succ_self _)
  refine ⟨by rw [upd_ne ne, upd_same], Nat.zero_le _, ne, e2, fun _ => none, (Heap.Ns1.of_empty e3).at fun o q => Heap.get?_push_of_some _ q, fun _ => True.intro, fun y hy => absurd rfl hy⟩

/-- e.f where nothing but the object is asked: through attributeBase (super) and the last hold -/
theorem attr_of {prog : Program} {w : World} {env : Env} {e : Expr} {f : Str} {pos : Pos} {s : Shared} {Q : Value → Shared → Prop} (hb : attributeBase e f env (eval e env) = eval e env)
    (h : wpAny (model prog w) A (eval e env) (fun o s₁ => wpAny (model prog w) A (getAttr o f true) Q E s₁) E s) : wpAny (model prog w) A (eval (.Attribute e f pos) env) Q E s :=
  Attribute_any_ h (by rw [arm_eval_Attribute, hb])
end

/-! ### readings and rules -/
/-- e.f, an attribute of the instance -/
def tFld (K : PySem.W.Frag) (ta : TE) (f : Str) : TE := fun σ H Q => ta σ H fun x H1 => ∃ a C dx fs v, x = .ref a ∧ H1 a = some (.ins C dx fs) ∧ Cls K C ∧ NoAttr K C f ∧ fs.lookup f = some v ∧ Q v H1
/-- e.f = value -/
def sFld (K : PySem.W.Frag) (ta tv : TE) (f : Str) : TS := fun D σ H => tv σ H fun y H1 => ta σ H1 fun x H2 => ∃ a C dx fs, x = .ref a ∧ H2 a = some (.ins C dx fs) ∧ Cls K C ∧ NoAttr K C f ∧ fs.length < 1000 ∧
  D.nx σ (upd H2 a (.ins C dx (putF f y fs)))
section
variable {X : Cx} {o e value : Expr} {f : Str} {pos pos' tpos : Pos} {ta tv : TE}
theorem pe_fld (he : PE X e ta) (hb : attributeBase e f X.env (eval e X.env) = eval e X.env) : PE X (.Attribute e f pos) (tFld X.K ta f) := by
  intro pins s σ H Q I h
  refine attr_of hb (thn (he pins s σ H _ I h) fun u s1 ⟨x, H1, I1, rx, a, C, dx, fs, v, ex, ea, c, n, l, q⟩ => ?_)
  subst ex
  obtain rfl : u = Value.ref a := rx
  exact getattr_ok I1 ea c n l fun u' s2 I2 ru => ⟨v, H1, I2, ru, q⟩
theorem ps_fld (ha : PE X o ta) (hv : PE X value tv) (hs : swapsWith value (some (.Attribute o f pos')) pos.line X.env = pure false) : PS X (.Assign [.Attribute o f pos'] value pos) (sFld X.K ta tv f) := by
  intro pins s σ H D I h
  refine plainObj_wpAny_Assign_Attribute (thn (hv pins s σ H _ I h) fun u s1 ⟨y, H1, I1, ry, q⟩ => thn (ha pins s1 σ H1 _ I1 q) fun ov s2 ⟨x, H2, I2, rx, a, C, dx, fs, ex, ea, c, n, l, q2⟩ => ?_) hs
  subst ex
  obtain rfl : ov = Value.ref a := rx
  exact setattr_ok I2 ea c n l ry fun s3 I3 => ⟨σ, _, I3, q2⟩
end

/-! ### isinstance -/
section
variable {X : Cx} {pins : List (Addr × Obj)} {σ : St} {H : Hp} {s : Shared} {A : Around} {E : Value → Shared → Prop} {Q : Value → Shared → Prop} {c : Value} {b : Bool}
/-- the type of a value, as the fragment's deciders take it; for an instance its class -/
inductive TyOf (K : PySem.W.Frag) (H : Hp) : V → Value → Prop where
  | non : TyOf K H .non (.type "NoneType")
  | bl (x : Bool) : TyOf K H (.bl x) (.type "bool")
  | int (i : Int) : TyOf K H (.int i) (.type "int")
  | str (x : Str) : TyOf K H (.str x) (.type "str")
  | flt (x : UInt64) : TyOf K H (.flt x) (.type "float")
  | lst {a : Addr} {xs : List V} (e : H a = some (.lst xs)) : TyOf K H (.ref a) (.type "list")
  | frz {a : Addr} {o : Obj} {xs : List V} (e : H a = some (.frz o (.lst xs))) : TyOf K H (.ref a) (.type "list")
  | tup {a : Addr} {xs : List V} (e : H a = some (.tup xs)) : TyOf K H (.ref a) (.type "tuple")
  | dK {a : Addr} {kvs : List (Key × V)} (e : H a = some (.dK kvs)) : TyOf K H (.ref a) (.type "dict")
  | dT {a : Addr} {kvs : List (List Key × V)} (e : H a = some (.dT kvs)) : TyOf K H (.ref a) (.type "dict")
  | ins {a C dx : Addr} {fs : List (Str × V)} (e : H a = some (.ins C dx fs)) (cl : Cls K C) (ha : PySem.W.findIn K (.ref C) "__class__" = some (some (.builtin "object.__class__")))
      (hn : PySem.W.specialIn K (.builtin "object.__class__") "__get__" = some (some (.builtin "getset_descriptor.__get__"))) (htk : PySem.W.takesIn K (.builtin "object.__class__") = some true)
      (hm : PySem.W.mroIn K C (.type "object") = some true) : TyOf K H (.ref a) (.ref C)
/-- isinstance(x, c) for one class c, a built-in or an own one: kitOne's answer -/
theorem isinst_ok {x : V} {u t : Value} (I : Inv X pins σ H s) (rx : RelV x u) (ty : TyOf X.K H x t) (e : PySem.W.kitOne X.K t c = some b) (h : ∀ tk, Q (.bool b) { s with toks := tk }) :
    wpAny (model X.prog X.w) A (call (.builtin "isinstance") [u, c]) Q E s := by
  cases ty with
  | non => cases (show u = Value.none from rx); exact PySem.W.kia_one PySem.W.kitx_none I.kIn True.intro e (fun z => nomatch z) h
  | bl y => cases (show u = Value.bool y from rx); exact PySem.W.kia_one PySem.W.kitx_bool I.kIn True.intro e (fun z => nomatch z) h
  | int i => obtain ⟨t, q⟩ := (show ∃ t, u = Value.int i t from rx); cases q; exact PySem.W.kia_one PySem.W.kitx_int I.kIn True.intro e (fun z => nomatch z) h
  | str y => obtain ⟨t, q⟩ := (show ∃ t, u = Value.str y t from rx); cases q; exact PySem.W.kia_one PySem.W.kitx_str I.kIn True.intro e (fun z => nomatch z) h
  | flt y => obtain ⟨t, q⟩ := (show ∃ t, u = Value.float y t from rx); cases q; exact PySem.W.kia_one PySem.W.kitx_float I.kIn True.intro e (fun z => nomatch z) h
  | @lst a xs ea =>
    cases (show u = Value.ref a from rx)
    obtain ⟨_, _, n, _, h1⟩ := (show ObjOk X.prog X.w H s.heap a (.lst xs) from I.hok a _ ea)
    exact PySem.W.kia_one PySem.W.kitx_list I.kIn ⟨_, h1, rfl⟩ e (fun z => nomatch z) h
  | @frz a ob xs ea =>
    cases (show u = Value.ref a from rx)
    obtain ⟨_, _, _, n, _, h1⟩ := (show ObjOk X.prog X.w H s.heap a (.frz ob (.lst xs)) from I.hok a _ ea)
    exact PySem.W.kia_one PySem.W.kitx_list I.kIn ⟨_, h1, rfl⟩ e (fun z => nomatch z) h
  | @tup a xs ea =>
    cases (show u = Value.ref a from rx)
    obtain ⟨_, _, _, p⟩ := (show ObjOk X.prog X.w H s.heap a (.tup xs) from I.hok a _ ea)
    obtain ⟨o, h1, h2, _⟩ := p
    exact PySem.W.kia_one PySem.W.kitx_tuple I.kIn ⟨o, h1, h2⟩ e (fun z => nomatch z) h
  | @dK a kvs ea =>
    cases (show u = Value.ref a from rx)
    obtain ⟨_, _, vs, _, p⟩ := (show ObjOk X.prog X.w H s.heap a (.dK kvs) from I.hok a _ ea)
    obtain ⟨o, es, ep, h1, h2, _⟩ := p
    exact PySem.W.kia_one PySem.W.kitx_dict I.kIn ⟨o, h1, h2.1⟩ e (fun z => nomatch z) h
  | @dT a kvs ea =>
    cases (show u = Value.ref a from rx)
    obtain ⟨_, _, xs, _, o, es, ep, h1, h2, _⟩ := (show ObjOk X.prog X.w H s.heap a (.dT kvs) from I.hok a _ ea)
    exact PySem.W.kia_one PySem.W.kitx_dict I.kIn ⟨o, h1, h2.1⟩ e (fun z => nomatch z) h
  | @ins a C dx fs ea cl ha hn htk hm =>
    cases (show u = Value.ref a from rx)
    obtain ⟨mA, O, _⟩ := ins_get I.hok ea
    obtain ⟨od, J, _⟩ := O.look
    exact PySem.W.kia_one (PySem.W.kitx_own (cl.get _) cl.hd ha hn htk hm) I.kIn J e (fun z => nomatch z) h
end
end L2

namespace L2
open PySem PySem.Spec PyProof.Rows

/-! ### room -/
structure Room (k : Nat) (A : Around) : Prop where
  hd : A.handled = none
  dp : A.depth + 3 * k + 5 < recursionLimit
  un : A.units + 16 * k + 200 < cLine
theorem Room.mono {j k : Nat} {A : Around} (r : Room k A) (h : j ≤ k) : Room j A := ⟨r.hd, by have := r.dp; omega, by have := r.un; omega⟩
theorem Room.deeper {k : Nat} {A : Around} (r : Room (k + 1) A) (env : Env) : Room k (A.deeper env) :=
  ⟨r.hd, by have := r.dp; show A.depth + 1 + 3 * k + 5 < _; omega, by have := r.un; show A.units + 3 + 16 * k + 200 < _; omega⟩
theorem make_depth {A : Around} {C : Addr} {us : List Value} {kw : List (Str × Value)} : (A.under (.builtin "type.__call__" ⟨.ref C :: us, kw⟩)).depth = A.depth + 1 := by
  first | rfl | simp [Around.under, Code.weight, Code.isCreation, Code.isGuard, Code.isCaller, Code.frames, Code.isFrame, guardIds]
theorem make_units {A : Around} {C : Addr} {us : List Value} {kw : List (Str × Value)} : (A.under (.builtin "type.__call__" ⟨.ref C :: us, kw⟩)).units = A.units + 1 := by
  first | rfl | simp [Around.under, Code.cUnits, Code.frames, Code.isFrame]
theorem Room.make {k : Nat} {A : Around} (r : Room (k + 1) A) (C : Addr) (us : List Value) (kw : List (Str × Value)) : Room k (A.under (.builtin "type.__call__" ⟨.ref C :: us, kw⟩)) :=
  ⟨r.hd, by have := r.dp; rw [make_depth]; omega, by have := r.un; rw [make_units]; omega⟩
theorem Room.depth {k : Nat} {A : Around} (r : Room k A) : A.depth < recursionLimit := by have := r.dp; omega
theorem Room.units {k : Nat} {A : Around} (r : Room k A) : A.units + 64 < cLine := by have := r.un; omega
/-! ### argument lists and displays -/
def tNil : TA := fun _ H Q => Q [] H
def tCons (ta : TE) (tr : TA) : TA := fun σ H Q => ta σ H fun x H1 => tr σ H1 fun xs H2 => Q (x :: xs) H2
section
variable {X : Cx} {e : Expr} {es : List Expr} {te : TE} {t : TA} {pos : Pos}
theorem pa_nil : PA X [] tNil := fun _ _ _ _ H Q I h => Calls.spliced_nil ⟨[], H, I, .nil, h⟩
theorem pa_cons (ha : PE X e te) (hr : PA X es t) (hs : starEach (e :: es) X.env = (false, eval e X.env) :: starEach es X.env := by rfl) : PA X (e :: es) (tCons te t) := by
  intro pos pins s σ H Q I h
  rw [hs]
  show wpAny _ _ (spliced ((false, eval e X.env) :: backTo pos (starEach es X.env))) _ _ s
  refine Calls.spliced_cons (thn (ha pins s σ H _ I h) fun u s1 ⟨x, H1, I1, r1, q1⟩ => ?_)
  exact thn (hr pos pins s1 σ H1 _ I1 q1) fun us s2 ⟨xs, H2, I2, r2, q2⟩ => ⟨x :: xs, H2, I2, .cons r1 r2, q2⟩

/-- a tuple, a list of written items -/
def tTup (t : TA) : TE := fun σ H Q => t σ H fun xs H1 => xs.length ≤ sizeLine ∧ ∀ p, H1 p = none → Q (.ref p) (upd H1 p (.tup xs))
def tLst (t : TA) : TE := fun σ H Q => t σ H fun xs H1 => xs.length ≤ sizeLine ∧ ∀ p, H1 p = none → Q (.ref p) (upd H1 p (.lst xs))
theorem pe_tup {x1} (h : PA X es t) : PE X (.Tuple es x1 pos) (tTup t) := by
  intro pins s σ H Q I hq
  refine wpAny_Tuple_spliced (thn (h pos pins s σ H _ I hq) fun us s1 ⟨xs, H1, I1, r, z, q⟩ => ⟨by rw [← r.length]; exact z, ?_⟩)
  have hf : H1 s1.heap.objs.size = none := I1.hok.fresh (Nat.le_refl _)
  refine ⟨.ref s1.heap.objs.size, upd H1 s1.heap.objs.size (.tup xs), I1.laid (t' := s1.toks) (fun b u e => Heap.get?_push_of_some _ e) (Nat.le_refl _) ?_, rfl, q _ hf⟩
  exact ⟨z, us, r, ⟨_, Heap.get?_push_size _ rfl, rfl, _, rfl⟩⟩
theorem pe_lst (h : PA X es t) : PE X (.List es pos) (tLst t) := by
  intro pins s σ H Q I hq
  refine wpAny_List_spliced (thn (h pos pins s σ H _ I hq) fun us s1 ⟨xs, H1, I1, r, z, q⟩ => ⟨by rw [← r.length]; exact z, ?_⟩)
  have hf : H1 s1.heap.objs.size = none := I1.hok.fresh (Nat.le_refl _)
  refine ⟨.ref s1.heap.objs.size, upd H1 s1.heap.objs.size (.lst xs), I1.laid (t' := s1.toks) (fun b u e => Heap.get?_push_of_some _ e) (Nat.le_refl _) ?_, rfl, q _ hf⟩
  exact ⟨z, us, 0, r, Heap.get?_push_size _ rfl⟩
end

/-! ### what a def promises -/
/-- a def's promise: the bound arguments in the parameters' order, the heap, the wanted end, the wanted exception -/
abbrev Sp := List V → Hp → VK → XK → Prop
/-- how an exception lies behind a call (file 08 gives it): the callers' frames, abstract heap and state ahead of the call, the wish, the exception, the state -/
abbrev CXT := List Env → Hp → Shared → XK → Value → Shared → Prop

/-- the state at a call -/
structure Env0 (P : Program) (w : World) (K : PySem.W.Frag) (mg : Str → Option Value) (base : Heap) (A : Around) (outer : List Env) (s : Shared) (H : Hp) : Prop where
  frames : A.frames = some outer
  mod : Mod K mg base
  bs : ∀ b o, base.get? b = some o → s.heap.get? b = some o ∧ H b = none
  bsz : base.objs.size ≤ s.heap.objs.size
  funs : s.heap.FunFrames base outer
  frf : ∀ b ∈ frs outer, H b = none
  hok : HOk P w H s.heap
  bare : AllBare s.gens
/-- a call's end -/
def CE (outer : List Env) (P : Program) (w : World) (H : Hp) (s : Shared) (Q : VK) (u : Value) (s' : Shared) : Prop :=
  ∃ v H', s'.os = s.os ∧ AllBare s'.gens ∧ Un (frs outer) [] H H' s.heap s'.heap ∧ HOk P w H' s'.heap ∧ RelV v u ∧ Q v H'
def CR (CX : CXT) (outer : List Env) (P : Program) (w : World) (H : Hp) (s : Shared) (Q : VK) (E : XK) (r : Result) (s' : Shared) : Prop :=
  match r with
  | .ok (.ret u) => CE outer P w H s Q u s'
  | .ok _ => False
  | .error e => CX outer H s E e s'
structure FnOk (P : Program) (w : World) (K : PySem.W.Frag) (mg : Str → Option Value) (base : Heap) (CX : CXT) (k : Nat) (f : Addr) (fd : FuncData) (ps : List Str) (sp : Sp) : Prop where
  len : ∀ vs H Q E, sp vs H Q E → vs.length = ps.length
  run : ∀ (A : Around) (outer : List Env) (s : Shared) (H : Hp) (args : Args) (us : List Value) (vs : List V) (Q : VK) (E : XK), Room k A → Env0 P w K mg base A outer s H → BindsTo s fd args (ps.zip us) → Vals vs us → sp vs H Q E →
    codeAny (model P w) A (.call (.ref f) args) (CR CX outer P w H s Q E) s
theorem Env0.make {P : Program} {w : World} {K : PySem.W.Frag} {mg : Str → Option Value} {base : Heap} {A : Around} {outer : List Env} {s : Shared} {H : Hp} (e : Env0 P w K mg base A outer s H) (C : Addr) (us : List Value) (kw : List (Str × Value)) :
    Env0 P w K mg base (A.under (.builtin "type.__call__" ⟨.ref C :: us, kw⟩)) outer s H := ⟨by first | exact e.frames | (simpa [Around.under, Code.envs, Code.isFrame, pushEnvs] using e.frames), e.mod, e.bs, e.bsz, e.funs, e.frf, e.hok, e.bare⟩
section
variable {X : Cx} {pins : List (Addr × Obj)} {σ : St} {H : Hp} {s s' : Shared}
/-- from a body: what a callee wants -/
theorem Inv.env0 (I : Inv X pins σ H s) : Env0 X.prog X.w X.K X.mg X.base X.A X.stack s H :=
  ⟨I.ok.frames, I.ok.mod, I.bs, Nat.le_trans I.ok.bsz I.sz, I.stack, I.stkFree, I.hok, I.bare⟩
/-- behind a call -/
theorem Inv.after {Q : VK} {u : Value} (I : Inv X pins σ H s) (h : CE X.stack X.prog X.w H s Q u s') : EP X pins σ Q u s' := by
  obtain ⟨v, H', os, bare, un, hok, r, q⟩ := h
  obtain ⟨hh, g, d, t, os'⟩ := s'
  obtain rfl : os' = s.os := os
  exact ⟨v, H', I.call (h' := hh) (g' := g) (d' := d) (t' := t) (ch := []) un hok bare (fun b z => absurd z (by simp)), r, q⟩
end

/-! ### calls -/
/-- f(..): the written arguments, then the defaults dvs; E: what is wanted of an exception -/
def tCall (sp : Sp) (dvs : List V) (E : XK) (t : TA) : TE := fun σ H Q => t σ H fun vs H1 => sp (vs ++ dvs) H1 Q E
/-- o.m(..) of an instance of the class at C -/
def tMeth (C : Addr) (m : Str) (sp : Sp) (dvs : List V) (E : XK) (ta : TE) (t : TA) : TE := fun σ H Q => ta σ H fun x H1 => ∃ a dx fs, x = .ref a ∧ H1 a = some (.ins C dx fs) ∧ fs.lookup m = none ∧
  t σ H1 fun vs H2 => sp (x :: (vs ++ dvs)) H2 Q E
/-- C(..): a new instance and its dict, then __init__ -/
def tMake (C : Addr) (sp : Sp) (dvs : List V) (E : XK) (t : TA) : TE := fun σ H Q => t σ H fun vs H1 => ∀ x dx, H1 x = none → H1 dx = none → dx ≠ x →
  sp (.ref x :: (vs ++ dvs)) (upd (upd H1 dx (.own x)) x (.ins C dx [])) (fun v H2 => v = .non ∧ Q (.ref x) H2) E

/-- how the parameters are bound: us the positional arguments, kw the keywords' values by name, ds the defaults that fill up -/
def Binds (K : PySem.W.Frag) (fd : FuncData) (ps : List Str) (ds : List Value) : Prop :=
  ∀ (s : Shared) (us : List Value), K.In s.heap → (us ++ ds).length = ps.length → BindsTo s fd ⟨us, []⟩ (ps.zip (us ++ ds))
/-- every parameter is given -/
theorem Binds.all {K : PySem.W.Frag} {fd : FuncData} {ps : List Str} (h : ∀ us : List Value, us.length = ps.length → bindArgs fd ⟨us, []⟩ = pure (ps.zip us)) : Binds K fd ps [] := fun s us _ hl => by
  rw [List.append_nil] at hl ⊢
  exact .of_eq (h us hl)

/-- an exception of a callee reaches what this body wants of exceptions -/
def Passes (CX : CXT) (X : Cx) (E : XK) : Prop := ∀ (pins : List (Addr × Obj)) (σ : St) (H : Hp) (s : Shared) (e : Value) (s' : Shared), Inv X pins σ H s → CX X.stack H s E e s' → X.xe e s'

section
variable {X : Cx} {CX : CXT} {k : Nat} {f C : Addr} {fd : FuncData} {ps : List Str} {sp : Sp} {dvs : List V} {ds : List Value} {E : XK} {x m : Str} {p pos apos : Pos} {e o : Expr} {es : List Expr} {ta : TE} {t : TA}

/-- the callee runs -/
theorem run_fn {pins : List (Addr × Obj)} {σ : St} {H : Hp} {s : Shared} {Q : VK} {us : List Value} {vs : List V} (F : FnOk X.prog X.w X.K X.mg X.base CX k f fd ps sp) (hr : Room k X.A) (hb : Binds X.K fd ps ds) (hd : Vals dvs ds) (hx : Passes CX X E)
    (I : Inv X pins σ H s) (r : Vals vs us) (h : sp (vs ++ dvs) H Q E) : wpAny (model X.prog X.w) X.A (call (.ref f) us) (EP X pins σ Q) X.xe s := by
  have r2 : Vals (vs ++ dvs) (us ++ ds) := r.append hd
  have hl : (us ++ ds).length = ps.length := by rw [← r2.length]; exact F.len _ _ _ _ h
  refine wpAny_call (codeAny_mono (F.run X.A X.stack s H ⟨us, []⟩ (us ++ ds) (vs ++ dvs) Q E hr I.env0 (hb s us I.kIn hl) r2 h) fun r s' hq => ?_)
  cases r with
  | error e => exact hx pins σ H s e s' I hq
  | ok fl =>
    cases fl with
    | ret u => exact I.after hq
    | next => exact False.elim hq
    | brk => exact False.elim hq
    | cont => exact False.elim hq

theorem pe_call (F : FnOk X.prog X.w X.K X.mg X.base CX k f fd ps sp) (hr : Room k X.A) (hg : Gl X x) (hm : X.mg x = some (.ref f)) (hk : PySem.W.keepIn X.K (.ref f) = true) (hb : Binds X.K fd ps ds) (hd : Vals dvs ds) (hx : Passes CX X E)
    (ha : PA X (e :: es) t) (hdb : (x == ("__debug__" : Str)) = false := by decide) (he : starEach (e :: es) X.env = (false, eval e X.env) :: starEach es X.env := by rfl) (hpl : (backTo pos (starEach es X.env)).any (·.1) = false := by rfl) :
    PE X (.Call (.Name x p) (e :: es) [] pos) (tCall sp dvs E t) := by
  intro pins s σ H Q I h
  refine wpAny_Call_Name_kw (ld_glob I hg hm ?_ hdb)
  refine PySem.W.callWith_K (h₀ := X.base) I.ok.mod.kin hk (thn (ha pos pins s σ H _ I h) fun us s1 ⟨vs, H1, I1, r, q⟩ => ⟨I1.kIn, ?_⟩) he hpl
  exact run_fn F hr hb hd hx I1 r q
/-- o.m(e, ..) -/
theorem pe_meth {pl : Sem Bool} (he : PE X o ta) (c : Cls X.K C) (hm : Meth X.K C m f) (F : FnOk X.prog X.w X.K X.mg X.base CX k f fd ps sp) (hr : Room k X.A) (hb : Binds X.K fd ps ds) (hd : Vals dvs ds) (hx : Passes CX X E) (ha : PA X (e :: es) t)
    (hst : starEach (e :: es) X.env = (false, eval e X.env) :: starEach es X.env := by rfl) (hpl : (backTo pos (starEach es X.env)).any (·.1) = false := by rfl)
    (ht : eval (.Call (.Attribute o m apos) (e :: es) [] pos) X.env = (do
      let ov ← eval o X.env
      standAt apos.atName
      let (f, first) ← holding [ov] (getMethod ov m pl)
      callWith pos f first (backTo pos (starEach (e :: es) X.env)) (backToKw pos (keywordEach [] X.env))) := by rfl) :
    PE X (.Call (.Attribute o m apos) (e :: es) [] pos) (tMeth C m sp dvs E ta t) := by
  intro pins s σ H Q I h
  refine PySem.W.methodCall_KW (pl := pl) (thn (he pins s σ H _ I h) fun u s1 ⟨x, H1, I1, rx, a, dx, fs, ex, ea, l, q⟩ => ?_) ht
  subst ex
  obtain rfl : u = Value.ref a := rx
  refine getmeth_ok I1 ea c hm l ?_
  refine PySem.W.callWith_K (first := [.ref a]) (h₀ := X.base) I.ok.mod.kin hm.kp (thn (ha pos pins s1 σ H1 _ I1 q) fun us s2 ⟨vs, H2, I2, r, q2⟩ => ⟨I2.kIn, ?_⟩) hst hpl
  exact run_fn (us := .ref a :: us) (vs := .ref a :: vs) F hr hb hd hx I2 (.cons rfl r) q2
/-- what a class must have to be made -/
structure Mk (K : PySem.W.Frag) (C f : Addr) : Prop where
  makes : PySem.W.makesIn K C = true
  init : PySem.W.findIn K (.ref C) "__init__" = some (some (.ref f))
  fn : PySem.W.isFn K (.ref f) = true
  kp : PySem.W.keepIn K (.ref C) = true

theorem run_make {pins : List (Addr × Obj)} {σ : St} {H : Hp} {s : Shared} {Q : VK} {us : List Value} {vs : List V} (M : Mk X.K C f) (F : FnOk X.prog X.w X.K X.mg X.base CX k f fd ps sp) (hr : Room (k + 1) X.A) (hb : Binds X.K fd ps ds) (hd : Vals dvs ds)
    (hx : Passes CX X E) (I : Inv X pins σ H s) (r : Vals vs us)
    (h : ∀ x dx, H x = none → H dx = none → dx ≠ x → sp (.ref x :: (vs ++ dvs)) (upd (upd H dx (.own x)) x (.ins C dx [])) (fun v H2 => v = .non ∧ Q (.ref x) H2) E) :
    wpAny (model X.prog X.w) X.A (call (.ref C) us) (EP X pins σ Q) X.xe s := by
  have hq := h (s.heap.objs.size + 1) s.heap.objs.size (I.hok.fresh (Nat.le_succ _)) (I.hok.fresh (Nat.le_refl _)) (Nat.ne_of_lt (Nat.lt_succ_self _))
  have I2 := Inv.made (C := C) I
  have r2 : Vals (V.ref (s.heap.objs.size + 1) :: (vs ++ dvs)) (Value.ref (s.heap.objs.size + 1) :: (us ++ ds)) := .cons rfl (r.append hd)
  have hl : (Value.ref (s.heap.objs.size + 1) :: us ++ ds).length = ps.length := by
    have e := r2.length
    rw [F.len _ _ _ _ hq] at e
    exact e.symm
  refine wpAny_call (make_map (f := f) I.kIn M.makes M.init (beq_iff_eq.mp M.fn) (codeAny_mono (F.run _ X.stack _ _ ⟨Value.ref (s.heap.objs.size + 1) :: us, []⟩ (Value.ref (s.heap.objs.size + 1) :: (us ++ ds)) _ _ E (hr.make C us [])
    (I2.env0.make C us []) (hb _ (Value.ref (s.heap.objs.size + 1) :: us) I2.kIn hl) r2 hq) fun r s' hq' => ?_))
  cases r with
  | error e => exact hx pins σ _ _ e s' I2 hq'
  | ok fl =>
    cases fl with
    | ret u =>
      obtain ⟨v, H', I3, rv, ev, q3⟩ := I2.after hq'
      subst ev
      exact ⟨rv, ⟨V.ref (s.heap.objs.size + 1), H', I3, rfl, q3⟩⟩
    | next => exact False.elim hq'
    | brk => exact False.elim hq'
    | cont => exact False.elim hq'
theorem pe_make (M : Mk X.K C f) (F : FnOk X.prog X.w X.K X.mg X.base CX k f fd ps sp) (hr : Room (k + 1) X.A) (hg : Gl X x) (hm : X.mg x = some (.ref C)) (hb : Binds X.K fd ps ds) (hd : Vals dvs ds) (hx : Passes CX X E)
    (ha : PA X (e :: es) t) (hdb : (x == ("__debug__" : Str)) = false := by decide) (he : starEach (e :: es) X.env = (false, eval e X.env) :: starEach es X.env := by rfl) (hpl : (backTo pos (starEach es X.env)).any (·.1) = false := by rfl) :
    PE X (.Call (.Name x p) (e :: es) [] pos) (tMake C sp dvs E t) := by
  intro pins s σ H Q I h
  refine wpAny_Call_Name_kw (ld_glob I hg hm ?_ hdb)
  refine PySem.W.callWith_K (h₀ := X.base) I.ok.mod.kin M.kp (thn (ha pos pins s σ H _ I h) fun us s1 ⟨vs, H1, I1, r, q⟩ => ⟨I1.kIn, ?_⟩) he hpl
  exact run_make M F hr hb hd hx I1 r q
end

/-! ### keywords -/
section
variable {X : Cx} {CX : CXT} {k : Nat} {f C : Addr} {fd : FuncData} {ps ks : List Str} {sp : Sp} {E : XK} {x m : Str} {p pos apos kpos : Pos} {e o : Expr} {es : List Expr} {kws : List Keyword} {te ta : TE} {t tk : TA} {nm : Option Str}
/-- how a call with keywords binds: g puts the positional values us and the keywords' values ws (names ks) in the parameters' order, defaults among them -/
structure KBinds (K : PySem.W.Frag) (fd : FuncData) (ps ks : List Str) (g : List Value → List Value → List Value) (gV : List V → List V → List V) : Prop where
  to : ∀ (s : Shared) (us ws : List Value), K.In s.heap → (g us ws).length = ps.length → BindsTo s fd ⟨us, ks.zip ws⟩ (ps.zip (g us ws))
  rel : ∀ {vs : List V} {us : List Value} {zs : List V} {ws : List Value}, Vals vs us → Vals zs ws → Vals (gV vs zs) (g us ws)
variable {g : List Value → List Value → List Value} {gV : List V → List V → List V}
end

/-! ### a def's body keeps its promise -/
/-- names: the parameters first -/
structure FnScope (N P : List Str) (sc : Scope) : Prop where
  kind : sc.kind = .function
  co : sc.isCoroutine = false
  gen : sc.isGenerator = false
  nd : N.Nodup
  pre : N.take P.length = P
  par : ∀ x ∈ P, sc.names.lookup x = some .local ∨ sc.names.lookup x = some .cell
  nofree : ∀ y ∈ sc.names, y.2 ≠ .free

theorem bindL_out {kindOf : Str → Option NameKind} {x : Str} : ∀ {binds : List (Str × Value)} {m : Str → Option Value}, (∀ v, (x, v) ∉ binds) → bindL kindOf binds m x = m x
  | [], _, _ => rfl
  | (n, v) :: r, m, h => by
    unfold bindL
    rw [bindL_out fun w hw => h w (List.mem_cons_of_mem _ hw)]
    split
    · have : x ≠ n := by rintro rfl; exact h v List.mem_cons_self
      simp [this]
    · rfl
theorem bindC_out {kindOf : Str → Option NameKind} {x : Str} : ∀ {binds : List (Str × Value)} {m : Str → Option Value}, (∀ v, (x, v) ∉ binds) → bindC kindOf binds m x = m x
  | [], _, _ => rfl
  | (n, v) :: r, m, h => by
    unfold bindC
    rw [bindC_out fun w hw => h w (List.mem_cons_of_mem _ hw)]
    split
    · rfl
    · have : x ≠ n := by rintro rfl; exact h v List.mem_cons_self
      simp [this]
theorem bindL_get {kindOf : Str → Option NameKind} {x : Str} {v : Value} : ∀ {P : List Str} {vs : List Value} {i : Nat} {m : Str → Option Value}, P.Nodup → P[i]? = some x → vs[i]? = some v → kindOf x = some .local →
    bindL kindOf (P.zip vs) m x = some v
  | [], _, _, _, _, h, _, _ => by simp at h
  | _ :: _, [], _, _, _, _, h, _ => by simp at h
  | p :: P, w :: vs, 0, m, nd, h1, h2, hk => by
    simp at h1 h2; subst h1; subst h2
    show bindL kindOf ((p, w) :: P.zip vs) m p = _
    unfold bindL
    rw [bindL_out fun v hv => (List.nodup_cons.mp nd).1 (List.of_mem_zip hv).1, if_pos hk]
    simp
  | p :: P, w :: vs, i + 1, m, nd, h1, h2, hk => by
    show bindL kindOf ((p, w) :: P.zip vs) m x = _
    unfold bindL
    exact bindL_get (i := i) (List.nodup_cons.mp nd).2 (by simpa using h1) (by simpa using h2) hk
theorem bindC_get {kindOf : Str → Option NameKind} {x : Str} {v : Value} : ∀ {P : List Str} {vs : List Value} {i : Nat} {m : Str → Option Value}, P.Nodup → P[i]? = some x → vs[i]? = some v → kindOf x ≠ some .local →
    bindC kindOf (P.zip vs) m x = some v
  | [], _, _, _, _, h, _, _ => by simp at h
  | _ :: _, [], _, _, _, _, h, _ => by simp at h
  | p :: P, w :: vs, 0, m, nd, h1, h2, hk => by
    simp at h1 h2; subst h1; subst h2
    show bindC kindOf ((p, w) :: P.zip vs) m p = _
    unfold bindC
    rw [bindC_out fun v hv => (List.nodup_cons.mp nd).1 (List.of_mem_zip hv).1, if_neg hk]
    simp
  | p :: P, w :: vs, i + 1, m, nd, h1, h2, hk => by
    show bindC kindOf ((p, w) :: P.zip vs) m x = _
    unfold bindC
    exact bindC_get (i := i) (List.nodup_cons.mp nd).2 (by simpa using h1) (by simpa using h2) hk

/-- the names' values at the entry -/
def start (N : List Str) (vs : List V) : St := vs.map some ++ List.replicate (N.length - vs.length) none

/-- the context of a def's body, at its entry; an exception leaves the frame, then lies as CX says -/
def cxOf (CX : CXT) (P : Program) (w : World) (K : PySem.W.Frag) (mg : Str → Option Value) (base : Heap) (N : List Str) (qual : Str) (scope : Scope) (f : Addr) (cd : Value) (A : Around) (outer : List Env) (s : Shared) (H : Hp) (E : XK) : Cx where
  prog := P
  w := w
  K := K
  mg := mg
  base := base
  A := A.deeper (envOfC qual scope s.heap.objs.size f cd)
  N := N
  s₀ := s
  H₀ := H
  env := envOfC qual scope s.heap.objs.size f cd
  outer := outer
  stack := envOfC qual scope s.heap.objs.size f cd :: outer
  ex := []
  calm := true
  fn := fun _ => true
  pn := []
  xe := fun e s' => wpAny (model P w) (A.deeper (envOfC qual scope s.heap.objs.size f cd)) (leaving (envOfC qual scope s.heap.objs.size f cd) e) (fun _ s'' => CX outer H s E e s'') (fun e' s'' => CX outer H s E e' s'') s'

theorem cell_has {sc : Scope} {n : Nat} {x : Str} (h : sc.names.lookup x = some .cell) : ∃ c, (cellsFrom n sc.names []).lookup x = some c := by
  have q := PySem.W.cellsFrom_some sc.names n [] (.inl h)
  exact Option.isSome_iff_exists.mp q

theorem inv_start {CX : CXT} {P : Program} {w : World} {K : PySem.W.Frag} {mg : Str → Option Value} {base : Heap} {N ps : List Str} {qual : Str} {scope : Scope} {f : Addr} {cd : Value} {A : Around} {outer : List Env} {s s1 : Shared} {H : Hp} {E : XK} {us : List Value} {vs : List V}
    (S : FnScope N ps scope) (hd : A.handled = none) (e0 : Env0 P w K mg base A outer s H) (hl : vs.length = ps.length) (r : Vals vs us)
    (x : InCallC s s.heap.objs.size (bindL (envOfC qual scope s.heap.objs.size f cd).kindOf (ps.zip us) fun _ => none) (cellsFrom (s.heap.objs.size + 1) scope.names []) (bindC (envOfC qual scope s.heap.objs.size f cd).kindOf (ps.zip us) fun _ => none) s1) :
    Inv (cxOf CX P w K mg base N qual scope f cd A outer s H E) [] (start N vs) H s1 := by
  have hpl : ps.length ≤ N.length := by have := congrArg List.length S.pre; rw [List.length_take] at this; omega
  obtain ⟨h1, tk, rfl, hk⟩ := x.done
  have noA : ∀ b : Addr, b ∉ (cxOf CX P w K mg base N qual scope f cd A outer s H E).ex := fun b z => absurd (show b ∈ ([] : List Addr) from z) (by simp)
  refine ⟨⟨e0.mod, S.kind, rfl, rfl, Nat.le_refl _, fun y z c h1 h2 => ?_, fun y hy => ?_, fun y c _ h => ?_, fun _ => hd, Around.frames_deeper e0.frames, .inr ⟨rfl, rfl⟩, fun b z => absurd z (noA b), e0.bs, e0.bsz, fun b _ _ => noA b, fun b z => absurd z (noA b), e0.funs, e0.frf⟩,
    rfl, e0.bare, Un.kept hk, ⟨_, x.toInCall.ns, fun i y v h1 h2 h3 => ?_⟩, fun y c h => ⟨_, x.cell y c h⟩, e0.hok.fresh (Nat.le_refl _), fun y c h => ?_, fun p hp => absurd (show p ∈ ([] : List (Addr × Obj)) from hp) (by simp), e0.hok.kept hk, ?_⟩
  · exact name_of_addr x.apart (PySem.mem_of_lookup h1) (PySem.mem_of_lookup h2)
  · have hy : scope.names.lookup y = some .cell ∨ scope.names.lookup y = some .free := hy
    rcases hy with hy | hy
    · exact cell_has hy
    · exact absurd rfl (S.nofree _ (PySem.mem_of_lookup hy))
  · exact Nat.le_of_lt (x.above y c (PySem.mem_of_lookup h))
  · have hi : i < vs.length := by
      unfold start at h2
      by_cases hi : i < vs.length
      · exact hi
      · rw [List.getElem?_append_right (by simpa using hi)] at h2
        rw [List.getElem?_replicate] at h2
        split at h2 <;> cases h2
    have ha : vs[i]? = some v := by
      unfold start at h2
      rw [List.getElem?_append_left (by simpa using hi), List.getElem?_map] at h2
      cases e : vs[i]? with
      | none => rw [e] at h2; cases h2
      | some a => rw [e] at h2; cases h2; rfl
    obtain ⟨u, hu, rv⟩ := r.get ha
    have hp : ps[i]? = some y := by
      rw [← S.pre, List.getElem?_take_of_lt (by omega)]; exact h1
    have ndP : ps.Nodup := by rw [← S.pre]; exact S.nd.sublist (List.take_sublist _ _)
    refine ⟨u, rv, ?_⟩
    rcases S.par y (List.mem_of_getElem? hp) with k | k
    · exact .inl ⟨k, bindL_get ndP hp hu k⟩
    · obtain ⟨c, e⟩ := cell_has (n := s.heap.objs.size + 1) k
      refine .inr ⟨.inl k, c, e, ?_⟩
      have q := x.cell y c e
      rw [bindC_get ndP hp hu (by show scope.names.lookup y ≠ _; rw [k]; decide)] at q
      exact q
  · exact e0.hok.fresh (Nat.le_of_lt (x.above y c (PySem.mem_of_lookup h)))
  · unfold start
    show _ = N.length
    rw [List.length_append, List.length_map, List.length_replicate]
    omega

/-- THE RULE: a def (or a method) of the text, by its body. The body's reading t is chosen for each entry; it is run at the parameters' values -/
theorem fn_of {CX : CXT} {P : Program} {w : World} {K : PySem.W.Frag} {mg : Str → Option Value} {base : Heap} {k : Nat} {f : Addr} {name qual : Str} {params : Arguments} {body : List Stmt} {scope : Scope} {dV kV doc pm cdv ct oc : Value} {an od : Option Addr}
    {osl : Array (Option Value)} {N ps : List Str} {sp : Sp} (lk : K.lookup f = some ⟨oc, od, .func (PySem.W.fnOf name qual params body scope dV kV doc pm an cdv ct), osl⟩) (hcd : PySem.W.codeIn K cdv qual = true) (S : FnScope N ps scope)
    (len : ∀ vs H Q E, sp vs H Q E → vs.length = ps.length)
    (hbody : ∀ (A : Around) (outer : List Env) (s : Shared) (H : Hp) (vs : List V) (Q : VK) (E : XK), Room k (A.deeper (envOfC qual scope s.heap.objs.size f cdv)) → sp vs H Q E →
      ∃ t, PSs (cxOf CX P w K mg base N qual scope f cdv A outer s H E) body t ∧ t { nx := fun _ H' => Q .non H', rt := Q } (start N vs) H) :
    FnOk P w K mg base CX (k + 1) f (PySem.W.fnOf name qual params body scope dV kV doc pm an cdv ct) ps sp := by
  refine ⟨len, fun A outer s H args us vs Q E hr e0 hb r hsp => ?_⟩
  have hl := len _ _ _ _ hsp
  have KX : K.In s.heap := e0.mod.kin.keeps fun b o e => (e0.bs b o e).1
  have lim : s.heap.NoLimit := e0.mod.nolimit.keeps fun b o e => (e0.bs b o e).1
  have hkind : ∀ y ∈ ps.zip us, scope.names.lookup y.1 = some .local ∨ (scope.names.lookup y.1 = some .cell ∧ ((cellsFrom (s.heap.objs.size + 1) scope.names []).lookup y.1).isSome = true) := fun ⟨n, v⟩ hy => by
    rcases S.par n (List.of_mem_zip hy).1 with q | q
    · exact .inl q
    · exact .inr ⟨q, PySem.W.cellsFrom_some _ _ _ (.inl q)⟩
  refine codeAny_call_function hr.depth (KX _ _ lk) rfl S.co S.gen rfl (PySem.W.codeRec_of KX hcd) (hb _ _ _ _ ?_)
  refine wpAny_newFunctionEnv_cells S.kind hkind fun env he s1 x => ?_
  subst he
  refine ⟨lim.keeps x.toInCall.keep, codeAny_func ?_⟩
  obtain ⟨t, ht, hq⟩ := hbody A outer s H vs Q E (hr.deeper _) hsp
  have I : Inv (cxOf CX P w K mg base N qual scope f cdv A outer s H E) [] (start N vs) H s1 := inv_start S hr.hd e0 hl r x
  refine wpAny_mono (ht [] s1 (start N vs) H _ I hq) (fun fl s' hs => ?_) fun e s' hs => hs
  have fin : ∀ {σ' : St} {H' : Hp} {v : V} {u : Value}, Inv (cxOf CX P w K mg base N qual scope f cdv A outer s H E) [] σ' H' s' → RelV v u → Q v H' → CE outer P w H s Q u s' :=
    fun {σ' H' v u} J rv q => ⟨v, H', J.os, J.bare, J.base, J.hok, rv, q⟩
  cases fl with
  | ret u =>
    obtain ⟨v, σ', H', J, rv, q⟩ := hs
    exact fin J rv q
  | next =>
    obtain ⟨σ', H', J, q⟩ := hs
    exact fin (v := V.non) (u := Value.none) J rfl q
  | brk =>
    obtain ⟨_, _, _, q⟩ := hs
    exact False.elim q
  | cont =>
    obtain ⟨_, _, _, q⟩ := hs
    exact False.elim q
end L2

namespace L2
open PySem PySem.Spec PyProof.Rows
section
variable {X : Cx} {x : Str} {p pos : Pos} {e : Expr} {es : List Expr} {t : TA} {id T : String} {r : List V → Hp → VK → Prop}

def tCB (r : List V → Hp → VK → Prop) (t : TA) : TE := fun σ H Q => t σ H fun vs H1 => r vs H1 Q
/-- f(e, ..), f a built-in function -/
theorem pe_callB (hc : CallR X (.builtin id) r) (hg : Gl X x) (hm : X.mg x = none) (hv : bootBuiltins x = some (.builtin id)) (ha : PA X (e :: es) t) (hn : x ≠ "__name__" := by decide) (hdb : (x == ("__debug__" : Str)) = false := by decide)
    (he : starEach (e :: es) X.env = (false, eval e X.env) :: starEach es X.env := by rfl) (hpl : (backTo pos (starEach es X.env)).any (·.1) = false := by rfl) : PE X (.Call (.Name x p) (e :: es) [] pos) (tCB r t) := by
  intro pins s σ H Q I h
  refine wpAny_Call_Name_kw (ld_blt I hg hm hv ?_ hn hdb)
  exact PyProof.Rows.callWith_builtin1 (thn (ha pos pins s σ H _ I h) fun us s1 ⟨vs, H1, I1, r1, q1⟩ => hc pins s1 σ H1 vs us Q I1 r1 q1) he hpl
/-- T(e, ..), T a built-in type -/
theorem pe_callTy (hc : CallR X (.type T) r) (hg : Gl X x) (hm : X.mg x = none) (hv : bootBuiltins x = some (.type T)) (ha : PA X (e :: es) t) (hn : x ≠ "__name__" := by decide) (hdb : (x == ("__debug__" : Str)) = false := by decide)
    (he : starEach (e :: es) X.env = (false, eval e X.env) :: starEach es X.env := by rfl) (hpl : (backTo pos (starEach es X.env)).any (·.1) = false := by rfl) : PE X (.Call (.Name x p) (e :: es) [] pos) (tCB r t) := by
  intro pins s σ H Q I h
  refine wpAny_Call_Name_kw (ld_blt I hg hm hv ?_ hn hdb)
  exact PyProof.Rows.callWith_type1 (thn (ha pos pins s σ H _ I h) fun us s1 ⟨vs, H1, I1, r1, q1⟩ => hc pins s1 σ H1 vs us Q I1 r1 q1) he hpl
end
end L2

namespace HT
open PySem PyProof.Rows

section
open PySem.SeqAt
open PySem.AutoSeq1 (wpAny_loadPart')
open PySem.MeetsSeq PySem.MeetsSeq2 PySem.MeetsSeq3

end

section
variable {prog : Program} {w : World} {A : Around} {E : Value → Shared → Prop} {s : Shared}

/-! ### t[a:b], not the whole -/
/-- a slice's bound as a place among n (d where it is left out) -/
def sIx (n d : Nat) : Option Int → Nat
  | none => d
  | some v => if v < 0 then (v + (n : Int)).toNat else min v.toNat n
theorem sIx_none (n d : Nat) : sIx n d none = d := rfl
theorem sIx_nat (n d k : Nat) : sIx n d (some (k : Int)) = min k n := by
  show (if (k : Int) < 0 then ((k : Int) + (n : Int)).toNat else min (k : Int).toNat n) = min k n
  rw [if_neg (by omega), Int.toNat_natCast]
end
end HT

namespace L2
open PySem PySem.Spec PyProof.Rows

/-! ### the parts of a slice -/
abbrev TO := St → Hp → (Option Int → Hp → Prop) → Prop
/-- a slice's part (left out, or an int) -/
def PO (X : Cx) (e : Option Expr) (t : TO) : Prop :=
  ∀ (pins : List (Addr × Obj)) (s : Shared) (σ : St) (H : Hp) (Q : Option Int → Hp → Prop), Inv X pins σ H s → t σ H Q →
    wpAny (model X.prog X.w) X.A (evalPart e X.env) (fun u s' => ∃ o H', Inv X pins σ H' s' ∧ IsPart u o ∧ Q o H') X.xe s
def tNoPart : TO := fun _ H Q => Q none H
def tPart (t : TE) : TO := fun σ H Q => t σ H fun x H1 => ∃ i, x = .int i ∧ Q (some i) H1

theorem intsAre_of {ns : List Int} : ∀ {us : List Value}, Vals (ns.map V.int) us → IntsAre us ns := by
  induction ns with
  | nil => intro us r; rw [List.map_nil] at r; cases r; exact .nil
  | cons n ns ih =>
    intro us r
    rw [List.map_cons] at r
    cases r with
    | cons r1 r2 =>
      obtain ⟨t, e⟩ := r1
      subst e
      exact .cons n t (ih r2)

section
variable {X : Cx} {e : Expr} {te : TE} {lo hi : Option Expr} {tl th : TO} {pos p2 : Pos}

theorem po_none : PO X none tNoPart := by
  intro pins s σ H Q I h
  rw [evalPart_none]
  exact wpAny_pure ⟨none, H, I, .none, h⟩
theorem po_some (h : PE X e te) : PO X (some e) (tPart te) := by
  intro pins s σ H Q I hw
  rw [evalPart_some]
  refine thn (h pins s σ H _ I hw) fun u s1 ⟨x, H1, I1, r1, q1⟩ => ?_
  obtain ⟨i, rfl, q⟩ := q1
  obtain ⟨t, rfl⟩ := r1
  exact ⟨some i, H1, I1, .int i t, q⟩

/-- what a slice of a value is, by values: the slice object stands at sl -/
def SlR (X : Cx) (r : V → Option Int → Option Int → Hp → VK → Prop) : Prop :=
  ∀ (pins : List (Addr × Obj)) (s : Shared) (σ : St) (H : Hp) (x : V) (v vl vu : Value) (lo hi : Option Int) (sl : Addr) (Q : VK), Inv X pins σ H s → RelV x v → s.heap.IsSliceOf sl vl vu .none → IsPart vl lo → IsPart vu hi → r x lo hi H Q →
    ∃ T id, typeLookup (.type T) "__getitem__" = pure (some (.builtin id)) ∧ s.TypeIs v T ∧ wpAny (model X.prog X.w) X.A (getItem v (.ref sl)) (EP X pins σ Q) X.xe s
def tSl (r : V → Option Int → Option Int → Hp → VK → Prop) (te : TE) (tl th : TO) : TE := fun σ H Q => te σ H fun x H1 => tl σ H1 fun l H2 => th σ H2 fun u H3 => r x l u H3 Q
/-- a[lo:hi], any a -/
theorem pe_slice {r : V → Option Int → Option Int → Hp → VK → Prop} (hr : SlR X r) (he : PE X e te) (hl : PO X lo tl) (hu : PO X hi th) : PE X (.Subscript e (.Slice lo hi none p2) pos) (tSl r te tl th) := by
  intro pins s σ H Q I h
  refine Subscript_ (thn (he pins s σ H _ I h) fun v s1 ⟨x, H1, I1, r1, q1⟩ => ?_)
  refine wpAny_Slice (thn (hl pins s1 σ H1 _ I1 q1) fun vl s2 ⟨l, H2, I2, pl, q2⟩ => thn (hu pins s2 σ H2 _ I2 q2) fun vu s3 ⟨u, H3, I3, pu, q3⟩ => ?_)
  rw [evalPart_none]
  refine wpAny_pure ?_
  have I4 : Inv X pins σ H3 { s3 with heap := s3.heap.push { cls := .type "slice", data := .fields #[vl, vu, .none] } } := I3.kept (t' := s3.toks) fun b ob q => Heap.get?_push_of_some _ q
  obtain ⟨T, id, hT, ht, hg⟩ := hr pins { s3 with heap := s3.heap.push { cls := .type "slice", data := .fields #[vl, vu, .none] } } σ H3 x v vl vu l u s3.heap.objs.size Q I4 r1 (Heap.IsSliceOf.new ..) pl pu q3
  show wpAny (model X.prog X.w) X.A (subscriptTail e (.Slice lo hi none p2) v (.ref s3.heap.objs.size)) (EP X pins σ Q) X.xe { s3 with heap := s3.heap.push { cls := .type "slice", data := .fields #[vl, vu, .none] } }
  exact tail_any (ops := [.ref s3.heap.objs.size, v]) ht hT hg (by with_unfolding_all rfl)

/-- the items of xs[lo:hi] -/
def cutV (xs : List V) (lo hi : Option Int) : List V := (xs.drop (HT.sIx xs.length 0 lo)).take (HT.sIx xs.length xs.length hi - HT.sIx xs.length 0 lo)
theorem cutV_length (xs : List V) (lo hi : Option Int) : (cutV xs lo hi).length ≤ xs.length := by
  unfold cutV
  rw [List.length_take, List.length_drop]
  omega
/-! ### t < u, t + u -/
end
end L2

namespace L2
open PySem PySem.Spec PyProof.Rows

/-! ### places -/
/-- the place that an index of any sign means -/
def ixN (n : Nat) (i : Int) : Option Nat := if 0 ≤ i then (if i < n then some i.toNat else none) else if -(n : Int) ≤ i then some (i + n).toNat else none
def atI {α : Type} (xs : List α) (i : Int) : Option α := (ixN xs.length i).bind fun j => xs[j]?
theorem ixN_seq {n : Nat} {i : Int} {j : Nat} (h : ixN n i = some j) : seqIndex? i n = some j ∧ j < n ∧ -(n : Int) ≤ i ∧ i < n := by
  unfold ixN at h
  by_cases h0 : 0 ≤ i
  · rw [if_pos h0] at h
    by_cases h1 : i < n
    · rw [if_pos h1] at h
      have e : i.toNat = j := Option.some.inj h
      exact ⟨by rw [seqIndex_of h0 h1, e], by omega, by omega, h1⟩
    · rw [if_neg h1] at h; cases h
  · rw [if_neg h0] at h
    by_cases h1 : -(n : Int) ≤ i
    · rw [if_pos h1] at h
      have e : (i + n).toNat = j := Option.some.inj h
      exact ⟨by rw [seqIndex_neg (by omega) h1, e], by omega, h1, by omega⟩
    · rw [if_neg h1] at h; cases h
theorem atI_get {α : Type} {xs : List α} {i : Int} {v : α} (h : atI xs i = some v) : ∃ j, seqIndex? i xs.length = some j ∧ xs[j]? = some v ∧ j < xs.length ∧ -(xs.length : Int) ≤ i ∧ i < xs.length := by
  unfold atI at h
  cases e : ixN xs.length i with
  | none => rw [e] at h; cases h
  | some j =>
    rw [e] at h
    obtain ⟨h1, h2, h3, h4⟩ := ixN_seq e
    exact ⟨j, h1, h, h2, h3, h4⟩
theorem atI_nat {α : Type} {xs : List α} {j : Nat} {v : α} (h : xs[j]? = some v) : atI xs (j : Int) = some v := by
  have hj : j < xs.length := (List.getElem?_eq_some_iff.mp h).1
  have e : ixN xs.length (j : Int) = some j := by
    unfold ixN
    rw [if_pos (by omega), if_pos (by omega)]; simp
  unfold atI; rw [e]; exact h
theorem atI_last {α : Type} (xs : List α) (v : α) : atI (xs ++ [v]) (-1) = some v := by
  have hl : (xs ++ [v]).length = xs.length + 1 := by simp
  have e : ixN (xs ++ [v]).length (-1) = some xs.length := by
    unfold ixN
    rw [hl, if_neg (by decide), if_pos (by omega)]
    congr 1
    omega
  unfold atI
  rw [e]
  show (xs ++ [v])[xs.length]? = some v
  simp

/-! ### what may be subscripted -/
/-- what stands as an index of a plain subscript -/
def PlainIx (b : Expr) : Prop := ∀ o i, subscripted b false o i = operate [o, i] (getItem o i)
/-- a subscript by values -/
def IxR (X : Cx) (r : R2) : Prop :=
  ∀ (value slice : Expr) (pins : List (Addr × Obj)) (s : Shared) (σ : St) (H : Hp) (x y : V) (v u : Value) (Q : VK), Inv X pins σ H s → RelV x v → RelV y u → r x y H Q →
    subscripted slice false v u = operate [v, u] (getItem v u) → wpAny (model X.prog X.w) X.A (subscriptTail value slice v u) (EP X pins σ Q) X.xe s
/-- a call of a builtin's method by values: the receiver, the arguments -/
def MtR (X : Cx) (id : String) (r : V → List V → Hp → VK → Prop) : Prop :=
  ∀ (pins : List (Addr × Obj)) (s : Shared) (σ : St) (H : Hp) (x : V) (xs : List V) (v : Value) (us : List Value) (Q : VK), Inv X pins σ H s → RelV x v → Vals xs us → r x xs H Q →
    wpAny (model X.prog X.w) X.A (call (.builtin id) (v :: us)) (EP X pins σ Q) X.xe s
section
variable {X : Cx} {a b : Expr} {ta tb : TE} {pos : Pos}
/-- a[b] -/
theorem pe_ix {r : R2} (hr : IxR X r) (ha : PE X a ta) (hb : PE X b tb) (hs : PlainIx b) : PE X (.Subscript a b pos) (tOp r ta tb) := by
  intro pins s σ H Q I h
  exact Subscript_ (binT ha hb I h fun v u s2 x y H2 I2 rx ry q => hr a b pins s2 σ H2 x y v u Q I2 rx ry q (hs _ _))

def rIxL (K : PySem.W.Frag) : R2 := fun x y H Q => ∃ p xs i v, x = .ref p ∧ y = .int i ∧ SqL K H p xs ∧ atI xs i = some v ∧ Q v H
def rIxT (K : PySem.W.Frag) : R2 := fun x y H Q => ∃ p xs i v, x = .ref p ∧ y = .int i ∧ SqT K H p xs ∧ atI xs i = some v ∧ Q v H
theorem ix_list : IxR X (rIxL X.K) := by
  intro value slice pins s σ H x y v u Q I rx ry h hs
  obtain ⟨p, xs, i, z, rfl, rfl, hq, he, q⟩ := h
  cases rx
  obtain ⟨t, rfl⟩ := ry
  obtain ⟨its, r, pl, hz⟩ := I.list hq
  obtain ⟨j, h1, h2, h3, h4, h5⟩ := atI_get he
  obtain ⟨w, ew, rw'⟩ := r.get h2
  have hl := r.length
  have hn := line63
  have fin : EP X pins σ Q w s := ⟨z, H, I, rw', q⟩
  by_cases h0 : 0 ≤ i
  · have hj : i.toNat = j := by
      rw [seqIndex_of h0 h5] at h1
      exact Option.some.inj h1
    exact item_listR pl.isList h0 (by omega) (by rw [hj]; simpa using ew) fin hs
  · have hj : (i + (its.toArray.size : Int)).toNat = j := by
      rw [seqIndex_neg (by omega) h4] at h1
      rw [List.size_toArray, ← hl]
      exact Option.some.inj h1
    exact subscriptTail_builtinR (x := w) pl.isList.typeIs slot_list_getitem.lookup
      (wpAny_getItem_list_neg (Q := fun r s' => r = w ∧ EP X pins σ Q r s') pl.isList (by omega) (by rw [List.size_toArray] <;> omega) (by omega) (by rw [hj]; simpa using ew) ⟨rfl, fin⟩) hs
theorem ix_tup : IxR X (rIxT X.K) := by
  intro value slice pins s σ H x y v u Q I rx ry h hs
  obtain ⟨p, xs, i, z, rfl, rfl, hq, he, q⟩ := h
  cases rx
  obtain ⟨t, rfl⟩ := ry
  obtain ⟨its, r, pl, hz⟩ := I.tuple hq
  obtain ⟨j, h1, h2, h3, h4, h5⟩ := atI_get he
  obtain ⟨w, ew, rw'⟩ := r.get h2
  have hl := r.length
  have hn := line63
  have fin : EP X pins σ Q w s := ⟨z, H, I, rw', q⟩
  exact subscriptTail_builtinR (x := w) pl.typeIs slot_tuple_getitem.lookup
    (getItem_tuple (j := j) (Q := fun r s' => r = w ∧ EP X pins σ Q r s') pl (by omega) (by omega) (by rw [List.size_toArray, ← hl]; exact h1) (by simpa using ew) ⟨rfl, fin⟩) hs
/-! ### xs[i] = v, any sign -/
/-- the list's object behind a store -/
theorem mapSeq_set (its : List Value) (n j : Nat) (u : Value) : Obj.mapSeq (·.setIfInBounds j u) { cls := .type "list", data := .seq its.toArray n } = { cls := .type "list", data := .seq (its.set j u).toArray n } := by
  simp [Obj.mapSeq]
theorem Inv.lst {pins : List (Addr × Obj)} {σ : St} {H : Hp} {s : Shared} {p : Addr} {xs : List V} (I : Inv X pins σ H s) (h : H p = some (.lst xs)) :
    ∃ (its : List Value) (n : Nat), Vals xs its ∧ s.heap.get? p = some { cls := .type "list", data := .seq its.toArray n } ∧ xs.length ≤ sizeLine := by
  obtain ⟨z, its, n, r, e⟩ := I.hok p _ h
  exact ⟨its, n, r, e, z⟩
/-- the list at p is written by an update of its object -/
theorem Inv.lstUpd {pins : List (Addr × Obj)} {σ : St} {H : Hp} {s : Shared} {p : Addr} {xs ys : List V} {its its' : List Value} {n n' : Nat} {f : Obj → Obj} (I : Inv X pins σ H s) (h : H p = some (.lst xs))
    (ho : s.heap.get? p = some { cls := .type "list", data := .seq its.toArray n }) (hf : f { cls := .type "list", data := .seq its.toArray n } = { cls := .type "list", data := .seq its'.toArray n' }) (r : Vals ys its') (hz : ys.length ≤ sizeLine) (t : Nat) :
    Inv X pins σ (upd H p (.lst ys)) { s with heap := s.heap.update p f, toks := t } := by
  have e : (s.heap.update p f).get? p = some { cls := .type "list", data := .seq its'.toArray n' } := by
    rw [Heap.get?_update_self f ho (by rw [hf] <;> rfl), hf]
  refine I.write (x := p) (e := p) (by rw [h]; trivial) (.inl rfl) (fun b u hb q => (Heap.get?_update_other _ _ (Ne.symm hb)).trans q) ⟨_, e⟩ ?_
  exact ⟨hz, its', n', r, e⟩
def rSetL : V → V → V → Hp → (Hp → Prop) → Prop := fun o i v H Q => ∃ p xs k j, o = .ref p ∧ i = .int k ∧ H p = some (.lst xs) ∧ ixN xs.length k = some j ∧ Q (upd H p (.lst (xs.set j v)))
theorem set_list : PSet X rSetL := by
  intro pins s σ H o i v ov iv u Q I ro ri rv h
  obtain ⟨p, xs, k, j, rfl, rfl, hp, hj, q⟩ := h
  cases ro
  obtain ⟨t, rfl⟩ := ri
  obtain ⟨its, n, r, ho, hz⟩ := I.lst hp
  obtain ⟨h1, h2, h3, h4⟩ := ixN_seq hj
  have hl := r.length
  have hn := line63
  have I' : Inv X pins σ (upd H p (.lst (xs.set j v))) { s with heap := s.heap.update p (Obj.mapSeq (·.setIfInBounds j u)) } :=
    I.lstUpd hp ho (mapSeq_set its n j u) (r.set rv j) (by rw [List.length_set]; exact hz) s.toks
  by_cases h0 : 0 ≤ k
  · have hk : k.toNat = j := by
      rw [seqIndex_of h0 h4] at h1
      exact Option.some.inj h1
    exact PySem.W.ki_setAt ho h0 (by omega) (by rw [List.size_toArray, ← hl]; exact h4) (by rw [hk]; exact ⟨_, I', q⟩)
  · have hk : (k + (its.toArray.size : Int)).toNat = j := by
      rw [seqIndex_neg (by omega) h3] at h1
      rw [List.size_toArray, ← hl]
      exact Option.some.inj h1
    exact PySem.W.ki_setBack ho (by omega) (by rw [List.size_toArray, ← hl]; exact h3) (by omega) (by rw [hk]; exact ⟨_, I', q⟩)

/-! ### slices -/
theorem slice_bounds (lo hi : Option Int) (n : Nat) : (sliceBounds lo hi none n).1 = ((HT.sIx n 0 lo : Nat) : Int) ∧ (sliceBounds lo hi none n).2.1 = ((HT.sIx n n hi : Nat) : Int) ∧ (sliceBounds lo hi none n).2.2 = 1 := by
  refine ⟨?_, ?_, rfl⟩
  · cases lo with
    | none => simp [sliceBounds, HT.sIx]
    | some i =>
      simp only [sliceBounds, HT.sIx, Option.getD_none, show (1 : Int) > 0 by decide, if_true]
      by_cases h : i < 0
      · simp only [h, if_true] <;> omega
      · simp only [h, if_false] <;> omega
  · cases hi with
    | none => simp [sliceBounds, HT.sIx]
    | some i =>
      simp only [sliceBounds, HT.sIx, Option.getD_none, show (1 : Int) > 0 by decide, if_true]
      by_cases h : i < 0
      · simp only [h, if_true] <;> omega
      · simp only [h, if_false] <;> omega
theorem slicePick_cut (its : List Value) (lo hi : Option Int) : slicePick its.toArray lo hi none = ((its.drop (HT.sIx its.length 0 lo)).take (HT.sIx its.length its.length hi - HT.sIx its.length 0 lo)).toArray := by
  obtain ⟨h1, h2, h3⟩ := slice_bounds lo hi its.toArray.size
  unfold slicePick
  rw [h1, h2, h3]
  simp only [sliceRange_one, pick_run, List.size_toArray] <;> rfl
/-- xs[lo:hi] of a list: a new list -/
def rSlL (K : PySem.W.Frag) : V → Option Int → Option Int → Hp → VK → Prop := fun x lo hi H Q => ∃ a xs, x = .ref a ∧ SqL K H a xs ∧ ∀ p, H p = none → Q (.ref p) (upd H p (.lst (cutV xs lo hi)))
theorem sl_list : SlR X (rSlL X.K) := by
  intro pins s σ H x v vl vu lo hi sl Q I rx hs pl pu h
  obtain ⟨a, xs, rfl, hx, q⟩ := h
  cases rx
  obtain ⟨its, r, ht, hz⟩ := I.list hx
  have hlen := r.length
  refine ⟨"list", _, slot_list_getitem.lookup, ht.isList.typeIs, ?_⟩
  refine wpAny_getItem_list_slice ht.isList hs pl pu .none (by simp) ?_ (by rw [List.size_toArray] <;> omega)
  rw [slicePick_cut, ← hlen]
  refine ⟨.ref s.heap.objs.size, _, I.laid (t' := s.toks) (o := .lst (cutV xs lo hi)) (fun b ob q => Heap.get?_push_of_some _ q) (Nat.le_refl _) ?_, rfl, q _ (I.hok.fresh (Nat.le_refl _))⟩
  exact ⟨Nat.le_trans (cutV_length xs lo hi) hz, _, 0, (r.drop (HT.sIx xs.length 0 lo)).take (HT.sIx xs.length xs.length hi - HT.sIx xs.length 0 lo), Heap.get?_push_size _ rfl⟩

/-! ### in, not in: flat items -/
/-! ### len, list(x), tuple(x) of any list or tuple that is read -/
theorem call_len_seq : CallR X (.builtin "len") (fun xs H Q => ∃ p ys, xs = [.ref p] ∧ (SqL X.K H p ys ∨ SqT X.K H p ys) ∧ Q (.int ys.length) H) := by
  intro pins s σ H xs us Q I r h
  obtain ⟨p, ys, rfl, hq, q⟩ := h
  obtain ⟨u, rfl, rx⟩ := vals1 r
  cases rx
  have hn := line63
  rcases hq with hq | hq
  · obtain ⟨its, r', pl, hz⟩ := I.list hq
    have hlen := r'.length
    exact Calls.call_len_list pl.isList (by simp only [List.size_toArray] <;> omega) ⟨.int ys.length, H, I.tok _, ⟨s.toks + 1, by rw [List.size_toArray, hlen]⟩, q⟩
  · obtain ⟨its, r', pl, hz⟩ := I.tuple hq
    have hlen := r'.length
    exact len_tuple pl (by simp only [List.size_toArray] <;> omega) ⟨.int ys.length, H, I.tok _, ⟨s.toks + 1, by rw [List.size_toArray, hlen]⟩, q⟩
theorem call_list_of : CallR X (.type "list") (fun xs H Q => ∃ p ys, xs = [.ref p] ∧ (SqL X.K H p ys ∨ SqT X.K H p ys) ∧ ∀ l, H l = none → Q (.ref l) (upd H l (.lst ys))) := by
  intro pins s σ H xs us Q I r h
  obtain ⟨p, ys, rfl, hq, q⟩ := h
  obtain ⟨u, rfl, rx⟩ := vals1 r
  cases rx
  have fin : ∀ (its : List Value), Vals ys its → ys.length ≤ sizeLine → ∀ (h' : Heap) (c' : Nat), (∀ b o', s.heap.get? b = some o' → h'.get? b = some o') →
      h'.get? s.heap.objs.size = some { cls := .type "list", dict := none, data := .seq its.toArray c', slots := #[] } → EP X pins σ Q (.ref s.heap.objs.size) { s with heap := h' } := fun its r' hz h' c' kp e =>
    ⟨.ref s.heap.objs.size, _, I.laid (t' := s.toks) kp (Nat.le_refl _) (show ObjOk X.prog X.w _ h' _ (.lst ys) from ⟨hz, its, c', r', e⟩), rfl, q _ (I.hok.fresh (Nat.le_refl _))⟩
  rcases hq with hq | hq
  · obtain ⟨its, r', pl, hz⟩ := I.list hq
    have hlen := r'.length
    obtain ⟨o, ho, hc, n, hd⟩ := pl.isList
    exact call_list_seq p (.inl rfl) ho hc hd (fun h' c' kp e => fin its r' hz h' c' kp e) (by simp only [List.size_toArray] <;> omega)
  · obtain ⟨its, r', pl, hz⟩ := I.tuple hq
    have hlen := r'.length
    obtain ⟨o, ho, hc, n, hd⟩ := pl
    exact call_list_seq p (.inr rfl) ho hc hd (fun h' c' kp e => fin its r' hz h' c' kp e) (by simp only [List.size_toArray] <;> omega)
/-! ### the call of a builtin's method: o.m(..) -/
/-- the value is of that builtin type -/
def tyV (K : PySem.W.Frag) (T : String) (x : V) (H : Hp) : Prop := match x with
  | .str _ => T = "str"
  | .int _ => T = "int"
  | .ref p => (T = "list" ∧ ∃ xs, SqL K H p xs) ∨ (T = "tuple" ∧ ∃ o, K.lookup p = some o ∧ o.cls = .type "tuple" ∧ o.dict = none) ∨
      (T = "dict" ∧ ((∃ kvs, H p = some (.dK kvs)) ∨ ∃ kvs, H p = some (.dT kvs))) ∨ (T = "set" ∧ ∃ S n, H p = some (.set S n))
  | _ => False
theorem tyV_is {pins : List (Addr × Obj)} {σ : St} {H : Hp} {s : Shared} {T : String} {x : V} {v : Value} (I : Inv X pins σ H s) (r : RelV x v) (ty : tyV X.K T x H) :
    s.TypeIs v T ∧ ∀ a, v = .ref a → ∃ ob, s.heap.get? a = some ob ∧ ob.dict = none := by
  cases x with
  | str z =>
    obtain ⟨t, rfl⟩ := r
    cases (show T = "str" from ty)
    exact ⟨typeIs_str s z t, fun _ e => nomatch e⟩
  | int i =>
    obtain ⟨t, rfl⟩ := r
    cases (show T = "int" from ty)
    exact ⟨typeIs_int s i t, fun _ e => nomatch e⟩
  | ref p =>
    cases r
    rcases ty with ⟨rfl, xs, hq⟩ | ⟨rfl, o, hk, hc, hd⟩ | ⟨rfl, hk⟩ | ⟨rfl, S, n, hk⟩
    · obtain ⟨its, _, pl, _⟩ := I.list hq
      refine ⟨pl.isList.typeIs, fun a e => ?_⟩
      cases e
      obtain ⟨o, n, e, c, hd, _⟩ := pl
      exact ⟨o, e, hd⟩
    · refine ⟨⟨o, I.kIn p o hk, hc⟩, fun a e => ?_⟩
      cases e
      exact ⟨o, I.kIn _ o hk, hd⟩
    · have z : ∃ o, s.heap.get? p = some o ∧ o.ExactDict := by
        rcases hk with ⟨kvs, hk⟩ | ⟨kvs, hk⟩
        · obtain ⟨_, _, _, _, o, _, _, e, ex, _⟩ := I.hok p _ hk
          exact ⟨o, e, ex⟩
        · obtain ⟨_, _, _, _, o, _, _, e, ex, _⟩ := I.hok p _ hk
          exact ⟨o, e, ex⟩
      obtain ⟨o, e, ex⟩ := z
      refine ⟨⟨o, e, ex.1⟩, fun a e2 => ?_⟩
      cases e2
      exact ⟨o, e, ex.2.1⟩
    · obtain ⟨o, _, _, _, e, ex, _⟩ := I.hok p _ hk
      refine ⟨⟨o, e, ex.1⟩, fun a e2 => ?_⟩
      cases e2
      exact ⟨o, e, ex.2.1⟩
  | _ => exact False.elim ty
def tBM0 (K : PySem.W.Frag) (T : String) (r : V → List V → Hp → VK → Prop) (to : TE) : TE := fun σ H Q => to σ H fun x H1 => tyV K T x H1 ∧ r x [] H1 Q
def tBM (K : PySem.W.Frag) (T : String) (r : V → List V → Hp → VK → Prop) (to : TE) (t : TA) : TE := fun σ H Q => to σ H fun x H1 => tyV K T x H1 ∧ t σ H1 fun xs H2 => r x xs H2 Q
variable {o e : Expr} {es : List Expr} {to : TE} {t : TA} {name : Str} {apos cpos : Pos} {T id : String} {r : V → List V → Hp → VK → Prop}
theorem pe_bm0 (pa : PlainAttrs T) (slot : Slot T name id) (hty : typeOf (.builtin id) = pure (.type "method_descriptor")) (hm : MtR X id r) (ho : PE X o to)
    (hbase : attributeBase o name X.env (eval o X.env) = eval o X.env := by rfl) (hline : (apos.endLine == cpos.line) = true := by rfl) : PE X (.Call (.Attribute o name apos) [] [] cpos) (tBM0 X.K T r to) := by
  intro pins s σ H Q I h
  refine wpAny_Call_method0_late hbase hline (thn (ho pins s σ H _ I h) fun v s1 ⟨x, H1, I1, r1, ty, q1⟩ => ?_)
  obtain ⟨h1, h2⟩ := tyV_is I1 r1 ty
  exact ⟨T, id, pa, slot, hty, h1, h2, Calls.callWith_builtin rfl (PySem.evalArgs_none (hm pins s1 σ H1 x [] v [] Q I1 r1 .nil q1))⟩
theorem pe_bm (pa : PlainAttrs T) (slot : Slot T name id) (hty : typeOf (.builtin id) = pure (.type "method_descriptor")) (hm : MtR X id r) (ho : PE X o to) (ha : PA X (e :: es) t)
    (hbase : attributeBase o name X.env (eval o X.env) = eval o X.env := by rfl)
    (hfew : ((backTo cpos (starEach (e :: es) X.env)).all (fun x => !x.1) && (backToKw cpos (keywordEach [] X.env)).all (fun x => x.1.isSome)
      && decide ((e :: es).length + ([] : List Keyword).length + (if ([] : List Keyword).isEmpty then 0 else 1) < 30)) = true := by rfl)
    (hline : (apos.endLine == cpos.line) = true := by rfl) (hs : starEach (e :: es) X.env = (false, eval e X.env) :: starEach es X.env := by rfl) (hplain : (backTo cpos (starEach es X.env)).any (·.1) = false := by rfl) :
    PE X (.Call (.Attribute o name apos) (e :: es) [] cpos) (tBM X.K T r to t) := by
  intro pins s σ H Q I h
  refine wpAny_Call_method_late hbase hfew hline rfl (thn (ho pins s σ H _ I h) fun v s1 ⟨x, H1, I1, r1, ty, q1⟩ => ?_)
  obtain ⟨h1, h2⟩ := tyV_is I1 r1 ty
  refine ⟨T, id, pa, slot, hty, h1, h2, ?_⟩
  have hA := ha cpos pins s1 σ H1 _ I1 q1
  rw [hs] at hA ⊢
  refine Calls.callWith_builtin (by show (false || (backTo cpos (starEach es X.env)).any (·.1)) = false; rw [hplain] <;> rfl) (Calls.evalArgs_plain ?_)
  exact thn hA fun us s2 ⟨vs, H2, I2, r2, q2⟩ => hm pins s2 σ H2 x vs v us Q I2 r1 r2 q2
/- xs.append(e), list.index on a module's tuple .. are MtR facts of 06m -/
end
end L2

namespace L2
open PySem PySem.Spec PyProof.Rows

def MtM (X : Cx) (id : String) (r : V → List V → Hp → VK → Prop) : Prop :=
  ∀ (pins : List (Addr × Obj)) (s : Shared) (σ : St) (H : Hp) (x : V) (xs : List V) (v : Value) (us : List Value) (Q : VK), Inv X pins σ H s → RelV x v → Vals xs us → r x xs H Q →
    wpAny (model X.prog X.w) X.A (call (.builtin id) (v :: us)) (EP X pins σ Q) X.xe s

/-! ### lists of values -/
theorem Vals.one : ∀ {x : V} {us : List Value}, Vals [x] us → ∃ u, us = [u] ∧ RelV x u
  | _, _, .cons r .nil => ⟨_, rfl, r⟩
theorem Vals.zero : ∀ {us : List Value}, Vals [] us → us = []
  | _, .nil => rfl
theorem Vals.dropLast {xs : List V} {us : List Value} (h : Vals xs us) : Vals xs.dropLast us.dropLast := by
  induction h with
  | nil => exact .nil
  | cons r t ih =>
    cases t with
    | nil => exact .nil
    | cons q t' => exact .cons r ih
theorem Vals.reverse {xs : List V} {us : List Value} (h : Vals xs us) : Vals xs.reverse us.reverse := by
  induction h with
  | nil => exact .nil
  | cons r t ih => rw [List.reverse_cons, List.reverse_cons]; exact Vals.append ih (.cons r .nil)
theorem erase_last {α : Type} (l : List α) : l.eraseIdx (l.length - 1) = l.dropLast := by
  induction l with
  | nil => rfl
  | cons a r ih =>
    cases r with
    | nil => rfl
    | cons b r =>
      have e : (a :: b :: r).length - 1 = ((b :: r).length - 1) + 1 := by
        have h1 : (a :: b :: r).length = r.length + 2 := rfl
        have h2 : (b :: r).length = r.length + 1 := rfl
        omega
      rw [e, List.eraseIdx_cons_succ, ih]
      all_goals rfl
section
variable {X : Cx} {pins : List (Addr × Obj)} {σ : St} {H : Hp} {s : Shared} {l b : Addr} {xs ys zs : List V}

/-! ### the two steps: a tracked list is rewritten, a new list is laid -/
theorem Inv.lset {its its' : List Value} {n : Nat} {f : Array Value → Array Value} {t' : Nat} (I : Inv X pins σ H s) (hH : H l = some (.lst xs))
    (e : s.heap.get? l = some { cls := .type "list", data := .seq its.toArray n }) (hf : f its.toArray = its'.toArray) (hv : Vals ys its') (hz : ys.length ≤ sizeLine) :
    Inv X pins σ (upd H l (.lst ys)) { s with heap := s.heap.update l (Obj.mapSeq f), toks := t' } := by
  have q := PySem.IsL.update e f
  rw [hf] at q
  refine I.write (x := l) (e := l) (by rw [hH]; exact trivial) (.inl rfl) (fun b' u hb hu => (Heap.get?_update_other s.heap (Obj.mapSeq f) (Ne.symm hb)).trans hu) ⟨_, q⟩ ?_
  exact ⟨hz, its', _, hv, q⟩
theorem Inv.lnew {its : List Value} {t' : Nat} (I : Inv X pins σ H s) (hv : Vals ys its) (hz : ys.length ≤ sizeLine) :
    Inv X pins σ (upd H s.heap.objs.size (.lst ys)) { s with heap := s.heap.push { cls := .type "list", data := .seq its.toArray }, toks := t' } :=
  I.laid (fun _ _ q => Heap.get?_push_of_some _ q) (Nat.le_refl _) ⟨hz, its, 0, hv, Heap.get?_push_size _ rfl⟩
theorem Inv.fresh (I : Inv X pins σ H s) : H s.heap.objs.size = none := I.hok.fresh (Nat.le_refl _)
theorem Inv.lstM (I : Inv X pins σ H s) (hH : H l = some (.lst xs)) : xs.length ≤ sizeLine ∧ ∃ (its : List Value) (n : Nat), Vals xs its ∧ xs.length = its.length ∧ s.heap.get? l = some { cls := .type "list", data := .seq its.toArray n } := by
  obtain ⟨z, its, n, r, e⟩ := I.hok l _ hH
  exact ⟨z, its, n, r, r.length, e⟩

end

section
variable {X : Cx}

/-! ### methods -/
def rAppend : V → List V → Hp → VK → Prop := fun x vs H Q => ∃ l xs y, x = .ref l ∧ vs = [y] ∧ H l = some (.lst xs) ∧ xs.length < sizeLine ∧ Q .non (upd H l (.lst (xs ++ [y])))
theorem mt_append : MtM X "list.append" rAppend := by
  intro pins s σ H x vs v us Q I rx rv h
  obtain ⟨l, xs, y, rfl, rfl, hH, hz, q⟩ := h
  cases rx
  obtain ⟨u, rfl, ru⟩ := rv.one
  obtain ⟨z, its, n, r, hl, e⟩ := I.lstM hH
  refine call_meets F.slot_list_append ⟨_, e, rfl⟩ F.entry_list_append (F.args_list_append_2 _ _) (PySem.list_append l its.toArray n u (by rw [List.size_toArray]; omega)) ⟨e, ?_⟩
  refine ⟨.non, _, I.lset (its' := its ++ [u]) hH e (by simp) (r.append (.cons ru .nil)) ?_, rfl, q⟩
  rw [List.length_append, List.length_singleton]
  omega

def rPop : V → List V → Hp → VK → Prop := fun x vs H Q => ∃ l xs y, x = .ref l ∧ vs = [] ∧ H l = some (.lst xs) ∧ xs[xs.length - 1]? = some y ∧ Q y (upd H l (.lst xs.dropLast))
theorem mt_pop : MtM X "list.pop" rPop := by
  intro pins s σ H x vs v us Q I rx rv h
  obtain ⟨l, xs, y, rfl, rfl, hH, hy, q⟩ := h
  cases rx
  have hus := rv.zero
  subst hus
  obtain ⟨z, its, n, r, hl, e⟩ := I.lstM hH
  obtain ⟨u, hu, ru⟩ := r.get hy
  have hy' : its.toArray[its.toArray.size - 1]? = some u := by
    show its.toArray[its.length - 1]? = some u
    rw [← Array.getElem?_toList, ← hl]
    exact hu
  refine call_meets F.slot_list_pop ⟨_, e, rfl⟩ F.entry_list_pop (F.args_list_pop_1 _) (MeetsSeq.list_pop_last l its.toArray n u hy' (by rw [List.size_toArray]; omega)) ⟨e, ?_⟩
  refine ⟨y, _, I.lset (its' := its.dropLast) hH e ?_ r.dropLast ?_, ru, q⟩
  · show its.toArray.eraseIdxIfInBounds (its.toArray.size - 1) = its.dropLast.toArray
    rw [List.size_toArray, List.eraseIdxIfInBounds_toArray, erase_last]
  · rw [List.length_dropLast]
    omega

/-! ### list + list, list += list, list * int -/
def rCat : R2 := fun x y H Q => ∃ l b xs zs, x = .ref l ∧ y = .ref b ∧ H l = some (.lst xs) ∧ H b = some (.lst zs) ∧ xs.length + zs.length ≤ sizeLine ∧ ∀ p, H p = none → Q (.ref p) (upd H p (.lst (xs ++ zs)))
theorem op_cat : OpR X (binaryOp .Add) rCat := by
  intro pins s σ H x y v u Q I rx ry h
  obtain ⟨l, b, xs, zs, rfl, rfl, hH, hB, hz, q⟩ := h
  cases rx
  cases ry
  obtain ⟨z, its, n, r, hl, e⟩ := I.lstM hH
  obtain ⟨z2, its2, n2, r2, hl2, e2⟩ := I.lstM hB
  refine PySem.P.add_list e e2 ?_ (by rw [List.size_toArray, List.size_toArray]; omega)
  have ea : its.toArray ++ its2.toArray = (its ++ its2).toArray := by simp
  rw [ea]
  exact ⟨.ref _, _, I.lnew (t' := s.toks) (r.append r2) (by rw [List.length_append]; omega), rfl, q _ I.fresh⟩
/-! ### del xs[i] -/
end

/-! ### xs[a:b] = ys -/
section
variable {prog : Program} {w : World} {A : Around} {E : Value → Shared → Prop} {s : Shared}
end

section
variable {X : Cx}
end
end L2

namespace Att
open PySem PySem.W PySem.Calls PyProof.Rows

/-! ### the script -/
theorem ints_of_wellAll {P : Params} {h : Heap} : ∀ (ns : List Int) (vs : List Value), WellAll P h vs (ns.map WData.int) → IntsAre vs ns := by
  intro ns
  induction ns with
  | nil =>
    intro vs w
    rw [List.map_nil] at w
    cases w
    exact .nil
  | cons n ns ih =>
    intro vs w
    rw [List.map_cons] at w
    cases w with
    | cons a b =>
      cases a
      exact .cons _ _ (ih _ b)

theorem script_of {l : OpenLaw} {n : Nat} (hn : l.most = some n) {P : Params} {h : Heap} {args : List WData} {vals : List Value}
    (hpre : l.row.toRowW.claim.pre args = true) (hwl : WellAll P h vals args) :
    ∃ a vs ns, vals = [Value.ref a] ∧ args = [WData.list (ns.map WData.int)] ∧ h.get? a = some { cls := .type "list", data := .seq vs.toArray } ∧ IntsAre vs ns ∧ ns.length ≤ n := by
  have hsh : WShape.hasAll [] args [.list .int] = true := (pre_splitW hpre).1
  have hc : l.pre.holds [] { args := args } = true := (pre_splitW hpre).2
  obtain ⟨d, r, rfl, h1, h2⟩ := hasAllW_cons hsh
  obtain rfl := hasAllW_nil h2
  obtain ⟨xs, rfl, h3⟩ := hasW_list h1
  obtain ⟨ns, rfl⟩ := items_int h3
  have hlen : ns.length ≤ n := by
    unfold OpenLaw.pre at hc
    have h4 : (WTm.not (.lt (.lit (.int (n : Int))) (.len (.arg 0)))).holds [] { args := [.list (ns.map .int)] } = true := by
      have h4 := (holds_andW hc).1
      rw [hn] at h4
      exact h4
    have h5 := condW_of h4 (w_not (w_lt w_lit (w_len_list (w_arg rfl))))
    rw [List.length_map] at h5
    refine Nat.le_of_not_lt fun q => ?_
    have q' : (n : Int) < ((ns.length : Nat) : Int) := by omega
    first
      | (rw [decide_eq_true q'] at h5; exact absurd h5 (by decide))
      | (simp at h5; omega)
  cases hwl with
  | cons w1 w2 =>
    cases w2
    cases w1 with
    | list ho hall => exact ⟨_, _, ns, rfl, rfl, ho, ints_of_wellAll ns _ hall, hlen⟩

theorem post_true (l : OpenLaw) (args : List WData) : l.row.toRowW.claim.post args (.bool true) args = true :=
  postW_of (r := l.row.toRowW) (X := (true == true))
    (show WShape.has [] (.bool true) .bool = true by first | rfl | decide | simp [WShape.has, WShape.arms, WShape.armsAll])
    (show (WTm.eq .res (.lit (.bool true))).value [] { args := args, res := some (.bool true), after := args } = some (.bool (true == true)) from w_eq_bool (w_res rfl) w_lit) rfl

/-! ### the attachment: holds_open's last premise (the goal 'hc' behind k_head) from a wpAny of the law's body -/
/-- the same from a codeAny of the CALL (for a layer whose function contracts speak of calls) -/
theorem attach_call {l : OpenLaw} {n : Nat} {q : Program} {loose : List Str} {XP : (Str → Option Value) → Heap → Prop} {YP : World → Heap → Prop} {d : DefRec}
    (hn : l.most = some n) (hdf : d.params.defaults = [])
    (call : ∀ (w : World) (s₀ s₁ : Shared) (mg mb : Str → Option Value) (fa : Addr) (o : Obj) (pm cd doc : Value) (a : Addr) (vs : List Value) (ns : List Int),
      Ground q loose [] XP w s₀ mg mb s₁.heap → YP w s₁.heap →
      s₁.heap.get? fa = some o → o.data = .func (docDef d.name d.params d.body d.scope pm cd doc) → s₁.heap.CodeRec cd d.name → mg d.name = some (.ref fa) →
      s₁.heap.get? a = some { cls := .type "list", data := .seq vs.toArray } → IntsAre vs ns → ns.length ≤ n → s₁.gens = #[] →
      codeAny (model l.prog w) callerA (.call (.ref fa) ⟨[.ref a], []⟩) (fun r s' => r = .ok (.ret (.bool true)) ∧ OldK s₁.heap s'.heap ∧ s'.os = s₁.os ∧ AllBare s'.gens) s₁) :
    WalkO q loose XP YP l.row.toRowW d [] (fun f vs => PySem.call f vs) := by
  intro w s₀ s₁ mg mb G Y fa o pm cd doc dV kV ho hd hcd hD hmg hg args vals as hpre hlay hrd hwl hlo
  obtain rfl : dV = .none := Dflts.none hD hdf
  obtain rfl : kV = .none := Dflts.noKw hD
  obtain ⟨a, vs, ns, rfl, rfl, hobj, hints, hlen⟩ := script_of hn hpre hwl
  refine enter_call (codeAny_mono (call w s₀ s₁ mg mb fa o pm cd doc a vs ns G Y ho (fd_plain hd) hcd hmg hobj hints hlen hg) fun r s' hq => ?_)
  obtain ⟨rfl, h2, h3, h4⟩ := hq
  exact ⟨.inl ⟨.bool true, .bool true, [], rfl, fun _ => rfl, .bool true, post_true l _, fun _ => ⟨List.Pairwise.nil, fun _ hm => (nomatch hm)⟩⟩, h2, h3, h4⟩

/-! ### rules over ANY heap (no ledger) from facts about the written part K: the library's own take a ledger (News) for what they write -/
section
variable {prog : Program} {w : World} {A : Around} {E : Value → Shared → Prop} {s : Shared} {K : Frag}

/-! the whole heap as the ledger: makes every rule that writes through a ledger a rule over any heap -/
end
end Att

namespace L2
open PySem PySem.Spec PyProof.Rows

theorem vals_ints : ∀ {vs : List Value} {ns : List Int}, IntsAre vs ns → Vals (ns.map V.int) vs
  | _, _, .nil => .nil
  | _, _, .cons n t h => .cons ⟨t, rfl⟩ (vals_ints h)

/-- nothing is tracked but the script, known to the object (or it is an object of the module) -/
def Only (H : Hp) : Prop := ∀ b, H b = none ∨ ∃ o xs, H b = some (.frz o (.lst xs))

/-- THE HEAD: the law's promise, at the heap behind the top. F, the promise of the law's def, may use that base is part of the heap (so K.In base, base.Ns mainGlobals mg stand in Mod) -/
theorem law_call {P : Program} {w : World} {K : PySem.W.Frag} {mg mb : Str → Option Value} {CX : CXT} {k : Nat} {fa a : Addr} {fd : FuncData} {x : Str} {sp : Sp} {s₁ : Shared} {vs : List Value} {ns : List Int}
    (KX : K.In s₁.heap) (hns : s₁.heap.Ns mainGlobals mg) (hb : s₁.heap.Ns builtinsNs mb) (hbb : ∀ x : Str, x ≠ "__name__" → mb x = bootBuiltins x) (hlim : s₁.heap.NoLimit) (hg : s₁.gens = #[])
    (ha : s₁.heap.get? a = some { cls := .type "list", data := .seq vs.toArray }) (hi : IntsAre vs ns) (hl : ns.length ≤ sizeLine) (hr : Room k callerA)
    (F : ∀ base : Heap, K.In base → base.Ns mainGlobals mg → FnOk P w K mg base CX k fa fd [x] sp) (hbind : ∀ (s : Shared) (u : Value), BindsTo s fd ⟨[u], []⟩ [(x, u)])
    (hsp : ∀ H : Hp, Only H → SqL K H a (ns.map V.int) → sp [.ref a] H (fun v _ => v = .bl true) fun _ _ _ => False)
    (hCX : ∀ H e s', CX [] H s₁ (fun _ _ _ => False) e s' → False) :
    codeAny (model P w) callerA (.call (.ref fa) ⟨[.ref a], []⟩) (fun r s' => r = .ok (.ret (.bool true)) ∧ OldK s₁.heap s'.heap ∧ s'.os = s₁.os ∧ AllBare s'.gens) s₁ := by
  have rv := vals_ints hi
  have lenV := hi.length
  -- from an abstract heap in which nothing but the script may be tracked
  have core : ∀ H : Hp, Only H → SqL K H a (ns.map V.int) → HOk P w H s₁.heap → (∀ b, H b ≠ none → b = a) → (H a ≠ none → K.lookup a = none) →
      codeAny (model P w) callerA (.call (.ref fa) ⟨[.ref a], []⟩) (fun r s' => r = .ok (.ret (.bool true)) ∧ OldK s₁.heap s'.heap ∧ s'.os = s₁.os ∧ AllBare s'.gens) s₁ := by
    intro H hO hS hok hA hK
    have base_of : ∀ {b : Addr} {o : Obj}, s₁.heap.get? b = some o → H b = none → (hidT s₁.heap H).get? b = some o := fun e n => hidT_get e n
    have noA : ∀ {b : Addr} {o : Obj} {es : Array DictEntry} {ep : Nat}, s₁.heap.get? b = some o → o.data = .dict es ep → H b = none := fun {b o es ep} e d => by
      cases q : H b with
      | none => rfl
      | some u =>
        have e' : b = a := hA b (by rw [q]; simp)
        subst e'
        rw [ha] at e; cases e
        have d' : Data.seq vs.toArray _ = Data.dict es ep := d
        cases d'
    have nsK : ∀ {b : Addr} {m : Str → Option Value}, s₁.heap.Ns b m → (hidT s₁.heap H).Ns b m := fun {b m} ⟨o, es, ep, e, d, r⟩ => ⟨o, es, ep, base_of e (noA e d), d, r⟩
    have hKb : K.In (hidT s₁.heap H) := fun b o e => base_of (KX b o e) (by
      cases q : H b with
      | none => rfl
      | some u =>
        have e' : b = a := hA b (by rw [q]; simp)
        subst e'
        rw [hK (by rw [q]; simp)] at e; cases e)
    have hM : Mod K mg (hidT s₁.heap H) := ⟨hKb, nsK hns, ⟨mb, nsK hb, hbb⟩, let ⟨mc, h1, h2⟩ := hlim; ⟨mc, nsK h1, h2⟩⟩
    have e0 : Env0 P w K mg (hidT s₁.heap H) callerA [] s₁ H := ⟨rfl, hM, fun b o e => of_hidT e, Nat.le_of_eq (hidT_size _ _), trivial, fun b hb => absurd (show b ∈ ([] : List Addr) from hb) (by simp), hok, .of_eq hg⟩
    refine codeAny_mono ((F _ hKb (nsK hns)).run callerA [] s₁ H ⟨[.ref a], []⟩ [.ref a] [.ref a] _ _ hr e0 (hbind s₁ (.ref a)) (.cons rfl .nil) (hsp H hO hS)) fun r s' h => ?_
    cases r with
    | error e => exact (hCX H e s' h).elim
    | ok fl =>
      cases fl with
      | next => exact False.elim h
      | brk => exact False.elim h
      | cont => exact False.elim h
      | ret u =>
        obtain ⟨v, H', os, bare, un, hok', r', q⟩ := h
        have q' : v = .bl true := q
        subst q'
        obtain rfl : u = Value.bool true := r'
        refine ⟨rfl, OldK.of_keep fun b o e => ?_, os, bare⟩
        cases q : H b with
        | none => exact un.keep b o e q (by intro z; exact absurd (show b ∈ ([] : List Addr) from z) (by simp)) (by simp)
        | some u =>
          rcases hO b with z | ⟨ob, xs, z⟩
          · rw [q] at z; cases z
          · have z2 := un.frzs b ob _ z
            obtain ⟨e1, _⟩ := hok b _ z
            obtain ⟨e2, _⟩ := hok' b _ z2
            rw [e] at e1; cases e1
            exact e2
  cases hk : K.lookup a with
  | some o =>
    -- the script is one of the module's own objects
    have e := KX a o hk
    rw [ha] at e
    cases e
    refine core (fun _ => none) (fun _ => .inl rfl) (.inr ⟨_, vs.toArray, _, hk, rfl, rfl, rfl, by rw [List.size_toArray, lenV]; exact hl, by simpa using rv⟩) (fun b u z => by have z' : (none : Option HO) = some u := z; cases z') (fun b z => absurd rfl z) fun z => absurd rfl z
  | none =>
    refine core (fun b => if b = a then some (.frz { cls := .type "list", data := .seq vs.toArray } (.lst (ns.map V.int))) else none) (fun b => ?_) (.inl (.inr ⟨{ cls := .type "list", data := .seq vs.toArray }, if_pos rfl⟩)) (fun b u z => ?_) (fun b z => ?_) fun _ => hk
    · by_cases hb : b = a
      · exact .inr ⟨_, _, if_pos hb⟩
      · exact .inl (if_neg hb)
    · by_cases hb : b = a
      · have z' := (if_pos hb).symm.trans z
        cases z'
        subst hb
        exact ⟨ha, by rw [List.length_map]; exact hl, vs, _, rv, ha⟩
      · have z' := (if_neg hb).symm.trans z
        cases z'
    · by_cases hb : b = a
      · exact hb
      · exact absurd (if_neg hb) z
end L2

namespace L2
open PySem PySem.Spec PyProof.Rows

/-- the goal that k_head leaves (case hc), from the law's promise. F gives the function object fd (K's own) once, then the promise over every base -/
theorem walk_of {l : PySem.W.OpenLaw} {n k : Nat} {q : Program} {loose : List Str} {XP : (Str → Option Value) → Heap → Prop} {YP : World → Heap → Prop} {d : DefRec} {K : Params → PySem.W.Frag} {CX : World → CXT} {sp : World → Sp} {x : Str}
    (hn : l.most = some n) (hn2 : n ≤ sizeLine) (hdf : d.params.defaults = []) (hr : Room k callerA)
    (hY : ∀ (w : World) (h : Heap), YP w h → (K w.params).In h)
    (F : ∀ (w : World) (mg : Str → Option Value) (fa : Addr) (h : Heap), (K w.params).In h → h.Ns mainGlobals mg → mg d.name = some (.ref fa) →
      ∃ fd : FuncData, (∀ (s : Shared) (u : Value), BindsTo s fd ⟨[u], []⟩ [(x, u)]) ∧
        ∀ base : Heap, (K w.params).In base → base.Ns mainGlobals mg → FnOk l.prog w (K w.params) mg base (CX w) k fa fd [x] (sp w))
    (hsp : ∀ (w : World) (H : Hp) (a : Addr) (ns : List Int), ns.length ≤ n → Only H → SqL (K w.params) H a (ns.map V.int) → sp w [.ref a] H (fun v _ => v = .bl true) fun _ _ _ => False)
    (hCX : ∀ (w : World) (H : Hp) (s : Shared) (e : Value) (s' : Shared), CX w [] H s (fun _ _ _ => False) e s' → False) :
    PySem.W.WalkO q loose XP YP l.row.toRowW d [] (fun f vs => PySem.call f vs) := by
  refine Att.attach_call hn hdf fun w s₀ s₁ mg mb fa o pm cd doc a vs ns G Y ho hd hcd hmg hobj hints hlen hg => ?_
  have KX := hY w _ Y
  obtain ⟨fd, hb, hF⟩ := F w mg fa _ KX G.T.g hmg
  exact law_call KX G.T.g G.T.b G.T.builtins G.T.nolimit hg hobj hints (Nat.le_trans hlen hn2) hr hF hb (fun H hO hS => hsp w H a ns hlen hO hS) fun H e s' => hCX w H s₁ e s'
end L2

/-! SHORT WORDS over the layer: a def of the text, its body, what a loop and a test want. -/
namespace L2
open PySem PySem.Spec PyProof.Rows

/-! ### the text by places -/
/-- the j-th statement of a class's body -/
def inClass (s : Stmt) (j : Nat) : Stmt := match s with
  | .ClassDef _ _ _ body _ _ _ _ _ _ _ => body.getD j (.Pass ⟨0, 0, 0, 0⟩)
  | _ => .Pass ⟨0, 0, 0, 0⟩
def defArgs (s : Stmt) : Arguments := match s with
  | .FunctionDef _ a _ _ _ _ _ _ _ _ => a
  | _ => { posonlyargs := [], args := [], vararg := none, kwonlyargs := [], kw_defaults := [], kwarg := none, defaults := [] }
def defBody (s : Stmt) : List Stmt := match s with
  | .FunctionDef _ _ b _ _ _ _ _ _ _ => b
  | _ => []
def defScope (s : Stmt) : Scope := match s with
  | .FunctionDef _ _ _ _ _ _ sc _ _ _ => sc
  | _ => { kind := .function, names := [], isGenerator := false, isCoroutine := false }

/-! ### no exception leaves a def -/
abbrev CX0 : CXT := fun _ _ _ _ _ _ => False
abbrev E0 : XK := fun _ _ _ => False
theorem pass0 {X : Cx} : Passes CX0 X E0 := fun _ _ _ _ _ _ _ h => h.elim

/-! ### a def (or method) of the text as it stands behind the top -/
structure Fun (K : PySem.W.Frag) (x qual : Str) (st : Stmt) (f : Addr) (fd : FuncData) : Prop where
  ex : ∃ (oc : Value) (od : Option Addr) (kV doc pm : Value) (an : Option Addr) (cdv ct : Value) (osl : Array (Option Value)),
    fd = PySem.W.fnOf x qual (defArgs st) (defBody st) (defScope st) .none kV doc pm an cdv ct ∧ K.lookup f = some ⟨oc, od, .func fd, osl⟩ ∧ PySem.W.codeIn K cdv qual = true
  kp : PySem.W.keepIn K (.ref f) = true
section
variable {P : Program} {w : World} {K : PySem.W.Frag} {mg : Str → Option Value} {base : Heap}
/-- THE RULE for a def: its body as a term of rules, and the reading of that term -/
theorem Fun.ok {x qual : Str} {st : Stmt} {f : Addr} {fd : FuncData} {N ps : List Str} {k : Nat} {sp : Sp} (F : Fun K x qual st f fd) (S : FnScope N ps (defScope st)) (len : ∀ vs H Q E, sp vs H Q E → vs.length = ps.length)
    (hbody : ∀ (cdv : Value) (A : Around) (outer : List Env) (s : Shared) (H : Hp) (vs : List V) (Q : VK) (E : XK), Room k (A.deeper (envOfC qual (defScope st) s.heap.objs.size f cdv)) → sp vs H Q E →
      ∃ t, PSs (cxOf CX0 P w K mg base N qual (defScope st) f cdv A outer s H E).nox (defBody st) t ∧ t { nx := fun _ H' => Q .non H', rt := Q } (start N vs) H) : FnOk P w K mg base CX0 (k + 1) f fd ps sp := by
  obtain ⟨oc, od, kV, doc, pm, an, cdv, ct, osl, rfl, lk, hcd⟩ := F.ex
  refine fn_of lk hcd S len fun A outer s H vs Q E hr hsp => ?_
  obtain ⟨t, h, q⟩ := hbody cdv A outer s H vs Q E hr hsp
  exact ⟨t, h.nox, q⟩
/-- how its arguments bind (no defaults): h is «fun _ _ _ _ _ _ us hl => match us, hl with | [_, _], _ => rfl», one _ a parameter -/
theorem Fun.binds {x qual : Str} {st : Stmt} {f : Addr} {fd : FuncData} {ps : List Str} (F : Fun K x qual st f fd)
    (h : ∀ (kV doc pm : Value) (an : Option Addr) (cdv ct : Value) (us : List Value), us.length = ps.length → bindArgs (PySem.W.fnOf x qual (defArgs st) (defBody st) (defScope st) .none kV doc pm an cdv ct) ⟨us, []⟩ = pure (ps.zip us)) : Binds K fd ps [] := by
  obtain ⟨oc, od, kV, doc, pm, an, cdv, ct, osl, rfl, lk, hcd⟩ := F.ex
  exact .all (h kV doc pm an cdv ct)
theorem fun_mk {x qual : Str} {st : Stmt} {f : Addr} {oc : Value} {od an : Option Addr} {osl : Array (Option Value)} {kV doc pm cdv ct : Value} (l : K.lookup f = some ⟨oc, od, .func (PySem.W.fnOf x qual (defArgs st) (defBody st) (defScope st) .none kV doc pm an cdv ct), osl⟩)
    (c : PySem.W.codeIn K cdv qual = true) (k : PySem.W.keepIn K (.ref f) = true) : Fun K x qual st f (PySem.W.fnOf x qual (defArgs st) (defBody st) (defScope st) .none kV doc pm an cdv ct) := ⟨⟨oc, od, kV, doc, pm, an, cdv, ct, osl, rfl, l, c⟩, k⟩
end
theorem small1000 {n : Nat} (h : n ≤ 1000) : n < sizeLine := Nat.lt_of_le_of_lt h (by decide)

/-! ### expressions in short: the name that stands in the i-th slot -/
section
variable {X : Cx}
theorem pv (i : Nat) {x : Str} {pos : Pos} (hN : X.N[i]? = some x := by rfl) (hv : Vis X.env.scope x := by first | exact Or.inl rfl | exact Or.inr (Or.inl rfl) | exact Or.inr (Or.inr rfl)) (hd : (x == ("__debug__" : Str)) = false := by decide)
    (hcd : (x == ("__classdict__" : Str)) = false := by decide) : PE X (.Name x pos) (tVar i) := pe_var hN hv hd hcd
end

/-! ### tests -/
theorem iteF {A B : Prop} (h : B) : if false = true then A else B := by
  rw [if_neg Bool.false_ne_true]
  exact h
theorem iteT {A B : Prop} (h : A) : if true = true then A else B := by
  rw [if_pos rfl]
  exact h
theorem ite2 {c A B : Prop} [Decidable c] (h1 : c → A) (h2 : ¬ c → B) : if c then A else B := by
  by_cases h : c
  · rw [if_pos h]
    exact h1 h
  · rw [if_neg h]
    exact h2 h
theorem iteNS {c A B : Prop} [Decidable c] (hc : c) (h : B) : if (!decide c) = true then A else B := by
  rw [decide_eq_true hc]
  exact iteF h

/-! ### heaps -/
/-- all that was tracked is as it was -/
def Same (H H' : Hp) : Prop := ∀ b o, H b = some o → H' b = some o
theorem Same.refl (H : Hp) : Same H H := fun _ _ h => h
theorem Same.trans {H H1 H2 : Hp} (a : Same H H1) (b : Same H1 H2) : Same H H2 := fun c o h => b c o (a c o h)
theorem Same.free {H H' : Hp} (e : Same H H') {l : Addr} (h : H' l = Option.none) : H l = Option.none := by
  cases q : H l with
  | none => rfl
  | some o =>
    rw [e l o q] at h
    cases h
theorem Same.seq {K : PySem.W.Frag} {H H' : Hp} {a : Addr} {xs : List V} (e : Same H H') (h : SqL K H a xs) : SqL K H' a xs := by
  rcases h with (h | ⟨o, h⟩) | h
  · exact .inl (.inl (e _ _ h))
  · exact .inl (.inr ⟨o, e _ _ h⟩)
  · exact .inr h

end L2

namespace L2
open PySem PySem.Spec PyProof.Rows
/-! ### a comprehension's block -/
def clOf (env : Env) : List (Str × NameKind) → List (Str × Addr) → List (Str × Addr)
  | [], acc => acc
  | (n, k) :: r, acc => clOf env r (if k == .free then (n, (env.cells.lookup n).getD 0) :: acc else acc)
theorem closure_go {env : Env} : ∀ (names : List (Str × NameKind)) (acc : List (Str × Addr)), (∀ x ∈ names, x.2 = .free → ∃ c, env.cells.lookup x.1 = some c) →
    (forIn names acc (fun (x : Str × NameKind) (cs : List (Str × Addr)) => (if (x.2 == NameKind.free) = true then do let a ← cellOf env x.1; pure (ForInStep.yield ((x.1, a) :: cs)) else pure (ForInStep.yield cs) : Sem (ForInStep (List (Str × Addr))))) : Sem (List (Str × Addr))) = pure (clOf env names acc)
  | [], acc, _ => by simp [clOf]
  | (n, k) :: r, acc, h => by
    rw [List.forIn_cons]
    cases hk : (k == NameKind.free) with
    | false =>
      simp only [hk, Bool.false_eq_true, if_false, pure_bind]
      rw [closure_go r acc fun x hx => h x (List.mem_cons_of_mem _ hx)]
      show _ = pure (clOf env r (if (k == NameKind.free) = true then _ else acc))
      rw [hk]; rfl
    | true =>
      obtain ⟨c, hc⟩ := h (n, k) List.mem_cons_self (by simpa using hk)
      have hc' : env.cells.lookup n = some c := hc
      have e : cellOf env n = pure c := by unfold cellOf; rw [hc']
      simp only [hk, if_true, e, pure_bind]
      rw [closure_go r _ fun x hx => h x (List.mem_cons_of_mem _ hx)]
      show _ = pure (clOf env r (if (k == NameKind.free) = true then (n, (env.cells.lookup n).getD 0) :: acc else acc))
      rw [hk, hc']; rfl
theorem closure_of {env : Env} {scope : Scope} (h : ∀ x ∈ scope.names, x.2 = .free → ∃ c, env.cells.lookup x.1 = some c) : closureFor scope env = pure (clOf env scope.names []) := by
  rw [← closure_go scope.names [] h]
  unfold closureFor
  first
  | rfl
  | simp
theorem clOf_sub {env : Env} : ∀ (names : List (Str × NameKind)) (acc : List (Str × Addr)), (∀ x ∈ names, x.2 = .free → ∃ c, env.cells.lookup x.1 = some c) → (∀ x c, acc.lookup x = some c → env.cells.lookup x = some c) →
    ∀ x c, (clOf env names acc).lookup x = some c → env.cells.lookup x = some c
  | [], acc, _, ha => ha
  | (n, k) :: r, acc, h, ha => by
    unfold clOf
    refine clOf_sub r _ (fun x hx => h x (List.mem_cons_of_mem _ hx)) ?_
    intro x c
    cases hk : (k == NameKind.free) with
    | false => simp only [Bool.false_eq_true, if_false]; exact ha x c
    | true =>
      simp only [if_true]
      obtain ⟨c', hc⟩ := h (n, k) List.mem_cons_self (by simpa using hk)
      have hc' : env.cells.lookup n = some c' := hc
      rw [List.lookup_cons]
      cases hx : x == n with
      | true => intro e; simp only [hc', Option.getD_some] at e; cases e; rw [eq_of_beq hx]; exact hc'
      | false => intro e; exact ha x c e
theorem clOf_keep {env : Env} {x : Str} : ∀ (names : List (Str × NameKind)) (acc : List (Str × Addr)), (∃ c, acc.lookup x = some c) → ∃ c, (clOf env names acc).lookup x = some c
  | [], acc, h => h
  | (n, k) :: r, acc, ⟨c, h⟩ => by
    unfold clOf
    refine clOf_keep r _ ?_
    cases hk : (k == NameKind.free) with
    | false => simp only [Bool.false_eq_true, if_false]; exact ⟨c, h⟩
    | true =>
      simp only [if_true]
      rw [List.lookup_cons]
      cases hx : x == n with
      | true => exact ⟨_, rfl⟩
      | false => exact ⟨c, h⟩
theorem clOf_has {env : Env} {x : Str} : ∀ (names : List (Str × NameKind)) (acc : List (Str × Addr)), names.lookup x = some .free → ∃ c, (clOf env names acc).lookup x = some c
  | [], acc, h => by simp at h
  | (n, k) :: r, acc, h => by
    unfold clOf
    rw [List.lookup_cons] at h
    cases hx : x == n with
    | true =>
      rw [hx] at h
      cases h
      refine clOf_keep r _ ?_
      simp only [beq_self_eq_true, if_true]
      rw [List.lookup_cons, hx]
      exact ⟨_, rfl⟩
    | false =>
      rw [hx] at h
      exact clOf_has r _ h
theorem lookup_relabel {env : Env} (b : Bool) (y : Str) : ∀ (names : List (Str × NameKind)),
    (names.map fun (n, k) => if (k == NameKind.free && b && env.kindOf n == some .cell) then (n, NameKind.cell) else (n, k)).lookup y = (names.lookup y).map fun k => if (k == NameKind.free && b && env.kindOf y == some .cell) then NameKind.cell else k
  | [] => rfl
  | (n, k) :: r => by
    have ih := lookup_relabel (env := env) b y r
    show List.lookup y ((if (k == NameKind.free && b && env.kindOf n == some .cell) = true then (n, NameKind.cell) else (n, k)) :: (r.map fun (n, k) => if (k == NameKind.free && b && env.kindOf n == some .cell) then (n, NameKind.cell) else (n, k))) = _
    cases hx : y == n with
    | true =>
      have e := eq_of_beq hx
      subst e
      have er : List.lookup y ((y, k) :: r) = some k := by rw [List.lookup_cons, hx]
      rw [er]
      show _ = some (if (k == NameKind.free && b && env.kindOf y == some .cell) = true then NameKind.cell else k)
      by_cases hc : (k == NameKind.free && b && env.kindOf y == some .cell) = true
      · rw [if_pos hc, if_pos hc, List.lookup_cons, hx]
      · rw [if_neg hc, if_neg hc, List.lookup_cons, hx]
    | false =>
      have er : List.lookup y ((n, k) :: r) = List.lookup y r := by rw [List.lookup_cons, hx]
      rw [er, ← ih]
      by_cases hc : (k == NameKind.free && b && env.kindOf n == some .cell) = true
      · rw [if_pos hc, List.lookup_cons, hx]
      · rw [if_neg hc, List.lookup_cons, hx]
theorem relabel_lookup (scope : Scope) (env : Env) (y : Str) : (relabel scope env).names.lookup y = (scope.names.lookup y).map fun k => if (k == NameKind.free && env.scope.kind == .function && env.kindOf y == some .cell) then NameKind.cell else k :=
  lookup_relabel _ y scope.names
/-- the block's context -/
def compCx (X : Cx) (N : List Str) (scope : Scope) (C : Addr) (s : Shared) (H : Hp) (fp : List Addr) : Cx where
  prog := X.prog
  w := X.w
  K := X.K
  mg := X.mg
  base := X.base
  A := X.A
  N := N
  s₀ := s
  H₀ := H
  env := compEnvC scope (clOf X.env scope.names []) C X.env
  outer := X.stack
  stack := X.stack
  ex := fp
  fn := fun _ => false
  calm := X.calm
  pn := []
  xe := fun _ _ => False
def capN (N tn : List Str) (cap : List Nat) : List Str := tn ++ cap.map fun j => N.getD j ""
def capS (σ : St) (k : Nat) (cap : List Nat) : St := List.replicate k none ++ cap.map fun j => (σ[j]?).join
def Ext (a b : St) : Prop := b.length = a.length ∧ ∀ (i : Nat) (v : V), a[i]? = some (some v) → b[i]? = some (some v)
/-- the tests of a clause -/
def PF (X : Cx) (ifs : List Expr) (t : TT) : Prop :=
  ∀ (pins : List (Addr × Obj)) (s : Shared) (σ : St) (H : Hp) (Q : Bool → Hp → Prop), Inv X pins σ H s → t σ H Q →
    wpAny (model X.prog X.w) X.A (forIn ifs true fun c r => if r = true then do let ok ← isTrue c X.env (eval c X.env); pure (ForInStep.yield ok) else pure (ForInStep.yield r)) (TP X pins σ Q) X.xe s
def tAlw : TT := fun _ H Q => Q true H
theorem pf_nil {X : Cx} : PF X [] tAlw := fun _ _ _ H _ I h => wpAny_tests_nil ⟨H, I, h⟩
/-- [e for t in i if ..]: W by turn, heap and what is gathered; D the new list -/
abbrev Fam (α : Type) := Addr → Shared → Hp → List Addr → α
def LcGoal (J : It) (σ0 : St) (g : Fam TG) (tc : Fam TT) (te : Fam TE) (D : Addr) (H1 : Hp) (Q : VK) : Prop :=
  ∃ (n : Nat) (W : Nat → Hp → List V → Prop), W 0 (upd H1 D (.lst [])) [] ∧ ∀ i H2 ys, W i H2 ys → i ≤ n ∧ H2 D = some (.lst ys) ∧
    ((J.stop i H2 ∧ Q (.ref D) H2) ∨ (i < n ∧ J.go i H2 ∧ ∀ C s H0 fp x H3, J.yld i H2 x H3 → g C s H0 fp x σ0 H3 fun σ4 H4 => Ext σ0 σ4 ∧
      tc C s H0 fp σ4 H4 fun b H5 => if b = true then te C s H0 fp σ4 H5 fun y H6 => H6 D = some (.lst ys) ∧ ys.length < sizeLine ∧ W (i + 1) (upd H6 D (.lst (ys ++ [y]))) (ys ++ [y]) else W (i + 1) H5 ys))
def tLc (wi : TI) (k : Nat) (cap : List Nat) (g : Fam TG) (tc : Fam TT) (te : Fam TE) : TE := fun σ H Q => wi σ H fun J H1 => ∀ D, H1 D = none → LcGoal J (capS σ k cap) g tc te D H1 Q
/-- what the block asks of its scope -/
structure CompOk (X : Cx) (scope : Scope) (cap : List Nat) : Prop where
  nocell : ∀ y ∈ scope.names, y.2 ≠ .cell
  kind : scope.kind = .function
  free : ∀ y ∈ scope.names, y.2 = .free → X.env.scope.names.lookup y.1 = some .cell ∨ X.env.scope.names.lookup y.1 = some .free
  names : ∀ y ∈ scope.names, y.2 = .local → scope.names.lookup y.1 = some .local
  cap : ∀ j ∈ cap, j < X.N.length ∧ scope.names.lookup (X.N.getD j "") = some .free
section
variable {X : Cx} {pins : List (Addr × Obj)} {σ : St} {H : Hp} {s : Shared} {scope : Scope} {cap : List Nat} {tn : List Str}
theorem mem_of_lookup {α : Type} {x : Str} {a : α} : ∀ {l : List (Str × α)}, l.lookup x = some a → (x, a) ∈ l
  | [], h => by simp at h
  | (n, b) :: r, h => by
    rw [List.lookup_cons] at h
    cases hx : x == n with
    | true => rw [hx] at h; cases h; rw [eq_of_beq hx]; exact List.mem_cons_self
    | false => rw [hx] at h; exact List.mem_cons_of_mem _ (mem_of_lookup h)
theorem CompOk.cells (c : CompOk X scope cap) (I : Inv X pins σ H s) : ∀ x ∈ scope.names, x.2 = .free → ∃ c, X.env.cells.lookup x.1 = some c := fun x hx e => I.ok.has x.1 (c.free x hx e)
theorem CompOk.sub (c : CompOk X scope cap) (I : Inv X pins σ H s) : ∀ x a, (clOf X.env scope.names []).lookup x = some a → X.env.cells.lookup x = some a :=
  clOf_sub scope.names [] (c.cells I) (fun _ _ e => by simp at e)
theorem CompOk.has (c : CompOk X scope cap) {y : Str} (h : (relabel scope X.env).names.lookup y = some .cell ∨ (relabel scope X.env).names.lookup y = some .free) : scope.names.lookup y = some .free := by
  rw [relabel_lookup] at h
  cases e : scope.names.lookup y with
  | none => rw [e] at h; simp at h
  | some k =>
    cases k with
    | free => rfl
    | cell => exact absurd rfl (c.nocell _ (mem_of_lookup e))
    | _ => rw [e] at h; simp at h
theorem CompOk.look (c : CompOk X scope cap) {y : Str} (h : scope.names.lookup y = some .free) : (relabel scope X.env).names.lookup y = some .cell ∨ (relabel scope X.env).names.lookup y = some .free := by
  rw [relabel_lookup, h]
  simp only [Option.map_some]
  split
  · exact .inl rfl
  · exact .inr rfl
/-- the block's entry -/
theorem comp_start {fp : List Addr} {h' : Heap} {m : Str → Option Value} (c : CompOk X scope cap) (I : Inv X pins σ H s) (hf : ∀ b ∈ fp, FpOk X pins H b) (hlt : ∀ b ∈ fp, b < s.heap.objs.size)
    (hn : h'.Ns s.heap.objs.size m) (hk : ∀ b o, s.heap.get? b = some o → h'.get? b = some o) (tk : Nat) :
    Inv (compCx X (capN X.N tn cap) scope s.heap.objs.size s H fp) [] (capS σ tn.length cap) H { s with heap := h', toks := tk } := by
  have sub := c.sub I
  have cltt : ∀ x a, X.env.cells.lookup x = some a → a < s.heap.objs.size := fun x a e => by obtain ⟨v, z⟩ := I.cell x a e; exact z.lt
  have stkS := I.stkSub
  have ok : (compCx X (capN X.N tn cap) scope s.heap.objs.size s H fp).Ok := by
    refine ⟨I.ok.mod, c.kind, I.ok.glob, I.ok.blt, Nat.le_refl _, ?_, ?_, ?_, I.ok.hd, I.ok.frames, .inl rfl, ?_, I.bs, ?_, ?_, ?_, I.stack, I.stkFree⟩
    · exact fun x y a e1 e2 => I.ok.inj x y a (sub x a e1) (sub y a e2)
    · exact fun x e => clOf_has scope.names [] (c.has e)
    · intro x a e; cases e
    · exact fun b hb => ⟨Nat.ne_of_lt (hlt b hb), fun x a e => (hf b hb).2.2.2.2.1 x a (sub x a e)⟩
    · exact Nat.le_trans I.ok.bsz I.sz
    · intro b o e hb
      rcases (hf b hb).2.2.2.1 with z | z
      · exact I.ok.noex b o e z
      · exact absurd (Nat.lt_of_lt_of_le (Heap.lt_size e) (Nat.le_trans I.ok.bsz z)) (Nat.lt_irrefl _)
    · intro b hb z
      rcases List.mem_cons.mp (stkS b z) with e | e
      · exact (hf b hb).2.1 e
      · exact (hf b hb).2.2.1 e
  refine ⟨ok, rfl, I.bare, Un.kept hk, ⟨m, hn, ?_⟩, ?_, I.fresh, ?_, ?_, I.hok.kept hk, ?_⟩
  · intro i x v e1 e2 e3
    by_cases hi : i < tn.length
    · have : (capS σ tn.length cap)[i]? = some none := by
        unfold capS
        rw [List.getElem?_append_left (by simpa using hi)]
        simp [hi]
      rw [this] at e2; cases e2
    · have hi' : tn.length ≤ i := Nat.le_of_not_lt hi
      have e1' : (cap.map fun j => X.N.getD j "")[i - tn.length]? = some x := by
        rw [← List.getElem?_append_right (l₁ := tn) hi']; exact e1
      have e2' : (cap.map fun j => (σ[j]?).join)[i - tn.length]? = some (some v) := by
        have := e2
        unfold capS at this
        rw [List.getElem?_append_right (by simpa using hi')] at this
        simpa using this
      rw [List.getElem?_map] at e1' e2'
      cases hj : cap[i - tn.length]? with
      | none => rw [hj] at e1'; cases e1'
      | some j =>
        rw [hj] at e1' e2'
        have e1'' : X.N.getD j "" = x := Option.some.inj e1'
        have e2'' : (σ[j]?).join = some v := Option.some.inj e2'
        have hjc : j ∈ cap := List.mem_of_getElem? hj
        obtain ⟨hjl, hfr⟩ := c.cap j hjc
        rw [e1''] at hfr
        have hs : σ[j]? = some (some v) := by
          cases q : σ[j]? with
          | none => rw [q] at e2''; cases e2''
          | some z => rw [q] at e2''; cases z with
            | none => cases e2''
            | some z => have : z = v := Option.some.inj e2''; rw [this]
        have hN : X.N[j]? = some x := by
          rw [List.getD_eq_getElem?_getD, List.getElem?_eq_getElem hjl] at e1''
          rw [List.getElem?_eq_getElem hjl]; simpa using e1''
        have hfree := c.free _ (mem_of_lookup hfr) rfl
        obtain ⟨mo, _, hl⟩ := I.loc
        obtain ⟨u, r, l⟩ := hl j x v hN hs (hfree.elim (fun z => .inr (.inl z)) fun z => .inr (.inr z))
        refine ⟨u, r, .inr ⟨c.look hfr, ?_⟩⟩
        obtain ⟨a, ha⟩ := clOf_has (env := X.env) (x := x) scope.names [] hfr
        refine ⟨a, ha, ?_⟩
        rcases l with ⟨k, _⟩ | ⟨k, a', e, z⟩
        · have k' : X.env.scope.names.lookup x = some .local := k
          rcases hfree with q | q
          · rw [k'] at q; cases q
          · rw [k'] at q; cases q
        · have : a = a' := Option.some.inj ((sub x a ha).symm.trans e)
          rw [this]
          exact z.keeps hk
  · intro x a e
    obtain ⟨v, z⟩ := I.cell x a (sub x a e)
    exact ⟨v, z.keeps hk⟩
  · exact fun x a e => I.freeC x a (sub x a e)
  · intro p hp; cases hp
  · show (capS σ tn.length cap).length = (capN X.N tn cap).length
    simp [capS, capN]
end
end L2

namespace L2
open PySem PySem.Spec PyProof.Rows
section
variable {X : Cx} {pins : List (Addr × Obj)} {σ : St} {H : Hp} {s : Shared} {scope : Scope} {cap : List Nat} {tn : List Str}
theorem Inv.strip {X : Cx} {pins : List (Addr × Obj)} {σ : St} {H : Hp} {s : Shared} (I : Inv X pins σ H s) : Inv X [] σ H s := I.pins_of fun _ h => nomatch h
/-- the block's loop, from an iterator's start -/
theorem comp_loop {elt tg iter : Expr} {ifs : List Expr} {pos : Pos} {g : Fam TG} {tc : Fam TT} {te : Fam TE} {it D : Addr} {fp : List Addr} {tnn : Nat → Heap → Prop} {J : It} {h' : Heap} {m : Str → Option Value} {tk : Nat} {Q : VK} {R : Result → Shared → Prop}
    (hc : X.calm = true) (c : CompOk X scope cap)
    (hg : ∀ C s H fp, PG (compCx X (capN X.N tn cap) scope C s H fp) tg (g C s H fp)) (ht : ∀ C s H fp, PF (compCx X (capN X.N tn cap) scope C s H fp) ifs (tc C s H fp)) (he : ∀ C s H fp, PE (compCx X (capN X.N tn cap) scope C s H fp) elt (te C s H fp))
    (I : Inv X pins σ H s) (T : Turn X.prog X.w X.K tg J fp it tnn) (st : tnn 0 s.heap) (hf : ∀ b ∈ fp, FpOk X pins H b)
    (hn : h'.Ns s.heap.objs.size m) (hk : ∀ b o, s.heap.get? b = some o → h'.get? b = some o)
    (n : Nat) (W : Nat → Hp → List V → Prop) (w0 : W 0 H [])
    (turn : ∀ i H2 ys, W i H2 ys → i ≤ n ∧ H2 D = some (.lst ys) ∧
      ((J.stop i H2 ∧ Q (.ref D) H2) ∨ (i < n ∧ J.go i H2 ∧ ∀ C s H0 fp x H3, J.yld i H2 x H3 → g C s H0 fp x (capS σ tn.length cap) H3 fun σ4 H4 => Ext (capS σ tn.length cap) σ4 ∧
        tc C s H0 fp σ4 H4 fun b H5 => if b = true then te C s H0 fp σ4 H5 fun y H6 => H6 D = some (.lst ys) ∧ ys.length < sizeLine ∧ W (i + 1) (upd H6 D (.lst (ys ++ [y]))) (ys ++ [y]) else W (i + 1) H5 ys)))
    (hR : ∀ H2 s2, Inv X pins σ H2 s2 → (∃ m, s2.heap.Ns s.heap.objs.size m) → H2 s.heap.objs.size = none → Q (.ref D) H2 → R (.ok .next) s2) :
    codeAny (model X.prog X.w) X.A (.compStart (.ListComp elt [⟨tg, iter, ifs, 0⟩] scope pos) 0 (.ref it) (.ref D) (compEnvC scope (clOf X.env scope.names []) s.heap.objs.size X.env)) R { s with heap := h', toks := tk } := by
  have hlt : ∀ b ∈ fp, b < s.heap.objs.size := fun b hb => by obtain ⟨o, e, _⟩ := T.obj _ _ st b hb; exact Heap.lt_size e
  have I0 := comp_start (tn := tn) (m := m) c I hf hlt hn hk tk
  have st0 : tnn 0 h' := T.keep _ _ _ st fun b _ o e => hk b o e
  have sub := c.sub I
  have stat : ∀ {H' : Hp}, (∀ b ∈ fp, H' b = none) → ∀ b ∈ fp, FpOk (compCx X (capN X.N tn cap) scope s.heap.objs.size s H fp) [] H' b := fun hn b hb => by
    refine ⟨hn b hb, Nat.ne_of_lt (hlt b hb), fun z => ?_, .inl hb, fun x a e => (hf b hb).2.2.2.2.1 x a (sub x a e), fun p hp => nomatch hp⟩
    rcases List.mem_cons.mp (I.stkSub b z) with e | e
    · exact (hf b hb).2.1 e
    · exact (hf b hb).2.2.1 e
  have loop : codeAny (model X.prog X.w) X.A (.compLoop (.ListComp elt [⟨tg, iter, ifs, 0⟩] scope pos) 0 (.ref it) (.ref D) (compEnvC scope (clOf X.env scope.names []) s.heap.objs.size X.env)) R { s with heap := h', toks := tk } := by
    refine codeAny_loop rfl (fun k s' => ∃ i H2 ys, k = n - i ∧ Inv (compCx X (capN X.N tn cap) scope s.heap.objs.size s H fp) [] (capS σ tn.length cap) H2 s' ∧ tnn i s'.heap ∧ (∀ b ∈ fp, H2 b = none) ∧ W i H2 ys) ?_ (n - 0) ⟨0, H, [], rfl, I0, st0, fun b hb => (hf b hb).1, w0⟩
    rintro k s3 ⟨i, H3, ys, rfl, I3, st3, fr3, w3⟩
    show wpAny _ X.A ((compTurn (.ListComp elt [⟨tg, iter, ifs, 0⟩] scope pos) 0 (.ref it) (.ref D) (compEnvC scope (clOf X.env scope.names []) s.heap.objs.size X.env)).onRaise (fun x => do noteFrame x _; theTreesLotGoes x)) _ _ s3
    refine wpAny_noted ?_
    rw [compTurn_list]
    refine wpAny_bind (wpAny_standAt (wpAny_bind ?_))
    obtain ⟨hi, hD, alt⟩ := turn i H3 ys w3
    rcases alt with ⟨stop, q⟩ | ⟨hlti, go, step⟩
    · refine thn (T.done (compCx X (capN X.N tn cap) scope s.heap.objs.size s H fp) rfl rfl rfl hc i [] s3 _ H3 _ I3 (stat fr3) st3 stop) fun r s4 ⟨hr, I4⟩ => ?_
      subst hr
      refine wpAny_pure ?_
      have hch : ∀ b ∈ fp, (b ∈ X.ex ∨ X.s₀.heap.objs.size ≤ b) ∧ b ≠ X.env.locals ∧ (∀ x c, X.env.cells.lookup x = some c → c ≠ b) ∧ ∀ p ∈ X.pn ++ pins, p.1 ≠ b := fun b hb => ⟨(hf b hb).2.2.2.1, (hf b hb).2.1, (hf b hb).2.2.2.2.1, (hf b hb).2.2.2.2.2⟩
      have Io : Inv X pins σ H3 s4 := I.call' (ch := fp) I4.os I4.base I4.hok I4.bare hch
      obtain ⟨m4, hm4, _⟩ := I4.loc
      exact hR H3 s4 Io ⟨m4, hm4⟩ I4.free q
    · refine thn (T.item (compCx X (capN X.N tn cap) scope s.heap.objs.size s H fp) rfl rfl rfl hc i [] s3 _ H3 _ I3 (stat fr3) st3 go) fun r s4 ⟨u, hr, h4⟩ => ?_
      subst hr
      refine wpAny_bind (thn h4 fun _ s5 ⟨x, H5, I5, r5, y5, st5, fr5⟩ => ?_)
      have I5' := I5.pinned (stat fr5) (T.obj _ _ st5)
      refine wpAny_bind (wpAny_mono (hg s.heap.objs.size s H fp _ s5 _ H5 x u _ I5' r5 (step s.heap.objs.size s H fp x H5 y5)) (fun _ s6 h6 => ?_) fun _ _ f => f.elim)
      obtain ⟨σ6, H6, I6, ⟨el, ev⟩, q6⟩ := h6
      refine wpAny_bind (wpAny_mono (ht s.heap.objs.size s H fp _ s6 σ6 H6 _ I6 q6) (fun ok s7 h7 => ?_) fun _ _ f => f.elim)
      obtain ⟨H7, I7, q7⟩ := h7
      have again : ∀ {s9 : Shared} {H9 : Hp} {zs : List V}, Inv (compCx X (capN X.N tn cap) scope s.heap.objs.size s H fp) ([] ++ pinsAt fp s5.heap) σ6 H9 s9 → W (i + 1) H9 zs →
          ∃ m, m < n - i ∧ ∃ i H2 ys, m = n - i ∧ Inv (compCx X (capN X.N tn cap) scope s.heap.objs.size s H fp) [] (capS σ tn.length cap) H2 s9 ∧ tnn i s9.heap ∧ (∀ b ∈ fp, H2 b = none) ∧ W i H2 ys := fun {s9 H9 zs} I9 w9 => by
        refine ⟨n - (i + 1), by omega, i + 1, H9, zs, rfl, I9.strip.weak el.symm ev, T.keep _ _ _ st5 fun b hb o e => (I9.pin (b, o) (List.mem_append_right _ (List.mem_append_right _ (mem_pinsAt hb e)))).1, fun b hb => ?_, w9⟩
        obtain ⟨o, e, _⟩ := T.obj _ _ st5 b hb
        exact (I9.pin (b, o) (List.mem_append_right _ (List.mem_append_right _ (mem_pinsAt hb e)))).2.1
      cases ok with
      | false =>
        rw [if_neg Bool.false_ne_true] at q7
        exact wpAny_pure ⟨rfl, again I7 q7⟩
      | true =>
        rw [if_pos rfl] at q7
        refine wpAny_bind (wpAny_bind (wpAny_mono (he s.heap.objs.size s H fp _ s7 σ6 H7 _ I7 q7) (fun v s8 h8 => ?_) fun _ _ f => f.elim))
        obtain ⟨y, H8, I8, r8, hD8, hz8, w8⟩ := h8
        refine wpAny_bind (wpAny_mono (mt_append (X := compCx X (capN X.N tn cap) scope s.heap.objs.size s H fp) _ s8 σ6 H8 (.ref D) [y] (.ref D) [v] (fun _ H9 => H9 = upd H8 D (.lst (ys ++ [y]))) I8 rfl (.cons r8 .nil) ⟨D, ys, y, rfl, rfl, hD8, hz8, rfl⟩) (fun _ s9 h9 => ?_) fun _ _ f => f.elim)
        obtain ⟨_, H9, I9, _, e9⟩ := h9
        subst e9
        exact wpAny_pure (wpAny_pure ⟨rfl, again I9 w8⟩)
  exact codeAny_compStart_list loop (T.self _ 0 _ _ _ st0 loop)
end
section
variable {X : Cx} {elt tg iter : Expr} {ifs : List Expr} {scope : Scope} {pos : Pos} {wi : TI} {g : Fam TG} {tc : Fam TT} {te : Fam TE} {cap : List Nat}
/-- [elt for tg in iter] as a value -/
theorem pe_lc (tn : List Str) (hc : X.calm = true) (c : CompOk X scope cap) (hi : PI X tg iter wi)
    (hg : ∀ C s H fp, PG (compCx X (capN X.N tn cap) scope C s H fp) tg (g C s H fp)) (ht : ∀ C s H fp, PF (compCx X (capN X.N tn cap) scope C s H fp) ifs (tc C s H fp)) (he : ∀ C s H fp, PE (compCx X (capN X.N tn cap) scope C s H fp) elt (te C s H fp))
    (hs : ∀ x, foldedSetIterable iter X.env x = pure x := by intro _; rfl) : PE X (.ListComp elt [⟨tg, iter, ifs, 0⟩] scope pos) (tLc wi tn.length cap g tc te) := by
  intro pins s σ H Q I h
  rw [eval_ListComp]
  refine wpAny_comprehension_free (use := none) rfl hs (closure_of (c.cells I)) c.kind c.names (thn (hi pins s σ H _ I h) fun xv s1 h1 => thn h1 fun itv s2 h2 => ?_)
  obtain ⟨it, fp, tnn, J, H2, e, I2, T, st2, f2, q2⟩ := h2
  subst e
  refine wpAny_newList (wpAny_newFunctionEnv c.nocell (by intro y hy; simp at hy) (fun h₁ hn₁ hs₁ => ?_) c.kind)
  have hfr := I2.fresh
  obtain ⟨n, W, w0, turn⟩ := q2 _ hfr
  have I3 : Inv X pins σ (upd H2 s2.heap.objs.size (.lst [])) { s2 with heap := s2.heap.push { cls := .type "list", data := .seq ([] : List Value).toArray } } := I2.lnew (t' := s2.toks) .nil (Nat.zero_le _)
  have hlt : ∀ b ∈ fp, b < s2.heap.objs.size := fun b hb => by obtain ⟨o, e, _⟩ := T.obj _ _ st2 b hb; exact Heap.lt_size e
  refine comp_loop (X := X) (s := { s2 with heap := s2.heap.push { cls := .type "list", data := .seq ([] : List Value).toArray } }) (Q := Q) hc c hg ht he I3 T (T.keep _ _ _ st2 fun b hb o e => Heap.get?_push_of_some _ e) ?_ hn₁ ?_ n W w0 turn ?_
  · intro b hb
    exact ⟨by rw [upd_ne (Nat.ne_of_lt (hlt b hb))]; exact (f2 b hb).1, (f2 b hb).2⟩
  · intro b o e
    exact hs₁.extBut b o (Nat.ne_of_lt (Heap.lt_size e)) (Heap.get?_push_of_some _ e)
  · intro H4 s4 I4 hm4 fr4 q4
    obtain ⟨m4, hm4⟩ := hm4
    refine ⟨m4, hm4, fun h5 hs5 => ?_⟩
    have hsz : s2.heap.objs.size < (s2.heap.push { cls := .type "list", data := .seq ([] : List Value).toArray }).objs.size := by rw [Heap.size_push]; exact Nat.lt_succ_self _
    refine ⟨.ref s2.heap.objs.size, H4, I4.turned (t' := s4.toks) (it := (s2.heap.push { cls := .type "list", data := .seq ([] : List Value).toArray }).objs.size) (fun b o hb e => (hs5.2 b hb).trans e) fr4 ?_ (.inr ?_) ?_ ?_, rfl, q4⟩
    · exact Nat.ne_of_gt (Nat.lt_trans I2.lt hsz)
    · exact Nat.le_trans I2.sz (Nat.le_of_lt hsz)
    · intro x a e z
      obtain ⟨v, q⟩ := I2.cell x a e
      exact absurd (z ▸ q.lt) (Nat.not_lt.mpr (Nat.le_of_lt hsz))
    · intro p hp z
      obtain ⟨e, _⟩ := I2.pin p hp
      exact absurd (z ▸ Heap.lt_size e) (Nat.not_lt.mpr (Nat.le_of_lt hsz))
/-- x = [elt for tg in iter], on one row -/
theorem ps_lc {i : Nat} {x : Str} {pos' spos : Pos} (tn : List Str) (hc : X.calm = true) (c : CompOk X scope cap) (hN : X.N.Nodup) (hx : X.N[i]? = some x) (hl : Loc X.env.scope x) (hi : PI X tg iter wi)
    (hg : ∀ C s H fp, PG (compCx X (capN X.N tn cap) scope C s H fp) tg (g C s H fp)) (ht : ∀ C s H fp, PF (compCx X (capN X.N tn cap) scope C s H fp) ifs (tc C s H fp)) (he : ∀ C s H fp, PE (compCx X (capN X.N tn cap) scope C s H fp) elt (te C s H fp))
    (hsw : swapsWith (.ListComp elt [⟨tg, iter, ifs, 0⟩] scope pos) (some (.Name x pos')) spos.line X.env = pure true)
    (hs : ∀ x, foldedSetIterable iter X.env x = pure x := by intro _; rfl) (hf : X.fn x = true ∨ X.env.scope.names.lookup x = some .local := by first | exact .inl rfl | exact .inr rfl | assumption) :
    PS X (.Assign [.Name x pos'] (.ListComp elt [⟨tg, iter, ifs, 0⟩] scope pos) spos) (tAsg (tLc wi tn.length cap g tc te) (gName i)) := by
  intro pins s σ H D I h
  rw [exec_Assign_Name_used _ _ _ _ hsw]
  refine wpAny_bind (wpAny_standAt (wpAny_bind ?_))
  show wpAny _ X.A (do let _ ← comprehension (.ListComp elt [⟨tg, iter, ifs, 0⟩] scope pos) scope X.env _ (newList []) false (eval iter X.env) (some (assign (.Name x pos') X.env))) _ _ s
  refine wpAny_bind (wpAny_mono (wpAny_comprehension_free (use := some (assign (.Name x pos') X.env)) (Q := fun _ s' => SP X pins D .next s') rfl hs (closure_of (c.cells I)) c.kind c.names
    (thn (hi pins s σ H _ I h) fun xv s1 h1 => thn h1 fun itv s2 h2 => ?_)) (fun _ s' hq => wpAny_pure (wpAny_pure hq)) fun _ _ e => e)
  obtain ⟨it, fp, tnn, J, H2, e, I2, T, st2, f2, q2⟩ := h2
  subst e
  refine wpAny_newList (wpAny_newFunctionEnv c.nocell (by intro y hy; simp at hy) (fun h₁ hn₁ hs₁ => ?_) c.kind)
  have hfr := I2.fresh
  obtain ⟨n, W, w0, turn⟩ := q2 _ hfr
  have I3 : Inv X pins σ (upd H2 s2.heap.objs.size (.lst [])) { s2 with heap := s2.heap.push { cls := .type "list", data := .seq ([] : List Value).toArray } } := I2.lnew (t' := s2.toks) .nil (Nat.zero_le _)
  have hlt : ∀ b ∈ fp, b < s2.heap.objs.size := fun b hb => by obtain ⟨o, e, _⟩ := T.obj _ _ st2 b hb; exact Heap.lt_size e
  refine comp_loop (X := X) (s := { s2 with heap := s2.heap.push { cls := .type "list", data := .seq ([] : List Value).toArray } }) (Q := fun v H1 => gName i v σ H1 D.nx) hc c hg ht he I3 T (T.keep _ _ _ st2 fun b hb o e => Heap.get?_push_of_some _ e) ?_ hn₁ ?_ n W w0 turn ?_
  · intro b hb
    exact ⟨by rw [upd_ne (Nat.ne_of_lt (hlt b hb))]; exact (f2 b hb).1, (f2 b hb).2⟩
  · intro b o e
    exact hs₁.extBut b o (Nat.ne_of_lt (Heap.lt_size e)) (Heap.get?_push_of_some _ e)
  · intro H4 s4 I4 hm4 fr4 q4
    obtain ⟨m4, hm4⟩ := hm4
    have hsz : s2.heap.objs.size < (s2.heap.push { cls := .type "list", data := .seq ([] : List Value).toArray }).objs.size := by rw [Heap.size_push]; exact Nat.lt_succ_self _
    have neL : (s2.heap.push { cls := .type "list", data := .seq ([] : List Value).toArray }).objs.size ≠ X.env.locals := Nat.ne_of_gt (Nat.lt_trans I2.lt hsz)
    have neC : ∀ x a, X.env.cells.lookup x = some a → a ≠ (s2.heap.push { cls := .type "list", data := .seq ([] : List Value).toArray }).objs.size := fun x a e z => by
      obtain ⟨v, q⟩ := I2.cell x a e
      exact absurd (z ▸ q.lt) (Nat.not_lt.mpr (Nat.le_of_lt hsz))
    show wpAny _ X.A (assign (.Name x pos') X.env (.ref s2.heap.objs.size)) _ _ s4
    refine wpAny_assign_Name (store_ok2 I4 hN hx hl (v := .ref s2.heap.objs.size) rfl (fun s5 I5 ⟨a, hsb, ha⟩ => ?_) hf)
    have hne : (s2.heap.push { cls := .type "list", data := .seq ([] : List Value).toArray }).objs.size ≠ a := by
      rcases ha with ha | ha
      · rw [ha]; exact neL
      · exact (neC _ _ ha).symm
    refine ⟨m4, hm4.sameBut hsb hne, fun h6 hs6 => ?_⟩
    refine ⟨_, H4, I5.turned (t' := s5.toks) (it := (s2.heap.push { cls := .type "list", data := .seq ([] : List Value).toArray }).objs.size) (fun b o hb e => (hs6.2 b hb).trans e) fr4 neL (.inr (Nat.le_trans I2.sz (Nat.le_of_lt hsz))) neC ?_, q4⟩
    intro p hp z
    obtain ⟨e, _⟩ := I2.pin p hp
    exact absurd (z ▸ Heap.lt_size e) (Nat.not_lt.mpr (Nat.le_of_lt hsz))
end
end L2

namespace L2
open PySem PySem.Spec PyProof.Rows
section
variable {X : Cx}
/-! ### lists of ints compared -/
def rEqI (K : PySem.W.Frag) (neg : Bool) : R2 := fun x y H Q => ∃ (a b : Addr) (ns ms : List Int), x = .ref a ∧ y = .ref b ∧ SqL K H a (ns.map V.int) ∧ SqL K H b (ms.map V.int) ∧ Q (.bl (if neg then !decide (ns = ms) else decide (ns = ms))) H
theorem op_eqI (hu : X.A.units + 64 < cLine) : OpR X (compareOp .Eq) (rEqI X.K false) := by
  intro pins s σ H x y v u Q I rx ry h
  obtain ⟨a, b, ns, ms, rfl, rfl, ha, hb, q⟩ := h
  cases rx; cases ry
  obtain ⟨its, r, p, _⟩ := I.list ha
  obtain ⟨its', r', p', _⟩ := I.list hb
  exact PySem.W.ke_eq_ints p.isList p'.isList (intsAre_of r) (intsAre_of r') hu ⟨.bl (decide (ns = ms)), H, I, rfl, q⟩
theorem op_neI (hu : X.A.units + 64 < cLine) : OpR X (compareOp .NotEq) (rEqI X.K true) := by
  intro pins s σ H x y v u Q I rx ry h
  obtain ⟨a, b, ns, ms, rfl, rfl, ha, hb, q⟩ := h
  cases rx; cases ry
  obtain ⟨its, r, p, _⟩ := I.list ha
  obtain ⟨its', r', p', _⟩ := I.list hb
  exact PySem.W.ke_ne_ints p.isList p'.isList (intsAre_of r) (intsAre_of r') hu ⟨.bl (!decide (ns = ms)), H, I, rfl, q⟩
/-! ### sum, all, any, sorted, max, min of a list -/
theorem call_sum (hc : X.calm = true) : CallR X (.builtin "sum") (fun xs H Q => ∃ (p : Addr) (ns : List Int), xs = [.ref p] ∧ SqL X.K H p (ns.map V.int) ∧ Q (.int ns.sum) H) := by
  intro pins s σ H xs us Q I r h
  obtain ⟨p, ns, rfl, hq, q⟩ := h
  obtain ⟨u, rfl, rx⟩ := vals1 r
  cases rx
  obtain ⟨its, r', pl, hz⟩ := I.list hq
  have hi := intsAre_of r'
  obtain ⟨xs, hx⟩ := hi.allInts.items
  have hl' : s.heap.IsList p (intItems xs) := hx ▸ pl.isList
  refine sum_intListG (I.ok.hd hc) hl' fun h' tk t' hk => ?_
  have e1 : ns = xs.toList.map (·.1) := by
    rw [← nums_intItems, ← hx]
    exact (show numsOf its.toArray.toList = ns from hi.numsOf).symm
  have e2 : preSum (numAt xs) xs.size = ns.sum := by
    rw [preSum_eq, List.take_of_length_le (by simp), e1]
  rw [e2]
  exact ⟨.int ns.sum, H, I.kept hk, ⟨_, rfl⟩, q⟩
theorem boolsAre_of {bs : List Bool} : ∀ {us : List Value}, Vals (bs.map V.bl) us → us = bs.map Value.bool := by
  induction bs with
  | nil => intro us r; cases r; rfl
  | cons b bs ih =>
    intro us r
    cases r with
    | cons r t => rw [show _ = Value.bool b from r, ih t]; rfl
theorem call_all (hc : X.calm = true) : CallR X (.builtin "all") (fun xs H Q => ∃ (p : Addr) (bs : List Bool), xs = [.ref p] ∧ SqL X.K H p (bs.map V.bl) ∧ Q (.bl (bs.all id)) H) := by
  intro pins s σ H xs us Q I r h
  obtain ⟨p, bs, rfl, hq, q⟩ := h
  obtain ⟨u, rfl, rx⟩ := vals1 r
  cases rx
  obtain ⟨its, r', pl, hz⟩ := I.list hq
  have e := boolsAre_of r'
  subst e
  have hl := pl.isList
  have hlt : p < s.heap.objs.size := by obtain ⟨_, e, _⟩ := hl; exact Heap.lt_size e
  refine call_all_walk (wpAny_pyIter_list hl ?_)
  refine ⟨s.heap.objs.size, [s.heap.objs.size, p], [s.heap.objs.size], (bs.map Value.bool).toArray.size, _, _, fun i => (bs[i]?).getD true, rfl, Walks.list (A := X.A.in1) (I.ok.hd hc) _ p (Nat.ne_of_lt hlt) (bs.map Value.bool).toArray,
    ⟨⟨_, Heap.get?_push_size _ rfl, rfl, rfl⟩, hl.push _⟩, fun i v s' Q' E' hP hQ => ?_, fun h' tk hk => ?_⟩
  · have hP' : (bs.map Value.bool)[i]? = some v := by simpa using hP
    rw [List.getElem?_map] at hP'
    cases e : bs[i]? with
    | none => rw [e] at hP'; cases hP'
    | some b =>
      rw [e] at hP'
      cases Option.some.inj hP'
      simp only [e, Option.getD_some] at hQ
      exact wpAny_truthy_bool hQ
  · have e : ((List.range (bs.map Value.bool).toArray.size).all fun i => (bs[i]?).getD true) = bs.all id := by
      rw [List.size_toArray, List.length_map]; exact LSm.range_all bs
    rw [e]
    exact ⟨.bl (bs.all id), H, I.kept (LSm.kept_iter hk), rfl, q⟩
theorem vals_of_ints : ∀ {vs : List Value} {ns : List Int}, IntsAre vs ns → Vals (ns.map V.int) vs := fun h => vals_ints h
theorem call_sorted : CallR X (.builtin "sorted") (fun xs H Q => ∃ (p : Addr) (ns : List Int), xs = [.ref p] ∧ SqL X.K H p (ns.map V.int) ∧ ns.length < 64 ∧ ∀ (l : Addr) (ns' : List Int), H l = none → ns'.Perm ns → ns'.Pairwise (· ≤ ·) → Q (.ref l) (upd H l (.lst (ns'.map V.int)))) := by
  intro pins s σ H xs us Q I r h
  obtain ⟨p, ns, rfl, hq, h64, q⟩ := h
  obtain ⟨u, rfl, rx⟩ := vals1 r
  cases rx
  obtain ⟨its, r', pl, hz⟩ := I.list hq
  have hi := intsAre_of r'
  have hl : its.length = ns.length := by have := r'.length; simpa using this.symm
  refine sorted_ints pl.isList hi (by rw [hl]; exact h64) fun out ns' a1 a2 a3 => ?_
  obtain ⟨e, he⟩ := sortedAll_at s.heap its out
  refine ⟨.ref (s.heap.objs.size + 1), _, I.laid (t' := s.toks) (a := s.heap.objs.size + 1) (o := .lst (ns'.map V.int)) (fun b o q => sortedAll_old q) (Nat.le_succ _) ?_, rfl, q _ ns' (I.hok.fresh (Nat.le_succ _)) a2 a3⟩
  refine ⟨?_, out.toList, e, vals_of_ints a1, ?_⟩
  · rw [List.length_map, a2.length_eq]; rw [List.length_map] at hz; exact hz
  · simpa [seqObj] using he
/-! ### isinstance -/
def clsV : V → Option Value
  | .ty n => some (.type n)
  | .ref a => some (.ref a)
  | _ => none
theorem clsV_rel {x : V} {u c : Value} (r : RelV x u) (h : clsV x = some c) : u = c := by
  cases x <;> simp [clsV] at h <;> subst h <;> exact r
theorem call_isinst : CallR X (.builtin "isinstance") (fun xs H Q => ∃ x c t cv b, xs = [x, c] ∧ TyOf X.K H x t ∧ clsV c = some cv ∧ PySem.W.kitOne X.K t cv = some b ∧ Q (.bl b) H) := by
  intro pins s σ H xs us Q I r h
  obtain ⟨x, c, t, cv, b, rfl, ty, hc, e, q⟩ := h
  obtain ⟨u, w', rfl, r1, r2⟩ := vals2 r
  have := clsV_rel r2 hc
  subst this
  exact isinst_ok I r1 ty e fun tk => ⟨.bl b, H, I.tok _, rfl, q⟩
/-! ### xs[::-1] -/
def tRev (K : PySem.W.Frag) (te : TE) : TE := fun σ H Q => te σ H fun x H1 => ∃ a xs, x = .ref a ∧ SqL K H1 a xs ∧ ∀ p, H1 p = none → Q (.ref p) (upd H1 p (.lst xs.reverse))
theorem pe_rev {e : Expr} {te : TE} {k1 : Nat} {p1 p3 p2 pos : Pos} (he : PE X e te) : PE X (.Subscript e (.Slice none none (some (.UnaryOp .USub (.Constant (.int 1) k1 p1) p3)) p2) pos) (tRev X.K te) := by
  intro pins s σ H Q I h
  refine Subscript_ (thn (he pins s σ H _ I h) fun v s1 ⟨x, H1, I1, r1, q1⟩ => ?_)
  obtain ⟨a, xs, e1, hx, q⟩ := q1
  subst e1
  cases r1
  refine wpAny_Slice ?_
  rw [evalPart_none]
  refine wpAny_pure ?_
  refine wpAny_pure ?_
  refine thn (po_some (X := X) (pe_un un_neg pe_int) pins s1 σ H1 (fun o H2 => o = some (-1) ∧ H2 = H1) I1 ⟨1, rfl, -1, rfl, rfl, rfl⟩) fun vk s3 ⟨o, H3, I3, pk, e3, e4⟩ => ?_
  subst e3 e4
  obtain ⟨its, r, ht, hz⟩ := I3.list hx
  have hlen := r.length
  have I4 : Inv X pins σ H3 { s3 with heap := s3.heap.push { cls := .type "slice", data := .fields #[.none, .none, vk] } } := I3.kept (t' := s3.toks) fun b ob q => Heap.get?_push_of_some _ q
  have hl4 : (s3.heap.push { cls := .type "slice", data := .fields #[.none, .none, vk] }).IsList a its.toArray := ht.isList.push _
  show wpAny (model X.prog X.w) X.A (subscriptTail e (.Slice none none (some (.UnaryOp .USub (.Constant (.int 1) k1 p1) p3)) p2) (.ref a) (.ref s3.heap.objs.size)) (EP X pins σ Q) X.xe { s3 with heap := s3.heap.push { cls := .type "slice", data := .fields #[.none, .none, vk] } }
  refine tail_any (ops := [.ref a, .ref s3.heap.objs.size]) hl4.typeIs slot_list_getitem.lookup ?_ (by with_unfolding_all rfl)
  refine wpAny_getItem_list_slice (s := { s3 with heap := s3.heap.push { cls := .type "slice", data := .fields #[.none, .none, vk] } }) hl4 (Heap.IsSliceOf.new ..) .none .none pk (by decide) ?_ (by rw [List.size_toArray] <;> omega)
  rw [PySem.W.krv_pick]
  refine ⟨.ref (s3.heap.push { cls := .type "slice", data := .fields #[.none, .none, vk] }).objs.size, _, I4.laid (t' := s3.toks) (o := .lst xs.reverse) (fun b ob q => Heap.get?_push_of_some _ q) (Nat.le_refl _) ?_, rfl, q _ (I4.hok.fresh (Nat.le_refl _))⟩
  exact ⟨by rw [List.length_reverse]; exact hz, _, 0, r.reverse, Heap.get?_push_size _ rfl⟩
end
end L2

namespace L2
open PySem PySem.Spec PyProof.Rows
/-! ### iterators that hand out new tuples -/
section
variable {X : Cx} {pins : List (Addr × Obj)} {σ : St} {H : Hp} {s : Shared} {h' : Heap}
/-- the records at ch have turned, a tuple was laid at p -/
theorem Inv.turnT {ch : List Addr} {p : Addr} {xs : List V} {its : List Value} {t' : Nat} (I : Inv X pins σ H s) (hf : ∀ b ∈ ch, FpOk X pins H b)
    (k : ∀ b o, b ∉ ch → s.heap.get? b = some o → h'.get? b = some o) (there : ∀ b o, b ∈ ch → s.heap.get? b = some o → ∃ o', h'.get? b = some o') (hp : s.heap.objs.size ≤ p) (ht : IsTup h' p its.toArray) (r : Vals xs its) (hz : xs.length ≤ sizeLine) :
    Inv X pins σ (upd H p (.tup xs)) { s with heap := h', toks := t' } := by
  have hpn : H p = none := I.hok.fresh hp
  have nch : ∀ b u, H b = some u → b ∉ ch := fun b u e z => by rw [(hf b z).1] at e; cases e
  have ne : ∀ b o, s.heap.get? b = some o → b ≠ p := fun b o e => Nat.ne_of_lt (Nat.lt_of_lt_of_le (Heap.lt_size e) hp)
  have ne' : ∀ b u, H b = some u → b ≠ p := fun b u e z => by rw [z, hpn] at e; cases e
  refine I.step (g' := s.gens) (d' := s.drawn) (ch := ch) (fun b hb => ⟨(hf b hb).2.2.2.1, (hf b hb).2.1, (hf b hb).2.2.2.2.1, (hf b hb).2.2.2.2.2⟩) (fun b o _ _ hc e _ => k b o hc e) (fun b o _ _ hc e _ => ⟨o.slots, k b o hc e⟩)
    (fun b o _ e n => by rw [upd_ne (ne b o e)]; exact n) (fun b o hc e => ⟨o, k b o hc e⟩) (fun b ys e => by rw [upd_ne (ne' b _ e)]; exact e) (fun b o u e => by rw [upd_ne (ne' b _ e)]; exact e) (fun b ps e => ⟨#[], by rw [upd_ne (ne' b _ e), e]; simp⟩) (fun m hm => ?_) (fun b u e => ?_) I.bare
  · obtain ⟨o, es, ep, ho, rr⟩ := hm
    exact ⟨o, es, ep, k _ o (fun z => (hf _ z).2.1 rfl) ho, rr⟩
  · by_cases hb : b = p
    · subst hb
      rw [upd_same] at e
      cases e
      exact ⟨hz, its, r, ht⟩
    · rw [upd_ne hb] at e
      refine (I.hok b u e).stay (fun c v hc q => k c v ?_ q) (fun c q => by rw [upd_ne (ne' c _ q)]; exact q) fun c ys q => by rw [upd_ne (ne' c _ q)]; exact q
      rcases hc with z | z
      · rw [z]; exact nch b u e
      · exact nch c _ z
/-- several untracked records of ours have turned -/
theorem Inv.turns {ch : List Addr} {t' : Nat} (I : Inv X pins σ H s) (hf : ∀ b ∈ ch, FpOk X pins H b) (k : ∀ b o, b ∉ ch → s.heap.get? b = some o → h'.get? b = some o) : Inv X pins σ H { s with heap := h', toks := t' } := by
  have nch : ∀ b u, H b = some u → b ∉ ch := fun b u e z => by rw [(hf b z).1] at e; cases e
  refine I.step (g' := s.gens) (d' := s.drawn) (ch := ch) (fun b hb => ⟨(hf b hb).2.2.2.1, (hf b hb).2.1, (hf b hb).2.2.2.2.1, (hf b hb).2.2.2.2.2⟩) (fun b o _ _ hc e _ => k b o hc e) (fun b o _ _ hc e _ => ⟨o.slots, k b o hc e⟩)
    (fun b o _ _ n => n) (fun b o hc e => ⟨o, k b o hc e⟩) (fun _ _ e => e) (fun _ _ _ e => e) (fun b ps e => ⟨#[], by rw [e]; simp⟩) (fun m hm => ?_) (fun b u e => ?_) I.bare
  · obtain ⟨o, es, ep, ho, rr⟩ := hm
    exact ⟨o, es, ep, k _ o (fun z => (hf _ z).2.1 rfl) ho, rr⟩
  · refine (I.hok b u e).stay (fun c v hc q => k c v ?_ q) (fun _ q => q) fun _ _ q => q
    rcases hc with z | z
    · rw [z]; exact nch b u e
    · exact nch c _ z
end
/-! ### enumerate(list), into a tuple of targets -/
def Ite (K : PySem.W.Frag) (a : Addr) : It :=
  ⟨fun i H => ∃ xs x, SqL K H a xs ∧ xs[i]? = some x, fun i H v H' => ∃ p x, H p = none ∧ v = .ref p ∧ H' = upd H p (.tup [.int i, x]) ∧ ∀ xs, SqL K H a xs → xs[i]? = some x, fun i H => ∃ xs, SqL K H a xs ∧ xs.length ≤ i⟩
theorem turn_enum {P : Program} {w : World} {K : PySem.W.Frag} {elts : List Expr} {x1 : Nat} {p1 : Pos} (a e it : Addr) (hne : e ≠ it) :
    Turn P w K (.Tuple elts x1 p1) (Ite K a) [e, it] e (fun i h => (∃ old, IsEnum h e it (i : Nat) old) ∧ h.IsListIter it a i) where
  mem := by simp
  obj := fun i h st b hb => by
    obtain ⟨⟨old, he⟩, o, ei, c, d⟩ := st
    have hb' : b = e ∨ b = it := by simpa using hb
    rcases hb' with rfl | rfl
    · exact ⟨_, he, fun v z => by have z' : Data.fields _ = Data.cell v := z; cases z'⟩
    · exact ⟨o, ei, fun v z => by rw [d] at z; cases z⟩
  keep := fun i h h' st k => by
    obtain ⟨⟨old, he⟩, hi⟩ := st
    exact ⟨⟨old, k e (by simp) _ he⟩, hi.at fun o q => k it (by simp) o q⟩
  item := by
    intro X hP hw hK hc i pins s σ H E I hf st hg
    subst hP hw hK
    obtain ⟨⟨old, he⟩, hi⟩ := st
    obtain ⟨xs, x, hq, hx⟩ := hg
    obtain ⟨its, rv, pl, hz⟩ := I.list hq
    obtain ⟨u, hu, ru⟩ := rv.get hx
    refine wpAny_pyNext_enum_item he hi pl.isList (x := u) (by simpa using hu) hne fun h1 he1 hi1 ht1 hs1 hk1 => ?_
    refine ⟨_, rfl, ?_⟩
    refine wpAny_letOwnedTupleGo_enum (s := { s with heap := h1, toks := s.toks + 1 }) he1 fun h2 he2 hs2 => ?_
    have hlt : e < s.heap.objs.size := Heap.lt_size he
    have hk : ∀ b o, b ∉ [e, it] → s.heap.get? b = some o → h2.get? b = some o := fun b o hb q => by
      have hb' : b ≠ e ∧ b ≠ it := by simpa using hb
      exact hs2.extBut b o hb'.1 (hk1 b o hb'.1 hb'.2 q)
    have ht2 : IsTup h2 s.heap.objs.size [Value.int (i : Nat) s.toks, u].toArray := ⟨_, hs2.extBut _ _ (Nat.ne_of_gt hlt) ht1, rfl, _, rfl⟩
    have I2 : Inv X pins σ (upd H s.heap.objs.size (.tup [.int (i : Nat), x])) { s with heap := h2, toks := s.toks + 1 } :=
      I.turnT hf hk (fun b o hb q => by
        have hb' : b = e ∨ b = it := by simpa using hb
        rcases hb' with rfl | rfl
        · exact ⟨_, he2⟩
        · obtain ⟨o', q', _⟩ := hi1.extBut hs2.extBut (Ne.symm hne)
          exact ⟨o', q'⟩) (Nat.le_refl _) ht2 (.cons ⟨_, rfl⟩ (.cons ru .nil)) (by show 2 ≤ sizeLine; decide)
    refine ⟨.ref s.heap.objs.size, _, I2, rfl, ⟨s.heap.objs.size, x, I.fresh, rfl, rfl, fun ys hy => by rw [I.list_inj hy hq]; exact hx⟩, ⟨⟨u, ?_⟩, hi1.extBut hs2.extBut (Ne.symm hne)⟩, fun b hb => ?_⟩
    · have : ((i + 1 : Nat) : Int) = (i : Int) + 1 := by omega
      rw [this]; exact he2
    · obtain ⟨o, q, _⟩ : ∃ o, s.heap.get? b = some o ∧ True := by
        have hb' : b = e ∨ b = it := by simpa using hb
        rcases hb' with rfl | rfl
        · exact ⟨_, he, trivial⟩
        · obtain ⟨o, q, _⟩ := hi; exact ⟨o, q, trivial⟩
      rw [upd_ne (Nat.ne_of_lt (Heap.lt_size q))]
      exact (hf b hb).1
  done := by
    intro X hP hw hK hc i pins s σ H E I hf st hg
    subst hP hw hK
    obtain ⟨⟨old, he⟩, hi⟩ := st
    obtain ⟨xs, hq, hx⟩ := hg
    obtain ⟨its, rv, pl, hz⟩ := I.list hq
    have hl := rv.length
    refine wpAny_pyNext_enum_end (I.ok.hd hc) he hi pl.isList (by simp; omega) fun h1 eb => ⟨rfl, I.turns (t' := s.toks) hf fun b o hb q => eb b o (fun z => hb (by simp [z])) q⟩
  self := fun _ _ _ _ _ st h => by
    obtain ⟨⟨old, he⟩, _⟩ := st
    exact wpAny_pyIter_enum he h
section
variable {X : Cx}
def iEnum (K : PySem.W.Frag) (ta : TA) : TI := fun σ H R => ta σ H fun vs H1 => ∃ a : Addr, vs = [.ref a] ∧ (∃ xs, SqL K H1 a xs) ∧ R (Ite K a) H1
theorem boot_enum : bootBuiltins "enumerate" = some (.type "enumerate") := by decide +kernel
theorem pi_enum {elts : List Expr} {x1 : Nat} {p1 : Pos} {a : Expr} {ta : TA} {p pos : Pos} (hg : Gl X "enumerate") (hm : X.mg "enumerate" = none) (ha : PA X [a] ta) (hs : starEach [a] X.env = [(false, eval a X.env)] := by rfl) :
    PI X (.Tuple elts x1 p1) (.Call (.Name "enumerate" p) [a] [] pos) (iEnum X.K ta) := by
  intro pins s σ H R I h
  refine Call_ (ld_blt I hg hm boot_enum (PyProof.Rows.callWith_type1 (thn (ha pos pins s σ H _ I h) fun us s1 ⟨vs, H1, I1, r1, q1⟩ => ?_) hs rfl))
  obtain ⟨l, e, ⟨xs, hq⟩, q⟩ := q1
  subst e
  obtain ⟨u, rfl, rx⟩ := vals1 r1
  cases rx
  obtain ⟨its, rv, pl, hz⟩ := I1.list hq
  refine call_enumerate_list pl.isList fun h' he hi hsz hk => ?_
  refine wpAny_pyIter_enum (s := { s1 with heap := h' }) he ?_
  have I2 : Inv X pins σ H1 { s1 with heap := h' } := I1.kept (t' := s1.toks) hk
  refine ⟨s1.heap.objs.size + 1, [s1.heap.objs.size + 1, s1.heap.objs.size], _, _, H1, rfl, I2, turn_enum l _ _ (Nat.succ_ne_self _), ⟨⟨_, he⟩, hi⟩, fun b hb => ?_, q⟩
  have hb' : s1.heap.objs.size ≤ b := by
    have : b = s1.heap.objs.size + 1 ∨ b = s1.heap.objs.size := by simpa using hb
    rcases this with rfl | rfl
    · exact Nat.le_succ _
    · exact Nat.le_refl _
  exact I1.fpOk hb' (I1.hok.fresh hb')
end
/-- the loop over enumerate(list) that the body leaves as it is -/
theorem for_enum {K : PySem.W.Frag} {a : Addr} {xs : List V} {g : TG} {tb : TS} {D : Ends} {σ : St} {H : Hp} (Pv : Nat → St → Hp → Prop) (h0 : Pv 0 σ H) (hl : ∀ i σ H, i ≤ xs.length → Pv i σ H → SqL K H a xs)
    (hs : ∀ i x σ H p, xs[i]? = some x → Pv i σ H → H p = none → g (.ref p) σ (upd H p (.tup [.int i, x])) fun σ2 H2 => tb { D with nx := Pv (i + 1), ct := Pv (i + 1), bk := D.nx } σ2 H2) (hd : ∀ σ H, Pv xs.length σ H → D.nx σ H) :
    ∃ W : Nat → Nat → St → Hp → Prop, (∃ m, W 0 m σ H) ∧ ∀ i m σ H, W i m σ H →
      ((Ite K a).stop i H ∧ D.nx σ H) ∨ ((Ite K a).go i H ∧ ∃ N : St → Hp → Prop, (∀ σ' H', N σ' H' → ∃ m', m' < m ∧ W (i + 1) m' σ' H') ∧ ∀ x H', (Ite K a).yld i H x H' → g x σ H' fun σ2 H2 => tb { D with nx := N, ct := N, bk := D.nx } σ2 H2) := by
  refine ⟨fun i m σ H => m = xs.length - i ∧ i ≤ xs.length ∧ Pv i σ H, ⟨xs.length, by simp, Nat.zero_le _, h0⟩, ?_⟩
  rintro i m σ H ⟨rfl, hi, p⟩
  have q := hl i σ H hi p
  by_cases hlt : i < xs.length
  · refine .inr ⟨⟨xs, xs[i], q, by simp [hlt]⟩, Pv (i + 1), fun σ' H' p' => ⟨xs.length - (i + 1), by omega, rfl, hlt, p'⟩, fun v H' y => ?_⟩
    obtain ⟨pp, x, hn, e1, e2, y⟩ := y
    subst e1 e2
    exact hs i x σ H pp (y xs q) p hn
  · have e : i = xs.length := by omega
    subst e
    exact .inl ⟨⟨xs, q, Nat.le_refl _⟩, hd σ H p⟩
/-! ### reversed(range(n)) -/
end L2

namespace L2
open PySem PySem.Spec PyProof.Rows
section
variable {prog : Program} {w : World} {A : Around} {E : Value → Shared → Prop} {s : Shared}
end
section
variable {X : Cx} {tg : Expr}
theorem boot_reversed' : bootBuiltins "reversed" = some (.type "reversed") := by decide +kernel
end
end L2

namespace L2
open PySem PySem.Spec PyProof.Rows
/-- a def of the text that may be called by its name -/
structure Callee (P : Program) (w : World) (K : PySem.W.Frag) (mg : Str → Option Value) (base : Heap) (k : Nat) (x : Str) (ps : List Str) (sp : Sp) : Prop where
  ex : ∃ (f : Addr) (fd : FuncData), FnOk P w K mg base CX0 k f fd ps sp ∧ mg x = some (.ref f) ∧ PySem.W.keepIn K (.ref f) = true ∧ Binds K fd ps []
section
variable {X : Cx} {k : Nat} {x : Str} {ps : List Str} {sp : Sp} {p pos : Pos} {e : Expr} {es : List Expr} {t : TA}
theorem pe_fn (c : Callee X.prog X.w X.K X.mg X.base k x ps sp) (hr : Room k X.A) (hg : Gl X x) (ha : PA X (e :: es) t) (hdb : (x == ("__debug__" : Str)) = false := by decide)
    (he : starEach (e :: es) X.env = (false, eval e X.env) :: starEach es X.env := by rfl) (hpl : (backTo pos (starEach es X.env)).any (·.1) = false := by rfl) : PE X (.Call (.Name x p) (e :: es) [] pos) (tCall sp [] E0 t) := by
  obtain ⟨f, fd, G, hm, hk, hb⟩ := c.ex
  exact pe_call G hr hg hm hk hb .nil pass0 ha hdb he hpl
end
theorem Callee.of {P : Program} {w : World} {K : PySem.W.Frag} {mg : Str → Option Value} {base : Heap} {k : Nat} {x qual : Str} {st : Stmt} {f : Addr} {fd : FuncData} {ps : List Str} {sp : Sp} (F : Fun K x qual st f fd) (G : FnOk P w K mg base CX0 k f fd ps sp) (hm : mg x = some (.ref f)) (b : Binds K fd ps []) : Callee P w K mg base k x ps sp := ⟨f, fd, G, hm, F.kp, b⟩
def chkComp (sc : Scope) (N : List Str) (scope : Scope) (cap : List Nat) : Bool :=
  scope.names.all (fun y => y.2 != .cell) && scope.kind == .function && scope.names.all (fun y => y.2 != .free || sc.names.lookup y.1 == some .cell || sc.names.lookup y.1 == some .free) &&
    scope.names.all (fun y => y.2 != .local || scope.names.lookup y.1 == some .local) && cap.all (fun j => decide (j < N.length) && scope.names.lookup (N.getD j "") == some .free)
/-- by a look at the tables -/
theorem CompOk.of {X : Cx} {scope : Scope} {cap : List Nat} (sc : Scope) (N : List Str) (hs : X.env.scope = sc) (hN : X.N = N) (h : chkComp sc N scope cap = true) : CompOk X scope cap := by
  subst hs hN
  unfold chkComp at h
  simp only [Bool.and_eq_true, List.all_eq_true] at h
  obtain ⟨⟨⟨⟨h1, h2⟩, h3⟩, h4⟩, h5⟩ := h
  refine ⟨fun y hy => by simpa using h1 y hy, by simpa using h2, fun y hy e => ?_, fun y hy e => ?_, fun j hj => ?_⟩
  · have := h3 y hy
    simpa [e] using this
  · have := h4 y hy
    simpa [e] using this
  · have := h5 j hj
    simpa using this
/-! ### the forms of comprehensions one uses -/
theorem ext_set0 (σ : St) (k : Nat) (cap : List Nat) (v : V) : Ext (capS σ (k + 1) cap) ((capS σ (k + 1) cap).set 0 (some v)) := by
  refine ⟨by simp, fun i u h => ?_⟩
  cases i with
  | zero =>
    have : (capS σ (k + 1) cap)[0]? = some none := by
      unfold capS
      rw [List.replicate_succ, List.cons_append]
      rfl
    rw [this] at h; cases h
  | succ i => rw [List.getElem?_set_ne (by omega)]; exact h
abbrev g1 : Fam TG := fun _ _ _ _ => gName 0
abbrev tA : Fam TT := fun _ _ _ _ => tAlw
/-- one name, a list, any heap -/
theorem lc_list {K : PySem.W.Frag} {a : Addr} {xs : List V} {σ : St} {cap : List Nat} {te : Fam TE} {D : Addr} {H1 : Hp} {Q : VK} (Pv : Nat → Hp → List V → Prop) (h0 : Pv 0 (upd H1 D (.lst [])) [])
    (hl : ∀ i H ys, i ≤ xs.length → Pv i H ys → SqL K H a xs ∧ H D = some (.lst ys))
    (hs : ∀ i x H ys, xs[i]? = some x → Pv i H ys → ∀ C s H0 fp, te C s H0 fp ((capS σ 1 cap).set 0 (some x)) H fun y H6 => H6 D = some (.lst ys) ∧ ys.length < sizeLine ∧ Pv (i + 1) (upd H6 D (.lst (ys ++ [y]))) (ys ++ [y]))
    (hd : ∀ H ys, Pv xs.length H ys → Q (.ref D) H) : LcGoal (Itl K a) (capS σ 1 cap) g1 tA te D H1 Q := by
  unfold LcGoal
  refine ⟨xs.length, fun i H ys => i ≤ xs.length ∧ Pv i H ys, ⟨Nat.zero_le _, h0⟩, ?_⟩
  rintro i H2 ys ⟨hi, p⟩
  obtain ⟨q, hD⟩ := hl i H2 ys hi p
  refine ⟨hi, hD, ?_⟩
  by_cases hlt : i < xs.length
  · refine .inr ⟨hlt, ⟨xs, xs[i], q, by simp [hlt]⟩, fun C s H0 fp x H3 y => ?_⟩
    obtain ⟨e, y⟩ := y
    subst e
    refine ⟨ext_set0 σ 0 cap x, ?_⟩
    show tAlw _ _ _
    unfold tAlw
    dsimp only
    rw [if_pos rfl]
    have := hs i x H3 ys (y xs q) p C s H0 fp
    have e : (fun (y : V) (H6 : Hp) => H6 D = some (HO.lst ys) ∧ ys.length < sizeLine ∧ (i + 1 ≤ xs.length ∧ Pv (i + 1) (upd H6 D (.lst (ys ++ [y]))) (ys ++ [y]))) = fun y H6 => H6 D = some (.lst ys) ∧ ys.length < sizeLine ∧ Pv (i + 1) (upd H6 D (.lst (ys ++ [y]))) (ys ++ [y]) := by
      funext y H6
      exact propext ⟨fun ⟨a, b, _, c⟩ => ⟨a, b, c⟩, fun ⟨a, b, c⟩ => ⟨a, b, hlt, c⟩⟩
    rw [e]
    exact this
  · have e : i = xs.length := by omega
    subst e
    exact .inl ⟨⟨xs, q, Nat.le_refl _⟩, hd H2 ys p⟩
theorem Same.new {H : Hp} {D : Addr} (h : H D = none) (o : HO) : Same H (upd H D o) := fun b u e => by rw [upd_ne (ne_of_none e h)]; exact e
theorem map_take_succ {α β : Type} (f : α → β) (xs : List α) (i : Nat) (x : α) (h : xs[i]? = some x) : (xs.take (i + 1)).map f = (xs.take i).map f ++ [f x] := by
  rw [List.take_add_one, h]; simp
/-- one name, a list, the heap untouched by the element -/
theorem lc_listP {K : PySem.W.Frag} {a : Addr} {xs : List V} {σ : St} {cap : List Nat} {te : Fam TE} {D : Addr} {H1 : Hp} {Q : VK} (f : V → V) (hD : H1 D = none) (hS : SqL K H1 a xs) (hz : xs.length ≤ sizeLine)
    (hs : ∀ (i : Nat) x ys C s H0 fp (R : VK), xs[i]? = some x → R (f x) (upd H1 D (.lst ys)) → te C s H0 fp ((capS σ 1 cap).set 0 (some x)) (upd H1 D (.lst ys)) R)
    (hq : Q (.ref D) (upd H1 D (.lst (xs.map f)))) : LcGoal (Itl K a) (capS σ 1 cap) g1 tA te D H1 Q := by
  refine lc_list (xs := xs) (fun i H ys => i ≤ xs.length ∧ ys = (xs.take i).map f ∧ H = upd H1 D (.lst ys)) ⟨Nat.zero_le _, by simp, rfl⟩ ?_ ?_ ?_
  · rintro i H ys hi ⟨_, rfl, rfl⟩
    exact ⟨(Same.new hD _).seq hS, upd_same⟩
  · rintro i x H ys hx ⟨_, rfl, rfl⟩ C s H0 fp
    have hlt : i < xs.length := (List.getElem?_eq_some_iff.mp hx).1
    refine hs i x _ C s H0 fp _ hx ⟨upd_same, ?_, hlt, (map_take_succ f xs i x hx).symm, upd_upd⟩
    rw [List.length_map, List.length_take]
    omega
  · rintro H ys ⟨_, rfl, rfl⟩
    rw [List.take_of_length_le (Nat.le_refl _)]
    exact hq
theorem small100 {n : Nat} (h : n ≤ 100) : n < sizeLine := small1000 (by omega)
theorem Same.put {H H' : Hp} {q : Addr} {o : HO} (s : Same H H') (n : H q = none) : Same H (upd H' q o) := fun b u e => by rw [upd_ne (ne_of_none e n)]; exact s b u e
theorem atI_lastM (s : List Int) (y : Int) : atI (((y :: s).reverse).map V.int) (-1) = some (V.int y) := by rw [List.reverse_cons, List.map_append]; exact atI_last _ _
theorem get_lastM (s : List Int) (y : Int) : (((y :: s).reverse).map V.int)[(((y :: s).reverse).map V.int).length - 1]? = some (V.int y) := by
  rw [List.reverse_cons, List.map_append, List.length_append]
  simp
theorem dropLastM (s : List Int) (y : Int) : (((y :: s).reverse).map V.int).dropLast = (s.reverse).map V.int := by
  rw [List.reverse_cons, List.map_append]
  simp
theorem get_mapM {xs : List Int} {i : Nat} {y : V} (h : (xs.map V.int)[i]? = some y) : ∃ z, y = V.int z ∧ xs[i]? = some z := by
  rw [List.getElem?_map] at h
  cases e : xs[i]? with
  | none => rw [e] at h; cases h
  | some z => rw [e] at h; exact ⟨z, (Option.some.inj h).symm, rfl⟩
/-- a list of ints at a -/
abbrev IL (H : Hp) (a : Addr) (ns : List Int) : Prop := H a = some (.lst (ns.map V.int))
end L2

namespace L2
open PySem PySem.Spec PyProof.Rows
/-! ### chains of comparisons of any length, as tests -/
def PCh (X : Cx) (pos : Pos) (ops : List CmpOp) (es : List Expr) (t : V → TT) : Prop :=
  ∀ (pins : List (Addr × Obj)) (s : Shared) (σ : St) (H : Hp) (x : V) (v : Value) (Q : Bool → Hp → Prop), Inv X pins σ H s → RelV x v → t x σ H Q → wpAny (model X.prog X.w) X.A (testChain pos v ops (evalEach es X.env)) (TP X pins σ Q) X.xe s
section
variable {X : Cx} {pos : Pos} {e e' a : Expr} {es : List Expr} {op op' : CmpOp} {ops : List CmpOp} {te ta : TE} {t : V → TT} {r : R2}
def tLink (r : R2) (te : TE) (t : V → TT) : V → TT := fun x σ H Q => te σ H fun y H1 => r x y H1 fun z H2 => ∃ k, z = .bl k ∧ (if k = true then t y σ H2 Q else Q false H2)
def tLast (r : R2) (te : TE) : V → TT := fun x σ H Q => te σ H fun y H1 => r x y H1 fun z H2 => ∃ k, z = .bl k ∧ Q k H2
theorem pch_last (ho : OpR X (compareOp op) r) (he : PE X e te) : PCh X pos [op] [e] (tLast r te) := by
  intro pins s σ H x v Q I rx h
  show wpAny _ _ (testChain pos v [op] [eval e X.env]) _ _ s
  refine test_last (thn (he pins s σ H _ I h) fun u s2 ⟨y, H2, I2, r2, q2⟩ => thn (ho pins s2 σ H2 x y v u _ I2 rx r2 q2) fun d s3 ⟨z, H3, I3, r3, k, e3, q3⟩ => ?_)
  subst e3
  cases r3
  exact wpAny_truthy_bool ⟨H3, I3, q3⟩
theorem pch_cons (ho : OpR X (compareOp op) r) (he : PE X e te) (ht : PCh X pos (op' :: ops) (e' :: es) t) : PCh X pos (op :: op' :: ops) (e :: e' :: es) (tLink r te t) := by
  intro pins s σ H x v Q I rx h
  show wpAny _ _ (testChain pos v (op :: op' :: ops) (eval e X.env :: eval e' X.env :: evalEach es X.env)) _ _ s
  refine test_link (thn (he pins s σ H _ I h) fun u s2 ⟨y, H2, I2, r2, q2⟩ => thn (ho pins s2 σ H2 x y v u _ I2 rx r2 q2) fun d s3 ⟨z, H3, I3, r3, k, e3, q3⟩ => ?_)
  subst e3
  cases r3
  refine wpAny_truthy_bool ?_
  cases k with
  | false => rw [if_neg Bool.false_ne_true] at q3; exact ite_ff ⟨H3, I3, q3⟩
  | true => rw [if_pos rfl] at q3; exact ite_tt (ht pins s3 σ H3 y u Q I3 r2 q3)
theorem pt_chn (ha : PE X a ta) (ht : PCh X pos (op :: op' :: ops) (e :: e' :: es) t) (hm : lastMarks (op :: op' :: ops) (e :: e' :: es) = false := by with_unfolding_all rfl) :
    PT X (.Compare a (op :: op' :: ops) (e :: e' :: es) pos) (fun σ H Q => ta σ H fun x H1 => t x σ H1 Q) := by
  intro pins s σ H Q I h
  exact isTrue_chain (thn (ha pins s σ H _ I h) fun v s1 ⟨x, H1, I1, r1, q1⟩ => ht pins s1 σ H1 x v Q I1 r1 q1) hm
end
section
variable {X : Cx}
/-! ### is True, is not True -/
/-! ### max, min of a list of ints; index -/
theorem call_maxL (hc : X.calm = true) : CallR X (.builtin "max") (fun xs H Q => ∃ (p : Addr) (ns : List Int), xs = [.ref p] ∧ SqL X.K H p (ns.map V.int) ∧ ns ≠ [] ∧ ∀ M, M ∈ ns → (∀ a, a ∈ ns → a ≤ M) → Q (.int M) H) := by
  intro pins s σ H xs us Q I r h
  obtain ⟨p, ns, rfl, hq, hne, q⟩ := h
  obtain ⟨u, rfl, rx⟩ := vals1 r
  cases rx
  obtain ⟨its, r', pl, hz⟩ := I.list hq
  have hi := intsAre_of r'
  obtain ⟨xs, hx⟩ := hi.allInts.items
  have hl' : s.heap.IsList p (intItems xs) := hx ▸ pl.isList
  have e1 : ns = xs.toList.map (·.1) := by
    rw [← nums_intItems, ← hx]
    exact (show numsOf its.toArray.toList = ns from hi.numsOf).symm
  have hsz : 0 < xs.size := by
    have : 0 < ns.length := List.length_pos_iff.mpr hne
    rw [e1, List.length_map, Array.length_toList] at this; exact this
  refine max_intList (I.ok.hd hc) hl' hsz fun v h' tk hv hk => ?_
  obtain ⟨t, rfl⟩ := intItems_at hv
  obtain ⟨h1, h2⟩ := argBest_gt (numAt xs) (xs.size - 1)
  refine ⟨.int _, H, I.kept hk, ⟨_, rfl⟩, q _ ?_ fun a ha => ?_⟩
  · rw [e1, numAt_eq]; exact getD_mem (by rw [List.length_map, Array.length_toList]; omega)
  · rw [e1] at ha
    obtain ⟨j, hj, rfl⟩ := mem_getD ha
    rw [List.length_map, Array.length_toList] at hj
    rw [← numAt_eq]; exact h2 j (by omega)
theorem call_minL (hc : X.calm = true) : CallR X (.builtin "min") (fun xs H Q => ∃ (p : Addr) (ns : List Int), xs = [.ref p] ∧ SqL X.K H p (ns.map V.int) ∧ ns ≠ [] ∧ ∀ M, M ∈ ns → (∀ a, a ∈ ns → M ≤ a) → Q (.int M) H) := by
  intro pins s σ H xs us Q I r h
  obtain ⟨p, ns, rfl, hq, hne, q⟩ := h
  obtain ⟨u, rfl, rx⟩ := vals1 r
  cases rx
  obtain ⟨its, r', pl, hz⟩ := I.list hq
  have hi := intsAre_of r'
  obtain ⟨xs, hx⟩ := hi.allInts.items
  have hl' : s.heap.IsList p (intItems xs) := hx ▸ pl.isList
  have e1 : ns = xs.toList.map (·.1) := by
    rw [← nums_intItems, ← hx]
    exact (show numsOf its.toArray.toList = ns from hi.numsOf).symm
  have hsz : 0 < xs.size := by
    have : 0 < ns.length := List.length_pos_iff.mpr hne
    rw [e1, List.length_map, Array.length_toList] at this; exact this
  refine min_intList (I.ok.hd hc) hl' hsz fun v h' tk hv hk => ?_
  obtain ⟨t, rfl⟩ := intItems_at hv
  obtain ⟨h1, h2⟩ := argBest_lt (numAt xs) (xs.size - 1)
  refine ⟨.int _, H, I.kept hk, ⟨_, rfl⟩, q _ ?_ fun a ha => ?_⟩
  · rw [e1, numAt_eq]; exact getD_mem (by rw [List.length_map, Array.length_toList]; omega)
  · rw [e1] at ha
    obtain ⟨j, hj, rfl⟩ := mem_getD ha
    rw [List.length_map, Array.length_toList] at hj
    rw [← numAt_eq]; exact h2 j (by omega)
def rIndex (K : PySem.W.Frag) : V → List V → Hp → VK → Prop := fun x vs H Q => ∃ (l : Addr) (ns : List Int) (k : Int), x = .ref l ∧ vs = [.int k] ∧ SqL K H l (ns.map V.int) ∧ k ∈ ns ∧ Q (.int (ns.idxOf k : Nat)) H
theorem mt_index : MtM X "list.index" (rIndex X.K) := by
  intro pins s σ H x vs v us Q I rx rv h
  obtain ⟨l, ns, k, rfl, rfl, hq, hk, q⟩ := h
  cases rx
  obtain ⟨u, rfl, t, rfl⟩ := rv.one
  obtain ⟨its, r, pl, hz⟩ := I.list hq
  have hi := intsAre_of r
  obtain ⟨⟨cls, dd, data, sl⟩, ho, hc, n, hd⟩ := id pl.isList
  simp only at hc hd
  subst hc hd
  have hlen := hi.length
  have hj : ns.idxOf k < ns.length := List.idxOf_lt_length_iff.mpr hk
  have hb : (ns.idxOf k : Int) < 2 ^ 63 - 1 := by
    rw [List.length_map, sizeLine_eq] at hz
    omega
  refine call_meets PySem.F.slot_list_index ⟨_, ho, rfl⟩ PySem.F.entry_list_index (PySem.F.args_list_index_2 _ _)
    (SeqAt.list_indexAt l its.toArray n dd sl (.int k t) (isInt k) (ns.idxOf k) (by simpa [hlen] using hj) hb ?_ ?_) ⟨ho, fun y hy => (eq_isInt k t hi y (by simpa using hy)).at _ _, ⟨.int (ns.idxOf k : Nat), H, I.tok _, ⟨_, rfl⟩, q⟩⟩
  · show isInt k its[ns.idxOf k] = true
    rw [isInt_at k hi _ (by omega) hj]
    simpa using List.getElem_idxOf hj
  · intro j hjs hlt
    show isInt k its[j] = false
    rw [isInt_at k hi j (by simpa using hjs) (by omega)]
    exact ne_of_lt_idxOf hlt _
end
end L2

namespace L2
open PySem PySem.Spec PyProof.Rows
/-! ### a step deeper -/
abbrev Cx.inn (X : Cx) : Cx := { X with A := X.A.in1 }
theorem Cx.Ok.inn {X : Cx} (ok : X.Ok) : X.inn.Ok :=
  ⟨ok.mod, ok.kind, ok.glob, ok.blt, ok.above, ok.inj, ok.has, ok.cab, ok.hd, ok.frames, ok.stk, ok.exf, ok.bs, ok.bsz, ok.noex, ok.exfs, ok.funs, ok.frf⟩
theorem Cx.Ok.out {X : Cx} (ok : X.inn.Ok) : X.Ok :=
  ⟨ok.mod, ok.kind, ok.glob, ok.blt, ok.above, ok.inj, ok.has, ok.cab, ok.hd, ok.frames, ok.stk, ok.exf, ok.bs, ok.bsz, ok.noex, ok.exfs, ok.funs, ok.frf⟩
section
variable {X : Cx} {pins : List (Addr × Obj)} {σ : St} {H : Hp} {s : Shared}
theorem Inv.inn (I : Inv X pins σ H s) : Inv X.inn pins σ H s := ⟨I.ok.inn, I.os, I.bare, I.base, I.loc, I.cell, I.free, I.freeC, I.pin, I.hok, I.len⟩
theorem Inv.out (I : Inv X.inn pins σ H s) : Inv X pins σ H s := ⟨I.ok.out, I.os, I.bare, I.base, I.loc, I.cell, I.free, I.freeC, I.pin, I.hok, I.len⟩
end
/-- what list() asks of an iterator -/
structure ItL (P : Program) (w : World) (it : Addr) (tn : Nat → Heap → Prop) : Prop where
  ty : ∀ s : Shared, tn 0 s.heap → ∃ T, s.TypeIs (.ref it) T ∧ (Value.type T == Value.type "list") = false ∧ (Value.type T == Value.type "tuple") = false
  hint : ∀ (A : Around) (s : Shared) (Q : Bool → Shared → Prop) (E : Value → Shared → Prop), tn 0 s.heap → (∀ b tk, Q b { s with toks := tk }) → wpAny (model P w) A (Builtin.List.listLengthHint (.ref it)) Q E s
/-- an expression whose value is the iterator itself -/
def PIVE (X : Cx) (pins : List (Addr × Obj)) (σ : St) (tg : Expr) (R : It → Hp → Prop) (v : Value) (s1 : Shared) : Prop :=
  ∃ (it : Addr) (fp : List Addr) (tn : Nat → Heap → Prop) (J : It) (H' : Hp), v = .ref it ∧ Inv X pins σ H' s1 ∧ Turn X.prog X.w X.K tg J fp it tn ∧ tn 0 s1.heap ∧ (∀ b ∈ fp, FpOk X pins H' b) ∧ ItL X.prog X.w it tn ∧ R J H'
def PIV (X : Cx) (tg iter : Expr) (wi : TI) : Prop :=
  ∀ (pins : List (Addr × Obj)) (s : Shared) (σ : St) (H : Hp) (R : It → Hp → Prop), Inv X pins σ H s → wi σ H R → wpAny (model X.prog X.w) X.A (eval iter X.env) (PIVE X pins σ tg R) X.xe s
theorem PIV.pi {X : Cx} {tg iter : Expr} {wi : TI} (h : PIV X tg iter wi) : PI X tg iter wi := by
  intro pins s σ H R I hw
  refine thn (h pins s σ H R I hw) fun v s1 ⟨it, fp, tn, J, H', e, I1, T, st, hf, _, q⟩ => ?_
  subst e
  exact T.self _ 0 _ _ _ st ⟨it, fp, tn, J, H', rfl, I1, T, st, hf, q⟩
/-! ### list(iterator) -/
section
variable {X : Cx} {pins : List (Addr × Obj)} {σ : St}
theorem list_loop {x : Str} {p2 : Pos} {J : It} {fp : List Addr} {it D : Addr} {tnn : Nat → Heap → Prop} {Q : VK} {R : Result → Shared → Prop} (hc : X.calm = true) (T : Turn X.prog X.w X.K (.Name x p2) J fp it tnn) (hDf : D ∉ fp) (n : Nat) (W : Nat → Hp → List V → Prop)
    (turn : ∀ i H2 ys, W i H2 ys → i ≤ n ∧ H2 D = some (.lst ys) ∧ ((J.stop i H2 ∧ Q (.ref D) H2) ∨ (i < n ∧ J.go i H2 ∧ ∀ y H3, J.yld i H2 y H3 → H3 D = some (.lst ys) ∧ ys.length < sizeLine ∧ W (i + 1) (upd H3 D (.lst (ys ++ [y]))) (ys ++ [y]))))
    (hR : ∀ H2 s2, Inv X pins σ H2 s2 → Q (.ref D) H2 → R (.ok (.ret .none)) s2) :
    ∀ (k i : Nat) (s : Shared) (H2 : Hp) (ys : List V), n - i = k → Inv X pins σ H2 s → tnn i s.heap → (∀ b ∈ fp, FpOk X pins H2 b) → W i H2 ys →
      codeAny (model X.prog X.w) X.A.in1 (.builtin "list.extend.loop" ⟨[.ref D, .ref it, .none], []⟩) R s := by
  intro k
  induction k with
  | zero =>
    intro i s H2 ys hk I st hf w
    obtain ⟨hi, hD, alt⟩ := turn i H2 ys w
    rcases alt with ⟨stop, q⟩ | ⟨hlt, _⟩
    · refine codeAny_builtin F.entry_extend_loop ?_
      rw [Around.under_plainId F.plain_extend_loop _]
      show wpAny _ X.A.in1.in1 (pyNext (.ref it) >>= _) _ _ s
      refine wpAny_bind (thn (T.done X.inn.inn rfl rfl rfl hc i pins s σ H2 _ I.inn.inn hf st stop) fun r s1 ⟨hr, I1⟩ => ?_)
      subst hr
      exact wpAny_pure (hR H2 s1 I1.out.out q)
    · omega
  | succ k ih =>
    intro i s H2 ys hk I st hf w
    obtain ⟨hi, hD, alt⟩ := turn i H2 ys w
    rcases alt with ⟨stop, q⟩ | ⟨hlt, go, step⟩
    · refine codeAny_builtin F.entry_extend_loop ?_
      rw [Around.under_plainId F.plain_extend_loop _]
      show wpAny _ X.A.in1.in1 (pyNext (.ref it) >>= _) _ _ s
      refine wpAny_bind (thn (T.done X.inn.inn rfl rfl rfl hc i pins s σ H2 _ I.inn.inn hf st stop) fun r s1 ⟨hr, I1⟩ => ?_)
      subst hr
      exact wpAny_pure (hR H2 s1 I1.out.out q)
    · refine codeAny_builtin F.entry_extend_loop ?_
      rw [Around.under_plainId F.plain_extend_loop _]
      show wpAny _ X.A.in1.in1 (pyNext (.ref it) >>= _) _ _ s
      refine wpAny_bind (thn (T.item X.inn.inn rfl rfl rfl hc i pins s σ H2 _ I.inn.inn hf st go) fun r s1 ⟨u, hr, h1⟩ => ?_)
      subst hr
      show wpAny _ X.A.in1.in1 (letOwnedTupleGo (.Name x p2) (.ref it) u >>= fun _ => (updateSeq D (·.push u) >>= fun _ => again (.builtin "list.extend.loop" ⟨[.ref D, .ref it, .none], []⟩))) _ _ s1
      refine wpAny_bind (thn h1 fun _ s2 ⟨y, H3, I3, r3, y3, st3, fr3⟩ => ?_)
      have I3' : Inv X pins σ H3 s2 := I3.out.out
      obtain ⟨hD3, hz3, w3⟩ := step y H3 y3
      obtain ⟨_, its, m, rv, hl, e⟩ := I3'.lstM hD3
      have hsz : its.toArray.size < sizeLine := by rw [List.size_toArray, ← hl]; exact hz3
      refine wpAny_bind ?_
      refine wpAny_updateSeq e rfl (wpAny_pure ⟨plainId_quiet F.plain_extend_loop _, ?_⟩) (by omega) (by show (its.toArray.push u).size ≤ sizeLine + 1; rw [Array.size_push]; omega)
      have I4 : Inv X pins σ (upd H3 D (.lst (ys ++ [y]))) { s2 with heap := s2.heap.update D (Obj.mapSeq (·.push u)) } := I3'.lset (t' := s2.toks) (its' := its ++ [u]) hD3 e (by simp) (rv.append (.cons r3 .nil)) (by rw [List.length_append, List.length_singleton]; omega)
      refine ih (i + 1) _ _ _ (by omega) I4 (T.keep _ _ _ st3 fun b hb o eo => ?_) (fun b hb => ?_) w3
      · exact (Heap.get?_update_other _ _ (fun h : D = b => hDf (by rw [h]; exact hb))).trans eo
      · refine ⟨?_, (hf b hb).2⟩
        rw [upd_ne (fun h : b = D => hDf (h ▸ hb))]
        exact fr3 b hb
end
theorem boot_listX : bootBuiltins "list" = some (.type "list") := by decide +kernel
def tListV (wi : TI) : TE := fun σ H Q => wi σ H fun J H1 => ∀ D, H1 D = none → LcGoal J [none] (fun _ _ _ _ => gName 0) (fun _ _ _ _ => tAlw) (fun _ _ _ _ => tVar 0) D H1 Q
theorem pe_listV {X : Cx} {iter : Expr} {wi : TI} {x : Str} {p p2 pos : Pos} (hc : X.calm = true) (h : PIV X (.Name x p2) iter wi) (hg : Gl X "list") (hm : X.mg "list" = none) (hs : starEach [iter] X.env = [(false, eval iter X.env)] := by rfl) :
    PE X (.Call (.Name "list" p) [iter] [] pos) (tListV wi) := by
  intro pins s σ H Q I hw
  refine Call_ (ld_blt I hg hm boot_listX (PyProof.Rows.callWith_type1 ?_ hs rfl))
  rw [hs]
  show wpAny _ _ (spliced ((false, eval iter X.env) :: [])) _ _ s
  refine Calls.spliced_cons (thn (h pins s σ H _ I hw) fun v s1 ⟨it, fp, tnn, J, H1, e, I1, T, st, hf, L, q⟩ => Calls.spliced_nil ?_)
  subst e
  have hlt : ∀ b ∈ fp, b < s1.heap.objs.size := fun b hb => by obtain ⟨o, e, _⟩ := T.obj _ _ st b hb; exact Heap.lt_size e
  have hDf : s1.heap.objs.size ∉ fp := fun z => Nat.lt_irrefl _ (hlt _ z)
  obtain ⟨n, W, w0, turn⟩ := q _ I1.fresh
  refine callType_codes (Q₁ := fun obj s₂ => obj = .ref s1.heap.objs.size ∧ s₂ = { s1 with heap := s1.heap.push { cls := .type "list", data := .seq #[] } }) F.called_list (F.typeCall_list_1 _) F.entry_list_init
    (code_list_new _ ⟨rfl, rfl⟩) fun obj s₂ h₂ => ?_
  obtain ⟨rfl, rfl⟩ := h₂
  have I2 : Inv X pins σ (upd H1 s1.heap.objs.size (.lst [])) { s1 with heap := s1.heap.push { cls := .type "list", data := .seq ([] : List Value).toArray } } := I1.lnew (t' := s1.toks) .nil (Nat.zero_le _)
  have hS : (s1.heap.push { cls := .type "list", data := .seq #[] }).get? s1.heap.objs.size = some { cls := .type "list", data := .seq #[] } := Heap.get?_push_size _ rfl
  refine ⟨⟨_, hS, rfl⟩, F.args_list_init_2 _ _, ?_⟩
  show wpAny _ X.A.in1.in1 (do let old ← Builtin.List.listItems (.ref s1.heap.objs.size); Builtin.List.listUpdate (.ref s1.heap.objs.size) (fun _ => #[]); letGo old.toList.reverse; Builtin.List.listExtendWith (.ref s1.heap.objs.size) (.ref it) .none) _ _ _
  refine wpAny_bind ?_
  unfold Builtin.List.listItems
  refine wpAny_bind (wpAny_seqItems hS rfl (wpAny_pure ?_))
  show wpAny _ _ (updateSeq s1.heap.objs.size (fun _ => #[]) >>= fun _ => letGo (#[] : Array Value).toList.reverse >>= fun _ => Builtin.List.listExtendWith (.ref s1.heap.objs.size) (.ref it) .none) _ _ _
  refine wpAny_bind (wpAny_updateSeq hS rfl ?_)
  have I3 := I2.lset (t' := s1.toks) (its := []) (its' := []) (f := fun _ => (#[] : Array Value)) (ys := []) upd_same hS rfl .nil (Nat.zero_le _)
  rw [upd_upd] at I3
  have hS₂ := Heap.get?_update_self (Obj.mapSeq (fun _ => (#[] : Array Value))) hS rfl
  refine wpAny_bind (wpAny_letGo ?_)
  have ne : ∀ b ∈ fp, s1.heap.objs.size ≠ b := fun b hb z => hDf (z ▸ hb)
  have st3 : tnn 0 ((s1.heap.push { cls := .type "list", data := .seq #[] }).update s1.heap.objs.size (Obj.mapSeq (fun _ => (#[] : Array Value)))) := T.keep _ _ _ st fun b hb o eo => (Heap.get?_update_other _ _ (ne b hb)).trans (Heap.get?_push_of_some _ eo)
  have hf3 : ∀ b ∈ fp, FpOk X pins (upd H1 s1.heap.objs.size (.lst [])) b := fun b hb => ⟨by rw [upd_ne (Ne.symm (ne b hb))]; exact (hf b hb).1, (hf b hb).2⟩
  have turn' : ∀ i H2 ys, W i H2 ys → i ≤ n ∧ H2 s1.heap.objs.size = some (.lst ys) ∧ ((J.stop i H2 ∧ Q (.ref s1.heap.objs.size) H2) ∨ (i < n ∧ J.go i H2 ∧ ∀ y H3, J.yld i H2 y H3 → H3 s1.heap.objs.size = some (.lst ys) ∧ ys.length < sizeLine ∧ W (i + 1) (upd H3 s1.heap.objs.size (.lst (ys ++ [y]))) (ys ++ [y]))) := by
    intro i H2 ys w
    obtain ⟨h1, h2, h3⟩ := turn i H2 ys w
    refine ⟨h1, h2, h3.imp id fun ⟨a, b, c⟩ => ⟨a, b, fun y H3 yy => ?_⟩⟩
    obtain ⟨_, c2⟩ := c 0 s1 H1 [] y H3 yy
    have c3 : if true = true then tVar 0 ([none].set 0 (some y)) H3 (fun y H6 => H6 s1.heap.objs.size = some (.lst ys) ∧ ys.length < sizeLine ∧ W (i + 1) (upd H6 s1.heap.objs.size (.lst (ys ++ [y]))) (ys ++ [y])) else W (i + 1) H3 ys := c2
    rw [if_pos rfl] at c3
    obtain ⟨v, ev, c4⟩ := c3
    have : v = y := by simpa using ev.symm
    subst this
    exact c4
  have fin : ∀ (H2 : Hp) (s2 : Shared), Inv X pins σ H2 s2 → Q (.ref s1.heap.objs.size) H2 → wants (fun r s₂ => r = .none ∧ EP X pins σ Q (.ref s1.heap.objs.size) s₂) X.xe (.ok (.ret .none)) s2 := fun H2 s2 I q => ⟨rfl, .ref s1.heap.objs.size, H2, I, rfl, q⟩
  generalize hH3 : ({ s1 with heap := (s1.heap.push { cls := .type "list", data := .seq #[] }).update s1.heap.objs.size (Obj.mapSeq (fun _ => (#[] : Array Value))) } : Shared) = S3
  have I3' : Inv X pins σ (upd H1 s1.heap.objs.size (.lst [])) S3 := by rw [← hH3]; exact I3
  have st3' : tnn 0 S3.heap := by rw [← hH3]; exact st3
  have hS3 : ∃ m, S3.heap.get? s1.heap.objs.size = some { cls := .type "list", data := .seq #[] m } := by rw [← hH3]; exact ⟨_, hS₂⟩
  obtain ⟨m3, hS3⟩ := hS3
  unfold Builtin.List.listExtendWith
  obtain ⟨Ty, hT, h2, h3⟩ := L.ty S3 st3'
  refine wpAny_bind (wpAny_typeOf hT ?_)
  have h1 : Builtin.List.listSameRef (.ref s1.heap.objs.size) (.ref it) = false := by simp [Builtin.List.listSameRef, ne it T.mem]
  simp only [h1, h2, h3, Bool.or_false, Bool.false_eq_true, if_false]
  refine wpAny_bind (T.self _ 0 _ _ _ st3' ?_)
  refine wpAny_bind (wpAny_holding (L.hint _ S3 _ _ st3' fun b tk => ?_))
  have I4 : Inv X pins σ (upd H1 s1.heap.objs.size (.lst [])) { S3 with toks := tk } := I3'.tok tk
  refine wpAny_ite_split (fun _ => ?_) (fun _ => wpAny_pure ⟨plainId_quiet F.plain_extend_loop _, list_loop hc T hDf n W turn' fin (n - 0) 0 _ _ _ rfl I4 st3' hf3 w0⟩)
  refine wpAny_bind (wpAny_rule ?_)
  refine wpAny_bind ?_
  show wpAny _ _ (updateSeq s1.heap.objs.size (·.push .none) >>= fun _ => updateSeq s1.heap.objs.size (·.pop)) _ _ _
  refine wpAny_bind (wpAny_updateSeq (s := { S3 with toks := tk }) hS3 rfl ?_)
  have I5 := I4.lset (t' := tk) (its := []) (its' := [.none]) (f := (·.push Value.none)) (ys := [.non]) upd_same hS3 rfl (.cons rfl .nil) (by show 1 ≤ sizeLine; decide)
  rw [upd_upd] at I5
  have hS₄ := Heap.get?_update_self (Obj.mapSeq (·.push Value.none)) hS3 rfl
  refine wpAny_updateSeq (s := { S3 with heap := S3.heap.update s1.heap.objs.size (Obj.mapSeq (·.push Value.none)), toks := tk }) (hz := by seq_fits) hS₄ rfl ?_
  have I6 := I5.lset (t' := tk) (its := [.none]) (its' := []) (f := (·.pop)) (ys := []) upd_same hS₄ rfl .nil (Nat.zero_le _)
  rw [upd_upd] at I6
  refine wpAny_pure ⟨plainId_quiet F.plain_extend_loop _, list_loop hc T hDf n W turn' fin (n - 0) 0 _ _ _ rfl I6 (T.keep _ _ _ st3' fun b hb o eo => ?_) hf3 w0⟩
  exact (Heap.get?_update_other _ _ (ne b hb)).trans ((Heap.get?_update_other _ _ (ne b hb)).trans eo)
end L2

namespace L2
open PySem PySem.Spec PyProof.Rows
theorem lri_no_len : typeLookup (.type "list_reverseiterator") "__len__" = pure none := by rw [typeLookup_type, builtinLookup_eq_fast]; kernel_rfl
theorem lri_hint : typeLookup (.type "list_reverseiterator") "__length_hint__" = pure (some (.builtin "list_reverseiterator.__length_hint__")) := by rw [typeLookup_type, builtinLookup_eq_fast]; kernel_rfl
theorem zip_no_len : typeLookup (.type "zip") "__len__" = pure none := by rw [typeLookup_type, builtinLookup_eq_fast]; kernel_rfl
theorem zip_no_hint : typeLookup (.type "zip") "__length_hint__" = pure none := by rw [typeLookup_type, builtinLookup_eq_fast]; kernel_rfl
section
variable {prog : Program} {w : World} {A : Around} {E : Value → Shared → Prop} {s : Shared}
theorem hint_rev {it : Addr} {Q : Bool → Shared → Prop} (hT : s.TypeIs (.ref it) "list_reverseiterator") (h : ∀ b tk, Q b { s with toks := tk }) : wpAny (model prog w) A (Builtin.List.listLengthHint (.ref it)) Q E s := by
  unfold Builtin.List.listLengthHint
  refine wpAny_bind (wpAny_specialOf hT lri_no_len ?_)
  show wpAny _ _ (specialOf (Value.ref it) (Str.ofString "__length_hint__") >>= _) _ _ _
  refine wpAny_bind (wpAny_specialOf hT lri_hint ?_)
  generalize hid : ("list_reverseiterator.__length_hint__" : String) = id0
  wp_delta
  rw [show splitId id0 = some ("list_reverseiterator", "__length_hint__") from by subst hid; decide +kernel]
  subst hid
  refine wpAny_bind (wpAny_isInstance (T := "list_reverseiterator") (b := true) hT (by rw [isSubtype_type]; kernel_rfl) ?_)
  refine wpAny_ite_split (fun hab => absurd hab (by decide)) (fun _ => ?_)
  refine wpAny_ite_split (fun _ => ?_) (fun hab => absurd (by decide +kernel) hab)
  refine wpAny_ite_split (fun hab => absurd hab (by decide +kernel)) (fun _ => ?_)
  exact wpAny_pure (h false s.toks)
theorem hint_zip {it : Addr} {Q : Bool → Shared → Prop} (hT : s.TypeIs (.ref it) "zip") (h : ∀ b tk, Q b { s with toks := tk }) : wpAny (model prog w) A (Builtin.List.listLengthHint (.ref it)) Q E s := by
  unfold Builtin.List.listLengthHint
  refine wpAny_bind (wpAny_specialOf hT zip_no_len ?_)
  show wpAny _ _ (specialOf (Value.ref it) (Str.ofString "__length_hint__") >>= _) _ _ _
  refine wpAny_bind (wpAny_specialOf hT zip_no_hint ?_)
  exact wpAny_pure (h true s.toks)
end
/-! ### reversed(list) -/
def Itv (K : PySem.W.Frag) (a : Addr) (n : Nat) : It :=
  ⟨fun i H => i < n ∧ ∃ xs, SqL K H a xs ∧ xs.length = n, fun i H x H' => H' = H ∧ ∀ xs, SqL K H a xs → xs[n - 1 - i]? = some x, fun i _ => n ≤ i⟩
theorem turn_rev {P : Program} {w : World} {K : PySem.W.Frag} {tg : Expr} (a it : Addr) (n : Nat) : Turn P w K tg (Itv K a n) [it] it (fun i h => i ≤ n ∧ h.IsRevIter it a ((n : Int) - 1 - (i : Nat))) where
  mem := by simp
  obj := fun i h st b hb => by
    have e : b = it := by simpa using hb
    subst e
    obtain ⟨_, o, e, c, d⟩ := st
    exact ⟨o, e, fun v z => by rw [d] at z; cases z⟩
  keep := fun i h h' st k => ⟨st.1, st.2.at fun o e => k it (by simp) o e⟩
  item := by
    intro X hP hw hK hc i pins s σ H E I hf st hg
    subst hP hw hK
    obtain ⟨hin, xs, hq, hxl⟩ := hg
    obtain ⟨its, rv, p, hz⟩ := I.list hq
    have hx : xs[n - 1 - i]? = some (xs[n - 1 - i]'(by omega)) := List.getElem?_eq_getElem (by omega)
    obtain ⟨u, hu, ru⟩ := rv.get hx
    obtain ⟨f0, f1, f2, f3, f4, f5⟩ := hf it (by simp)
    have e : (n : Int) - 1 - (i : Int) = ((n - 1 - i : Nat) : Int) := by omega
    have hit := st.2
    rw [e] at hit
    refine wpAny_pyNext_rev_item hit p.isList (x := u) (by simpa using hu) fun h' hit' sb => ?_
    have e2 : ((n - 1 - i : Nat) : Int) - 1 = (n : Int) - 1 - ((i + 1 : Nat) : Int) := by omega
    rw [e2] at hit'
    have I1 : Inv X pins σ H { s with heap := h' } := I.turned (t' := s.toks) (fun b o hb e => (sb.2 b hb).trans e) f0 f1 f3 f4 f5
    obtain ⟨o, eo, c, d⟩ := id hit'
    refine ⟨u, rfl, go_of (s := { s with heap := h' }) eo c d (by decide) ⟨_, H, I1, ru, ⟨rfl, fun ys hy => ?_⟩, ⟨by omega, hit'⟩, fun b hb => (hf b hb).1⟩⟩
    rw [I.list_inj hy hq]; exact hx
  done := by
    intro X hP hw hK hc i pins s σ H E I hf st hg
    subst hP hw hK
    have hni : n ≤ i := hg
    obtain ⟨f0, f1, f2, f3, f4, f5⟩ := hf it (by simp)
    have e : (n : Int) - 1 - (i : Int) = -1 := by have := st.1; omega
    have hit := st.2
    rw [e] at hit
    exact wpAny_pyNext_rev_end (I.ok.hd hc) hit fun h' eb => ⟨rfl, I.turned (t' := s.toks) (fun b o hb e => eb b o hb e) f0 f1 f3 f4 f5⟩
  self := fun _ _ _ _ _ st h => wpAny_pyIter_revIter st.2 h
section
variable {X : Cx} {tg : Expr}
def iRevL (K : PySem.W.Frag) (ta : TA) : TI := fun σ H R => ta σ H fun vs H1 => ∃ (a : Addr) (xs : List V), vs = [.ref a] ∧ SqL K H1 a xs ∧ R (Itv K a xs.length) H1
theorem piv_rev {a : Expr} {ta : TA} {p pos : Pos} (hg : Gl X "reversed") (hm : X.mg "reversed" = none) (ha : PA X [a] ta) (hs : starEach [a] X.env = [(false, eval a X.env)] := by rfl) :
    PIV X tg (.Call (.Name "reversed" p) [a] [] pos) (iRevL X.K ta) := by
  intro pins s σ H R I h
  refine Call_ (ld_blt I hg hm boot_reversed' (PyProof.Rows.callWith_type1 (thn (ha pos pins s σ H _ I h) fun us s1 ⟨vs, H1, I1, r1, q1⟩ => ?_) hs rfl))
  obtain ⟨l, xs, e, hq, q⟩ := q1
  subst e
  obtain ⟨u, rfl, rx⟩ := vals1 r1
  cases rx
  obtain ⟨its, rv, pl, hz⟩ := I1.list hq
  have hl := rv.length
  refine call_reversed_list pl.isList ?_
  have I2 : Inv X pins σ H1 { s1 with heap := s1.heap.push (revObj l ((its.toArray.size : Int) - 1)) } := I1.kept (t' := s1.toks) fun b o e => Heap.get?_push_of_some _ e
  refine ⟨s1.heap.objs.size, [s1.heap.objs.size], _, _, H1, rfl, I2, turn_rev l _ xs.length, ⟨Nat.zero_le _, _, Heap.get?_push_size _ rfl, rfl, ?_⟩, fun b hb => ?_, ⟨fun s' st => ⟨_, st.2.typeIs, by decide, by decide⟩, fun A s' Q E st h => hint_rev st.2.typeIs h⟩, q⟩
  · have e : ((its.toArray.size : Int) - 1) = (xs.length : Int) - 1 - ((0 : Nat) : Int) := by rw [List.size_toArray, ← hl]; omega
    rw [e]; rfl
  · have e : b = s1.heap.objs.size := by simpa using hb
    subst e
    exact I1.fpOk (Nat.le_refl _) (I1.hok.fresh (Nat.le_refl _))
end
end L2

namespace L2
open PySem PySem.Spec PyProof.Rows
abbrev IsZipG (h : Heap) (z TI TO : Addr) (f0 f1 : Value) : Prop := h.get? z = some { cls := .type "zip", dict := none, data := .fields #[f0, f1, .bool false, .ref TI, .ref TO], slots := #[] }
def Own0 (f0 : Value) : Prop := f0 = .none ∨ ∃ T : Nat, f0 = rawInt T
section
variable {prog : Program} {w : World} {A : Around} {E : Value → Shared → Prop} {s : Shared}
theorem alive_any {a : Addr} {Q : Option Obj → Shared → Prop} (h : Q (s.heap.get? a) s) : wpAny (model prog w) A (loadIfAlive a) Q E s := fun _ _ _ => h
theorem zip_next_itemG {z TI TO i1 i2 l1 l2 : Addr} {k1 k2 : Nat} {xs ys : Array Value} {x y a b f0 f1 : Value} {Q : Value → Shared → Prop} (D : ZipApart z TI TO i1 i2 l1 l2)
    (hz : IsZipG s.heap z TI TO f0 f1) (h0 : Own0 f0) (hTI : IsPair s.heap TI (.ref i1) (.ref i2)) (hTO : IsPair s.heap TO a b)
    (h1 : s.heap.IsListIter i1 l1 k1) (h2 : s.heap.IsListIter i2 l2 k2) (hl1 : s.heap.IsList l1 xs) (hl2 : s.heap.IsList l2 ys) (hx : xs[k1]? = some x) (hy : ys[k2]? = some y)
    (hQ : ∀ h' f0' f1', IsZipG h' z TI TO f0' f1' → Own0 f0' → (∃ a b, IsPair h' TO a b) → h'.IsListIter i1 l1 (k1 + 1) → h'.IsListIter i2 l2 (k2 + 1) → IsPair h' s.heap.objs.size x y →
      (∀ c o, c ≠ z → c ≠ TO → c ≠ i1 → c ≠ i2 → s.heap.get? c = some o → h'.get? c = some o) → Q (.ref s.heap.objs.size) { s with heap := h' }) :
    wpAny (model prog w) A (Builtin.«zip.__next__» ⟨[.ref z], []⟩) (fun fin s' => ∃ v, fin = .done (.ret v) ∧ Q v s') E s := by
  show wpAny _ _ (field (.ref z) 2 >>= _) _ _ _
  refine wpAny_bind (wpAny_field hz rfl (x := .bool false) rfl ?_)
  show wpAny _ _ (field (.ref z) 3 >>= _) _ _ _
  refine wpAny_bind (wpAny_field hz rfl (x := .ref TI) rfl ?_)
  refine wpAny_bind (wpAny_seqItems hTI rfl ?_)
  show wpAny _ _ (Builtin.SmallTypes.ownedTupleIsFree (.ref z) >>= _) _ _ _
  refine wpAny_bind ?_
  refine wpAny_mono (Q := fun _ s' => ∃ h' f1', s' = { s with heap := h' } ∧ IsZipG h' z TI TO f0 f1' ∧ Heap.SameBut z s.heap h') ?own (fun bo s' hb => ?cont) (fun _ _ e => e)
  case own =>
    unfold Builtin.SmallTypes.ownedTupleIsFree
    refine wpAny_bind (wpAny_field hz rfl (x := f0) rfl ?_)
    rcases h0 with rfl | ⟨T, rfl⟩
    · exact wpAny_pure ⟨s.heap, f1, rfl, hz, Heap.SameBut.refl _ _⟩
    · show wpAny _ _ (loadIfAlive ((T : Int).toNat) >>= _) _ _ _
      refine wpAny_bind (alive_any ?_)
      cases hT : s.heap.get? (T : Int).toNat with
      | none => exact wpAny_pure ⟨s.heap, f1, rfl, hz, Heap.SameBut.refl _ _⟩
      | some o =>
        simp only [Option.isNone_some, Bool.false_eq_true, if_false]
        refine wpAny_bind (wpAny_field hz rfl (x := f1) rfl ?_)
        refine wpAny_ite_split (fun _ => ?_) (fun _ => ?_)
        · refine wpAny_bind (wpAny_setField_rec hz (by simp) fun h₁ hz₁ hs₁ => wpAny_pure ⟨h₁, .bool true, rfl, hz₁, hs₁⟩)
        · exact wpAny_pure ⟨s.heap, f1, rfl, hz, Heap.SameBut.refl _ _⟩
  case cont =>
    obtain ⟨h', f1', rfl, hz', hs0⟩ := hb
    have hTI' : IsPair h' TI (.ref i1) (.ref i2) := hs0.extBut _ _ D.TIz hTI
    have hTO' : IsPair h' TO a b := hs0.extBut _ _ D.TOz hTO
    have h1' : h'.IsListIter i1 l1 k1 := h1.extBut hs0.extBut D.i1z
    have h2' : h'.IsListIter i2 l2 k2 := h2.extBut hs0.extBut D.i2z
    have hl1' : h'.IsList l1 xs := hl1.extBut hs0.extBut D.l1z
    have hl2' : h'.IsList l2 ys := hl2.extBut hs0.extBut D.l2z
    cases bo with
    | false =>
      simp only [Bool.false_eq_true, if_false, List.forIn_toArray, List.forIn_cons, List.forIn_nil]
      refine wpAny_bind (wpAny_bind (wpAny_bind (wpAny_holding ?_)))
      show wpAny _ _ (Builtin.SmallTypes.nextOf (.ref i1) >>= _) _ _ _
      refine wpAny_bind (wpAny_nextOf_list_item (s := { s with heap := h' }) h1' hl1' hx fun h₂ h1₂ hs₂ => wpAny_pure ?_)
      replace hs₂ : Heap.SameBut i1 h' h₂ := hs₂
      refine wpAny_pure ?_
      refine wpAny_bind (wpAny_bind (wpAny_holding ?_))
      show wpAny _ _ (Builtin.SmallTypes.nextOf (.ref i2) >>= _) _ _ _
      refine wpAny_bind (wpAny_nextOf_list_item (s := { s with heap := h₂ }) (h2'.extBut hs₂.extBut D.i12.symm) (hl2'.extBut hs₂.extBut D.l2i1) hy fun h₄ h2₄ hs₄ => wpAny_pure ?_)
      replace hs₄ : Heap.SameBut i2 h₂ h₄ := hs₄
      refine wpAny_pure ?_
      refine wpAny_pure ?_
      refine wpAny_bind (wpAny_newTuple (s := { s with heap := h₄ }) (hsz := by show 2 ≤ sizeLine; decide) (wpAny_pure ⟨_, rfl, ?_⟩))
      have hsz : h₄.objs.size = s.heap.objs.size := by rw [hs₄.1, hs₂.1, hs0.1]
      show Q (.ref h₄.objs.size) _
      rw [hsz]
      have up : ∀ c o, c ≠ i1 → c ≠ i2 → h'.get? c = some o → (h₄.push { cls := .type "tuple", data := .seq #[x, y] }).get? c = some o := fun c o c1 c2 e => Heap.get?_push_of_some _ (hs₄.extBut _ _ c2 (hs₂.extBut _ _ c1 e))
      refine hQ _ f0 f1' (up _ _ D.i1z.symm D.i2z.symm hz') h0 ⟨a, b, up _ _ D.TOi1 D.TOi2 hTO'⟩ ?_ ?_ ?_ ?_
      · exact (h1₂.extBut hs₄.extBut D.i12).at fun o e => Heap.get?_push_of_some _ e
      · exact h2₄.at fun o e => Heap.get?_push_of_some _ e
      · have hp : IsPair (h₄.push { cls := .type "tuple", data := .seq #[x, y] }) h₄.objs.size x y := Heap.get?_push_size _ rfl
        rw [hsz] at hp; exact hp
      · exact fun c o c1 c2 c3 c4 e => up c o c3 c4 (hs0.extBut _ _ c1 e)
    | true =>
      simp only [if_true]
      refine wpAny_bind (wpAny_rule ?_)
      refine wpAny_bind (wpAny_field (s := { s with heap := h' }) hz' rfl (x := .ref TO) rfl ?_)
      refine wpAny_bind (wpAny_setField_rec (s := { s with heap := h' }) hz' (by simp) fun h₁ hz₁ hs₁ => ?_)
      replace hz₁ : IsZipG h₁ z TI TO .ellipsis f1' := hz₁
      replace hs₁ : Heap.SameBut z h' h₁ := hs₁
      refine wpAny_bind ?_
      simp only [List.zipIdx_cons, List.zipIdx_nil, List.forIn_cons, List.forIn_nil]
      refine wpAny_bind (wpAny_bind (wpAny_onRaise ?_))
      show wpAny _ _ (Builtin.SmallTypes.nextOf (.ref i1) >>= _) _ _ _
      refine wpAny_bind (wpAny_nextOf_list_item (s := { s with heap := h₁ }) (h1'.extBut hs₁.extBut D.i1z) (hl1'.extBut hs₁.extBut D.l1z) hx fun h₂ h1₂ hs₂ => wpAny_pure ?_)
      replace hs₂ : Heap.SameBut i1 h₁ h₂ := hs₂
      have hTO₂ : IsPair h₂ TO a b := hs₂.extBut _ _ D.TOi1 (hs₁.extBut _ _ D.TOz hTO')
      refine wpAny_bind (wpAny_seqItems (s := { s with heap := h₂ }) hTO₂ rfl ?_)
      refine wpAny_bind (wpAny_updateSeq_pair (s := { s with heap := h₂ }) hTO₂ fun h₃ hTO₃ hs₃ => ?_)
      replace hTO₃ : IsPair h₃ TO x b := hTO₃
      replace hs₃ : Heap.SameBut TO h₂ h₃ := hs₃
      refine wpAny_bind (wpAny_letGo (wpAny_pure ?_))
      refine wpAny_bind (wpAny_bind (wpAny_onRaise ?_))
      show wpAny _ _ (Builtin.SmallTypes.nextOf (.ref i2) >>= _) _ _ _
      refine wpAny_bind (wpAny_nextOf_list_item (s := { s with heap := h₃ }) (((h2'.extBut hs₁.extBut D.i2z).extBut hs₂.extBut D.i12.symm).extBut hs₃.extBut D.TOi2.symm)
        (((hl2'.extBut hs₁.extBut D.l2z).extBut hs₂.extBut D.l2i1).extBut hs₃.extBut D.l2TO) hy fun h₄ h2₄ hs₄ => wpAny_pure ?_)
      replace hs₄ : Heap.SameBut i2 h₃ h₄ := hs₄
      have hTO₄ : IsPair h₄ TO x b := hs₄.extBut _ _ D.TOi2 hTO₃
      refine wpAny_bind (wpAny_seqItems (s := { s with heap := h₄ }) hTO₄ rfl ?_)
      refine wpAny_bind (wpAny_updateSeq_pair (s := { s with heap := h₄ }) hTO₄ fun h₅ hTO₅ hs₅ => ?_)
      replace hTO₅ : IsPair h₅ TO x y := hTO₅
      replace hs₅ : Heap.SameBut TO h₄ h₅ := hs₅
      refine wpAny_bind (wpAny_letGo (wpAny_pure (wpAny_pure ?_)))
      refine wpAny_bind (wpAny_seqItems (s := { s with heap := h₅ }) hTO₅ rfl ?_)
      refine wpAny_bind (wpAny_newTuple (s := { s with heap := h₅ }) ?_)
      have hsz : h₅.objs.size = s.heap.objs.size := by rw [hs₅.1, hs₄.1, hs₃.1, hs₂.1, hs₁.1, hs0.1]
      have hz₅ : IsZipG h₅ z TI TO .ellipsis f1' := hs₅.extBut _ _ D.TOz.symm (hs₄.extBut _ _ D.i2z.symm (hs₃.extBut _ _ D.TOz.symm (hs₂.extBut _ _ D.i1z.symm hz₁)))
      have hk₅ : ∀ c o, c ≠ z → c ≠ TO → c ≠ i1 → c ≠ i2 → s.heap.get? c = some o → h₅.get? c = some o := fun c o c1 c2 c3 c4 e =>
        hs₅.extBut _ _ c2 (hs₄.extBut _ _ c4 (hs₃.extBut _ _ c2 (hs₂.extBut _ _ c3 (hs₁.extBut _ _ c1 (hs0.extBut _ _ c1 e)))))
      have h1₅ : h₅.IsListIter i1 l1 (k1 + 1) := ((h1₂.extBut hs₃.extBut D.TOi1.symm).extBut hs₄.extBut D.i12).extBut hs₅.extBut D.TOi1.symm
      have h2₅ : h₅.IsListIter i2 l2 (k2 + 1) := h2₄.extBut hs₅.extBut D.TOi2.symm
      have hzlt : z < h₅.objs.size := Heap.lt_size hz₅
      show wpAny _ _ (Builtin.SmallTypes.ownedTupleHandOut (.ref z) (.ref h₅.objs.size) >>= _) _ _ _
      refine wpAny_bind ?_
      unfold Builtin.SmallTypes.ownedTupleHandOut
      have hz₆ : IsZipG (h₅.push { cls := .type "tuple", data := .seq #[x, y] }) z TI TO .ellipsis f1' := Heap.get?_push_of_some _ hz₅
      refine wpAny_bind (wpAny_setField_rec (s := { s with heap := h₅.push { cls := .type "tuple", data := .seq #[x, y] } }) hz₆ (by simp) fun h₇ hz₇ hs₇ => ?_)
      replace hz₇ : IsZipG h₇ z TI TO (rawInt h₅.objs.size) f1' := hz₇
      replace hs₇ : Heap.SameBut z (h₅.push { cls := .type "tuple", data := .seq #[x, y] }) h₇ := hs₇
      refine wpAny_setField_rec (s := { s with heap := h₇ }) hz₇ (by simp) fun h₈ hz₈ hs₈ => ?_
      replace hz₈ : IsZipG h₈ z TI TO (rawInt h₅.objs.size) (.bool false) := hz₈
      replace hs₈ : Heap.SameBut z h₇ h₈ := hs₈
      have up : ∀ c o, c ≠ z → h₅.get? c = some o → h₈.get? c = some o := fun c o c1 e => hs₈.extBut _ _ c1 (hs₇.extBut _ _ c1 (Heap.get?_push_of_some _ e))
      have hT₈ : IsPair h₈ h₅.objs.size x y := hs₈.extBut _ _ (Nat.ne_of_gt hzlt) (hs₇.extBut _ _ (Nat.ne_of_gt hzlt) (Heap.get?_push_size _ rfl))
      rw [hsz] at hT₈
      refine wpAny_pure ⟨_, rfl, ?_⟩
      show Q (.ref h₅.objs.size) _
      rw [hsz]
      exact hQ h₈ _ _ hz₈ (.inr ⟨_, rfl⟩) ⟨_, _, up _ _ D.TOz hTO₅⟩ (h1₅.at fun o e => up _ o D.i1z e) (h2₅.at fun o e => up _ o D.i2z e) hT₈ fun c o c1 c2 c3 c4 e => up c o c1 (hk₅ c o c1 c2 c3 c4 e)
theorem zip_next_endG {z TI TO i1 i2 l1 : Addr} {k1 : Nat} {xs : Array Value} {f0 f1 : Value} {Q : Option Value → Shared → Prop} (hh : A.handled = none) (TIz : TI ≠ z) (i1z : i1 ≠ z) (l1z : l1 ≠ z)
    (hz : IsZipG s.heap z TI TO f0 f1) (h0 : Own0 f0) (hTI : IsPair s.heap TI (.ref i1) (.ref i2)) (h1 : s.heap.IsListIter i1 l1 k1) (hl1 : s.heap.IsList l1 xs) (hend : xs[k1]? = none)
    (hQ : ∀ h', (∀ c o, c ≠ z → c ≠ i1 → s.heap.get? c = some o → h'.get? c = some o) → Q none { s with heap := h' }) : wpAny (model prog w) A (pyNext (.ref z)) Q E s := by
  have hT : s.TypeIs (.ref z) "zip" := ⟨_, hz, rfl⟩
  unfold pyNext
  refine wpAny_bind (wpAny_attempt (wpAny_callSpecial?_slot (name := Str.ofString "__next__") hT F.slot_zip_next
    (wpAny_call_entry F.slot_zip_next hT F.entry_zip_next ?_ (F.args_zip_next_1 _))))
  show wpAny _ _ (field (.ref z) 2 >>= _) _ _ _
  refine wpAny_bind (wpAny_field hz rfl (x := .bool false) rfl ?_)
  show wpAny _ _ (field (.ref z) 3 >>= _) _ _ _
  refine wpAny_bind (wpAny_field hz rfl (x := .ref TI) rfl ?_)
  refine wpAny_bind (wpAny_seqItems hTI rfl ?_)
  show wpAny _ _ (Builtin.SmallTypes.ownedTupleIsFree (.ref z) >>= _) _ _ _
  refine wpAny_bind ?_
  refine wpAny_mono (Q := fun _ s' => ∃ h' f1', s' = { s with heap := h' } ∧ IsZipG h' z TI TO f0 f1' ∧ Heap.SameBut z s.heap h') ?own (fun bo s' hb => ?cont) (fun _ _ e => e)
  case own =>
    unfold Builtin.SmallTypes.ownedTupleIsFree
    refine wpAny_bind (wpAny_field hz rfl (x := f0) rfl ?_)
    rcases h0 with rfl | ⟨T, rfl⟩
    · exact wpAny_pure ⟨s.heap, f1, rfl, hz, Heap.SameBut.refl _ _⟩
    · show wpAny _ _ (loadIfAlive ((T : Int).toNat) >>= _) _ _ _
      refine wpAny_bind (alive_any ?_)
      cases hT : s.heap.get? (T : Int).toNat with
      | none => exact wpAny_pure ⟨s.heap, f1, rfl, hz, Heap.SameBut.refl _ _⟩
      | some o =>
        simp only [Option.isNone_some, Bool.false_eq_true, if_false]
        refine wpAny_bind (wpAny_field hz rfl (x := f1) rfl ?_)
        refine wpAny_ite_split (fun _ => ?_) (fun _ => ?_)
        · refine wpAny_bind (wpAny_setField_rec hz (by simp) fun h₁ hz₁ hs₁ => wpAny_pure ⟨h₁, .bool true, rfl, hz₁, hs₁⟩)
        · exact wpAny_pure ⟨s.heap, f1, rfl, hz, Heap.SameBut.refl _ _⟩
  case cont =>
    obtain ⟨h', f1', rfl, hz', hs0⟩ := hb
    have h1' : h'.IsListIter i1 l1 k1 := h1.extBut hs0.extBut i1z
    have hl1' : h'.IsList l1 xs := hl1.extBut hs0.extBut l1z
    cases bo with
    | false =>
      simp only [Bool.false_eq_true, if_false, List.forIn_toArray, List.forIn_cons, List.forIn_nil]
      refine wpAny_bind (wpAny_bind (wpAny_bind (wpAny_holding ?_)))
      show wpAny _ _ (Builtin.SmallTypes.nextOf (.ref i1) >>= _) _ _ _
      refine wpAny_bind (wpAny_nextOf_list_end (s := { s with heap := h' }) hh h1' hl1' hend fun h₂ e hs₂ he => ?_)
      obtain ⟨oe, hoe, hce⟩ := he
      refine wpAny_bind (wpAny_isInstance (T := "StopIteration") (b := true) ⟨oe, hoe, hce⟩ isSubtype_stop ?_)
      exact wpAny_pure (hQ _ fun c o c1 c2 x => hs₂ _ _ c2 (hs0.extBut _ _ c1 x))
    | true =>
      simp only [if_true]
      refine wpAny_bind (wpAny_rule ?_)
      refine wpAny_bind (wpAny_field (s := { s with heap := h' }) hz' rfl (x := .ref TO) rfl ?_)
      refine wpAny_bind (wpAny_setField_rec (s := { s with heap := h' }) hz' (by simp) fun h₁ hz₁ hs₁ => ?_)
      replace hz₁ : IsZipG h₁ z TI TO .ellipsis f1' := hz₁
      replace hs₁ : Heap.SameBut z h' h₁ := hs₁
      refine wpAny_bind ?_
      simp only [List.zipIdx_cons, List.zipIdx_nil, List.forIn_cons, List.forIn_nil]
      refine wpAny_bind (wpAny_bind (wpAny_onRaise ?_))
      show wpAny _ _ (Builtin.SmallTypes.nextOf (.ref i1) >>= _) _ _ _
      refine wpAny_bind (wpAny_nextOf_list_end (s := { s with heap := h₁ }) hh (h1'.extBut hs₁.extBut i1z) (hl1'.extBut hs₁.extBut l1z) hend fun h₂ e hs₂ he => ?_)
      obtain ⟨oe, hoe, hce⟩ := he
      have hz₂ : IsZipG h₂ z TI TO .ellipsis f1' := hs₂ _ _ i1z.symm hz₁
      have hez : e ≠ z := fun x => by subst x; rw [hz₂] at hoe; cases hoe; simp at hce
      refine wpAny_setField_rec (s := { s with heap := h₂ }) hz₂ (by simp) fun h₃ _ hs₃ => ?_
      refine wpAny_bind (wpAny_isInstance (T := "StopIteration") (b := true) ⟨oe, hs₃.extBut _ _ hez hoe, hce⟩ isSubtype_stop ?_)
      exact wpAny_pure (hQ _ fun c o c1 c2 x => hs₃.extBut _ _ c1 (hs₂ _ _ c2 (hs₁.extBut _ _ c1 (hs0.extBut _ _ c1 x))))
theorem letgo_zipG {tg : Expr} {z TI TO a : Addr} {f0 f1 : Value} {Q : Unit → Shared → Prop} (hz : IsZipG s.heap z TI TO f0 f1) (h0 : Own0 f0)
    (hQ : ∀ h' f0', IsZipG h' z TI TO f0' f1 → Own0 f0' → Heap.SameBut z s.heap h' → Q () { s with heap := h' }) : wpAny (model prog w) A (letOwnedTupleGo tg (.ref z) (.ref a)) Q E s := by
  have main : wpAny (model prog w) A (do
      let o ← load z
      match o.cls, o.data with
      | .type n, .fields vs =>
        if ["enumerate", "zip", "dict_itemiterator", "dict_reverseitemiterator", "odict_iterator", "itertools.zip_longest", "itertools.pairwise"].contains n && vs[0]? == some (rawInt a) then
          rule "for.unpacks-the-owned-tuple"
          updateField z 0 .none
      | _, _ => pure ()) Q E s := by
    refine wpAny_bind (wpAny_load hz ?_)
    show wpAny _ _ (if (["enumerate", "zip", "dict_itemiterator", "dict_reverseitemiterator", "odict_iterator", "itertools.zip_longest", "itertools.pairwise"].contains "zip" &&
      (#[f0, f1, .bool false, .ref TI, .ref TO] : Array Value)[0]? == some (rawInt a)) = true then _ else _) Q E s
    refine wpAny_ite_split (fun _ => ?_) (fun _ => wpAny_pure (hQ s.heap f0 hz h0 (Heap.SameBut.refl _ _)))
    refine wpAny_bind (wpAny_rule ?_)
    show wpAny _ _ (setField (.ref z) 0 .none) Q E s
    exact wpAny_setField_rec hz (by simp) fun h' hz' hs' => hQ h' .none hz' (.inl rfl) hs'
  have triv : Q () s := hQ s.heap f0 hz h0 (Heap.SameBut.refl _ _)
  cases tg <;> first
    | exact main
    | exact wpAny_pure triv
end
end L2

namespace L2
open PySem PySem.Spec PyProof.Rows
theorem ne_cls {h : Heap} {a b : Addr} {o o' : Obj} (ha : h.get? a = some o) (hb : h.get? b = some o') (hc : o.cls ≠ o'.cls) : a ≠ b := fun z => by rw [z, hb] at ha; cases ha; exact hc rfl
theorem ne_cls' {h : Heap} {a b : Addr} {o o' : Obj} {n m : String} (ha : h.get? a = some o) (hb : h.get? b = some o') (hc : o.cls = .type n) (hc' : o'.cls = .type m) (hd : n ≠ m) : a ≠ b := ne_cls ha hb fun q => hd (Value.type.inj (hc.symm.trans (q.trans hc')))
structure Zap (z TI TO i1 i2 : Addr) : Prop where
  TIz : TI ≠ z
  TOz : TO ≠ z
  i1z : i1 ≠ z
  i2z : i2 ≠ z
  TITO : TI ≠ TO
  TIi1 : TI ≠ i1
  TIi2 : TI ≠ i2
  TOi1 : TO ≠ i1
  TOi2 : TO ≠ i2
  i12 : i1 ≠ i2
theorem zap_of (n : Nat) : Zap (n + 4) (n + 2) (n + 3) n (n + 1) := by
  have g : ∀ a b : Nat, a ≠ b → @Ne Addr (n + a) (n + b) := fun a b h e => h (Nat.add_left_cancel (show n + a = n + b from e))
  exact ⟨g 2 4 (by decide), g 3 4 (by decide), g 0 4 (by decide), g 1 4 (by decide), g 2 3 (by decide), g 2 0 (by decide), g 2 1 (by decide), g 3 0 (by decide), g 3 1 (by decide), g 0 1 (by decide)⟩
/-- zip(xs, ys), xs no longer than ys -/
def Itz (K : PySem.W.Frag) (a b : Addr) : It :=
  ⟨fun i H => ∃ xs ys x y, SqL K H a xs ∧ SqL K H b ys ∧ xs[i]? = some x ∧ ys[i]? = some y,
   fun i H v H' => ∃ p x y, H p = none ∧ v = .ref p ∧ H' = upd H p (.tup [x, y]) ∧ (∀ xs, SqL K H a xs → xs[i]? = some x) ∧ ∀ ys, SqL K H b ys → ys[i]? = some y,
   fun i H => ∃ xs, SqL K H a xs ∧ xs.length ≤ i⟩
theorem turn_zip {P : Program} {w : World} {K : PySem.W.Frag} {tg : Expr} (l1 l2 z TI TO i1 i2 : Addr) (Z : Zap z TI TO i1 i2) :
    Turn P w K tg (Itz K l1 l2) [z, TI, TO, i1, i2] z (fun i h => (∃ f0 f1, IsZipG h z TI TO f0 f1 ∧ Own0 f0) ∧ IsPair h TI (.ref i1) (.ref i2) ∧ (∃ a b, IsPair h TO a b) ∧ h.IsListIter i1 l1 i ∧ h.IsListIter i2 l2 i) where
  mem := by simp
  obj := fun i h st b hb => by
    obtain ⟨⟨f0, f1, hz, _⟩, hTI, ⟨a, b', hTO⟩, ⟨o1, e1, c1, d1⟩, ⟨o2, e2, c2, d2⟩⟩ := st
    have hb' : b = z ∨ b = TI ∨ b = TO ∨ b = i1 ∨ b = i2 := by simpa using hb
    rcases hb' with rfl | rfl | rfl | rfl | rfl
    · exact ⟨_, hz, fun v q => by have q' : Data.fields _ = Data.cell v := q; cases q'⟩
    · exact ⟨_, hTI, fun v q => by have q' : Data.seq _ _ = Data.cell v := q; cases q'⟩
    · exact ⟨_, hTO, fun v q => by have q' : Data.seq _ _ = Data.cell v := q; cases q'⟩
    · exact ⟨o1, e1, fun v q => by rw [d1] at q; cases q⟩
    · exact ⟨o2, e2, fun v q => by rw [d2] at q; cases q⟩
  keep := fun i h h' st k => by
    obtain ⟨⟨f0, f1, hz, h0⟩, hTI, ⟨a, b, hTO⟩, h1, h2⟩ := st
    exact ⟨⟨f0, f1, k z (by simp) _ hz, h0⟩, k TI (by simp) _ hTI, ⟨a, b, k TO (by simp) _ hTO⟩, h1.at fun o e => k i1 (by simp) o e, h2.at fun o e => k i2 (by simp) o e⟩
  item := by
    intro X hP hw hK hc i pins s σ H E I hf st hg
    subst hP hw hK
    obtain ⟨⟨f0, f1, hz, h0⟩, hTI, ⟨a, b, hTO⟩, h1, h2⟩ := st
    obtain ⟨xs, ys, x, y, hq1, hq2, hx, hy⟩ := hg
    obtain ⟨its1, rv1, pl1, hz1⟩ := I.list hq1
    obtain ⟨its2, rv2, pl2, hz2⟩ := I.list hq2
    obtain ⟨u1, hu1, ru1⟩ := rv1.get hx
    obtain ⟨u2, hu2, ru2⟩ := rv2.get hy
    have hl1 := pl1.isList
    have hl2 := pl2.isList
    obtain ⟨o1, e1, c1, _⟩ := id hl1
    obtain ⟨o2, e2, c2, _⟩ := id hl2
    obtain ⟨oi1, ei1, ci1, _⟩ := id h1
    obtain ⟨oi2, ei2, ci2, _⟩ := id h2
    have D : ZipApart z TI TO i1 i2 l1 l2 := ⟨Z.TIz, Z.TOz, Z.i1z, Z.i2z, Z.TITO, Z.TIi1, Z.TIi2, Z.TOi1, Z.TOi2, Z.i12,
      ne_cls' e1 hz c1 rfl (by decide), ne_cls' e1 hTO c1 rfl (by decide), ne_cls' e1 ei1 c1 ci1 (by decide), ne_cls' e1 ei2 c1 ci2 (by decide),
      ne_cls' e2 hz c2 rfl (by decide), ne_cls' e2 hTO c2 rfl (by decide), ne_cls' e2 ei1 c2 ci1 (by decide), ne_cls' e2 ei2 c2 ci2 (by decide)⟩
    have hT : s.TypeIs (.ref z) "zip" := ⟨_, hz, rfl⟩
    unfold pyNext
    refine wpAny_bind (wpAny_attempt (wpAny_callSpecial?_slot (name := Str.ofString "__next__") hT F.slot_zip_next
      (wpAny_call_entry F.slot_zip_next hT F.entry_zip_next (zip_next_itemG D hz h0 hTI hTO h1 h2 hl1 hl2 (x := u1) (y := u2) (by simpa using hu1) (by simpa using hu2) fun h' f0' f1' hz' h0' hTO' h1' h2' hT' hk => wpAny_pure ?_) (F.args_zip_next_1 _))))
    refine ⟨_, rfl, ?_⟩
    refine letgo_zipG (s := { s with heap := h' }) hz' h0' fun h3 f3 hz3 h03 hs3 => ?_
    replace hs3 : Heap.SameBut z h' h3 := hs3
    have hzlt : z < s.heap.objs.size := Heap.lt_size hz
    have hk3 : ∀ b o, b ∉ [z, TI, TO, i1, i2] → s.heap.get? b = some o → h3.get? b = some o := fun b o hb q => by
      have hb' : b ≠ z ∧ b ≠ TI ∧ b ≠ TO ∧ b ≠ i1 ∧ b ≠ i2 := by simpa using hb
      exact hs3.extBut b o hb'.1 (hk b o hb'.1 hb'.2.2.1 hb'.2.2.2.1 hb'.2.2.2.2 q)
    have hTI3 : IsPair h3 TI (.ref i1) (.ref i2) := hs3.extBut _ _ Z.TIz (hk _ _ Z.TIz Z.TITO Z.TIi1 Z.TIi2 hTI)
    obtain ⟨a3, b3, hTO3⟩ := hTO'
    have ht3 : IsTup h3 s.heap.objs.size [u1, u2].toArray := ⟨_, hs3.extBut _ _ (Nat.ne_of_gt hzlt) hT', rfl, _, rfl⟩
    have I3 : Inv X pins σ (upd H s.heap.objs.size (.tup [x, y])) { s with heap := h3 } :=
      I.turnT (t' := s.toks) hf hk3 (fun b o hb q => by
        have hb' : b = z ∨ b = TI ∨ b = TO ∨ b = i1 ∨ b = i2 := by simpa using hb
        rcases hb' with rfl | rfl | rfl | rfl | rfl
        · exact ⟨_, hz3⟩
        · exact ⟨_, hTI3⟩
        · exact ⟨_, hs3.extBut _ _ Z.TOz hTO3⟩
        · obtain ⟨o', q', _⟩ := h1'.extBut hs3.extBut Z.i1z; exact ⟨o', q'⟩
        · obtain ⟨o', q', _⟩ := h2'.extBut hs3.extBut Z.i2z; exact ⟨o', q'⟩) (Nat.le_refl _) ht3 (.cons ru1 (.cons ru2 .nil)) (by show 2 ≤ sizeLine; decide)
    refine ⟨.ref s.heap.objs.size, _, I3, rfl, ⟨s.heap.objs.size, x, y, I.fresh, rfl, rfl, fun zs hy => by rw [I.list_inj hy hq1]; exact hx, fun zs hy' => by rw [I.list_inj hy' hq2]; exact hy⟩,
      ⟨⟨f3, f1', hz3, h03⟩, hTI3, ⟨a3, b3, hs3.extBut _ _ Z.TOz hTO3⟩, h1'.extBut hs3.extBut Z.i1z, h2'.extBut hs3.extBut Z.i2z⟩, fun b hb => ?_⟩
    have hbl : b < s.heap.objs.size := by
      have hb' : b = z ∨ b = TI ∨ b = TO ∨ b = i1 ∨ b = i2 := by simpa using hb
      rcases hb' with rfl | rfl | rfl | rfl | rfl
      · exact hzlt
      · exact Heap.lt_size hTI
      · exact Heap.lt_size hTO
      · exact Heap.lt_size ei1
      · exact Heap.lt_size ei2
    rw [upd_ne (Nat.ne_of_lt hbl)]
    exact (hf b hb).1
  done := by
    intro X hP hw hK hc i pins s σ H E I hf st hg
    subst hP hw hK
    obtain ⟨⟨f0, f1, hz, h0⟩, hTI, ⟨a, b, hTO⟩, h1, h2⟩ := st
    obtain ⟨xs, hq, hx⟩ := hg
    obtain ⟨its, rv, pl, hzz⟩ := I.list hq
    have hl := rv.length
    obtain ⟨o1, e1, c1, _⟩ := id pl.isList
    refine zip_next_endG (I.ok.hd hc) Z.TIz Z.i1z (ne_cls' e1 hz c1 rfl (by decide)) hz h0 hTI h1 pl.isList (by simp; omega) fun h' eb => ⟨rfl, I.turns (t' := s.toks) hf fun b o hb q => eb b o (fun e => hb (by simp [e])) (fun e => hb (by simp [e])) q⟩
  self := fun _ _ _ _ _ st h => by
    obtain ⟨⟨f0, f1, hz, h0⟩, _⟩ := st
    have hT : Shared.TypeIs _ (.ref z) "zip" := ⟨_, hz, rfl⟩
    refine wpAny_pyIter_slot hT F.slot_zip_iter (wpAny_call_entry F.slot_zip_iter hT F.entry_zip_iter ?_ (F.args_zip_iter_1 _))
    show wpAny _ _ (ret (.ref z)) _ _ _
    exact wpAny_pure ⟨_, rfl, "zip", _, hT, F.slot_zip_next.lookup, h⟩
section
variable {X : Cx} {tg : Expr}
theorem boot_zip : bootBuiltins "zip" = some (.type "zip") := by decide +kernel
def iZip (K : PySem.W.Frag) (ta : TA) : TI := fun σ H R => ta σ H fun vs H1 => ∃ (a b : Addr), vs = [.ref a, .ref b] ∧ (∃ xs, SqL K H1 a xs) ∧ (∃ ys, SqL K H1 b ys) ∧ R (Itz K a b) H1
theorem piv_zip {a b : Expr} {ta : TA} {p pos : Pos} (hg : Gl X "zip") (hm : X.mg "zip" = none) (ha : PA X [a, b] ta) (hs : starEach [a, b] X.env = [(false, eval a X.env), (false, eval b X.env)] := by rfl) (hs2 : starEach [b] X.env = [(false, eval b X.env)] := by rfl) :
    PIV X tg (.Call (.Name "zip" p) [a, b] [] pos) (iZip X.K ta) := by
  intro pins s σ H R I h
  refine Call_ (ld_blt I hg hm boot_zip (PyProof.Rows.callWith_type1 (thn (ha pos pins s σ H _ I h) fun us s1 ⟨vs, H1, I1, r1, q1⟩ => ?_) (by rw [hs, hs2]) (by rw [hs2]; rfl)))
  obtain ⟨l1, l2, e, ⟨xs, hq1⟩, ⟨ys, hq2⟩, q⟩ := q1
  subst e
  obtain ⟨u1, u2, rfl, rx1, rx2⟩ := vals2 r1
  cases rx1; cases rx2
  obtain ⟨its1, rv1, pl1, _⟩ := I1.list hq1
  obtain ⟨its2, rv2, pl2, _⟩ := I1.list hq2
  refine call_zip_2 pl1.isList pl2.isList fun h' hz hTI hTO hi1 hi2 hsz hk => ?_
  have I2 : Inv X pins σ H1 { s1 with heap := h' } := I1.kept (t' := s1.toks) hk
  refine ⟨s1.heap.objs.size + 4, [s1.heap.objs.size + 4, s1.heap.objs.size + 2, s1.heap.objs.size + 3, s1.heap.objs.size, s1.heap.objs.size + 1], _, _, H1, rfl, I2,
    turn_zip l1 l2 _ _ _ _ _ (zap_of _), ⟨⟨_, _, hz, .inl rfl⟩, hTI, ⟨_, _, hTO⟩, hi1, hi2⟩, fun b hb => ?_, ⟨fun s' st => ?_, fun A s' Q E st h => ?_⟩, q⟩
  · have hb' : s1.heap.objs.size ≤ b := by
      have : b = s1.heap.objs.size + 4 ∨ b = s1.heap.objs.size + 2 ∨ b = s1.heap.objs.size + 3 ∨ b = s1.heap.objs.size ∨ b = s1.heap.objs.size + 1 := by simpa using hb
      rcases this with rfl | rfl | rfl | rfl | rfl
      · exact Nat.le_add_right _ _
      · exact Nat.le_add_right _ _
      · exact Nat.le_add_right _ _
      · exact Nat.le_refl _
      · exact Nat.le_add_right _ _
    exact I1.fpOk hb' (I1.hok.fresh hb')
  · obtain ⟨⟨f0, f1, hz', _⟩, _⟩ := st
    exact ⟨"zip", ⟨_, hz', rfl⟩, by decide, by decide⟩
  · obtain ⟨⟨f0, f1, hz', _⟩, _⟩ := st
    exact hint_zip ⟨_, hz', rfl⟩ h
end
end L2

namespace L2
open PySem PySem.Spec PyProof.Rows
theorem ext_set01 (σ : St) (cap : List Nat) (v u : V) : Ext (capS σ 2 cap) (((capS σ 2 cap).set 0 (some v)).set 1 (some u)) := by
  refine ⟨by simp, fun i w h => ?_⟩
  match i, h with
  | 0, h =>
    have : (capS σ 2 cap)[0]? = some none := by
      unfold capS
      rw [List.replicate_succ, List.cons_append]; rfl
    rw [this] at h; cases h
  | 1, h =>
    have : (capS σ 2 cap)[1]? = some none := by
      unfold capS
      rw [List.replicate_succ, List.cons_append, List.replicate_succ, List.cons_append]; rfl
    rw [this] at h; cases h
  | n + 2, h =>
    rw [List.getElem?_set_ne (by omega), List.getElem?_set_ne (by omega)]; exact h
/-- what a pair of names takes -/
def Pair2 (g : Fam TG) : Prop := ∀ C s H0 fp (p : Addr) (x z : V) (σ : St) (H : Hp) (Q : St → Hp → Prop), H p = some (.tup [x, z]) → Q ((σ.set 0 (some x)).set 1 (some z)) H → g C s H0 fp (.ref p) σ H Q
/-- two names over zip(xs, zs) -/
theorem lc_zip {K : PySem.W.Frag} {a b : Addr} {xs zs : List V} {σ : St} {cap : List Nat} {g : Fam TG} {te : Fam TE} {D : Addr} {H1 : Hp} {Q : VK} (hg : Pair2 g) (hz : xs.length ≤ zs.length) (Pv : Nat → Hp → List V → Prop) (h0 : Pv 0 (upd H1 D (.lst [])) [])
    (hl : ∀ i H ys, i ≤ xs.length → Pv i H ys → SqL K H a xs ∧ SqL K H b zs ∧ H D = some (.lst ys))
    (hs : ∀ i x z p H ys, xs[i]? = some x → zs[i]? = some z → Pv i H ys → H p = none → ∀ C s H0 fp, te C s H0 fp (((capS σ 2 cap).set 0 (some x)).set 1 (some z)) (upd H p (.tup [x, z])) fun y H6 => H6 D = some (.lst ys) ∧ ys.length < sizeLine ∧ Pv (i + 1) (upd H6 D (.lst (ys ++ [y]))) (ys ++ [y]))
    (hd : ∀ H ys, Pv xs.length H ys → Q (.ref D) H) : LcGoal (Itz K a b) (capS σ 2 cap) g tA te D H1 Q := by
  unfold LcGoal
  refine ⟨xs.length, fun i H ys => i ≤ xs.length ∧ Pv i H ys, ⟨Nat.zero_le _, h0⟩, ?_⟩
  rintro i H2 ys ⟨hi, p⟩
  obtain ⟨q1, q2, hD⟩ := hl i H2 ys hi p
  refine ⟨hi, hD, ?_⟩
  by_cases hlt : i < xs.length
  · have hlt2 : i < zs.length := by omega
    refine .inr ⟨hlt, ⟨xs, zs, xs[i], zs[i], q1, q2, by simp [hlt], by simp [hlt2]⟩, fun C s H0 fp v H3 y => ?_⟩
    obtain ⟨pp, x, z, hn, e1, e2, y1, y2⟩ := y
    subst e1 e2
    refine hg C s H0 fp pp x z _ _ _ upd_same ⟨ext_set01 σ cap x z, ?_⟩
    show tAlw _ _ _
    unfold tAlw
    dsimp only
    rw [if_pos rfl]
    have := hs i x z pp H2 ys (y1 xs q1) (y2 zs q2) p hn C s H0 fp
    have e : (fun (y : V) (H6 : Hp) => H6 D = some (HO.lst ys) ∧ ys.length < sizeLine ∧ (i + 1 ≤ xs.length ∧ Pv (i + 1) (upd H6 D (.lst (ys ++ [y]))) (ys ++ [y]))) = fun y H6 => H6 D = some (.lst ys) ∧ ys.length < sizeLine ∧ Pv (i + 1) (upd H6 D (.lst (ys ++ [y]))) (ys ++ [y]) := by
      funext y H6
      exact propext ⟨fun ⟨a, b, _, c⟩ => ⟨a, b, c⟩, fun ⟨a, b, c⟩ => ⟨a, b, hlt, c⟩⟩
    rw [e]
    exact this
  · have e : i = xs.length := by omega
    subst e
    exact .inl ⟨⟨xs, q1, Nat.le_refl _⟩, hd H2 ys p⟩
/-- two names over enumerate(xs) -/
theorem lc_enum {K : PySem.W.Frag} {a : Addr} {xs : List V} {σ : St} {cap : List Nat} {g : Fam TG} {te : Fam TE} {D : Addr} {H1 : Hp} {Q : VK} (hg : Pair2 g) (Pv : Nat → Hp → List V → Prop) (h0 : Pv 0 (upd H1 D (.lst [])) [])
    (hl : ∀ i H ys, i ≤ xs.length → Pv i H ys → SqL K H a xs ∧ H D = some (.lst ys))
    (hs : ∀ i x p H ys, xs[i]? = some x → Pv i H ys → H p = none → ∀ C s H0 fp, te C s H0 fp (((capS σ 2 cap).set 0 (some (.int (i : Nat)))).set 1 (some x)) (upd H p (.tup [.int (i : Nat), x])) fun y H6 => H6 D = some (.lst ys) ∧ ys.length < sizeLine ∧ Pv (i + 1) (upd H6 D (.lst (ys ++ [y]))) (ys ++ [y]))
    (hd : ∀ H ys, Pv xs.length H ys → Q (.ref D) H) : LcGoal (Ite K a) (capS σ 2 cap) g tA te D H1 Q := by
  unfold LcGoal
  refine ⟨xs.length, fun i H ys => i ≤ xs.length ∧ Pv i H ys, ⟨Nat.zero_le _, h0⟩, ?_⟩
  rintro i H2 ys ⟨hi, p⟩
  obtain ⟨q1, hD⟩ := hl i H2 ys hi p
  refine ⟨hi, hD, ?_⟩
  by_cases hlt : i < xs.length
  · refine .inr ⟨hlt, ⟨xs, xs[i], q1, by simp [hlt]⟩, fun C s H0 fp v H3 y => ?_⟩
    obtain ⟨pp, x, hn, e1, e2, y1⟩ := y
    subst e1 e2
    refine hg C s H0 fp pp _ x _ _ _ upd_same ⟨ext_set01 σ cap _ x, ?_⟩
    show tAlw _ _ _
    unfold tAlw
    dsimp only
    rw [if_pos rfl]
    have := hs i x pp H2 ys (y1 xs q1) p hn C s H0 fp
    have e : (fun (y : V) (H6 : Hp) => H6 D = some (HO.lst ys) ∧ ys.length < sizeLine ∧ (i + 1 ≤ xs.length ∧ Pv (i + 1) (upd H6 D (.lst (ys ++ [y]))) (ys ++ [y]))) = fun y H6 => H6 D = some (.lst ys) ∧ ys.length < sizeLine ∧ Pv (i + 1) (upd H6 D (.lst (ys ++ [y]))) (ys ++ [y]) := by
      funext y H6
      exact propext ⟨fun ⟨a, b, _, c⟩ => ⟨a, b, c⟩, fun ⟨a, b, c⟩ => ⟨a, b, hlt, c⟩⟩
    rw [e]
    exact this
  · have e : i = xs.length := by omega
    subst e
    exact .inl ⟨⟨xs, q1, Nat.le_refl _⟩, hd H2 ys p⟩
/-- one name over reversed(xs), the heap untouched by the element -/
theorem lc_revP {K : PySem.W.Frag} {a : Addr} {xs : List V} {σ : St} {cap : List Nat} {te : Fam TE} {D : Addr} {H1 : Hp} {Q : VK} (f : V → V) (hD : H1 D = none) (hS : SqL K H1 a xs) (hz : xs.length ≤ sizeLine)
    (hs : ∀ (i : Nat) x ys C s H0 fp (R : VK), xs[i]? = some x → R (f x) (upd H1 D (.lst ys)) → te C s H0 fp ((capS σ 1 cap).set 0 (some x)) (upd H1 D (.lst ys)) R)
    (hq : Q (.ref D) (upd H1 D (.lst (xs.reverse.map f)))) : LcGoal (Itv K a xs.length) (capS σ 1 cap) g1 tA te D H1 Q := by
  unfold LcGoal
  refine ⟨xs.length, fun i H ys => i ≤ xs.length ∧ ys = (xs.reverse.take i).map f ∧ H = upd H1 D (.lst ys), ⟨Nat.zero_le _, by simp, rfl⟩, ?_⟩
  rintro i H2 ys ⟨hi, rfl, rfl⟩
  have q1 : SqL K (upd H1 D (.lst ((xs.reverse.take i).map f))) a xs := (Same.new hD _).seq hS
  refine ⟨hi, upd_same, ?_⟩
  by_cases hlt : i < xs.length
  · refine .inr ⟨hlt, ⟨hlt, xs, q1, rfl⟩, fun C s H0 fp v H3 y => ?_⟩
    obtain ⟨e1, y1⟩ := y
    subst e1
    have hx := y1 xs q1
    refine ⟨ext_set0 σ 0 cap v, ?_⟩
    show tAlw _ _ _
    unfold tAlw
    dsimp only
    rw [if_pos rfl]
    have hx' : xs.reverse[i]? = some v := by rw [List.getElem?_reverse hlt]; exact hx
    refine hs _ v _ C s H0 fp _ hx ⟨upd_same, ?_, hlt, (map_take_succ f xs.reverse i v hx').symm, upd_upd⟩
    rw [List.length_map, List.length_take, List.length_reverse]
    omega
  · have e : i = xs.length := by omega
    subst e
    rw [List.take_of_length_le (by rw [List.length_reverse]; exact Nat.le_refl _)]
    exact .inl ⟨Nat.le_refl _, hq⟩
/-- list(reversed(xs)) -/
theorem li_rev {K : PySem.W.Frag} {a : Addr} {xs : List V} {D : Addr} {H1 : Hp} {Q : VK} (hD : H1 D = none) (hS : SqL K H1 a xs) (hz : xs.length ≤ sizeLine) (hq : Q (.ref D) (upd H1 D (.lst xs.reverse))) :
    LcGoal (Itv K a xs.length) [none] (fun _ _ _ _ => gName 0) (fun _ _ _ _ => tAlw) (fun _ _ _ _ => tVar 0) D H1 Q := by
  have := lc_revP (K := K) (a := a) (xs := xs) (σ := []) (cap := []) (te := fun _ _ _ _ => tVar 0) (D := D) (H1 := H1) (Q := Q) id hD hS hz (fun i x ys C s H0 fp R hx hR => ⟨x, rfl, hR⟩) (by rw [List.map_id]; exact hq)
  exact this
/-- list(zip(xs, zs)) -/
theorem li_zip {K : PySem.W.Frag} {a b : Addr} {xs zs : List V} {D : Addr} {H1 : Hp} {Q : VK} (hD : H1 D = none) (hS : SqL K H1 a xs) (hS2 : SqL K H1 b zs) (hz : xs.length ≤ zs.length) (hz2 : xs.length ≤ sizeLine)
    (hq : ∀ (H : Hp) (ps : List Addr), Same H1 H → H D = some (.lst (ps.map V.ref)) → ps.length = xs.length → (∀ (j : Nat) (p : Addr), ps[j]? = some p → ∃ x z, xs[j]? = some x ∧ zs[j]? = some z ∧ H p = some (.tup [x, z]) ∧ H1 p = none) → Q (.ref D) H) :
    LcGoal (Itz K a b) [none] (fun _ _ _ _ => gName 0) (fun _ _ _ _ => tAlw) (fun _ _ _ _ => tVar 0) D H1 Q := by
  unfold LcGoal
  refine ⟨xs.length, fun i H ys => i ≤ xs.length ∧ Same H1 H ∧ ∃ ps : List Addr, ys = ps.map V.ref ∧ H D = some (.lst ys) ∧ ps.length = i ∧ ∀ (j : Nat) (p : Addr), ps[j]? = some p → ∃ x z, xs[j]? = some x ∧ zs[j]? = some z ∧ H p = some (.tup [x, z]) ∧ H1 p = none ∧ p ≠ D,
    ⟨Nat.zero_le _, Same.new hD _, [], rfl, upd_same, rfl, fun j p e => by simp at e⟩, ?_⟩
  rintro i H2 ys ⟨hi, s2, ps, rfl, hD2, hpl, hps⟩
  have q1 := s2.seq hS
  have q2 := s2.seq hS2
  refine ⟨hi, hD2, ?_⟩
  by_cases hlt : i < xs.length
  · have hlt2 : i < zs.length := by omega
    refine .inr ⟨hlt, ⟨xs, zs, xs[i], zs[i], q1, q2, by simp [hlt], by simp [hlt2]⟩, fun C s H0 fp v H3 y => ?_⟩
    obtain ⟨pp, x, z, hn, e1, e2, y1, y2⟩ := y
    subst e1 e2
    have hx := y1 xs q1
    have hzz := y2 zs q2
    have nD : pp ≠ D := fun e => by rw [e, hD2] at hn; cases hn
    have n1 : H1 pp = none := s2.free hn
    refine ⟨⟨by simp, fun i v h => by cases i <;> simp at h⟩, ?_⟩
    show tAlw _ _ _
    unfold tAlw
    dsimp only
    rw [if_pos rfl]
    refine ⟨.ref pp, rfl, by rw [upd_ne (Ne.symm nD)]; exact hD2, by rw [List.length_map, hpl]; omega, hlt, (s2.put n1).put hD, ps ++ [pp], by rw [List.map_append]; rfl, upd_same, by rw [List.length_append, hpl]; rfl, fun j p e => ?_⟩
    by_cases hj : j < ps.length
    · rw [List.getElem?_append_left hj] at e
      obtain ⟨x', z', a1, a2, a3, a4, a5⟩ := hps j p e
      refine ⟨x', z', a1, a2, ?_, a4, a5⟩
      rw [upd_ne a5, upd_ne (fun e => by rw [e, hn] at a3; cases a3)]
      exact a3
    · rw [List.getElem?_append_right (by omega)] at e
      have hj2 : j - ps.length = 0 := by
        cases q : j - ps.length with
        | zero => rfl
        | succ n => rw [q] at e; simp at e
      rw [hj2] at e
      have el : pp = p := by simpa using e
      subst el
      have hji : j = i := by omega
      subst hji
      exact ⟨x, z, hx, hzz, by rw [upd_ne nD, upd_same], n1, nD⟩
  · have e : i = xs.length := by omega
    subst e
    refine .inl ⟨⟨xs, q1, Nat.le_refl _⟩, hq H2 ps s2 hD2 hpl fun j p e => ?_⟩
    obtain ⟨x', z', a1, a2, a3, a4, _⟩ := hps j p e
    exact ⟨x', z', a1, a2, a3, a4⟩
end L2

namespace Sky
/-! ### who sees whom -/
end Sky

namespace Sky
/-! ### reaches -/
/-- the nearest place below n that is lower than h -/
def nlO (b : List Int) (h : Int) : Nat → Option Nat
  | 0 => none
  | n + 1 => if b.getD n 0 < h then some n else nlO b h n
theorem nlO_some {b : List Int} {h : Int} : ∀ {n j : Nat}, nlO b h n = some j → j < n ∧ b.getD j 0 < h ∧ ∀ k, j < k → k < n → h ≤ b.getD k 0
  | 0, j, e => by simp [nlO] at e
  | n + 1, j, e => by
    unfold nlO at e
    split at e
    · rename_i hc
      cases e
      exact ⟨Nat.lt_succ_self _, hc, fun k h1 h2 => by omega⟩
    · rename_i hc
      obtain ⟨a, c, d⟩ := nlO_some e
      refine ⟨by omega, c, fun k h1 h2 => ?_⟩
      by_cases hk : k = n
      · subst hk; omega
      · exact d k h1 (by omega)
theorem nlO_none {b : List Int} {h : Int} : ∀ {n : Nat}, nlO b h n = none → ∀ k, k < n → h ≤ b.getD k 0
  | 0, _, k, hk => by omega
  | n + 1, e, k, hk => by
    unfold nlO at e
    split at e
    · cases e
    · rename_i hc
      by_cases hk' : k = n
      · subst hk'; omega
      · exact nlO_none e k (by omega)
/-- the first place of the reach -/
def stN (b : List Int) (i : Nat) : Nat := match nlO b (b.getD i 0) i with
  | some j => j + 1
  | none => 0
theorem stN_le (b : List Int) (i : Nat) : stN b i ≤ i := by
  unfold stN
  split
  · rename_i j e; have := (nlO_some e).1; omega
  · omega
theorem stN_ge (b : List Int) (i k : Nat) (h1 : stN b i ≤ k) (h2 : k ≤ i) : b.getD i 0 ≤ b.getD k 0 := by
  by_cases hk : k = i
  · subst hk; exact Int.le_refl _
  · unfold stN at h1
    split at h1
    · rename_i j e; exact (nlO_some e).2.2 k (by omega) (by omega)
    · rename_i e; exact nlO_none e k (by omega)
theorem stN_low (b : List Int) (i : Nat) : stN b i = 0 ∨ b.getD (stN b i - 1) 0 < b.getD i 0 := by
  unfold stN
  split
  · rename_i j e; exact .inr (nlO_some e).2.1
  · exact .inl rfl
/-- the program's stack of places, the top first -/
def stkP (b : List Int) : Nat → List Nat
  | 0 => []
  | n + 1 => n :: (stkP b n).dropWhile fun j => decide (b.getD n 0 ≤ b.getD j 0)
theorem drop_drop {α : Type} {p q : α → Bool} (h : ∀ x, p x = true → q x = true) : ∀ l : List α, (l.dropWhile p).dropWhile q = l.dropWhile q
  | [] => rfl
  | x :: l => by
    cases hp : p x with
    | true => rw [List.dropWhile_cons, if_pos hp, drop_drop h l, List.dropWhile_cons, if_pos (h x hp)]
    | false => rw [List.dropWhile_cons (p := p), if_neg (by simp [hp])]
theorem stkP_head (b : List Int) : ∀ (n : Nat) (h : Int), ((stkP b n).dropWhile fun j => decide (h ≤ b.getD j 0)).head? = nlO b h n
  | 0, h => rfl
  | n + 1, h => by
    unfold stkP nlO
    by_cases hc : b.getD n 0 < h
    · rw [if_pos hc, List.dropWhile_cons, if_neg (fun z => by have := of_decide_eq_true z; omega)]; rfl
    · rw [if_neg hc, List.dropWhile_cons, if_pos (decide_eq_true (by omega)), drop_drop (fun x hx => decide_eq_true (by have := of_decide_eq_true hx; omega))]
      exact stkP_head b n h
theorem stkP_lt (b : List Int) : ∀ (n : Nat) (j : Nat), j ∈ stkP b n → j < n
  | 0, j, h => by simp [stkP] at h
  | n + 1, j, h => by
    unfold stkP at h
    rcases List.mem_cons.mp h with rfl | h
    · omega
    · have := stkP_lt b n j ((List.dropWhile_sublist _).subset h)
      omega
theorem stkP_length (b : List Int) : ∀ n : Nat, (stkP b n).length ≤ n
  | 0 => Nat.le_refl _
  | n + 1 => by
    unfold stkP
    have h1 := stkP_length b n
    have h2 : ((stkP b n).dropWhile fun j => decide (b.getD n 0 ≤ b.getD j 0)).length ≤ (stkP b n).length := (List.dropWhile_sublist _).length_le
    simp only [List.length_cons]; omega
def starts (b : List Int) : List Int := (List.range b.length).map fun i => ((stN b i : Nat) : Int)
theorem starts_length (b : List Int) : (starts b).length = b.length := by simp [starts]
theorem starts_take {b : List Int} {i : Nat} (hi : i < b.length) : (starts b).take (i + 1) = (starts b).take i ++ [((stN b i : Nat) : Int)] := by
  rw [List.take_add_one]
  congr 1
  unfold starts
  rw [List.getElem?_map, List.getElem?_range hi]; rfl
theorem stN_nil {b : List Int} {i : Nat} (h : ([] : List Nat) = (stkP b i).dropWhile fun j => decide (b.getD i 0 ≤ b.getD j 0)) : stN b i = 0 := by
  have := stkP_head b i (b.getD i 0)
  rw [← h] at this
  unfold stN
  rw [← this]; rfl
theorem stN_cons {b : List Int} {i j : Nat} {t : List Nat} (h : j :: t = (stkP b i).dropWhile fun j => decide (b.getD i 0 ≤ b.getD j 0)) : stN b i = j + 1 := by
  have := stkP_head b i (b.getD i 0)
  rw [← h] at this
  unfold stN
  rw [← this]; rfl
/-- the last place of the reach, by the mirrored row -/
def enN (b : List Int) (i : Nat) : Nat := b.length - 1 - stN b.reverse (b.length - 1 - i)
def ends (b : List Int) : List Int := (List.range b.length).map fun i => ((enN b i : Nat) : Int)
theorem ends_length (b : List Int) : (ends b).length = b.length := by simp [ends]
theorem ends_eq (b : List Int) : (starts b.reverse).reverse.map (fun s => ((b.length : Int) - 1) - s) = ends b := by
  apply List.ext_getElem?
  intro i
  rw [List.getElem?_map]
  by_cases hi : i < b.length
  · rw [List.getElem?_reverse (by rw [starts_length, List.length_reverse]; exact hi), starts_length, List.length_reverse]
    unfold starts ends
    rw [List.getElem?_map, List.getElem?_map, List.length_reverse, List.getElem?_range (by omega), List.getElem?_range hi]
    have := stN_le b.reverse (b.length - 1 - i)
    simp only [Option.map_some, Option.some.injEq]
    unfold enN
    omega
  · rw [List.getElem?_eq_none (by rw [List.length_reverse, starts_length, List.length_reverse]; omega), List.getElem?_eq_none (by rw [ends_length]; omega)]; rfl
def reachP (b : List Int) : List (Int × Int) := (List.range b.length).map fun i => (((stN b i : Nat) : Int), ((enN b i : Nat) : Int))
theorem reachP_length (b : List Int) : (reachP b).length = b.length := by simp [reachP]
theorem reachP_get {b : List Int} {i : Nat} (hi : i < b.length) : (reachP b)[i]? = some (((stN b i : Nat) : Int), ((enN b i : Nat) : Int)) := by
  unfold reachP
  rw [List.getElem?_map, List.getElem?_range hi]; rfl
/-! ### boards -/
def cntP (p : Int × Int) : Int := p.2 - p.1 + 1
def underB (b : List Int) (first many high : Int) : Bool :=
  if first < 0 ∨ many < 1 ∨ (b.length : Int) < first + many ∨ high < 0 then false else ((b.drop first.toNat).take many.toNat).all fun x => decide (high ≤ x)
def endsB (b : List Int) (i : Nat) (p : Int × Int) : Bool :=
  if 0 ≤ p.1 ∧ p.1 ≤ i ∧ (i : Int) ≤ p.2 ∧ p.2 ≤ (b.length : Int) - 1 then
    (decide (p.1 = 0) || decide (b.getD (p.1.toNat - 1) 0 < b.getD i 0)) && (decide (p.2 = (b.length : Int) - 1) || decide (b.getD (p.2.toNat + 1) 0 < b.getD i 0)) else false
def okB (b : List Int) (size : Int) (i : Nat) (p : Int × Int) : Bool := endsB b i p && decide (b.getD i 0 * cntP p ≤ size)
def ngB (b : List Int) (many high : Int) (ar : List (Int × Int)) : Bool :=
  if ar.length = b.length then (List.range ar.length).all fun i => okB b (many * high) i (ar.getD i (0, 0)) else false
/-- the sizes of the boards of the reaches -/
def sizes (b : List Int) : List Int := (List.range b.length).map fun i => b.getD i 0 * cntP (((stN b i : Nat) : Int), ((enN b i : Nat) : Int))
theorem sizes_length (b : List Int) : (sizes b).length = b.length := by simp [sizes]
theorem sizes_get {b : List Int} {i : Nat} (hi : i < b.length) : (sizes b)[i]? = some (b.getD i 0 * cntP (((stN b i : Nat) : Int), ((enN b i : Nat) : Int))) := by
  unfold sizes
  rw [List.getElem?_map, List.getElem?_range hi]; rfl
/-- what is told of the best place m -/
structure Best (b : List Int) (m : Nat) : Prop where
  lt : m < b.length
  top : ∀ i, i < b.length → b.getD i 0 * cntP (((stN b i : Nat) : Int), ((enN b i : Nat) : Int)) ≤ b.getD m 0 * cntP (((stN b m : Nat) : Int), ((enN b m : Nat) : Int))
theorem best_of {b : List Int} {M : Int} (h1 : M ∈ sizes b) (h2 : ∀ a, a ∈ sizes b → a ≤ M) : Best b ((sizes b).idxOf M) := by
  have hlt : (sizes b).idxOf M < (sizes b).length := List.idxOf_lt_length_iff.mpr h1
  have hlt' : (sizes b).idxOf M < b.length := by rw [sizes_length] at hlt; exact hlt
  have e : M = b.getD ((sizes b).idxOf M) 0 * cntP (((stN b ((sizes b).idxOf M) : Nat) : Int), ((enN b ((sizes b).idxOf M) : Nat) : Int)) := by
    have g := sizes_get hlt'
    rw [List.getElem?_eq_getElem hlt, List.getElem_idxOf hlt] at g
    exact Option.some.inj g
  refine ⟨hlt', fun i hi => ?_⟩
  rw [← e]
  exact h2 _ (List.mem_of_getElem? (sizes_get hi))
end Sky

namespace Sky
open PySem L2
/-- the built-in names that the text leaves as they are -/
structure Blt (mg : Str → Option Value) : Prop where
  isinstance : mg "isinstance" = none
  int : mg "int" = none
  bool : mg "bool" = none
  list : mg "list" = none
  len : mg "len" = none
  range : mg "range" = none
  enumerate : mg "enumerate" = none
  reversed : mg "reversed" = none
  min : mg "min" = none
  max : mg "max" = none
  sum : mg "sum" = none
  all : mg "all" = none
  sorted : mg "sorted" = none
  zip : mg "zip" = none
  any : mg "any" = none
  tuple : mg "tuple" = none
def Hi (mg : Str → Option Value) : Prop := ∃ t, mg "HIGHEST" = some (.int 10000000 t)
theorem cut_map (xs : List Int) (a b : Nat) (ha : a ≤ xs.length) (hb : b ≤ xs.length) : cutV (xs.map V.int) (some ((a : Nat) : Int)) (some ((b : Nat) : Int)) = ((xs.drop a).take (b - a)).map V.int := by
  unfold cutV
  rw [HT.sIx_nat, HT.sIx_nat, List.length_map, Nat.min_eq_left ha, Nat.min_eq_left hb, List.map_take, List.map_drop]
theorem atI_mapM {xs : List Int} {i : Nat} (hi : i < xs.length) : atI (xs.map V.int) (i : Int) = some (V.int (xs.getD i 0)) := by
  refine atI_nat ?_
  rw [List.getElem?_map, List.getD_eq_getElem?_getD, List.getElem?_eq_getElem hi]; rfl
theorem boot_isinst' : bootBuiltins "isinstance" = some (.builtin "isinstance") := by decide +kernel
theorem boot_all' : bootBuiltins "all" = some (.builtin "all") := by decide +kernel
theorem boot_sorted' : bootBuiltins "sorted" = some (.builtin "sorted") := by decide +kernel
theorem boot_sum' : bootBuiltins "sum" = some (.builtin "sum") := by decide +kernel
theorem boot_int' : bootBuiltins "int" = some (.type "int") := by decide +kernel
theorem boot_bool' : bootBuiltins "bool" = some (.type "bool") := by decide +kernel
theorem boot_list' : bootBuiltins "list" = some (.type "list") := by decide +kernel
theorem kit_ii (K : PySem.W.Frag) : PySem.W.kitOne K (.type "int") (.type "int") = some true := by rfl
theorem kit_ib (K : PySem.W.Frag) : PySem.W.kitOne K (.type "int") (.type "bool") = some false := by with_unfolding_all rfl
theorem kit_ll (K : PySem.W.Frag) : PySem.W.kitOne K (.type "list") (.type "list") = some true := by rfl
theorem kit_bb (K : PySem.W.Frag) : PySem.W.kitOne K (.type "bool") (.type "bool") = some true := by rfl
def Hts (ns : List Int) : Prop := ns.length ≤ 100 ∧ ∀ x ∈ ns, 0 ≤ x ∧ x ≤ 10000000
theorem getD_ht {xs : List Int} (hh : Hts xs) {i : Nat} (hi : i < xs.length) : 0 ≤ xs.getD i 0 ∧ xs.getD i 0 ≤ 10000000 := by
  have : xs.getD i 0 = xs[i] := by simp [List.getD_eq_getElem?_getD, List.getElem?_eq_getElem hi]
  rw [this]; exact hh.2 _ (List.getElem_mem _)
/-- a new list of ints comes back, nothing else is touched -/
def newL (H : Hp) (Q : VK) (ns : List Int) : Prop := ∀ (l : Addr) (H' : Hp), H l = none → Same H H' → IL H' l ns → Q (.ref l) H'
abbrev cst (st : List Nat) : List Int := st.map fun (j : Nat) => (j : Int)
/-- a list of pairs of ints at l -/
def TL (H : Hp) (l : Addr) (prs : List (Int × Int)) : Prop := ∃ ps : List Addr, H l = some (.lst (ps.map V.ref)) ∧ ps.length = prs.length ∧ ∀ (j : Nat) (p : Addr), ps[j]? = some p → ∃ q, prs[j]? = some q ∧ H p = some (.tup [.int q.1, .int q.2])
theorem TL.same {H H' : Hp} {l : Addr} {prs : List (Int × Int)} (h : TL H l prs) (s : Same H H') : TL H' l prs := by
  obtain ⟨ps, a, b, c⟩ := h
  exact ⟨ps, s _ _ a, b, fun j p e => by obtain ⟨q, c1, c2⟩ := c j p e; exact ⟨q, c1, s _ _ c2⟩⟩
def newTL (H : Hp) (Q : VK) (prs : List (Int × Int)) : Prop := ∀ (l : Addr) (H' : Hp), H l = none → Same H H' → TL H' l prs → Q (.ref l) H'
/-! ### what the defs promise -/
def spWithin : Sp := fun vs H Q _ => ∃ i lo hi : Int, vs = [.int i, .int lo, .int hi] ∧ Q (.bl (decide (lo ≤ i ∧ i ≤ hi))) H
def spChk : Sp := fun vs H Q _ => ∃ (a : Addr) (xs : List Int), vs = [.ref a] ∧ IL H a xs ∧ Hts xs ∧ ∀ H', Same H H' → Q .non H'
def spBars (K : PySem.W.Frag) : Sp := fun vs H Q _ => ∃ (a : Addr) (ns : List Int), vs = [.ref a] ∧ SqL K H a (ns.map V.int) ∧ ns.length ≤ 63 ∧ ∀ bs : List Int, bs.length = ns.length → Hts bs → newL H Q bs
def spStarts : Sp := fun vs H Q _ => ∃ (a : Addr) (xs : List Int), vs = [.ref a] ∧ IL H a xs ∧ xs.length ≤ 100 ∧ newL H Q (starts xs)
def spTurned : Sp := fun vs H Q _ => ∃ (a : Addr) (xs : List Int), vs = [.ref a] ∧ IL H a xs ∧ xs.length ≤ 100 ∧ newL H Q (xs.reverse.map fun s => ((xs.length : Int) - 1) - s)
def spEnds : Sp := fun vs H Q _ => ∃ (a : Addr) (xs : List Int), vs = [.ref a] ∧ IL H a xs ∧ xs.length ≤ 100 ∧ newL H Q (ends xs)
def spReach : Sp := fun vs H Q _ => ∃ (a : Addr) (xs : List Int), vs = [.ref a] ∧ IL H a xs ∧ Hts xs ∧ newTL H Q (reachP xs)
/-- a Board's attributes, in the order in which __init__ stores them -/
def bfl (f m h : Int) (ar : Addr) : List (Str × V) := putF "around" (.ref ar) (putF "high" (.int h) (putF "many" (.int m) (putF "first" (.int f) [])))
theorem bfl_first (f m h : Int) (ar : Addr) : (bfl f m h ar).lookup ("first" : Str) = some (.int f) := by
  unfold bfl; rw [lookup_putF, if_neg (by decide +kernel), lookup_putF, if_neg (by decide +kernel), lookup_putF, if_neg (by decide +kernel), lookup_putF, if_pos rfl]
theorem bfl_many (f m h : Int) (ar : Addr) : (bfl f m h ar).lookup ("many" : Str) = some (.int m) := by
  unfold bfl; rw [lookup_putF, if_neg (by decide +kernel), lookup_putF, if_neg (by decide +kernel), lookup_putF, if_pos rfl]
theorem bfl_high (f m h : Int) (ar : Addr) : (bfl f m h ar).lookup ("high" : Str) = some (.int h) := by
  unfold bfl; rw [lookup_putF, if_neg (by decide +kernel), lookup_putF, if_pos rfl]
theorem bfl_around (f m h : Int) (ar : Addr) : (bfl f m h ar).lookup ("around" : Str) = some (.ref ar) := by
  unfold bfl; rw [lookup_putF, if_pos rfl]
theorem bfl_no (f m h : Int) (ar : Addr) {x : Str} (h1 : ¬ x = "around") (h2 : ¬ x = "high") (h3 : ¬ x = "many") (h4 : ¬ x = "first") : (bfl f m h ar).lookup x = none := by
  unfold bfl; rw [lookup_putF, if_neg h1, lookup_putF, if_neg h2, lookup_putF, if_neg h3, lookup_putF, if_neg h4]; rfl
structure BCls (K : PySem.W.Frag) (C : Addr) : Prop where
  cl : Cls K C
  n1 : NoAttr K C "first"
  n2 : NoAttr K C "many"
  n3 : NoAttr K C "high"
  n4 : NoAttr K C "around"
def spInit (C : Addr) : Sp := fun vs H Q _ => ∃ (p dx l : Addr) (f m h : Int) (ps : List Addr), vs = [.ref p, .int f, .int m, .int h, .ref l] ∧ H p = some (.ins C dx []) ∧ H l = some (.lst (ps.map V.ref)) ∧
  ∀ (ar : Addr) (H' : Hp), H ar = none → H' p = some (.ins C dx (bfl f m h ar)) → H' ar = some (.lst (ps.map V.ref)) → (∀ b o, H b = some o → b ≠ p → H' b = some o) → Q .non H'
def spCount : Sp := fun vs H Q _ => ∃ (t : Addr) (p q : Int), vs = [.ref t] ∧ H t = some (.tup [.int p, .int q]) ∧ Q (.int (cntP (p, q))) H
def spEndsAt : Sp := fun vs H Q _ => ∃ (a t : Addr) (xs : List Int) (i : Nat) (p q : Int), vs = [.ref a, .int (i : Nat), .ref t] ∧ IL H a xs ∧ i < xs.length ∧ H t = some (.tup [.int p, .int q]) ∧ Q (.bl (endsB xs i (p, q))) H
def spLies (C : Addr) : Sp := fun vs H Q _ => ∃ (p dx ar a : Addr) (f m h : Int) (xs : List Int), vs = [.ref p, .ref a] ∧ H p = some (.ins C dx (bfl f m h ar)) ∧ IL H a xs ∧ xs.length ≤ 100 ∧ ∀ H', Same H H' → Q (.bl (underB xs f m h)) H'
def spNone (C : Addr) : Sp := fun vs H Q _ => ∃ (p dx ar a : Addr) (f m h : Int) (xs : List Int) (prs : List (Int × Int)), vs = [.ref p, .ref a] ∧ H p = some (.ins C dx (bfl f m h ar)) ∧ TL H ar prs ∧ prs.length ≤ 200 ∧ IL H a xs ∧ Hts xs ∧ (-(2 ^ 64) < h ∧ h < 2 ^ 64) ∧ ∀ H', Same H H' → Q (.bl (ngB xs m h prs)) H'
def spShows (C : Addr) : Sp := fun vs H Q _ => ∃ (p dx ar a : Addr) (f m h : Int) (xs : List Int) (prs : List (Int × Int)), vs = [.ref p, .ref a] ∧ H p = some (.ins C dx (bfl f m h ar)) ∧ TL H ar prs ∧ prs.length ≤ 200 ∧ IL H a xs ∧ Hts xs ∧ (-(2 ^ 64) < h ∧ h < 2 ^ 64) ∧ ∀ H', Same H H' → Q (.bl (underB xs f m h && ngB xs m h prs)) H'
abbrev cntR (xs : List Int) (i : Nat) : Int := cntP (((stN xs i : Nat) : Int), ((enN xs i : Nat) : Int))
def spBoard (C : Addr) : Sp := fun vs H Q _ => ∃ (a : Addr) (xs : List Int), vs = [.ref a] ∧ IL H a xs ∧ Hts xs ∧ xs ≠ [] ∧
  ∀ (m : Nat) (p dx ar : Addr) (H' : Hp), Best xs m → H p = none → H ar = none → Same H H' → H' p = some (.ins C dx (bfl ((stN xs m : Nat) : Int) (cntR xs m) (xs.getD m 0) ar)) → TL H' ar (reachP xs) → Q (.ref p) H'
def spLaw (K : PySem.W.Frag) : Sp := fun vs H Q _ => ∃ (a : Addr) (ns : List Int), vs = [.ref a] ∧ SqL K H a (ns.map V.int) ∧ ns.length ≤ 63 ∧ ∀ H', Q (.bl true) H'
/-- a def of the text as the top has left it -/
structure DefIn (K : PySem.W.Frag) (x : Str) (st : Stmt) (f : Addr) : Prop where
  ns : PySem.W.nsIn K mainGlobals x = some (some (.ref f))
  fn : ∃ fd, Fun K x x st f fd
theorem def_mk {K : PySem.W.Frag} {x : Str} {st : Stmt} {f : Addr} {oc : Value} {od an : Option Addr} {osl : Array (Option Value)} {kV doc pm cdv ct : Value} (a : PySem.W.nsIn K mainGlobals x = some (some (.ref f)))
    (l : K.lookup f = some ⟨oc, od, .func (PySem.W.fnOf x x (defArgs st) (defBody st) (defScope st) .none kV doc pm an cdv ct), osl⟩) (c : PySem.W.codeIn K cdv x = true) (k : PySem.W.keepIn K (.ref f) = true) : DefIn K x st f := ⟨a, _, fun_mk l c k⟩
/-- the promise of the law by its walk -/
theorem walk (k : Nat) {l : PySem.W.OpenLaw} {q : Program} {loose : List Str} {XP : (Str → Option Value) → Heap → Prop} {YP : World → Heap → Prop} {d : DefRec} {K : Params → PySem.W.Frag} (hr : Room k callerA) (hn : l.most = some 63) (hdf : d.params.defaults = [])
    (hY : ∀ (w : World) (h : Heap), YP w h → (K w.params).In h)
    (F : ∀ (w : World) (mg : Str → Option Value) (fa : Addr) (h : Heap), (K w.params).In h → h.Ns mainGlobals mg → mg d.name = some (.ref fa) →
      ∃ fd : FuncData, (∀ (s : Shared) (u : Value), BindsTo s fd ⟨[u], []⟩ [("_law_script", u)]) ∧ ∀ base : Heap, (K w.params).In base → base.Ns mainGlobals mg → FnOk l.prog w (K w.params) mg base CX0 k fa fd ["_law_script"] (spLaw (K w.params))) :
    PySem.W.WalkO q loose XP YP l.row.toRowW d [] (fun f vs => PySem.call f vs) :=
  L2.walk_of (n := 63) (k := k) (x := "_law_script") (CX := fun _ => CX0) (sp := fun w => spLaw (K w.params)) hn (by decide) hdf hr hY F (fun _ _ a ns hl _ hS => ⟨a, ns, rfl, hS, hl, fun _ => rfl⟩) fun _ _ _ _ _ z => z
end Sky

namespace Sky
open PySem L2
/-- an own class whose instances isinstance may be asked of -/
structure IsC (K : PySem.W.Frag) (C : Addr) : Prop where
  cl : Cls K C
  ha : PySem.W.findIn K (.ref C) "__class__" = some (some (.builtin "object.__class__"))
  hn : PySem.W.specialIn K (.builtin "object.__class__") "__get__" = some (some (.builtin "getset_descriptor.__get__"))
  htk : PySem.W.takesIn K (.builtin "object.__class__") = some true
  hm : PySem.W.mroIn K C (.type "object") = some true
theorem dec_int' (i j : Int) : decide (V.int i = V.int j) = decide (i = j) := by
  by_cases e : i = j
  · subst e; simp
  · rw [decide_eq_false e, decide_eq_false (fun z => e (V.int.inj z))]
end Sky
namespace Sky
open PySem L2
/-- a method of an own class as the top has left it -/
structure MethIn (K : PySem.W.Frag) (C : Addr) (m qual : Str) (st : Stmt) (f : Addr) : Prop where
  find : PySem.W.findIn K (.ref C) m = some (some (.ref f))
  isfn : PySem.W.isFn K (.ref f) = true
  kp : PySem.W.keepIn K (.ref f) = true
  fn : ∃ fd, Fun K m qual st f fd
theorem meth_mk {K : PySem.W.Frag} {C : Addr} {m qual : Str} {st : Stmt} {f : Addr} {oc : Value} {od an : Option Addr} {osl : Array (Option Value)} {kV doc pm cdv ct : Value} (a : PySem.W.findIn K (.ref C) m = some (some (.ref f))) (i : PySem.W.isFn K (.ref f) = true)
    (l : K.lookup f = some ⟨oc, od, .func (PySem.W.fnOf m qual (defArgs st) (defBody st) (defScope st) .none kV doc pm an cdv ct), osl⟩) (c : PySem.W.codeIn K cdv qual = true) (k : PySem.W.keepIn K (.ref f) = true) : MethIn K C m qual st f := ⟨a, i, k, _, fun_mk l c k⟩
theorem MethIn.meth {K : PySem.W.Frag} {C : Addr} {m qual : Str} {st : Stmt} {f : Addr} (h : MethIn K C m qual st f) : Meth K C m f := ⟨h.find, h.isfn, h.kp⟩
/-- what isinstance asks of an own class -/
structure ClsIn (K : PySem.W.Frag) (C : Addr) : Prop where
  pg : PySem.W.plainGet K C Str.empty = true
  hd : PySem.W.hasDictIn K C = true
  po : PySem.W.plainOver K C = true
  sa : PySem.W.findIn K (.ref C) "__setattr__" = some (some (.builtin "object.__setattr__"))
  ha : PySem.W.findIn K (.ref C) "__class__" = some (some (.builtin "object.__class__"))
  hn : PySem.W.specialIn K (.builtin "object.__class__") "__get__" = some (some (.builtin "getset_descriptor.__get__"))
  htk : PySem.W.takesIn K (.builtin "object.__class__") = some true
  hm : PySem.W.mroIn K C (.type "object") = some true
theorem ClsIn.cl {K : PySem.W.Frag} {C : Addr} (c : ClsIn K C) : Cls K C := ⟨c.pg, c.hd, c.po, c.sa⟩
end Sky

namespace L2
open PySem PySem.Spec PyProof.Rows
/-! ### data compared: lists and tuples of ints, bools, texts, to any depth -/
mutual
inductive Dat (K : PySem.W.Frag) (H : Hp) : V → PyData → Prop where
  | non : Dat K H .non .none
  | bl (b : Bool) : Dat K H (.bl b) (.bool b)
  | int (i : Int) : Dat K H (.int i) (.int i)
  | str (x : Str) : Dat K H (.str x) (.str x)
  | lst {a : Addr} {xs : List V} {ds : List PyData} (h : SqL K H a xs) (d : DatAll K H xs ds) : Dat K H (.ref a) (.list ds)
  | tup {a : Addr} {xs : List V} {ds : List PyData} (h : SqT K H a xs) (d : DatAll K H xs ds) : Dat K H (.ref a) (.tuple ds)
inductive DatAll (K : PySem.W.Frag) (H : Hp) : List V → List PyData → Prop where
  | nil : DatAll K H [] []
  | cons {x : V} {d : PyData} {xs : List V} {ds : List PyData} (h : Dat K H x d) (t : DatAll K H xs ds) : DatAll K H (x :: xs) (d :: ds)
end
section
variable {X : Cx} {pins : List (Addr × Obj)} {σ : St} {H : Hp} {s : Shared}
mutual
theorem Dat.reads (I : Inv X pins σ H s) : ∀ {x : V} {d : PyData} {u : Value}, Dat X.K H x d → RelV x u → ∃ as, Reads s.heap u d as
  | _, _, _, .non, r => by cases r; exact ⟨_, .none⟩
  | _, _, _, .bl b, r => by cases r; exact ⟨_, .bool b⟩
  | _, _, _, .int i, r => by obtain ⟨t, rfl⟩ := r; exact ⟨_, .int i t⟩
  | _, _, _, .str z, r => by obtain ⟨t, rfl⟩ := r; exact ⟨_, .str z t⟩
  | _, _, _, .lst h d, r => by
    cases r
    obtain ⟨its, rv, pl, _⟩ := I.list h
    obtain ⟨as, ra⟩ := DatAll.reads I d rv
    obtain ⟨o, ho, hc, n, hd⟩ := id pl.isList
    exact ⟨_, .list ho hc hd ra⟩
  | _, _, _, .tup h d, r => by
    cases r
    obtain ⟨its, rv, pl, _⟩ := I.tuple h
    obtain ⟨as, ra⟩ := DatAll.reads I d rv
    obtain ⟨o, ho, hc, n, hd⟩ := id pl
    exact ⟨_, .tuple ho hc hd ra⟩
theorem DatAll.reads (I : Inv X pins σ H s) : ∀ {xs : List V} {ds : List PyData} {us : List Value}, DatAll X.K H xs ds → Vals xs us → ∃ as, ReadsAll s.heap us ds as
  | _, _, _, .nil, r => by cases r; exact ⟨_, .nil⟩
  | _, _, _, .cons h t, r => by
    cases r with
    | cons r1 r2 =>
      obtain ⟨as, ra⟩ := Dat.reads I h r1
      obtain ⟨bs, rb⟩ := DatAll.reads I t r2
      exact ⟨_, .cons ra rb⟩
end
/-- x == y, x != y of data of one plain shape -/
def rEqD (K : PySem.W.Frag) (neg : Bool) : R2 := fun x y H Q => ∃ (d e : PyData) (S : Shape), Dat K H x d ∧ Dat K H y e ∧ SeqAt.plainShape S = true ∧ S.has d = true ∧ S.has e = true ∧ SeqAt.shaped d = true ∧ SeqAt.shaped e = true ∧
  Q (.bl (if neg then !PySem.Spec.same d e else PySem.Spec.same d e)) H
theorem op_eqD {X : Cx} (hu : X.A.units + 64 < cLine) : OpR X (compareOp .Eq) (rEqD X.K false) := by
  intro pins s σ H x y v u Q I rx ry h
  obtain ⟨d, e, S, hd, he, hp, h1, h2, h3, h4, q⟩ := h
  obtain ⟨as, ra⟩ := hd.reads I rx
  obtain ⟨bs, rb⟩ := he.reads I ry
  exact eq_dataH_same ra rb h3 h4 hu (SeqAt.noMix_of_shape S hp _ _ h1 h2) ⟨.bl (PySem.Spec.same d e), H, I, rfl, q⟩
theorem op_neD {X : Cx} (hu : X.A.units + 64 < cLine) : OpR X (compareOp .NotEq) (rEqD X.K true) := by
  intro pins s σ H x y v u Q I rx ry h
  obtain ⟨d, e, S, hd, he, hp, h1, h2, h3, h4, q⟩ := h
  obtain ⟨as, ra⟩ := hd.reads I rx
  obtain ⟨bs, rb⟩ := he.reads I ry
  exact ne_dataH_same ra rb h3 h4 hu (SeqAt.noMix_of_shape S hp _ _ h1 h2) ⟨.bl (!PySem.Spec.same d e), H, I, rfl, q⟩
end
/-! ### lists of pairs -/
def prD (p : Int × Int) : PyData := .tuple [.int p.1, .int p.2]
theorem prD_lay : ∀ ps : List (Int × Int), PyData.canLayAll0 (ps.map prD) = true
  | [] => rfl
  | _ :: r => by simp [PyData.canLayAll0, PyData.canLay0, prD, prD_lay r]
theorem prD_deep : ∀ ps : List (Int × Int), PyData.depthAll (ps.map prD) ≤ 1
  | [] => by simp [PyData.depthAll]
  | _ :: r => by
    have := prD_deep r
    simp [PyData.depthAll, PyData.depth, prD]
    omega
theorem prD_shaped (ps : List (Int × Int)) : SeqAt.shaped (.list (ps.map prD)) = true := by
  have := prD_deep ps
  simp [SeqAt.shaped, PyData.canLay0, PyData.depth, prD_lay]
  omega
theorem prD_same : ∀ ps qs : List (Int × Int), PySem.Spec.sameAll (ps.map prD) (qs.map prD) = decide (ps = qs)
  | [], [] => by simp [PySem.Spec.sameAll]
  | [], _ :: _ => by simp [PySem.Spec.sameAll]
  | _ :: _, [] => by simp [PySem.Spec.sameAll]
  | (a, b) :: r, (c, d) :: t => by
    simp only [List.map_cons, PySem.Spec.sameAll, prD_same r t]
    simp only [prD, PySem.Spec.same, PySem.Spec.sameAll]
    by_cases h : a = c <;> by_cases h' : b = d <;> by_cases h'' : r = t <;> simp [h, h', h'']
theorem prD_has (ps : List (Int × Int)) : (Shape.list (.tuple [.int, .int])).has (.list (ps.map prD)) = true := by
  simp [Shape.has, prD, Shape.hasAll]
/-- a list of pairs of ints at l -/
def TP2 (K : PySem.W.Frag) (H : Hp) (l : Addr) (prs : List (Int × Int)) : Prop := ∃ ps : List Addr, SqL K H l (ps.map V.ref) ∧ ps.length = prs.length ∧ ∀ (j : Nat) (p : Addr), ps[j]? = some p → ∃ q, prs[j]? = some q ∧ SqT K H p [.int q.1, .int q.2]
theorem datAll_pairs {K : PySem.W.Frag} {H : Hp} : ∀ {ps : List Addr} {prs : List (Int × Int)}, ps.length = prs.length → (∀ (j : Nat) (p : Addr), ps[j]? = some p → ∃ q, prs[j]? = some q ∧ SqT K H p [.int q.1, .int q.2]) → DatAll K H (ps.map V.ref) (prs.map prD)
  | [], [], _, _ => .nil
  | [], _ :: _, h, _ => by simp at h
  | _ :: _, [], h, _ => by simp at h
  | p :: ps, q :: prs, hl, h => by
    obtain ⟨q', e, hq⟩ := h 0 p rfl
    cases Option.some.inj (show some q = some q' from e)
    exact .cons (.tup hq (.cons (.int _) (.cons (.int _) .nil))) (datAll_pairs (by simpa using hl) fun j p' e => h (j + 1) p' e)
theorem TP2.dat {K : PySem.W.Frag} {H : Hp} {l : Addr} {prs : List (Int × Int)} (h : TP2 K H l prs) : Dat K H (.ref l) (.list (prs.map prD)) := by
  obtain ⟨ps, h1, h2, h3⟩ := h
  exact .lst h1 (datAll_pairs h2 h3)
def rEqP (K : PySem.W.Frag) (neg : Bool) : R2 := fun x y H Q => ∃ (a b : Addr) (ps qs : List (Int × Int)), x = .ref a ∧ y = .ref b ∧ TP2 K H a ps ∧ TP2 K H b qs ∧ Q (.bl (if neg then !decide (ps = qs) else decide (ps = qs))) H
theorem op_neP {X : Cx} (hu : X.A.units + 64 < cLine) : OpR X (compareOp .NotEq) (rEqP X.K true) := by
  intro pins s σ H x y v u Q I rx ry h
  obtain ⟨a, b, ps, qs, rfl, rfl, ha, hb, q⟩ := h
  refine op_neD hu pins s σ H _ _ v u Q I rx ry ⟨_, _, .list (.tuple [.int, .int]), ha.dat, hb.dat, rfl, prD_has ps, prD_has qs, prD_shaped ps, prD_shaped qs, ?_⟩
  rw [show PySem.Spec.same (.list (ps.map prD)) (.list (qs.map prD)) = decide (ps = qs) by rw [PySem.Spec.same]; exact prD_same ps qs]
  exact q
/-! ### comprehensions with a test -/
end L2

namespace L2
open PySem PySem.Spec PyProof.Rows
/-! ### max(xs, default = d) -/
section
variable {prog : Program} {w : World} {A : Around}
theorem fun_treeK {id : String} {b : Builtin} {args : List Value} {kw : List (Str × Value)} {E : Value → Shared → Prop} {s : Shared} {Q : Value → Shared → Prop} (hk : builtinKind id = none) (hp : plainId id = true) (hb : entryFor table id = some b) (ha : argsOk id ⟨args, kw⟩)
    (hc : wpAny (model prog w) A.in1 (b ⟨args, kw⟩) (fun fin s' => match fin with
      | .done f => (match (Except.ok f : Result) with | .ok (.ret v) => Q v s' | .ok _ => False | .error e => E e s')
      | .again c' => c'.quiet = true ∧ codeAny (model prog w) A c' (fun r s' => match r with | .ok (.ret v) => Q v s' | .ok _ => False | .error e => E e s') s') E s) :
    wpAny (model prog w) A (call (.builtin id) args kw) Q E s := by
  refine wpAny_call (codeAny_call_builtin hp hb ?_)
  simp only [checkBuiltinCall, hk]
  cases hs : Manifest.signature? id with
  | none => exact wpAny_pure hc
  | some sg =>
    have h2 : Bind.checkArgs id sg ⟨args, kw⟩ = pure () := by simpa only [argsOk, hs] using ha
    simp only [h2]
    exact wpAny_pure hc
variable {R : Result → Shared → Prop} {I : Addr} {fp wr : List Addr} {n : Nat} {P : Nat → Value → Prop} {St : Nat → Heap → Prop} {kw : List (Str × Value)}
theorem nm_max : (toString "max" ++ toString ".loop" : String) = "max.loop" := by decide
theorem max_goK (W : Walks prog w A.in1 I fp wr n P St) (bt : Nat → Nat → Bool) (hb : CmpOf prog w A.in1 .Gt P bt) (S : Addr) (nS : S ∉ fp) :
    ∀ (k j : Nat) (s : Shared) (vb : Value) (c : Nat), n - (j + 1) = k → j + 1 ≤ n → St (j + 1) s.heap → P (argBest bt j) vb →
    s.heap.get? S = some { cls := .type "list", dict := none, data := .seq #[vb, vb] c, slots := #[] } →
    (∀ v h' tk, P (argBest bt (n - 1)) v → (∀ b o, b ∉ wr → b ≠ S → s.heap.get? b = some o → h'.get? b = some o) → R (.ok (.ret v)) { s with heap := h', toks := tk }) →
    codeAny (model prog w) A (.builtin "max.loop" ⟨[.ref I, .none, .ref S], kw⟩) R s := by
  have nw : S ∉ wr := fun z => nS (W.sub _ z)
  intro k
  induction k with
  | zero =>
    intro j s vb c hk hj st pb gS out
    have ej : j + 1 = n := by omega
    refine codeAny_builtin F.entry_max_loop ?_
    rw [Around.under_plainId F.plain_max_loop _]
    show wpAny _ A.in1 (seqItems? (.ref S) >>= _) _ _ s
    refine wpAny_bind (wpAny_seqItems gS rfl ?_)
    show wpAny _ A.in1 (tryCatch (pyNext (.ref I)) _ >>= _) _ _ s
    refine wpAny_bind (wpAny_tryCatch (W.done s _ _ (ej ▸ st) fun h1 tk1 keep => ?_))
    have gS1 := keep S _ nw gS
    show wpAny _ A.in1 (updateSeq S (fun _ => #[]) >>= _) _ _ _
    refine wpAny_bind ?_
    refine wpAny_updateSeq gS1 rfl (wpAny_bind (wpAny_letGo (wpAny_pure ?_)))
    refine out vb _ tk1 (by rw [← ej]; exact pb) fun b o hw hS e => ?_
    exact (Heap.get?_update_other _ _ (Ne.symm hS)).trans (keep b o hw e)
  | succ k ih =>
    intro j s vb c hk hj st pb gS out
    have hlt : j + 1 < n := by omega
    refine codeAny_builtin F.entry_max_loop ?_
    rw [Around.under_plainId F.plain_max_loop _]
    show wpAny _ A.in1 (seqItems? (.ref S) >>= _) _ _ s
    refine wpAny_bind (wpAny_seqItems gS rfl ?_)
    show wpAny _ A.in1 (tryCatch (pyNext (.ref I)) _ >>= _) _ _ s
    refine wpAny_bind (wpAny_tryCatch (W.item (j + 1) s _ _ hlt st fun v h1 tk1 pv st1 keep => ?_))
    have gS1 := keep S _ nw gS
    show wpAny _ A.in1 (tryCatch (holding [v, v] (richCompare .Gt v vb >>= _)) _ >>= _) _ _ _
    refine wpAny_bind (wpAny_tryCatch (wpAny_holding (wpAny_bind (hb (j + 1) (argBest bt j) v vb _ _ _ pv pb ?_))))
    refine wpAny_bind (wpAny_holding (wpAny_truthy_bool ?_))
    refine wpAny_bind (wpAny_letGo (wpAny_pure ?_))
    cases q : bt (j + 1) (argBest bt j) with
    | true =>
      simp only [if_true]
      refine wpAny_bind ?_
      refine wpAny_updateSeq gS1 rfl (wpAny_bind (wpAny_letGo ?_))
      rw [nm_max]
      refine wpAny_pure ⟨plainId_quiet F.plain_max_loop _, ih (j + 1) _ v _ (by omega) hlt (W.frame _ _ _ st1 fun b hf o e => ?_) (by simp only [argBest, q, if_true]; exact pv) (Heap.get?_update_self _ gS1 rfl) fun v2 h2 tk2 p2 keep2 => ?_⟩
      · exact (Heap.get?_update_other _ _ (fun z : S = b => nS (by rw [z]; exact hf))).trans e
      · exact out v2 h2 tk2 p2 fun b o hw hS e => keep2 b o hw hS ((Heap.get?_update_other _ _ (Ne.symm hS)).trans (keep b o hw e))
    | false =>
      simp only [Bool.false_eq_true, if_false]
      refine wpAny_bind (wpAny_letGo ?_)
      rw [nm_max]
      refine wpAny_pure ⟨plainId_quiet F.plain_max_loop _, ih (j + 1) _ vb c (by omega) hlt st1 (by simp only [argBest, q, Bool.false_eq_true, if_false]; exact pb) gS1 fun v2 h2 tk2 p2 keep2 => ?_⟩
      exact out v2 h2 tk2 p2 fun b o hw hS e => keep2 b o hw hS (keep b o hw e)
theorem max_oneK (W : Walks prog w A.in1 I fp wr n P St) (bt : Nat → Nat → Bool) (hb : CmpOf prog w A.in1 .Gt P bt) (S : Addr) (nS : S ∉ fp) (hn : 0 < n) {s : Shared} {c : Nat} (st : St 0 s.heap)
    (gS : s.heap.get? S = some { cls := .type "list", dict := none, data := .seq #[] c, slots := #[] })
    (out : ∀ v h' tk, P (argBest bt (n - 1)) v → (∀ b o, b ∉ wr → b ≠ S → s.heap.get? b = some o → h'.get? b = some o) → R (.ok (.ret v)) { s with heap := h', toks := tk }) :
    codeAny (model prog w) A (.builtin "max.loop" ⟨[.ref I, .none, .ref S], kw⟩) R s := by
  have nw : S ∉ wr := fun z => nS (W.sub _ z)
  refine codeAny_builtin F.entry_max_loop ?_
  rw [Around.under_plainId F.plain_max_loop _]
  show wpAny _ A.in1 (seqItems? (.ref S) >>= _) _ _ s
  refine wpAny_bind (wpAny_seqItems gS rfl ?_)
  show wpAny _ A.in1 (tryCatch (pyNext (.ref I)) _ >>= _) _ _ s
  refine wpAny_bind (wpAny_tryCatch (W.item 0 s _ _ hn st fun v h1 tk1 pv st1 keep => ?_))
  have gS1 := keep S _ nw gS
  show wpAny _ A.in1 (updateSeq S (fun _ => #[v, v]) >>= _) _ _ _
  refine wpAny_bind ?_
  refine wpAny_updateSeq gS1 rfl ?_
  rw [nm_max]
  refine wpAny_pure ⟨plainId_quiet F.plain_max_loop _, max_goK W bt hb S nS _ 0 _ v _ rfl hn (W.frame _ _ _ st1 fun b hf o e => ?_) pv (Heap.get?_update_self _ gS1 rfl) fun v2 h2 tk2 p2 keep2 => ?_⟩
  · exact (Heap.get?_update_other _ _ (fun z : S = b => nS (by rw [z]; exact hf))).trans e
  · exact out v2 h2 tk2 p2 fun b o hw hS e => keep2 b o hw hS ((Heap.get?_update_other _ _ (Ne.symm hS)).trans (keep b o hw e))
/-- nothing to walk: the default -/
theorem max_noneK {x : Str} {d : Value} (W : Walks prog w A.in1 I fp wr 0 P St) (S : Addr) (nS : S ∉ fp) {s : Shared} {c : Nat} (st : St 0 s.heap)
    (gS : s.heap.get? S = some { cls := .type "list", dict := none, data := .seq #[] c, slots := #[] })
    (out : ∀ h' tk, (∀ b o, b ∉ wr → s.heap.get? b = some o → h'.get? b = some o) → R (.ok (.ret d)) { s with heap := h', toks := tk }) :
    codeAny (model prog w) A (.builtin "max.loop" ⟨[.ref I, .none, .ref S], [(x, d)]⟩) R s := by
  refine codeAny_builtin F.entry_max_loop ?_
  rw [Around.under_plainId F.plain_max_loop _]
  show wpAny _ A.in1 (seqItems? (.ref S) >>= _) _ _ s
  refine wpAny_bind (wpAny_seqItems gS rfl ?_)
  show wpAny _ A.in1 (tryCatch (pyNext (.ref I)) _ >>= _) _ _ s
  refine wpAny_bind (wpAny_tryCatch (W.done s _ _ st fun h1 tk1 keep => ?_))
  show wpAny _ A.in1 (rule _ >>= fun _ => ret d) _ _ _
  exact wpAny_bind (wpAny_rule (wpAny_pure (out h1 tk1 keep)))
end
theorem args_maxD (a d : Value) : argsOk "max" ⟨[a], [("default", d)]⟩ := by unfold argsOk; kernel_rfl
section
variable {X : Cx} {pins : List (Addr × Obj)} {σ : St} {H : Hp} {s : Shared}
theorem max_default {p : Addr} {d : Value} {ns : List Int} {Q : Value → Shared → Prop} {E : Value → Shared → Prop} (hc : X.calm = true) (I : Inv X pins σ H s) (hq : SqL X.K H p (ns.map V.int))
    (h0 : ns = [] → ∀ h' tk, (∀ b o, s.heap.get? b = some o → h'.get? b = some o) → Q d { s with heap := h', toks := tk })
    (h1 : ns ≠ [] → ∀ M t h' tk, M ∈ ns → (∀ a, a ∈ ns → a ≤ M) → (∀ b o, s.heap.get? b = some o → h'.get? b = some o) → Q (.int M t) { s with heap := h', toks := tk }) :
    wpAny (model X.prog X.w) X.A (call (.builtin "max") [.ref p] [("default", d)]) Q E s := by
  obtain ⟨its, r', pl, hz⟩ := I.list hq
  have hi := intsAre_of r'
  obtain ⟨xs, hx⟩ := hi.allInts.items
  have hl' : s.heap.IsList p (intItems xs) := hx ▸ pl.isList
  have e1 : ns = xs.toList.map (·.1) := by
    rw [← nums_intItems, ← hx]
    exact (show numsOf its.toArray.toList = ns from hi.numsOf).symm
  have hnl : ns.length = xs.size := by rw [e1, List.length_map, Array.length_toList]
  have hh : X.A.handled = none := I.ok.hd hc
  refine fun_treeK F.kind_max F.plain_max F.entry_max (args_maxD _ _) ?_
  show wpAny _ X.A.in1 (Builtin.Builtins.bindParams "max" ["key", "default"] 0 ⟨[], [("default", d)]⟩ >>= _) _ _ s
  refine wpAny_bind (wpAny_of_eq (show Builtin.Builtins.bindParams "max" ["key", "default"] 0 ⟨[], [("default", d)]⟩ = pure [none, some d] from rfl) ?_)
  refine wpAny_bind (wpAny_pure ?_)
  refine wpAny_bind (iter_intList hl' fun s₂ e st hfp hlI => ?_)
  subst e
  refine wpAny_bind (wpAny_newObj_type ?_)
  rw [nm_max]
  have W := Walks.list (prog := X.prog) (w := X.w) (A := X.A.in1) hh s.heap.objs.size p hlI (intItems xs)
  have nS : (s.heap.push { cls := .type "list_iterator", data := .fields #[.ref p, .int 0 0] }).objs.size ∉ [s.heap.objs.size, p] := fun z => Nat.lt_irrefl _ (hfp _ z)
  have keepAll : ∀ {h' : Heap}, (∀ b o, b ∉ [s.heap.objs.size] → b ≠ (s.heap.push { cls := .type "list_iterator", data := .fields #[.ref p, .int 0 0] }).objs.size →
      ((s.heap.push { cls := .type "list_iterator", data := .fields #[.ref p, .int 0 0] }).push { cls := .type "list", data := .seq #[] }).get? b = some o → h'.get? b = some o) → ∀ b o, s.heap.get? b = some o → h'.get? b = some o := fun {h'} k b o e => by
    have hb := Heap.lt_size e
    refine k b o (fun z => ?_) (fun z => ?_) (Heap.get?_push_of_some _ (Heap.get?_push_of_some _ e))
    · have : b = s.heap.objs.size := by simpa using z
      exact absurd hb (by rw [this]; exact Nat.lt_irrefl _)
    · rw [Heap.size_push] at z
      exact absurd hb (by rw [z]; exact Nat.not_lt.mpr (Nat.le_succ _))
  by_cases hne : ns = []
  · have hz0 : (intItems xs).size = 0 := by
      have : xs.size = 0 := by rw [← hnl, hne]; rfl
      simpa [intItems] using this
    rw [hz0] at W
    refine wpAny_pure ⟨plainId_quiet F.plain_max_loop _, max_noneK W _ nS (W.frame 0 _ _ st fun b _ o e => Heap.get?_push_of_some _ e) (Heap.get?_push_size _ rfl) fun h' tk keep => ?_⟩
    exact h0 hne h' tk (keepAll fun b o h1 _ e => keep b o h1 e)
  · have hsz : 0 < xs.size := by rw [← hnl]; exact List.length_pos_iff.mpr hne
    refine wpAny_pure ⟨plainId_quiet F.plain_max_loop _, max_oneK W _ (CmpOf.ints_gt (numAt xs) (fun _ _ => intItems_at)) _ nS (by simpa [intItems] using hsz) (W.frame 0 _ _ st fun b _ o e => Heap.get?_push_of_some _ e) (Heap.get?_push_size _ rfl) fun v h' tk hv keep => ?_⟩
    have hv' : (intItems xs)[argBest (fun i j => decide (numAt xs i > numAt xs j)) (xs.size - 1)]? = some v := by simpa [intItems] using hv
    obtain ⟨t, rfl⟩ := intItems_at hv'
    obtain ⟨g1, g2⟩ := argBest_gt (numAt xs) (xs.size - 1)
    refine h1 hne _ t h' tk ?_ (fun a ha => ?_) (keepAll keep)
    · rw [e1, numAt_eq]; exact getD_mem (by rw [List.length_map, Array.length_toList]; omega)
    · rw [e1] at ha
      obtain ⟨j, hj, rfl⟩ := mem_getD ha
      rw [List.length_map, Array.length_toList] at hj
      rw [← numAt_eq]; exact g2 j (by omega)
end
section
variable {X : Cx}
def tMaxD (K : PySem.W.Frag) (ta : TA) (td : TE) : TE := fun σ H Q => ta σ H fun vs H1 => td σ H1 fun dv H2 => ∃ (p : Addr) (ns : List Int) (z : Int), vs = [.ref p] ∧ dv = .int z ∧ SqL K H2 p (ns.map V.int) ∧
  (ns = [] → Q (.int z) H2) ∧ (ns ≠ [] → ∀ M, M ∈ ns → (∀ a, a ∈ ns → a ≤ M) → Q (.int M) H2)
theorem pe_maxD {e d : Expr} {ta : TA} {td : TE} {p kp pos : Pos} (hc : X.calm = true) (hg : Gl X "max") (hm : X.mg "max" = none) (ha : PA X [e] ta) (hd : PE X d td)
    (he : backTo pos (starEach [e] X.env) = (false, eval e X.env) :: backTo pos (starEach [] X.env) := by rfl) (hpl : (backTo pos (starEach [e] X.env)).any (·.1) = false := by rfl)
    (hdb : (("max" : Str) == ("__debug__" : Str)) = false := by decide) : PE X (.Call (.Name "max" p) [e] [⟨some "default", d, kp⟩] pos) (tMaxD X.K ta td) := by
  intro pins s σ H Q I h
  refine wpAny_Call_Name_kw (ld_blt I hg hm boot_max ?_ (by decide) hdb)
  refine callWith_kw (thn (ha pos pins s σ H _ I h) fun us s1 ⟨vs, H1, I1, r1, q1⟩ => kws_cons (thn (hd pins s1 σ H1 _ I1 q1) fun u s2 ⟨dv, H2, I2, r2, q2⟩ => kws_nil ?_)) he hpl rfl rfl
  obtain ⟨p, ns, z, rfl, rfl, hq, q3, q4⟩ := q2
  obtain ⟨u1, rfl, rx⟩ := vals1 r1
  cases rx
  obtain ⟨t, rfl⟩ := r2
  refine max_default hc I2 hq (fun e0 h' tk keep => ⟨.int z, H2, I2.kept keep, ⟨t, rfl⟩, q3 e0⟩) (fun e0 M t h' tk hM hM2 keep => ⟨.int M, H2, I2.kept keep, ⟨t, rfl⟩, q4 e0 M hM hM2⟩)
end
end L2

namespace L2
open PySem PySem.Spec PyProof.Rows
/-! ### lists of new pairs, one by one -/
end L2

namespace Sky
/-! ### links, shown bars, reaches told backwards -/
def linksL (b : List Int) : List Int := (starts b).map fun s => s - 1
theorem linksL_length (b : List Int) : (linksL b).length = b.length := by simp [linksL, starts_length]
theorem linksL_take {b : List Int} {i : Nat} (hi : i < b.length) : (linksL b).take (i + 1) = (linksL b).take i ++ [((stN b i : Nat) : Int) - 1] := by
  unfold linksL
  rw [← List.map_take, starts_take hi, List.map_append, ← List.map_take]; rfl
end Sky

namespace Sky
open PySem L2
theorem TL.tp {K : PySem.W.Frag} {H : Hp} {l : Addr} {prs : List (Int × Int)} (h : TL H l prs) : TP2 K H l prs := by
  obtain ⟨ps, a, b, c⟩ := h
  exact ⟨ps, SqL.of a, b, fun j p e => by obtain ⟨q, c1, c2⟩ := c j p e; exact ⟨q, c1, SqT.of c2⟩⟩
theorem ifT (b : Bool) : (if true = true then !b else b) = !b := by simp
theorem ifF (b : Bool) : (if false = true then !b else b) = b := by simp
theorem iteNeg {c A B : Prop} [Decidable c] (hc : c) (h : B) : if (if true = true then !decide c else decide c) = true then A else B := by rw [ifT, decide_eq_true hc]; exact iteF h
theorem atI_map' {xs : List Int} {z : Int} (i : Nat) (e : z = (i : Int)) (hi : i < xs.length) : atI (xs.map V.int) z = some (V.int (xs.getD i 0)) := by rw [e]; exact atI_mapM hi
def spNear : Sp := fun vs H Q _ => ∃ (a : Addr) (xs : List Int), vs = [.ref a] ∧ IL H a xs ∧ xs.length ≤ 100 ∧ newL H Q (linksL xs)
end Sky
namespace Sky
open PySem L2
end Sky

namespace Sky
/-! ### water -/
end Sky

namespace Sky
open PySem L2
theorem cut_drop (xs : List Int) (a : Nat) (ha : a ≤ xs.length) : cutV (xs.map V.int) (some ((a : Nat) : Int)) none = (xs.drop a).map V.int := by
  unfold cutV
  rw [HT.sIx_nat, HT.sIx_none, List.length_map, Nat.min_eq_left ha, ← List.map_drop, List.take_of_length_le (by rw [List.length_map, List.length_drop]; exact Nat.le_refl _)]
theorem getD_get {xs : List Int} {i : Nat} (hi : i < xs.length) : xs[i]? = some (xs.getD i 0) := by
  rw [List.getD_eq_getElem?_getD, List.getElem?_eq_getElem hi]; rfl
end Sky

namespace Sky
/-! ### links and rows -/
def Valid (ls : List Int) : Prop := ∀ i, i < ls.length → -1 ≤ ls.getD i 0 ∧ ls.getD i 0 < (i : Int)
def validB (ls : List Int) : Bool := (List.range ls.length).all fun i => decide (-1 ≤ ls.getD i 0 ∧ ls.getD i 0 ≤ (i : Int) - 1)
theorem validB_of {ls : List Int} (h : Valid ls) : validB ls = true := by
  unfold validB
  rw [List.all_eq_true]
  intro i hi
  have := h i (List.mem_range.mp hi)
  exact decide_eq_true (by omega)
/-- the walk from place a by links comes to b -/
inductive OnCh (ls : List Int) : Int → Int → Prop where
  | refl (a : Int) : OnCh ls a a
  | step {a b : Int} (h : 0 ≤ a) (t : OnCh ls (ls.getD a.toNat 0) b) : OnCh ls a b
/-- two places whose links cross -/
def Cross (ls : List Int) (f s : Int) : Prop := 0 ≤ f ∧ f < s ∧ s < (ls.length : Int) ∧ ls.getD f.toNat 0 < ls.getD s.toNat 0 ∧ ls.getD s.toNat 0 < f
instance (ls : List Int) (f s : Int) : Decidable (Cross ls f s) := by unfold Cross; exact inferInstance
def crossB (ls : List Int) (f s : Int) : Bool := decide (Cross ls f s) && validB ls
end Sky

namespace Sky
open PySem L2
/-- a Row's attributes; a Crossed's -/
def rowF (ar : Addr) : List (Str × V) := putF "bars" (.ref ar) []
theorem rowF_bars (ar : Addr) : (rowF ar).lookup ("bars" : Str) = some (.ref ar) := by unfold rowF; rw [lookup_putF, if_pos rfl]
theorem rowF_no (ar : Addr) {x : Str} (h : ¬ x = "bars") : (rowF ar).lookup x = none := by unfold rowF; rw [lookup_putF, if_neg h]; rfl
def crF (f s : Int) : List (Str × V) := putF "second" (.int s) (putF "first" (.int f) [])
theorem crF_first (f s : Int) : (crF f s).lookup ("first" : Str) = some (.int f) := by unfold crF; rw [lookup_putF, if_neg (by decide +kernel), lookup_putF, if_pos rfl]
theorem crF_second (f s : Int) : (crF f s).lookup ("second" : Str) = some (.int s) := by unfold crF; rw [lookup_putF, if_pos rfl]
theorem crF_no (f s : Int) {x : Str} (h : ¬ x = "second") (h' : ¬ x = "first") : (crF f s).lookup x = none := by unfold crF; rw [lookup_putF, if_neg h, lookup_putF, if_neg h']; rfl
structure RCls (K : PySem.W.Frag) (C : Addr) : Prop where
  cl : Cls K C
  n1 : NoAttr K C "bars"
structure CCls (K : PySem.W.Frag) (C : Addr) : Prop where
  cl : Cls K C
  n1 : NoAttr K C "first"
  n2 : NoAttr K C "second"
def spRInit (C : Addr) : Sp := fun vs H Q _ => ∃ (p dx l : Addr) (xs : List Int), vs = [.ref p, .ref l] ∧ H p = some (.ins C dx []) ∧ IL H l xs ∧
  ∀ (ar : Addr) (H' : Hp), H ar = none → H' p = some (.ins C dx (rowF ar)) → IL H' ar xs → (∀ b o, H b = some o → b ≠ p → H' b = some o) → Q .non H'
def spRShows (C : Addr) : Sp := fun vs H Q _ => ∃ (p dx ar a : Addr) (bs ls : List Int), vs = [.ref p, .ref a] ∧ H p = some (.ins C dx (rowF ar)) ∧ IL H ar bs ∧ IL H a ls ∧ bs.length ≤ 100 ∧ ∀ H', Same H H' → Q (.bl (decide (linksL bs = ls))) H'
def spCInit (C : Addr) : Sp := fun vs H Q _ => ∃ (p dx : Addr) (f s : Int), vs = [.ref p, .int f, .int s] ∧ H p = some (.ins C dx []) ∧ ∀ H', H' p = some (.ins C dx (crF f s)) → (∀ b o, H b = some o → b ≠ p → H' b = some o) → Q .non H'
def spCShows (C : Addr) : Sp := fun vs H Q _ => ∃ (p dx a : Addr) (f s : Int) (ls : List Int), vs = [.ref p, .ref a] ∧ H p = some (.ins C dx (crF f s)) ∧ IL H a ls ∧ ls.length ≤ 100 ∧ ∀ H', Same H H' → Q (.bl (crossB ls f s)) H'
def spBelow : Sp := fun vs H Q _ => ∃ (a : Addr) (ls : List Int), vs = [.ref a] ∧ IL H a ls ∧ ls.length ≤ 100 ∧ ∀ H', Same H H' → Q (.bl (validB ls)) H'
theorem ixN_nat {n i : Nat} (h : i < n) : ixN n (i : Int) = some i := by
  unfold ixN
  rw [if_pos (by omega), if_pos (by omega)]; rfl
end Sky

namespace Sky
/-! ### trees -/
/-- what is known of the two neighbours -/
structure Nb (b : List Int) (i : Nat) (a : Int) (q : Nat) : Prop where
  a1 : -1 ≤ a
  a2 : a < i
  a3 : ∀ k : Nat, a < (k : Int) → k < i → b.getD i 0 < b.getD k 0
  a4 : 0 ≤ a → b.getD a.toNat 0 ≤ b.getD i 0
  q1 : i < q
  q2 : q ≤ b.length
  q3 : ∀ k, i < k → k < q → b.getD i 0 ≤ b.getD k 0
  q4 : q < b.length → b.getD q 0 < b.getD i 0
/-- how deep a place hangs -/
inductive Dep (P : List Int) : Nat → Nat → Prop where
  | root {i : Nat} (hi : i < P.length) (h : P.getD i 0 = -1) : Dep P i 0
  | under {i j d : Nat} (hi : i < P.length) (h : P.getD i 0 = (j : Int)) (t : Dep P j d) : Dep P i (d + 1)
end Sky

namespace Sky
/-! ### the program's stack of places, for the tree -/
end Sky

namespace Sky
/-! ### how deep: the program's way -/
structure DInv (P D : List Int) (Pd Wt : List Nat) : Prop where
  len : D.length = P.length
  nd : (Pd ++ Wt).Nodup
  mem : ∀ i, i ∈ Pd ++ Wt ↔ i < P.length ∧ (P.getD i 0 = -1 ∨ ∃ p ∈ Pd, P.getD i 0 = (p : Int))
  dep : ∀ i, i < P.length → (i ∈ Pd ++ Wt → ∃ d : Nat, Dep P i d ∧ D.getD i 0 = (d : Int)) ∧ (i ∉ Pd ++ Wt → D.getD i 0 = -1)
end Sky

namespace Sky
open PySem L2
/-- a list of lists of places -/
structure KL (H : Hp) (bn : Addr) (ps : List Addr) (f : Nat → List Nat) : Prop where
  at_ : H bn = some (.lst (ps.map V.ref))
  nd : ps.Nodup
  it : ∀ (j : Nat) (p : Addr), ps[j]? = some p → IL H p (cst (f j)) ∧ p ≠ bn
end Sky
namespace Sky
open PySem L2
end Sky

namespace L2
open PySem PySem.Spec PyProof.Rows
/-! ### a chain of comparisons as a value -/
def PCv (X : Cx) (pos : Pos) (ops : List CmpOp) (es : List Expr) (t : V → TE) : Prop :=
  ∀ (pins : List (Addr × Obj)) (s : Shared) (σ : St) (H : Hp) (x : V) (v : Value) (Q : VK), Inv X pins σ H s → RelV x v → t x σ H Q → wpAny (model X.prog X.w) X.A (compareChain pos v ops (evalEach es X.env)) (EP X pins σ Q) X.xe s
section
variable {X : Cx} {pos : Pos} {e e' a : Expr} {es : List Expr} {op op' : CmpOp} {ops : List CmpOp} {te ta : TE} {t : V → TE} {r : R2}
def tLinkV (r : R2) (te : TE) (t : V → TE) : V → TE := fun x σ H Q => te σ H fun y H1 => r x y H1 fun z H2 => ∃ k, z = .bl k ∧ (if k = true then t y σ H2 Q else Q (.bl false) H2)
def tLastV (r : R2) (te : TE) : V → TE := fun x σ H Q => te σ H fun y H1 => r x y H1 Q
theorem pcv_last (ho : OpR X (compareOp op) r) (he : PE X e te) : PCv X pos [op] [e] (tLastV r te) := by
  intro pins s σ H x v Q I rx h
  show wpAny _ _ (compareChain pos v [op] [eval e X.env]) _ _ s
  exact chain_last (thn (he pins s σ H _ I h) fun u s2 ⟨y, H2, I2, r2, q2⟩ => ho pins s2 σ H2 x y v u _ I2 rx r2 q2)
theorem pcv_cons (ho : OpR X (compareOp op) r) (he : PE X e te) (ht : PCv X pos (op' :: ops) (e' :: es) t) : PCv X pos (op :: op' :: ops) (e :: e' :: es) (tLinkV r te t) := by
  intro pins s σ H x v Q I rx h
  show wpAny _ _ (compareChain pos v (op :: op' :: ops) (eval e X.env :: eval e' X.env :: evalEach es X.env)) _ _ s
  refine chain_link (thn (he pins s σ H _ I h) fun u s2 ⟨y, H2, I2, r2, q2⟩ => thn (ho pins s2 σ H2 x y v u _ I2 rx r2 q2) fun d s3 ⟨z, H3, I3, r3, k, e3, q3⟩ => ?_)
  subst e3
  cases r3
  refine wpAny_truthy_bool ?_
  cases k with
  | false => rw [if_neg Bool.false_ne_true] at q3; exact ite_ff ⟨.bl false, H3, I3, rfl, q3⟩
  | true => rw [if_pos rfl] at q3; exact ite_tt (ht pins s3 σ H3 y u Q I3 r2 q3)
theorem pe_chn (ha : PE X a ta) (ht : PCv X pos (op :: op' :: ops) (e :: e' :: es) t) (hm : lastMarks (op :: op' :: ops) (e :: e' :: es) = false := by with_unfolding_all rfl) :
    PE X (.Compare a (op :: op' :: ops) (e :: e' :: es) pos) (fun σ H Q => ta σ H fun x H1 => t x σ H1 Q) := by
  intro pins s σ H Q I h
  exact Compare_chain (thn (ha pins s σ H _ I h) fun v s1 ⟨x, H1, I1, r1, q1⟩ => ht pins s1 σ H1 x v Q I1 r1 q1) hm
end
/-! ### x, y, z = a, b, c -/
section
variable {X : Cx} {pos : Pos}
def tPar3 (i j l : Nat) (ta : TA) : TS := fun D σ H => ta σ H fun vs H1 => ∃ u v w, vs = [u, v, w] ∧ D.nx (((σ.set i (some u)).set j (some v)).set l (some w)) H1
theorem ps_par3 {i j l : Nat} {x y z : Str} {a b c : Expr} {ta : TA} {px py pz pt : Pos} {kt k2 pt2} (hc : X.calm = true) (hN : X.N.Nodup) (hi : X.N[i]? = some x) (hj : X.N[j]? = some y) (hl : X.N[l]? = some z) (hij : i ≠ j) (hil : i ≠ l) (hjl : j ≠ l)
    (hx : X.env.scope.names.lookup x = some .local) (hy : X.env.scope.names.lookup y = some .local) (hz : X.env.scope.names.lookup z = some .local) (ha : PA X [a, b, c] ta)
    (hw : swappedStores [.Tuple [.Name x px, .Name y py, .Name z pz] kt pt] (.Tuple [a, b, c] k2 pt2) X.env = pure (some [x, y, z]))
    (hs : swapsWithSole [.Tuple [.Name x px, .Name y py, .Name z pz] kt pt] (.Tuple [a, b, c] k2 pt2) pos.line X.env = pure false := by rfl) :
    PS X (.Assign [.Tuple [.Name x px, .Name y py, .Name z pz] kt pt] (.Tuple [a, b, c] k2 pt2) pos) (tPar3 i j l ta) := by
  intro pins s σ H D I h
  rw [exec_Assign_arm]
  refine wpAny_bind (wpAny_standAt ?_)
  rw [hs]
  refine wpAny_bind (wpAny_pure ?_)
  rw [if_neg (by decide)]
  refine wpAny_bind (Tuple_ (thn (ha _ pins s σ H _ I h) fun us s1 ⟨vs, H1, I1, r1, q1⟩ => ?_))
  obtain ⟨v1, v2, v3, e1, q1⟩ := q1
  subst e1
  obtain ⟨u1, u2, u3, rfl, ra, rb, rc⟩ : ∃ u1 u2 u3, us = [u1, u2, u3] ∧ RelV v1 u1 ∧ RelV v2 u2 ∧ RelV v3 u3 := by
    cases r1 with
    | cons p q =>
      cases q with
      | cons p' q' =>
        cases q' with
        | cons p'' q'' =>
          cases q''
          exact ⟨_, _, _, rfl, p, p', p''⟩
  refine wpAny_newObj_type ?_ (by show 3 ≤ sizeLine; decide)
  have I2 : Inv X pins σ H1 { s1 with heap := s1.heap.push { cls := .type "tuple", data := .seq [u1, u2, u3].toArray } } := I1.kept (t' := s1.toks) fun b o e => Heap.get?_push_of_some _ e
  rw [hw]
  refine wpAny_bind (wpAny_pure ?_)
  show wpAny (model X.prog X.w) X.A (do rule "assign.swapped-stores"; let items ← unpackItems (.ref s1.heap.objs.size) 3 none; assignInOrder [fun v => bindName X.env z v, fun v => bindName X.env y v, fun v => bindName X.env x v] items.reverse; pure Flow.next) _ _ _
  refine wpAny_bind (wpAny_rule (wpAny_bind (unpackItems_tuple (items := #[u1, u2, u3]) (I.ok.hd hc) (IsTup.new s1.heap _) fun h' hx' => ?_)))
  have I3 := I2.kept (h' := h') (t' := s1.toks) fun b o e => hx' b o (Nat.ne_of_lt (Heap.lt_size e)) e
  show wpAny _ _ (assignInOrder [fun v => bindName X.env z v, fun v => bindName X.env y v, fun v => bindName X.env x v] [u3, u2, u1] >>= fun _ => pure Flow.next) _ _ _
  refine wpAny_bind (assignInOrder_cons (wpAny_bindName (store_ok I3 hN hl (.inl hz) rc (fun s2 I4 => ?_) (.inr hz))))
  refine assignInOrder_cons (wpAny_bindName (store_ok I4 hN hj (.inl hy) rb (fun s3 I5 => ?_) (.inr hy)))
  refine assignInOrder_cons (wpAny_bindName (store_ok I5 hN hi (.inl hx) ra (fun s4 I6 => assignInOrder_nil (wpAny_pure ?_)) (.inr hx)))
  have e : ((σ.set l (some v3)).set j (some v2)).set i (some v1) = ((σ.set i (some v1)).set j (some v2)).set l (some v3) := by
    rw [List.set_comm _ _ (Ne.symm hjl), List.set_comm _ _ (Ne.symm hil), List.set_comm _ _ (Ne.symm hij)]
  rw [e] at I6
  exact ⟨_, H1, I6, q1⟩
end
/-! ### for x, y in zip(xs, zs) -/
theorem for_zip {K : PySem.W.Frag} {a b : Addr} {xs zs : List V} {g : TG} {tb : TS} {D : Ends} {σ : St} {H : Hp} (hz : xs.length ≤ zs.length) (Pv : Nat → St → Hp → Prop) (h0 : Pv 0 σ H) (hl : ∀ i σ H, i ≤ xs.length → Pv i σ H → SqL K H a xs ∧ SqL K H b zs)
    (hs : ∀ i x z σ H p, xs[i]? = some x → zs[i]? = some z → Pv i σ H → H p = none → g (.ref p) σ (upd H p (.tup [x, z])) fun σ2 H2 => tb { D with nx := Pv (i + 1), ct := Pv (i + 1), bk := D.nx } σ2 H2) (hd : ∀ σ H, Pv xs.length σ H → D.nx σ H) :
    ∃ W : Nat → Nat → St → Hp → Prop, (∃ m, W 0 m σ H) ∧ ∀ i m σ H, W i m σ H →
      ((Itz K a b).stop i H ∧ D.nx σ H) ∨ ((Itz K a b).go i H ∧ ∃ N : St → Hp → Prop, (∀ σ' H', N σ' H' → ∃ m', m' < m ∧ W (i + 1) m' σ' H') ∧ ∀ x H', (Itz K a b).yld i H x H' → g x σ H' fun σ2 H2 => tb { D with nx := N, ct := N, bk := D.nx } σ2 H2) := by
  refine ⟨fun i m σ H => m = xs.length - i ∧ i ≤ xs.length ∧ Pv i σ H, ⟨xs.length, by simp, Nat.zero_le _, h0⟩, ?_⟩
  rintro i m σ H ⟨rfl, hi, p⟩
  obtain ⟨q1, q2⟩ := hl i σ H hi p
  by_cases hlt : i < xs.length
  · have hlt2 : i < zs.length := by omega
    refine .inr ⟨⟨xs, zs, xs[i], zs[i], q1, q2, by simp [hlt], by simp [hlt2]⟩, Pv (i + 1), fun σ' H' p' => ⟨xs.length - (i + 1), by omega, rfl, hlt, p'⟩, fun v H' y => ?_⟩
    obtain ⟨pp, x, z, hn, e1, e2, y1, y2⟩ := y
    subst e1 e2
    exact hs i x z σ H pp (y1 xs q1) (y2 zs q2) p hn
  · have e : i = xs.length := by omega
    subst e
    exact .inl ⟨⟨xs, q1, Nat.le_refl _⟩, hd σ H p⟩
/-! ### tuples of ints compared -/
theorem tupI_shaped (ns : List Int) : SeqAt.shaped (.tuple (ns.map PyData.int)) = true := by
  simp [SeqAt.shaped, PyData.canLay0, PyData.depth, PySem.W.ke_canLayAll0, PySem.W.ke_depthAll]
theorem datI {K : PySem.W.Frag} {H : Hp} : ∀ ns : List Int, DatAll K H (ns.map V.int) (ns.map PyData.int)
  | [] => .nil
  | n :: r => .cons (.int n) (datI r)
def rEqTI (K : PySem.W.Frag) (neg : Bool) : R2 := fun x y H Q => ∃ (a b : Addr) (ns ms : List Int), x = .ref a ∧ y = .ref b ∧ SqT K H a (ns.map V.int) ∧ SqT K H b (ms.map V.int) ∧ Q (.bl (if neg then !decide (ns = ms) else decide (ns = ms))) H
theorem tupI_same (ns ms : List Int) : PySem.Spec.same (.tuple (ns.map PyData.int)) (.tuple (ms.map PyData.int)) = decide (ns = ms) := by rw [PySem.Spec.same]; exact PySem.W.ke_sameAll ns ms
theorem tupI_has (ns : List Int) : (Shape.tuples .int).has (.tuple (ns.map PyData.int)) = true := by simp [Shape.has]
theorem op_eqTI {X : Cx} (hu : X.A.units + 64 < cLine) : OpR X (compareOp .Eq) (rEqTI X.K false) := by
  intro pins s σ H x y v u Q I rx ry h
  obtain ⟨a, b, ns, ms, rfl, rfl, ha, hb, q⟩ := h
  refine op_eqD hu pins s σ H _ _ v u Q I rx ry ⟨_, _, .tuples .int, .tup ha (datI ns), .tup hb (datI ms), rfl, tupI_has ns, tupI_has ms, tupI_shaped ns, tupI_shaped ms, ?_⟩
  rw [tupI_same]
  exact q
theorem op_neTI {X : Cx} (hu : X.A.units + 64 < cLine) : OpR X (compareOp .NotEq) (rEqTI X.K true) := by
  intro pins s σ H x y v u Q I rx ry h
  obtain ⟨a, b, ns, ms, rfl, rfl, ha, hb, q⟩ := h
  refine op_neD hu pins s σ H _ _ v u Q I rx ry ⟨_, _, .tuples .int, .tup ha (datI ns), .tup hb (datI ms), rfl, tupI_has ns, tupI_has ms, tupI_shaped ns, tupI_shaped ms, ?_⟩
  rw [tupI_same]
  exact q
end L2

namespace Sky
open PySem L2
theorem seq_cut {t u : TS} {D : Ends} {σ : St} {H : Hp} (M : St → Hp → Prop) (h1 : ∀ N : St → Hp → Prop, (∀ σ H, M σ H → N σ H) → t { D with nx := N } σ H) (h2 : ∀ σ H, M σ H → u D σ H) : tSeq t u D σ H := h1 _ h2
/-- a list of pairs, by the places of its tuples -/
structure TLe (H : Hp) (l : Addr) (ps : List Addr) (prs : List (Int × Int)) : Prop where
  at_ : H l = some (.lst (ps.map V.ref))
  len : ps.length = prs.length
  it : ∀ (j : Nat) (p : Addr), ps[j]? = some p → ∃ q, prs[j]? = some q ∧ H p = some (.tup [.int q.1, .int q.2])
theorem TLe.tl {H : Hp} {l : Addr} {ps : List Addr} {prs : List (Int × Int)} (h : TLe H l ps prs) : TL H l prs := ⟨ps, h.at_, h.len, h.it⟩
theorem TL.e {H : Hp} {l : Addr} {prs : List (Int × Int)} (h : TL H l prs) : ∃ ps, TLe H l ps prs := let ⟨ps, a, b, c⟩ := h; ⟨ps, a, b, c⟩
theorem TLe.same {H H' : Hp} {l : Addr} {ps : List Addr} {prs : List (Int × Int)} (h : TLe H l ps prs) (s : Same H H') : TLe H' l ps prs :=
  ⟨s _ _ h.at_, h.len, fun j p e => by obtain ⟨q, a, b⟩ := h.it j p e; exact ⟨q, a, s _ _ b⟩⟩
/-- the items elsewhere -/
theorem TLe.to {H H' : Hp} {l l' : Addr} {ps : List Addr} {prs : List (Int × Int)} (h : TLe H l ps prs) (s : Same H H') (e : H' l' = some (.lst (ps.map V.ref))) : TLe H' l' ps prs :=
  ⟨e, h.len, fun j p e => by obtain ⟨q, a, b⟩ := h.it j p e; exact ⟨q, a, s _ _ b⟩⟩
theorem TLe.set {H : Hp} {l t : Addr} {ps : List Addr} {prs : List (Int × Int)} {q : Int × Int} {i : Nat} (h : TLe H l ps prs) (ht : H t = some (.tup [.int q.1, .int q.2])) : TLe (upd H l (.lst ((ps.map V.ref).set i (.ref t)))) l (ps.set i t) (prs.set i q) := by
  refine ⟨upd_same.trans (by rw [List.map_set]), by rw [List.length_set, List.length_set, h.len], fun j p e => ?_⟩
  have nl : ∀ (b : Addr) (xs : List V), H b = some (.tup xs) → b ≠ l := fun b xs e => ne_of e h.at_ (by intro z; cases z)
  by_cases hij : i = j
  · subst hij
    have hlt : i < ps.length := by have := (List.getElem?_eq_some_iff.mp e).1; rwa [List.length_set] at this
    rw [List.getElem?_set_self hlt] at e
    cases Option.some.inj e
    exact ⟨q, List.getElem?_set_self (by rw [← h.len]; exact hlt), (upd_ne (nl t _ ht)).trans ht⟩
  · rw [List.getElem?_set_ne hij] at e
    obtain ⟨q', a, b⟩ := h.it j p e
    exact ⟨q', by rw [List.getElem?_set_ne hij]; exact a, (upd_ne (nl p _ b)).trans b⟩
theorem TLe.erase {H H' : Hp} {l l' : Addr} {ps : List Addr} {prs : List (Int × Int)} {i : Nat} (h : TLe H l ps prs) (s : Same H H') (hi : i < ps.length) (e : H' l' = some (.lst (((ps.take i).map V.ref) ++ ((ps.drop (i + 1)).map V.ref)))) : TLe H' l' (ps.take i ++ ps.drop (i + 1)) (prs.take i ++ prs.drop (i + 1)) := by
  have hlen := h.len
  refine ⟨by rw [List.map_append]; exact e, by simp only [List.length_append, List.length_take, List.length_drop]; omega, fun j p e => ?_⟩
  by_cases hj : j < i
  · rw [List.getElem?_append_left (by rw [List.length_take]; omega), List.getElem?_take_of_lt hj] at e
    obtain ⟨q, a, b⟩ := h.it j p e
    exact ⟨q, by rw [List.getElem?_append_left (by rw [List.length_take]; omega), List.getElem?_take_of_lt hj]; exact a, s _ _ b⟩
  · rw [List.getElem?_append_right (by rw [List.length_take]; omega), List.length_take, List.getElem?_drop] at e
    obtain ⟨q, a, b⟩ := h.it _ p e
    exact ⟨q, by rw [List.getElem?_append_right (by rw [List.length_take]; omega), List.length_take, List.getElem?_drop, show min i prs.length = min i ps.length by omega]; exact a, s _ _ b⟩
theorem cutV_take (xs : List V) (i : Nat) (hi : i ≤ xs.length) : cutV xs none (some (i : Int)) = xs.take i := by
  unfold cutV
  rw [HT.sIx_nat, HT.sIx_none, List.drop_zero, Nat.sub_zero, Nat.min_eq_left hi]
theorem cutV_drop (xs : List V) (i : Nat) (hi : i ≤ xs.length) : cutV xs (some (i : Int)) none = xs.drop i := by
  unfold cutV
  rw [HT.sIx_nat, HT.sIx_none, Nat.min_eq_left hi, List.take_of_length_le (by rw [List.length_drop]; exact Nat.le_refl _)]
def spSays : Sp := fun vs H Q _ => ∃ x y : Bool, vs = [.bl x, .bl y] ∧ Q (.bl (decide (x = y))) H
def spUnder : Sp := fun vs H Q _ => ∃ (a l : Addr) (f m h : Int) (xs : List Int) (prs : List (Int × Int)), vs = [.ref a, .int f, .int m, .int h, .ref l] ∧ IL H a xs ∧ Hts xs ∧ TL H l prs ∧ prs.length ≤ 200 ∧ (-(2 ^ 64) < h ∧ h < 2 ^ 64) ∧
  ∀ H', Same H H' → Q (.bl (underB xs f m h && ngB xs m h prs)) H'
def spBoardR : Sp := fun vs H Q _ => ∃ (a l : Addr) (f m h : Int) (xs : List Int) (prs : List (Int × Int)), vs = [.ref a, .int f, .int m, .int h, .ref l] ∧ IL H a xs ∧ Hts xs ∧ TL H l prs ∧ prs.length ≤ 200 ∧ (-(2 ^ 64) < h ∧ h < 2 ^ 64) ∧
  ∀ H', Same H H' → Q (.bl true) H'
def spBoardsR : Sp := fun vs H Q _ => ∃ (a : Addr) (z : Int) (xs : List Int), vs = [.ref a, .int z] ∧ IL H a xs ∧ Hts xs ∧ xs ≠ [] ∧ ∀ H', Same H H' → Q (.bl true) H'
def spRowsR : Sp := fun vs H Q _ => ∃ (a o : Addr) (xs ys : List Int), vs = [.ref a, .ref o] ∧ IL H a xs ∧ IL H o ys ∧ xs.length ≤ 90 ∧ ys.length ≤ 90 ∧ ∀ H', Same H H' → Q (.bl true) H'
def spCrossR : Sp := fun vs H Q _ => ∃ (a : Addr) (z : Int) (xs : List Int), vs = [.ref a, .int z] ∧ IL H a xs ∧ xs.length ≤ 90 ∧ ∀ H', Same H H' → Q (.bl true) H'
/-- the bars just outside a pair, and the highest of them -/
def outL (xs : List Int) (o t : Nat) : List Int := (xs.drop (o - 1)).take (o - (o - 1)) ++ (xs.drop (min (t + 1) xs.length)).take (min (t + 2) xs.length - min (t + 1) xs.length)
theorem outL_lo {xs : List Int} {o : Nat} (h : 0 < o) (hl : o ≤ xs.length) : (xs.drop (o - 1)).take (o - (o - 1)) = [xs.getD (o - 1) 0] := by
  rw [show o - (o - 1) = 1 by omega, List.take_one, List.head?_drop, getD_get (by omega)]; rfl
theorem outL_hi {xs : List Int} {t : Nat} (h : t + 1 < xs.length) : (xs.drop (min (t + 1) xs.length)).take (min (t + 2) xs.length - min (t + 1) xs.length) = [xs.getD (t + 1) 0] := by
  rw [Nat.min_eq_left (by omega), Nat.min_eq_left (by omega), show t + 2 - (t + 1) = 1 by omega, List.take_one, List.head?_drop, getD_get h]; rfl
theorem outL_top {xs : List Int} {o t : Nat} {M h : Int} (h0 : 0 ≤ h) (ho : o ≤ xs.length) (ht : t < xs.length) (e0 : outL xs o t = [] → M = -1) (e1 : outL xs o t ≠ [] → M ∈ outL xs o t ∧ ∀ a, a ∈ outL xs o t → a ≤ M) :
    decide (h ≤ M) = !((decide (o = 0) || decide (xs.getD (o - 1) 0 < h)) && (decide (t = xs.length - 1) || decide (xs.getD (t + 1) 0 < h))) := by
  have lo0 : o = 0 → (xs.drop (o - 1)).take (o - (o - 1)) = [] := fun z => by rw [z]; rfl
  have hi0 : t = xs.length - 1 → (xs.drop (min (t + 1) xs.length)).take (min (t + 2) xs.length - min (t + 1) xs.length) = [] := fun z => by
    rw [Nat.min_eq_right (by omega), Nat.min_eq_right (by omega), Nat.sub_self]; rfl
  by_cases ho0 : o = 0 <;> by_cases ht0 : t = xs.length - 1
  · have e : outL xs o t = [] := by unfold outL; rw [lo0 ho0, hi0 ht0]; rfl
    rw [e0 e]
    simp [ho0, ht0]; omega
  · have e : outL xs o t = [xs.getD (t + 1) 0] := by unfold outL; rw [lo0 ho0, outL_hi (by omega)]; rfl
    rw [e] at e1
    obtain ⟨m1, _⟩ := e1 (by simp)
    have m2 : M = xs.getD (t + 1) 0 := by simpa using m1
    rw [m2, decide_eq_true ho0, decide_eq_false ht0, Bool.true_or, Bool.true_and, Bool.false_or]
    by_cases hc : xs.getD (t + 1) 0 < h
    · rw [decide_eq_true hc, decide_eq_false (by omega)]; rfl
    · rw [decide_eq_false hc, decide_eq_true (by omega)]; rfl
  · have e : outL xs o t = [xs.getD (o - 1) 0] := by unfold outL; rw [hi0 ht0, outL_lo (by omega) ho]; rfl
    rw [e] at e1
    obtain ⟨m1, _⟩ := e1 (by simp)
    have m2 : M = xs.getD (o - 1) 0 := by simpa using m1
    rw [m2, decide_eq_true ht0, decide_eq_false ho0, Bool.true_or, Bool.and_true, Bool.false_or]
    by_cases hc : xs.getD (o - 1) 0 < h
    · rw [decide_eq_true hc, decide_eq_false (by omega)]; rfl
    · rw [decide_eq_false hc, decide_eq_true (by omega)]; rfl
  · have e : outL xs o t = [xs.getD (o - 1) 0, xs.getD (t + 1) 0] := by unfold outL; rw [outL_lo (by omega) ho, outL_hi (by omega)]; rfl
    rw [e] at e1
    obtain ⟨m1, m2⟩ := e1 (by simp)
    have a1 := m2 _ (List.mem_cons_self)
    have a2 := m2 (xs.getD (t + 1) 0) (by simp)
    rw [decide_eq_false ho0, decide_eq_false ht0, Bool.false_or, Bool.false_or]
    have m3 : M = xs.getD (o - 1) 0 ∨ M = xs.getD (t + 1) 0 := by simpa using m1
    by_cases hc : xs.getD (o - 1) 0 < h
    · by_cases hd : xs.getD (t + 1) 0 < h
      · rw [decide_eq_true hc, decide_eq_true hd, decide_eq_false (by rcases m3 with z | z <;> omega)]; rfl
      · rw [decide_eq_false hd, Bool.and_false, decide_eq_true (by omega)]; rfl
    · rw [decide_eq_false hc, Bool.false_and, decide_eq_true (by omega)]; rfl
end Sky

namespace Sky
open PySem L2
def top (i : Nat) : Stmt := PySem.Challenge.pw_skybars_k08_answers_by_hand.main.body.getD i (.Pass ⟨0, 0, 0, 0⟩)
abbrev sWithin : Stmt := top 6
abbrev sChk : Stmt := top 7
abbrev sBelow : Stmt := top 8
abbrev sStarts : Stmt := top 10
abbrev sTurned : Stmt := top 11
abbrev sEnds : Stmt := top 12
abbrev sReach : Stmt := top 13
abbrev sInit : Stmt := inClass (top 16) 0
abbrev sShows : Stmt := inClass (top 16) 1
abbrev sLies : Stmt := inClass (top 16) 2
abbrev sNone : Stmt := inClass (top 16) 3
abbrev sCount : Stmt := top 17
abbrev sEndsAt : Stmt := top 18
abbrev sBoard : Stmt := top 19
abbrev sRInit : Stmt := inClass (top 21) 0
abbrev sRShows : Stmt := inClass (top 21) 1
abbrev sCInit : Stmt := inClass (top 22) 0
abbrev sCShows : Stmt := inClass (top 22) 1
abbrev sNear : Stmt := top 23
abbrev sBars : Stmt := top 25
abbrev sLLinks : Stmt := top 26
abbrev sSays : Stmt := top 27
abbrev sUnder : Stmt := top 28
abbrev sBoardR : Stmt := top 29
abbrev sBoardsR : Stmt := top 30
abbrev sRowsR : Stmt := top 31
abbrev sCrossR : Stmt := top 32
abbrev sLaw : Stmt := top 33
end Sky

namespace Sky
open PySem L2
section
variable {P : Program} {w : World} {K : PySem.W.Frag} {mg : Str → Option Value} {base : Heap}
theorem scWithin : FnScope ["value", "least", "most"] ["value", "least", "most"] (defScope sWithin) := ⟨rfl, rfl, rfl, by decide +kernel, rfl, by decide +kernel, by decide +kernel⟩
theorem ok_within {f : Addr} {fd : FuncData} (F : Fun K "is_whole_within" "is_whole_within" sWithin f fd) (B : Blt mg) : FnOk P w K mg base CX0 1 f fd ["value", "least", "most"] spWithin := by
  refine F.ok scWithin (fun vs H Q E h => ?_) (fun cdv A outer s H vs Q E hr h => ?_)
  · obtain ⟨i, lo, hi, rfl, _⟩ := h
    rfl
  · obtain ⟨i, lo, hi, rfl, k⟩ := h
    refine ⟨_, pss_one (ps_ret (pe_and (pe_callB call_isinst rfl B.isinstance boot_isinst' (pa_cons (pv 0) (pa_cons (pe_bltn rfl B.int boot_int' (v := .ty "int") rfl) pa_nil)))
      (pe_and (pe_not (pe_callB call_isinst rfl B.isinstance boot_isinst' (pa_cons (pv 0) (pa_cons (pe_bltn rfl B.bool boot_bool' (v := .ty "bool") rfl) pa_nil)))) (pe_one (pe_chain op_le op_le (pv 1) (pv 0) (pv 2)))))), ?_⟩
    refine ⟨_, rfl, _, _, _, _, _, rfl, .int i, rfl, kit_ii _, true, rfl, iteT ?_⟩
    refine ⟨_, rfl, _, _, _, _, _, rfl, .int i, rfl, kit_ib _, false, rfl, true, rfl, iteT ?_⟩
    refine ⟨_, rfl, _, rfl, lo, i, rfl, rfl, _, rfl, ite2 (fun h => ⟨_, rfl, i, hi, rfl, rfl, ?_⟩) (fun h => ?_)⟩
    · have h' : lo ≤ i := of_decide_eq_true h
      have e : decide (i ≤ hi) = decide (lo ≤ i ∧ i ≤ hi) := by simp [h']
      show Q (.bl (decide (i ≤ hi))) H
      rw [e]; exact k
    · have h' : ¬ lo ≤ i := fun z => h (decide_eq_true z)
      have e : false = decide (lo ≤ i ∧ i ≤ hi) := by simp [h']
      show Q (.bl false) H
      rw [e]; exact k
end
end Sky

namespace Sky
open PySem L2
section
variable {P : Program} {w : World} {K : PySem.W.Frag} {mg : Str → Option Value} {base : Heap}
theorem scChk : FnScope ["bars"] ["bars"] (defScope sChk) := ⟨rfl, rfl, rfl, by decide +kernel, rfl, by decide +kernel, by decide +kernel⟩
theorem ok_chk {f : Addr} {fd : FuncData} (F : Fun K "check_bars" "check_bars" sChk f fd) (B : Blt mg) (hh : Hi mg) (cW : Callee P w K mg base 1 "is_whole_within" ["value", "least", "most"] spWithin) : FnOk P w K mg base CX0 3 f fd ["bars"] spChk := by
  refine F.ok scChk (fun vs H Q E h => ?_) (fun cdv A outer s H vs Q E hr h => ?_)
  · obtain ⟨a, xs, rfl, _⟩ := h
    rfl
  · obtain ⟨t, hh⟩ := hh
    obtain ⟨a, xs, rfl, hS, hb, k⟩ := h
    refine ⟨_, pss_cons (ps_if (pt_not (pt_val (pe_callB call_isinst rfl B.isinstance boot_isinst' (pa_cons (pv 0) (pa_cons (pe_bltn rfl B.list boot_list' (v := .ty "list") rfl) pa_nil))))) pss_never pss_nil)
      (pss_one (ps_if (pt_not (pt_val (pe_callB (call_all rfl) rfl B.all boot_all' (pa_cons (pe_lc (cap := []) ["value"] rfl (CompOk.of (defScope sChk) ["bars"] rfl rfl (by decide +kernel)) (pi_list (pv 0)) (fun C s H fp => pg_name (i := 0) (show List.Nodup (["value"] : List Str) from by decide +kernel) rfl (Or.inl rfl)) (fun C s H fp => pf_nil)
        (fun C s H fp => pe_fn cW (hr.mono (by decide)) rfl (pa_cons (pv 0) (pa_cons pe_int (pa_cons (pe_glob rfl hh (v := .int 10000000) ⟨t, rfl⟩) pa_nil))))) pa_nil)))) pss_never pss_nil)), ?_⟩
    refine ⟨_, rfl, _, _, _, _, _, rfl, .lst hS, rfl, kit_ll _, true, rfl, iteF ?_⟩
    have hz : xs.length ≤ sizeLine := Nat.le_of_lt (small100 hb.1)
    refine ⟨_, rfl, a, rfl, ⟨_, SqL.of hS⟩, fun D hD => lc_listP (xs := xs.map V.int) (fun v => match v with | .int i => .bl (decide (0 ≤ i ∧ i ≤ 10000000)) | _ => .non) hD (SqL.of hS) (by rw [List.length_map]; exact hz) ?_ ?_⟩
    · intro i x ys C s H0 fp R hx hR
      obtain ⟨z, rfl, _⟩ := get_mapM hx
      exact ⟨_, rfl, z, 0, 10000000, rfl, hR⟩
    · refine ⟨D, xs.map (fun i => decide (0 ≤ i ∧ i ≤ 10000000)), rfl, SqL.of (by rw [upd_same, List.map_map, List.map_map]; rfl), _, rfl, ?_⟩
      have e : (xs.map (fun i => decide (0 ≤ i ∧ i ≤ 10000000))).all id = true := by
        rw [List.all_eq_true]
        intro b hb'
        obtain ⟨z, hz, rfl⟩ := List.mem_map.mp hb'
        exact decide_eq_true (hb.2 z hz)
      rw [e]
      exact iteF (k _ (Same.new hD _))
end
end Sky

namespace Sky
open PySem L2
section
variable {P : Program} {w : World} {K : PySem.W.Frag} {mg : Str → Option Value} {base : Heap}
theorem scBelow : FnScope ["links"] ["links"] (defScope sBelow) := ⟨rfl, rfl, rfl, by decide +kernel, rfl, by decide +kernel, by decide +kernel⟩
theorem ok_below {f : Addr} {fd : FuncData} (F : Fun K "all_below_their_places" "all_below_their_places" sBelow f fd) (B : Blt mg) (cW : Callee P w K mg base 1 "is_whole_within" ["value", "least", "most"] spWithin) : FnOk P w K mg base CX0 2 f fd ["links"] spBelow := by
  refine F.ok scBelow (fun vs H Q E h => ?_) (fun cdv A outer s H vs Q E hr h => ?_)
  · obtain ⟨a, ls, rfl, _⟩ := h
    rfl
  · obtain ⟨a, ls, rfl, hS, hl, k⟩ := h
    refine ⟨_, (pss_one (ps_ret (pe_callB (call_all rfl) rfl B.all boot_all' (pa_cons (pe_lc (cap := []) ["place", "value"] rfl (CompOk.of (defScope sBelow) ["links"] rfl rfl (by decide +kernel)) (pi_enum rfl B.enumerate (pa_cons (pv 0) pa_nil)) (fun C s H fp => (pg_tup rfl (pgs_cons (pg_name (i := 0) (show List.Nodup (["place", "value"] : List Str) from by decide +kernel) rfl (Or.inl rfl)) (pgs_cons (pg_name (i := 1) (show List.Nodup (["place", "value"] : List Str) from by decide +kernel) rfl (Or.inl rfl)) pgs_nil)))) (fun C s H fp => pf_nil)
        (fun C s H fp => (pe_fn cW hr rfl (pa_cons (pv 1) (pa_cons (pe_un un_neg pe_int) (pa_cons (pe_op op_sub (pv 0) pe_int) pa_nil)))))) pa_nil)))), ?_⟩
    refine ⟨_, rfl, a, rfl, ⟨_, SqL.of hS⟩, fun D hD => lc_enum (xs := ls.map V.int) (fun C s H0 fp p x z σ H Q' hp hq => ⟨p, _, rfl, SqT.of hp, rfl, _, _, rfl, _, _, rfl, rfl, hq⟩)
      (fun i H2 ys => i ≤ ls.length ∧ Same H H2 ∧ H2 D = some (.lst ys) ∧ ys = ((List.range i).map fun j => decide (-1 ≤ ls.getD j 0 ∧ ls.getD j 0 ≤ (j : Int) - 1)).map V.bl) ⟨Nat.zero_le _, Same.new hD _, upd_same, rfl⟩ (fun i H2 ys _ h => ⟨SqL.of (h.2.1 _ _ hS), h.2.2.1⟩) ?_ ?_⟩
    · rintro i x t H2 ys hx ⟨_, s2, hD2, rfl⟩ ht C s H0 fp
      obtain ⟨z, rfl, b1⟩ := get_mapM hx
      have hi : i < ls.length := (List.getElem?_eq_some_iff.mp b1).1
      have e : ls.getD i 0 = z := by rw [List.getD_eq_getElem?_getD, b1]; rfl
      refine ⟨_, rfl, 1, rfl, _, rfl, _, 1, rfl, rfl, z, -1, _, rfl, (Same.new ht _) _ _ hD2, by rw [List.length_map, List.length_map, List.length_range]; exact small100 (by omega), hi, (s2.put (s2.free ht)).put hD, upd_same, ?_⟩
      rw [List.range_succ, List.map_append, List.map_append]
      show _ ++ [V.bl (decide (-1 ≤ z ∧ z ≤ (i : Int) - 1))] = _ ++ [V.bl (decide (-1 ≤ ls.getD i 0 ∧ ls.getD i 0 ≤ (i : Int) - 1))]
      rw [e]
    · rintro H2 ys ⟨_, s2, hD2, rfl⟩
      refine ⟨D, _, rfl, SqL.of hD2, ?_⟩
      have e : (((List.range (ls.map V.int).length).map fun j => decide (-1 ≤ ls.getD j 0 ∧ ls.getD j 0 ≤ (j : Int) - 1)).all id) = validB ls := by
        rw [List.length_map, List.all_map]; rfl
      rw [e]
      exact k _ s2
end
end Sky

namespace Sky
open PySem L2
section
variable {P : Program} {w : World} {K : PySem.W.Frag} {mg : Str → Option Value} {base : Heap}
theorem scStarts : FnScope ["bars", "starts", "rising", "place", "height"] ["bars"] (defScope sStarts) := ⟨rfl, rfl, rfl, by decide +kernel, rfl, by decide +kernel, by decide +kernel⟩
theorem ok_starts {f : Addr} {fd : FuncData} (F : Fun K "reach_starts" "reach_starts" sStarts f fd) (B : Blt mg) : FnOk P w K mg base CX0 1 f fd ["bars"] spStarts := by
  refine F.ok scStarts (fun vs H Q E h => ?_) (fun cdv A outer s H vs Q E hr h => ?_)
  · obtain ⟨a, xs, rfl, _⟩ := h
    rfl
  · obtain ⟨a, xs, rfl, hS, hl, k⟩ := h
    refine ⟨_, pss_cons (ps_set (i := 1) scStarts.nd rfl (Or.inl rfl) (pe_lst pa_nil))
      (pss_cons (ps_set (i := 2) scStarts.nd rfl (Or.inl rfl) (pe_lst pa_nil))
      (pss_cons (ps_for PassesOwn.never rfl (pi_enum rfl B.enumerate (pa_cons (pv 0) pa_nil)) (pg_tup rfl (pgs_cons (pg_name (i := 3) scStarts.nd rfl (Or.inl rfl)) (pgs_cons (pg_name (i := 4) scStarts.nd rfl (Or.inl rfl)) pgs_nil)))
        (pss_cons (ps_while PassesOwn.never (PW.pt (pw_and (pt_truth (pv 2) (fun _ => rfl)) (pw_and1 (pt_cmpR op_ge (pe_ix ix_list (pv 0) (pe_ix ix_list (pv 2) (pe_un un_neg pe_int) (fun _ _ => rfl)) (fun _ _ => rfl)) (pv 4) (nomark _)))))
          (pss_one (ps_expr (pe_bm0 PySem.F.plainAttrs_list PySem.F.slot_list_pop PySem.F.type_list_pop mt_pop (pv 2)))))
        (pss_cons (ps_expr (pe_bm PySem.F.plainAttrs_list PySem.F.slot_list_append PySem.F.type_list_append mt_append (pv 1) (pa_cons (pe_ifExp (pt_truth (pv 2) (fun _ => rfl)) (pe_op op_add (pe_ix ix_list (pv 2) (pe_un un_neg pe_int) (fun _ _ => rfl)) pe_int) pe_int) pa_nil)))
        (pss_one (ps_expr (pe_bm PySem.F.plainAttrs_list PySem.F.slot_list_append PySem.F.type_list_append mt_append (pv 2) (pa_cons (pv 3) pa_nil)))))))
      (pss_one (ps_ret (pv 1))))), ?_⟩
    refine ⟨Nat.zero_le _, fun c hc => ⟨Nat.zero_le _, fun q hq => ?_⟩⟩
    have hcq : c ≠ q := ne_of_none upd_same hq
    have nq : H q = none := (Same.new hc _).free hq
    have s3 : Same H (upd (upd H c (.lst [])) q (.lst [])) := (Same.new hc _).put nq
    refine ⟨_, rfl, a, rfl, ⟨_, SqL.of (s3 _ _ hS)⟩, for_enum (K := K) (a := a) (xs := xs.map V.int) (fun i σ H2 => ∃ v3 v4, σ = [some (.ref a), some (.ref c), some (.ref q), v3, v4] ∧ Same H H2 ∧ IL H2 c ((starts xs).take i) ∧ IL H2 q (cst (stkP xs i)).reverse)
      ⟨none, none, rfl, s3, (upd_ne hcq).trans upd_same, upd_same⟩ (fun i σ H2 _ ⟨_, _, _, s2, _⟩ => SqL.of (s2 _ _ hS)) ?_ ?_⟩
    · rintro i y σ H2 p hi ⟨v3, v4, rfl, s2, hC, hQ⟩ hp
      obtain ⟨h, rfl, hx⟩ := get_mapM hi
      have hil : i < xs.length := (List.getElem?_eq_some_iff.mp hx).1
      have hxd : xs.getD i 0 = h := by rw [List.getD_eq_getElem?_getD, hx]; rfl
      have s4 : Same H2 (upd H2 p (.tup [.int (i : Nat), .int h])) := Same.new hp _
      refine ⟨p, _, rfl, SqT.of upd_same, rfl, _, _, rfl, _, _, rfl, rfl, ?_⟩
      have s2' := s2.trans s4
      have hC' := s4 _ _ hC
      have hQ' := s4 _ _ hQ
      generalize upd H2 p (.tup [.int (i : Nat), .int h]) = H3 at s2' hC' hQ'
      have hcl : ((starts xs).take i).length ≤ 100 := by rw [List.length_take]; omega
      have fin : ∀ (st : List Nat) (H4 : Hp), Same H H4 → IL H4 c ((starts xs).take i) → IL H4 q (cst st).reverse → st = (stkP xs i).dropWhile (fun j => decide (h ≤ xs.getD j 0)) →
          ∃ v3 v4, ([some (.ref a), some (.ref c), some (.ref q), some (.int (i : Nat)), some (.int h)] : St) = [some (.ref a), some (.ref c), some (.ref q), v3, v4] ∧ Same H (upd (upd H4 c (.lst (((starts xs).take i).map V.int ++ [.int (stN xs i : Nat)]))) q (.lst ((cst st).reverse.map V.int ++ [.int (i : Nat)]))) ∧
            IL (upd (upd H4 c (.lst (((starts xs).take i).map V.int ++ [.int (stN xs i : Nat)]))) q (.lst ((cst st).reverse.map V.int ++ [.int (i : Nat)]))) c ((starts xs).take (i + 1)) ∧
            IL (upd (upd H4 c (.lst (((starts xs).take i).map V.int ++ [.int (stN xs i : Nat)]))) q (.lst ((cst st).reverse.map V.int ++ [.int (i : Nat)]))) q (cst (stkP xs (i + 1))).reverse := by
        intro st H4 s4 hC4 hQ4 hst
        refine ⟨_, _, rfl, (s4.put hc).put nq, (upd_ne hcq).trans (upd_same.trans ?_), upd_same.trans ?_⟩
        · rw [starts_take hil, List.map_append]; rfl
        · have : stkP xs (i + 1) = i :: st := by rw [hst, ← hxd]; rfl
          rw [this]
          show some (HO.lst _) = some (HO.lst (((cst (i :: st)).reverse).map V.int))
          rw [show cst (i :: st) = (i : Int) :: cst st from rfl, List.reverse_cons, List.map_append]; rfl
      refine ⟨fun m σ H4 => ∃ (st : List Nat), σ = [some (.ref a), some (.ref c), some (.ref q), some (.int (i : Nat)), some (.int h)] ∧ Same H H4 ∧ IL H4 c ((starts xs).take i) ∧ IL H4 q (cst st).reverse ∧ m = st.length ∧
        st.dropWhile (fun j => decide (h ≤ xs.getD j 0)) = (stkP xs i).dropWhile (fun j => decide (h ≤ xs.getD j 0)) ∧ (∀ j ∈ st, j < i) ∧ st.length ≤ i,
        ⟨_, stkP xs i, rfl, s2', hC', hQ', rfl, rfl, stkP_lt xs i, stkP_length xs i⟩, ?_⟩
      rintro m σ H4 ⟨st, rfl, s4, hC, hQ, rfl, hd, hj, hsl⟩
      refine ⟨_, rfl, _, .inl ⟨_, SqL.of hQ, rfl⟩, ?_⟩
      cases st with
      | nil =>
        refine iteF (iteF ?_)
        refine ⟨_, rfl, .inl ⟨rfl, _, SqL.of hC⟩, ⟨_, rfl, _, .inl ⟨_, SqL.of hQ, rfl⟩, iteF ?_⟩⟩
        refine ⟨c, _, _, rfl, rfl, hC, by rw [List.length_map]; exact small100 hcl, ?_⟩
        have hQ5 : ∀ o, (upd H4 c o) q = some (.lst ((cst []).reverse.map V.int)) := fun o => (upd_ne hcq.symm).trans hQ
        refine ⟨_, rfl, .inl ⟨rfl, _, SqL.of (hQ5 _)⟩, _, rfl, q, _, _, rfl, rfl, hQ5 _, small1000 (Nat.zero_le _), ?_⟩
        have e0 : stN xs i = 0 := stN_nil (by rw [hxd]; exact hd)
        have := fin [] H4 s4 hC hQ hd
        rw [e0] at this
        exact this
      | cons y st =>
        have hem : (!((cst (y :: st)).reverse.map V.int).isEmpty) = true := by simp
        rw [hem]
        refine iteT ?_
        have hyi : y < i := hj y List.mem_cons_self
        refine ⟨_, rfl, _, rfl, 1, rfl, q, _, -1, _, rfl, rfl, SqL.of hQ, atI_lastM (cst st) y, a, _, _, _, rfl, rfl, SqL.of (s4 _ _ hS), atI_mapM (by omega), _, rfl, _, h, rfl, rfl, _, rfl, ite2 (fun hy => ?_) (fun hy => ?_)⟩
        · refine ⟨_, fun _ _ z => z, ?_⟩
          refine ⟨_, rfl, .inl ⟨rfl, _, SqL.of hQ⟩, q, _, _, rfl, rfl, hQ, get_lastM (cst st) y, ?_⟩
          refine ⟨st.length, Nat.lt_succ_self _, st, rfl, s4.put nq, (upd_ne hcq).trans hC, upd_same.trans ?_, rfl, ?_, fun j hj' => hj j (List.mem_cons_of_mem _ hj'), Nat.le_of_succ_le hsl⟩
          · show some (HO.lst ((((y : Int) :: cst st).reverse.map V.int).dropLast)) = _
            rw [dropLastM]
          · rw [← hd, List.dropWhile_cons, if_pos hy]
        · have hy' : (y :: st).dropWhile (fun j => decide (h ≤ xs.getD j 0)) = y :: st := by rw [List.dropWhile_cons, if_neg hy]
          rw [hy'] at hd
          refine ⟨_, rfl, .inl ⟨rfl, _, SqL.of hC⟩, ⟨_, rfl, _, .inl ⟨_, SqL.of hQ, rfl⟩, ?_⟩⟩
          rw [hem]
          refine iteT ?_
          refine ⟨_, rfl, 1, rfl, q, _, -1, _, rfl, rfl, SqL.of hQ, atI_lastM (cst st) y, _, 1, rfl, rfl, c, _, _, rfl, rfl, hC, by rw [List.length_map]; exact small100 hcl, ?_⟩
          have hQ5 : ∀ o, (upd H4 c o) q = some (.lst ((cst (y :: st)).reverse.map V.int)) := fun o => (upd_ne hcq.symm).trans hQ
          refine ⟨_, rfl, .inl ⟨rfl, _, SqL.of (hQ5 _)⟩, _, rfl, q, _, _, rfl, rfl, hQ5 _, by rw [List.length_map, List.length_reverse, List.length_map]; exact small100 (by omega), ?_⟩
          have e0 : stN xs i = y + 1 := stN_cons (by rw [hxd]; exact hd)
          have := fin (y :: st) H4 s4 hC hQ hd
          rw [e0] at this
          exact this
    · rintro σ H2 ⟨v3, v4, rfl, s2, hC, hQ⟩
      refine ⟨_, rfl, k c H2 hc s2 ?_⟩
      rw [List.length_map] at hC
      have e : (starts xs).take xs.length = starts xs := List.take_of_length_le (by rw [starts_length]; exact Nat.le_refl _)
      rw [e] at hC
      exact hC
end
end Sky

namespace Sky
open PySem L2
section
variable {P : Program} {w : World} {K : PySem.W.Frag} {mg : Str → Option Value} {base : Heap}
theorem scTurned : FnScope ["places", "final"] ["places"] (defScope sTurned) := ⟨rfl, rfl, rfl, by decide +kernel, rfl, by decide +kernel, by decide +kernel⟩
theorem ok_turned {f : Addr} {fd : FuncData} (F : Fun K "turned" "turned" sTurned f fd) (B : Blt mg) : FnOk P w K mg base CX0 1 f fd ["places"] spTurned := by
  refine F.ok scTurned (fun vs H Q E h => ?_) (fun cdv A outer s H vs Q E hr h => ?_)
  · obtain ⟨a, xs, rfl, _⟩ := h
    rfl
  · obtain ⟨a, xs, rfl, hS, hl, k⟩ := h
    refine ⟨_, pss_cons (ps_set (i := 1) scTurned.nd rfl (Or.inr rfl) (pe_op op_sub (pe_callB call_len_seq rfl B.len PySem.boot_len (pa_cons (pv 0) pa_nil)) pe_int))
      (pss_one (ps_ret (pe_lc (cap := [1]) ["place"] rfl (CompOk.of (defScope sTurned) ["places", "final"] rfl rfl (by decide +kernel)) (PIV.pi (piv_rev rfl B.reversed (pa_cons (pv 0) pa_nil))) (fun C s H fp => pg_name (i := 0) (show List.Nodup (["place", "final"] : List Str) from by decide +kernel) rfl (Or.inl rfl)) (fun C s H fp => pf_nil)
        (fun C s H fp => pe_op op_sub (pv 1) (pv 0))))), ?_⟩
    refine ⟨_, rfl, a, _, rfl, .inl (SqL.of hS), _, 1, rfl, rfl, ?_⟩
    refine ⟨_, rfl, a, _, rfl, SqL.of hS, fun D hD => lc_revP (xs := xs.map V.int) (fun v => match v with | .int x => .int ((((xs.map V.int).length : Nat) : Int) - 1 - x) | _ => .non) hD (SqL.of hS) (by rw [List.length_map]; exact Nat.le_of_lt (small100 hl)) ?_ ?_⟩
    · intro i x ys C s H0 fp R hx hR
      obtain ⟨z, rfl, _⟩ := get_mapM hx
      exact ⟨_, rfl, _, rfl, _, z, rfl, rfl, hR⟩
    · refine k D _ hD (Same.new hD _) (upd_same.trans ?_)
      rw [List.map_map, ← List.map_reverse, List.map_map]
      congr 2
      apply List.map_congr_left
      intro z hz
      simp
end
end Sky

namespace Sky
open PySem L2
section
variable {P : Program} {w : World} {K : PySem.W.Frag} {mg : Str → Option Value} {base : Heap}
theorem scEnds : FnScope ["bars"] ["bars"] (defScope sEnds) := ⟨rfl, rfl, rfl, by decide +kernel, rfl, by decide +kernel, by decide +kernel⟩
theorem ok_ends {f : Addr} {fd : FuncData} (F : Fun K "reach_ends" "reach_ends" sEnds f fd) (B : Blt mg) (cS : Callee P w K mg base 1 "reach_starts" ["bars"] spStarts) (cT : Callee P w K mg base 1 "turned" ["places"] spTurned) : FnOk P w K mg base CX0 2 f fd ["bars"] spEnds := by
  refine F.ok scEnds (fun vs H Q E h => ?_) (fun cdv A outer s H vs Q E hr h => ?_)
  · obtain ⟨a, xs, rfl, _⟩ := h
    rfl
  · obtain ⟨a, xs, rfl, hS, hl, k⟩ := h
    refine ⟨_, pss_one (ps_ret (pe_fn cT hr rfl (pa_cons (pe_fn cS hr rfl (pa_cons (pe_listV (x := "x") (p2 := ⟨0, 0, 0, 0⟩) rfl (piv_rev rfl B.reversed (pa_cons (pv 0) pa_nil)) rfl B.list) pa_nil)) pa_nil))), ?_⟩
    have hz : (xs.map V.int).length ≤ sizeLine := by rw [List.length_map]; exact Nat.le_of_lt (small100 hl)
    refine ⟨_, rfl, a, xs.map V.int, rfl, SqL.of hS, fun D hD => li_rev hD (SqL.of hS) hz ?_⟩
    have hD2 : IL (upd H D (.lst (xs.map V.int).reverse)) D xs.reverse := upd_same.trans (by rw [List.map_reverse])
    have s1 : Same H (upd H D (.lst (xs.map V.int).reverse)) := Same.new hD _
    refine ⟨D, xs.reverse, rfl, hD2, by rw [List.length_reverse]; exact hl, fun l H2 nl s2 hL => ?_⟩
    refine ⟨l, _, rfl, hL, by rw [starts_length, List.length_reverse]; exact hl, fun l2 H3 nl2 s3 hL2 => ?_⟩
    have sA := (s1.trans s2).trans s3
    refine k l2 H3 ((s1.trans s2).free nl2) sA ?_
    have e := ends_eq xs
    rw [starts_length, List.length_reverse, e] at hL2
    exact hL2
end
end Sky

namespace Sky
open PySem L2
section
variable {P : Program} {w : World} {K : PySem.W.Frag} {mg : Str → Option Value} {base : Heap}
theorem scReach : FnScope ["bars"] ["bars"] (defScope sReach) := ⟨rfl, rfl, rfl, by decide +kernel, rfl, by decide +kernel, by decide +kernel⟩
theorem ok_reach {f : Addr} {fd : FuncData} (F : Fun K "reaches" "reaches" sReach f fd) (B : Blt mg) (cC : Callee P w K mg base 3 "check_bars" ["bars"] spChk) (cS : Callee P w K mg base 1 "reach_starts" ["bars"] spStarts) (cE : Callee P w K mg base 2 "reach_ends" ["bars"] spEnds) : FnOk P w K mg base CX0 4 f fd ["bars"] spReach := by
  refine F.ok scReach (fun vs H Q E h => ?_) (fun cdv A outer s H vs Q E hr h => ?_)
  · obtain ⟨a, xs, rfl, _⟩ := h
    rfl
  · obtain ⟨a, xs, rfl, hS, hh, k⟩ := h
    refine ⟨_, pss_cons (ps_expr (pe_fn cC hr rfl (pa_cons (pv 0) pa_nil)))
      (pss_one (ps_ret (pe_listV (x := "x") (p2 := ⟨0, 0, 0, 0⟩) rfl (piv_zip rfl B.zip (pa_cons (pe_fn cS (hr.mono (by decide)) rfl (pa_cons (pv 0) pa_nil)) (pa_cons (pe_fn cE (hr.mono (by decide)) rfl (pa_cons (pv 0) pa_nil)) pa_nil))) rfl B.list))), ?_⟩
    refine ⟨_, rfl, a, xs, rfl, hS, hh, fun H1 s1 => ?_⟩
    refine ⟨_, rfl, a, xs, rfl, s1 _ _ hS, hh.1, fun l1 H2 n1 s2 hL1 => ?_⟩
    refine ⟨_, rfl, a, xs, rfl, s2 _ _ (s1 _ _ hS), hh.1, fun l2 H3 n2 s3 hL2 => ?_⟩
    refine ⟨l1, l2, rfl, ⟨_, SqL.of (s3 _ _ hL1)⟩, ⟨_, SqL.of hL2⟩, fun D hD => li_zip hD (SqL.of (s3 _ _ hL1)) (SqL.of hL2) (by rw [List.length_map, List.length_map, starts_length, ends_length]; exact Nat.le_refl _) (by rw [List.length_map, starts_length]; exact Nat.le_of_lt (small100 hh.1)) fun H4 ps s4 hD4 hpl hps => ?_⟩
    have sA := (s1.trans s2).trans s3
    refine k D H4 (sA.free hD) (sA.trans s4) ⟨ps, hD4, by rw [hpl, List.length_map, starts_length, reachP_length], fun j p e => ?_⟩
    obtain ⟨x, z, a1, a2, a3, _⟩ := hps j p e
    obtain ⟨x', rfl, b1⟩ := get_mapM a1
    obtain ⟨z', rfl, b2⟩ := get_mapM a2
    have hj : j < xs.length := by have := (List.getElem?_eq_some_iff.mp b1).1; rw [starts_length] at this; exact this
    refine ⟨_, reachP_get hj, ?_⟩
    unfold starts at b1
    unfold ends at b2
    rw [List.getElem?_map, List.getElem?_range hj] at b1 b2
    have e1 := Option.some.inj b1
    have e2 := Option.some.inj b2
    rw [a3, ← e1, ← e2]
end
end Sky

namespace Sky
open PySem L2
section
variable {P : Program} {w : World} {K : PySem.W.Frag} {mg : Str → Option Value} {base : Heap}
theorem scInit : FnScope ["self", "first", "many", "high", "around"] ["self", "first", "many", "high", "around"] (defScope sInit) := ⟨rfl, rfl, rfl, by decide +kernel, rfl, by decide +kernel, by decide +kernel⟩
theorem ok_init {f C : Addr} {fd : FuncData} (F : Fun K "__init__" "Board.__init__" sInit f fd) (B : Blt mg) (T : BCls K C) : FnOk P w K mg base CX0 1 f fd ["self", "first", "many", "high", "around"] (spInit C) := by
  refine F.ok scInit (fun vs H Q E h => ?_) (fun cdv A outer s H vs Q E hr h => ?_)
  · obtain ⟨p, dx, l, f, m, h, ps, rfl, _⟩ := h
    rfl
  · obtain ⟨p, dx, l, f, m, h, ps, rfl, hp, hl, k⟩ := h
    refine ⟨_, pss_cons (ps_fld (pv 0) (pv 1) rfl) (pss_cons (ps_fld (pv 0) (pv 2) rfl) (pss_cons (ps_fld (pv 0) (pv 3) rfl) (pss_one (ps_fld (pv 0) (pe_callTy call_list_of rfl B.list boot_list' (pa_cons (pv 4) pa_nil)) rfl)))), ?_⟩
    have npl : l ≠ p := ne_of hl hp (by intro z; cases z)
    refine ⟨_, rfl, _, rfl, p, C, dx, _, rfl, hp, T.cl, T.n1, (by show 0 < 1000; decide), ?_⟩
    refine ⟨_, rfl, _, rfl, p, C, dx, _, rfl, upd_same, T.cl, T.n2, (by show 1 < 1000; decide), ?_⟩
    refine ⟨_, rfl, _, rfl, p, C, dx, _, rfl, upd_same, T.cl, T.n3, Nat.lt_of_le_of_lt (Nat.le_trans (length_putF _ _ _) (Nat.succ_le_succ (length_putF _ _ _))) (by decide), ?_⟩
    have hl3 : ∀ o1 o2 o3, (upd (upd (upd H p o1) p o2) p o3) l = some (.lst (ps.map V.ref)) := fun o1 o2 o3 => by rw [upd_ne npl, upd_ne npl, upd_ne npl]; exact hl
    refine ⟨_, rfl, l, _, rfl, .inl (SqL.of (hl3 _ _ _)), fun ar har => ?_⟩
    have npa : p ≠ ar := fun z => by rw [← z, upd_same] at har; cases har
    have har0 : H ar = none := by rw [upd_ne npa.symm, upd_ne npa.symm, upd_ne npa.symm] at har; exact har
    refine ⟨_, rfl, p, C, dx, _, rfl, (upd_ne npa).trans upd_same, T.cl, T.n4, Nat.lt_of_le_of_lt (Nat.le_trans (length_putF _ _ _) (Nat.succ_le_succ (Nat.le_trans (length_putF _ _ _) (Nat.succ_le_succ (length_putF _ _ _))))) (by decide), ?_⟩
    refine k ar _ har0 upd_same ((upd_ne npa.symm).trans upd_same) fun b o e hb => ?_
    rw [upd_ne hb, upd_ne (ne_of_none e har0), upd_ne hb, upd_ne hb, upd_ne hb]
    exact e
end
end Sky

namespace Sky
open PySem L2
section
variable {P : Program} {w : World} {K : PySem.W.Frag} {mg : Str → Option Value} {base : Heap}
theorem scCount : FnScope ["pair"] ["pair"] (defScope sCount) := ⟨rfl, rfl, rfl, by decide +kernel, rfl, by decide +kernel, by decide +kernel⟩
theorem ok_count {f : Addr} {fd : FuncData} (F : Fun K "count_of_places" "count_of_places" sCount f fd) : FnOk P w K mg base CX0 1 f fd ["pair"] spCount := by
  refine F.ok scCount (fun vs H Q E h => ?_) (fun cdv A outer s H vs Q E hr h => ?_)
  · obtain ⟨t, p, q, rfl, _⟩ := h
    rfl
  · obtain ⟨t, p, q, rfl, ht, k⟩ := h
    refine ⟨_, pss_one (ps_ret (pe_op op_add (pe_op op_sub (pe_ix ix_tup (pv 0) pe_int (fun _ _ => rfl)) (pe_ix ix_tup (pv 0) pe_int (fun _ _ => rfl))) pe_int)), ?_⟩
    exact ⟨_, rfl, t, _, 1, _, rfl, rfl, SqT.of ht, rfl, _, rfl, t, _, 0, _, rfl, rfl, SqT.of ht, rfl, q, p, rfl, rfl, _, 1, rfl, rfl, k⟩
end
end Sky

namespace Sky
open PySem L2
section
variable {P : Program} {w : World} {K : PySem.W.Frag} {mg : Str → Option Value} {base : Heap}
theorem scEndsAt : FnScope ["bars", "place", "pair", "first", "last", "final", "height", "starts_well", "ends_well"] ["bars", "place", "pair"] (defScope sEndsAt) := ⟨rfl, rfl, rfl, by decide +kernel, rfl, by decide +kernel, by decide +kernel⟩
theorem ok_endsAt {f : Addr} {fd : FuncData} (F : Fun K "ends_at_lower" "ends_at_lower" sEndsAt f fd) (B : Blt mg) : FnOk P w K mg base CX0 1 f fd ["bars", "place", "pair"] spEndsAt := by
  refine F.ok scEndsAt (fun vs H Q E h => ?_) (fun cdv A outer s H vs Q E hr h => ?_)
  · obtain ⟨a, t, xs, i, p, q, rfl, _⟩ := h
    rfl
  · obtain ⟨a, t, xs, i, p, q, rfl, hS, hi, ht, k⟩ := h
    refine ⟨_, pss_cons (ps_set (i := 3) scEndsAt.nd rfl (Or.inl rfl) (pe_ix ix_tup (pv 2) pe_int (fun _ _ => rfl)))
      (pss_cons (ps_set (i := 4) scEndsAt.nd rfl (Or.inl rfl) (pe_ix ix_tup (pv 2) pe_int (fun _ _ => rfl)))
      (pss_cons (ps_set (i := 5) scEndsAt.nd rfl (Or.inl rfl) (pe_op op_sub (pe_callB call_len_seq rfl B.len PySem.boot_len (pa_cons (pv 0) pa_nil)) pe_int))
      (pss_cons (ps_if (pt_not (pt_chn pe_int (pch_cons op_le (pv 3) (pch_cons op_le (pv 1) (pch_cons op_le (pv 4) (pch_last op_le (pv 5))))))) (pss_one (ps_ret pe_bl)) pss_nil)
      (pss_cons (ps_set (i := 6) scEndsAt.nd rfl (Or.inl rfl) (pe_ix ix_list (pv 0) (pv 1) (fun _ _ => rfl)))
      (pss_cons (ps_set (i := 7) scEndsAt.nd rfl (Or.inl rfl) (pe_or (pe_cmpR op_eq (pv 3) pe_int (nomark _)) (pe_one (pe_cmpR op_lt (pe_ix ix_list (pv 0) (pe_op op_sub (pv 3) pe_int) (fun _ _ => rfl)) (pv 6) (nomark _)))))
      (pss_cons (ps_set (i := 8) scEndsAt.nd rfl (Or.inl rfl) (pe_or (pe_cmpR op_eq (pv 4) (pv 5) (nomark _)) (pe_one (pe_cmpR op_lt (pe_ix ix_list (pv 0) (pe_op op_add (pv 4) pe_int) (fun _ _ => rfl)) (pv 6) (nomark _)))))
      (pss_one (ps_ret (pe_and (pv 7) (pe_one (pv 8)))))))))))  , ?_⟩
    have hn : (((xs.map V.int).length : Nat) : Int) = (xs.length : Int) := by rw [List.length_map]
    refine ⟨_, rfl, t, _, 0, _, rfl, rfl, SqT.of ht, rfl, ?_⟩
    refine ⟨_, rfl, t, _, 1, _, rfl, rfl, SqT.of ht, rfl, ?_⟩
    refine ⟨_, rfl, a, _, rfl, .inl (SqL.of hS), _, 1, rfl, rfl, ?_⟩
    have bad : ¬ (0 ≤ p ∧ p ≤ i ∧ (i : Int) ≤ q ∧ q ≤ (xs.length : Int) - 1) → Q (.bl false) H := fun hb => by
      have e : endsB xs i (p, q) = false := by unfold endsB; rw [if_neg hb]
      rw [e] at k; exact k
    refine ⟨_, rfl, 0, p, rfl, rfl, _, rfl, ite2 (fun h1 => ?_) (fun h1 => iteT (bad fun z => h1 (decide_eq_true z.1)))⟩
    refine ⟨_, rfl, p, _, rfl, rfl, _, rfl, ite2 (fun h2 => ?_) (fun h2 => iteT (bad fun z => h2 (decide_eq_true z.2.1)))⟩
    refine ⟨_, rfl, _, q, rfl, rfl, _, rfl, ite2 (fun h3 => ?_) (fun h3 => iteT (bad fun z => h3 (decide_eq_true z.2.2.1)))⟩
    refine ⟨_, rfl, q, _, rfl, rfl, _, rfl, ?_⟩
    have h1' : 0 ≤ p := of_decide_eq_true h1
    have h2' : p ≤ i := of_decide_eq_true h2
    have h3' : (i : Int) ≤ q := of_decide_eq_true h3
    by_cases h4 : q ≤ (xs.length : Int) - 1
    · have e4 : decide (q ≤ (((xs.map V.int).length : Nat) : Int) - 1) = true := by rw [hn]; exact decide_eq_true h4
      rw [e4]
      refine iteF ?_
      have e : endsB xs i (p, q) = ((decide (p = 0) || decide (xs.getD (p.toNat - 1) 0 < xs.getD i 0)) && (decide (q = (xs.length : Int) - 1) || decide (xs.getD (q.toNat + 1) 0 < xs.getD i 0))) := by
        unfold endsB; rw [if_pos ⟨h1', h2', h3', h4⟩]
      rw [e] at k
      refine ⟨_, rfl, _, rfl, a, _, _, _, rfl, rfl, SqL.of hS, atI_mapM hi, ?_⟩
      -- starts_well
      have sw : ∀ R : VK, R (.bl (decide (p = 0) || decide (xs.getD (p.toNat - 1) 0 < xs.getD i 0))) H → (tOrV (tOp rEq (tVar 3) (tC (.int 0))) (tOp (rI0 fun i j => .bl (decide (i < j))) (tOp (rIxL K) (tVar 0) (tOp (rI0 fun i j => .int (i - j)) (tVar 3) (tC (.int 1)))) (tVar 6))) ([some (.ref a), some (.int (i : Nat)), some (.ref t), some (.int p), some (.int q), some (.int ((((xs.map V.int).length : Nat) : Int) - 1)), some (.int (xs.getD i 0)), none, none] : St) H R := by
        intro R hR
        refine ⟨_, rfl, rfl, _, rfl, ite2 (fun hc => ?_) (fun hc => ?_)⟩
        · have hc' : p = 0 := V.int.inj (of_decide_eq_true hc)
          rw [decide_eq_true hc', Bool.true_or] at hR
          exact hR
        · have hc' : ¬ p = 0 := fun z => hc (decide_eq_true (by rw [z]))
          rw [decide_eq_false hc', Bool.false_or] at hR
          have e5 : p - 1 = ((p.toNat - 1 : Nat) : Int) := by omega
          refine ⟨_, rfl, _, rfl, p, 1, rfl, rfl, a, _, _, V.int (xs.getD (p.toNat - 1) 0), rfl, rfl, SqL.of hS, ?_, _, rfl, _, _, rfl, rfl, hR⟩
          rw [e5]; exact atI_mapM (by omega)
      refine sw _ ?_
      have ew : ∀ (b7 : Bool) (R : VK), R (.bl (decide (q = (xs.length : Int) - 1) || decide (xs.getD (q.toNat + 1) 0 < xs.getD i 0))) H → (tOrV (tOp rEq (tVar 4) (tVar 5)) (tOp (rI0 fun i j => .bl (decide (i < j))) (tOp (rIxL K) (tVar 0) (tOp (rI0 fun i j => .int (i + j)) (tVar 4) (tC (.int 1)))) (tVar 6))) ([some (.ref a), some (.int (i : Nat)), some (.ref t), some (.int p), some (.int q), some (.int ((((xs.map V.int).length : Nat) : Int) - 1)), some (.int (xs.getD i 0)), some (.bl b7), none] : St) H R := by
        intro b7 R hR
        refine ⟨_, rfl, _, rfl, rfl, _, rfl, ite2 (fun hc => ?_) (fun hc => ?_)⟩
        · have hc' : q = (xs.length : Int) - 1 := by rw [← hn]; exact V.int.inj (of_decide_eq_true hc)
          rw [decide_eq_true hc', Bool.true_or] at hR
          exact hR
        · have hc' : ¬ q = (xs.length : Int) - 1 := fun z => hc (decide_eq_true (by rw [z, hn]))
          rw [decide_eq_false hc', Bool.false_or] at hR
          have e5 : q + 1 = ((q.toNat + 1 : Nat) : Int) := by omega
          refine ⟨_, rfl, _, rfl, q, 1, rfl, rfl, a, _, _, V.int (xs.getD (q.toNat + 1) 0), rfl, rfl, SqL.of hS, ?_, _, rfl, _, _, rfl, rfl, hR⟩
          rw [e5]; exact atI_mapM (by omega)
      refine ew _ _ ?_
      refine ⟨_, rfl, _, rfl, ?_⟩
      cases hw : (decide (p = 0) || decide (xs.getD (p.toNat - 1) 0 < xs.getD i 0)) with
      | true => rw [hw, Bool.true_and] at k; exact iteT ⟨_, rfl, k⟩
      | false => rw [hw, Bool.false_and] at k; exact iteF k
    · have e4 : decide (q ≤ (((xs.map V.int).length : Nat) : Int) - 1) = false := by rw [hn]; exact decide_eq_false h4
      rw [e4]
      exact iteT (bad fun z => h4 z.2.2.2)
end
end Sky

namespace Sky
open PySem L2
section
variable {P : Program} {w : World} {K : PySem.W.Frag} {mg : Str → Option Value} {base : Heap}
theorem scLies : FnScope ["self", "bars", "end"] ["self", "bars"] (defScope sLies) := ⟨rfl, rfl, rfl, by decide +kernel, rfl, by decide +kernel, by decide +kernel⟩
theorem ok_lies {f C : Addr} {fd : FuncData} (F : Fun K "lies_under" "Board.lies_under" sLies f fd) (B : Blt mg) (T : BCls K C) : FnOk P w K mg base CX0 1 f fd ["self", "bars"] (spLies C) := by
  refine F.ok scLies (fun vs H Q E h => ?_) (fun cdv A outer s H vs Q E hr h => ?_)
  · obtain ⟨p, dx, ar, a, f, m, h, xs, rfl, _⟩ := h
    rfl
  · obtain ⟨p, dx, ar, a, f, m, h, xs, rfl, hp, hS, hl, k⟩ := h
    refine ⟨_, pss_cons (ps_set (i := 2) scLies.nd rfl (Or.inl rfl) (pe_op op_add (pe_fld (pv 0) rfl) (pe_fld (pv 0) rfl)))
      (pss_cons (ps_if (PW.pt (pw_or (pt_cmpR op_lt (pe_fld (pv 0) rfl) pe_int (nomark _)) (pw_or (pt_cmpR op_lt (pe_fld (pv 0) rfl) pe_int (nomark _)) (pw_or (pt_cmpR op_gt (pv 2) (pe_callB call_len_seq rfl B.len PySem.boot_len (pa_cons (pv 1) pa_nil)) (nomark _)) (pw_or1 (pt_cmpR op_lt (pe_fld (pv 0) rfl) pe_int (nomark _))))))) (pss_one (ps_ret pe_bl)) pss_nil)
      (pss_one (ps_ret (pe_callB (call_all rfl) rfl B.all boot_all' (pa_cons (pe_lc (cap := [0]) ["height"] rfl (CompOk.of (defScope sLies) ["self", "bars", "end"] rfl rfl (by decide +kernel)) (pi_list (pe_slice sl_list (pv 1) (po_some (pe_fld (pv 0) rfl)) (po_some (pv 2)))) (fun C s H fp => pg_name (i := 0) (show List.Nodup (["height", "self"] : List Str) from by decide +kernel) rfl (Or.inl rfl)) (fun C s H fp => pf_nil)
        (fun C s H fp => pe_cmpR op_ge (pv 0) (pe_fld (pv 1) rfl) (nomark _))) pa_nil))))), ?_⟩
    have hn : (((xs.map V.int).length : Nat) : Int) = (xs.length : Int) := by rw [List.length_map]
    have g1 := bfl_first f m h ar
    have g2 := bfl_many f m h ar
    have g3 := bfl_high f m h ar
    refine ⟨_, rfl, p, C, dx, _, _, rfl, hp, T.cl, T.n1, g1, _, rfl, p, C, dx, _, _, rfl, hp, T.cl, T.n2, g2, f, m, rfl, rfl, ?_⟩
    have bad : (f < 0 ∨ m < 1 ∨ (xs.length : Int) < f + m ∨ h < 0) → Q (.bl false) H := fun hb => by
      have := k H (Same.refl _)
      unfold underB at this
      rw [if_pos hb] at this; exact this
    refine ⟨_, rfl, p, C, dx, _, _, rfl, hp, T.cl, T.n1, g1, f, 0, rfl, rfl, _, rfl, ite2 (fun h1 => iteT (bad (.inl (of_decide_eq_true h1)))) (fun h1 => ?_)⟩
    refine ⟨_, rfl, p, C, dx, _, _, rfl, hp, T.cl, T.n2, g2, m, 1, rfl, rfl, _, rfl, ite2 (fun h2 => iteT (bad (.inr (.inl (of_decide_eq_true h2))))) (fun h2 => ?_)⟩
    refine ⟨_, rfl, _, rfl, a, _, rfl, .inl (SqL.of hS), _, _, rfl, rfl, _, rfl, ite2 (fun h3 => iteT (bad (.inr (.inr (.inl (by rw [← hn]; exact of_decide_eq_true h3)))))) (fun h3 => ?_)⟩
    refine ⟨_, rfl, p, C, dx, _, _, rfl, hp, T.cl, T.n3, g3, h, 0, rfl, rfl, _, rfl, ite2 (fun h4 => bad (.inr (.inr (.inr (of_decide_eq_true h4))))) (fun h4 => ?_)⟩
    have h1' : 0 ≤ f := by have : ¬ f < 0 := fun z => h1 (decide_eq_true z); omega
    have h2' : 1 ≤ m := by have : ¬ m < 1 := fun z => h2 (decide_eq_true z); omega
    have h3' : f + m ≤ xs.length := by have : ¬ (((xs.map V.int).length : Nat) : Int) < f + m := fun z => h3 (decide_eq_true z); rw [hn] at this; omega
    have h4' : 0 ≤ h := by have : ¬ h < 0 := fun z => h4 (decide_eq_true z); omega
    have eu : underB xs f m h = ((xs.drop f.toNat).take m.toNat).all fun x => decide (h ≤ x) := by unfold underB; rw [if_neg (by omega)]
    refine ⟨_, rfl, _, rfl, p, C, dx, _, _, rfl, hp, T.cl, T.n1, g1, f, rfl, _, rfl, _, rfl, a, _, rfl, SqL.of hS, fun q hq => ?_⟩
    have e1 : f = ((f.toNat : Nat) : Int) := by omega
    have e2 : f + m = (((f + m).toNat : Nat) : Int) := by omega
    have e3 : cutV (xs.map V.int) (some f) (some (f + m)) = ((xs.drop f.toNat).take m.toNat).map V.int := by
      have := cut_map xs f.toNat (f + m).toNat (by omega) (by omega)
      rw [← e1, ← e2] at this
      rw [this]
      congr 2
      omega
    have s1 : Same H (upd H q (.lst (cutV (xs.map V.int) (some f) (some (f + m))))) := Same.new hq _
    have hq1 : (upd H q (.lst (cutV (xs.map V.int) (some f) (some (f + m))))) q = some (.lst (((xs.drop f.toNat).take m.toNat).map V.int)) := by rw [upd_same, e3]
    refine ⟨q, rfl, ⟨_, SqL.of hq1⟩, fun D hD => lc_listP (fun v => match v with | .int x => .bl (decide (h ≤ x)) | _ => .non) hD (SqL.of hq1) (by rw [List.length_map, List.length_take, List.length_drop]; exact Nat.le_of_lt (small100 (by omega))) ?_ ?_⟩
    · intro n x ys C' s H0 fp R hx hR
      obtain ⟨z, rfl, _⟩ := get_mapM hx
      have sp : Same H (upd (upd H q (.lst (cutV (xs.map V.int) (some f) (some (f + m))))) D (.lst ys)) := s1.put (s1.free hD)
      exact ⟨_, rfl, _, rfl, p, C, dx, _, _, rfl, sp _ _ hp, T.cl, T.n3, g3, z, h, rfl, rfl, hR⟩
    · refine ⟨D, ((xs.drop f.toNat).take m.toNat).map (fun x => decide (h ≤ x)), rfl, SqL.of (by rw [upd_same, List.map_map, List.map_map]; rfl), ?_⟩
      have e5 : (((xs.drop f.toNat).take m.toNat).map (fun x => decide (h ≤ x))).all id = underB xs f m h := by rw [eu, List.all_map]; rfl
      rw [e5]
      exact k _ (s1.put (s1.free hD))
end
end Sky

namespace Sky
open PySem L2
section
variable {P : Program} {w : World} {K : PySem.W.Frag} {mg : Str → Option Value} {base : Heap}
theorem scNone : FnScope ["self", "bars", "size", "place", "pair"] ["self", "bars"] (defScope sNone) := ⟨rfl, rfl, rfl, by decide +kernel, rfl, by decide +kernel, by decide +kernel⟩
theorem ok_none {f C : Addr} {fd : FuncData} (F : Fun K "none_is_greater" "Board.none_is_greater" sNone f fd) (B : Blt mg) (T : BCls K C) (cE : Callee P w K mg base 1 "ends_at_lower" ["bars", "place", "pair"] spEndsAt) (cC : Callee P w K mg base 1 "count_of_places" ["pair"] spCount) : FnOk P w K mg base CX0 2 f fd ["self", "bars"] (spNone C) := by
  refine F.ok scNone (fun vs H Q E h => ?_) (fun cdv A outer s H vs Q E hr h => ?_)
  · obtain ⟨p, dx, ar, a, f, m, h, xs, prs, rfl, _⟩ := h
    rfl
  · obtain ⟨p, dx, ar, a, f, m, h, xs, prs, rfl, hp, hT, hpl, hS, hh, hb, k⟩ := h
    refine ⟨_, pss_cons (ps_if (pt_cmpR op_ne (pe_callB call_len_seq rfl B.len PySem.boot_len (pa_cons (pe_fld (pv 0) rfl) pa_nil)) (pe_callB call_len_seq rfl B.len PySem.boot_len (pa_cons (pv 1) pa_nil)) (nomark _)) (pss_one (ps_ret pe_bl)) pss_nil)
      (pss_cons (ps_set (i := 2) scNone.nd rfl (Or.inl rfl) (pe_op op_mul (pe_fld (pv 0) rfl) (pe_fld (pv 0) rfl)))
      (pss_cons (ps_for PassesOwn.never rfl (pi_enum rfl B.enumerate (pa_cons (pe_fld (pv 0) rfl) pa_nil)) (pg_tup rfl (pgs_cons (pg_name (i := 3) scNone.nd rfl (Or.inl rfl)) (pgs_cons (pg_name (i := 4) scNone.nd rfl (Or.inl rfl)) pgs_nil)))
        (pss_one (ps_if (PW.pt (pw_or (pt_not (pt_val (pe_fn cE hr rfl (pa_cons (pv 1) (pa_cons (pv 3) (pa_cons (pv 4) pa_nil)))))) (pw_or1 (pt_cmpR op_gt (pe_op op_mul (pe_ix ix_list (pv 1) (pv 3) (fun _ _ => rfl)) (pe_fn cC hr rfl (pa_cons (pv 4) pa_nil))) (pv 2) (nomark _))))) (pss_one (ps_ret pe_bl)) pss_nil)))
      (pss_one (ps_ret pe_bl)))), ?_⟩
    obtain ⟨ps, hps, hpsl, hpsI⟩ := hT
    have g2 := bfl_many f m h ar
    have g3 := bfl_high f m h ar
    have g4 := bfl_around f m h ar
    refine ⟨_, rfl, p, C, dx, _, _, rfl, hp, T.cl, T.n4, g4, ar, _, rfl, .inl (SqL.of hps), _, rfl, a, _, rfl, .inl (SqL.of hS), rfl, _, rfl, ?_⟩
    have el : (((ps.map V.ref).length : Nat) : Int) = (prs.length : Int) := by rw [List.length_map, hpsl]
    have en : (((xs.map V.int).length : Nat) : Int) = (xs.length : Int) := by rw [List.length_map]
    by_cases hlen : prs.length = xs.length
    · refine iteNS (by rw [el, en, hlen]) ?_
      refine ⟨_, rfl, p, C, dx, _, _, rfl, hp, T.cl, T.n2, g2, _, rfl, p, C, dx, _, _, rfl, hp, T.cl, T.n3, g3, m, h, rfl, rfl, .inr hb, ?_⟩
      refine ⟨_, rfl, p, C, dx, _, _, rfl, hp, T.cl, T.n4, g4, ar, rfl, ⟨_, SqL.of hps⟩, for_enum (K := K) (a := ar) (xs := ps.map V.ref) (fun i σ H2 => ∃ v3 v4, σ = [some (.ref p), some (.ref a), some (.int (m * h)), v3, v4] ∧ Same H H2 ∧ ∀ j, j < i → okB xs (m * h) j (prs.getD j (0, 0)) = true)
        ⟨none, none, rfl, Same.refl _, fun j hj => by omega⟩ (fun i σ H2 _ ⟨_, _, _, s2, _⟩ => SqL.of (s2 _ _ hps)) ?_ ?_⟩
      · rintro i y σ H2 t hi ⟨v3, v4, rfl, s2, hok⟩ ht
        rw [List.getElem?_map] at hi
        cases ep : ps[i]? with
        | none => rw [ep] at hi; cases hi
        | some pp =>
          rw [ep] at hi
          cases Option.some.inj hi
          have hil : i < ps.length := (List.getElem?_eq_some_iff.mp ep).1
          have hix : i < xs.length := by omega
          obtain ⟨q, hq1, hq2⟩ := hpsI i pp ep
          have s3 : Same H (upd H2 t (.tup [.int (i : Nat), .ref pp])) := s2.put (s2.free ht)
          refine ⟨t, _, rfl, SqT.of upd_same, rfl, _, _, rfl, _, _, rfl, rfl, ?_⟩
          generalize upd H2 t (.tup [.int (i : Nat), .ref pp]) = H3 at s3
          have egd : prs.getD i (0, 0) = q := by rw [List.getD_eq_getElem?_getD, hq1]; rfl
          have bad : okB xs (m * h) i q = false → Q (.bl false) H3 := fun hb => by
            have := k H3 s3
            have e : ngB xs m h prs = false := by
              unfold ngB
              rw [if_pos hlen]
              refine Bool.eq_false_iff.mpr fun z => ?_
              have := List.all_eq_true.mp z i (List.mem_range.mpr (by omega))
              rw [egd, hb] at this; cases this
            rw [e] at this; exact this
          refine ⟨_, rfl, _, rfl, _, rfl, a, pp, xs, i, q.1, q.2, rfl, s3 _ _ hS, hix, s3 _ _ hq2, ?_⟩
          cases hend : endsB xs i (q.1, q.2) with
          | false =>
            refine ⟨_, rfl, iteT (iteT (bad ?_))⟩
            unfold okB
            rw [show q = (q.1, q.2) from rfl, hend]; rfl
          | true =>
            refine ⟨_, rfl, iteF ?_⟩
            have hxb : 0 ≤ xs.getD i 0 ∧ xs.getD i 0 ≤ 10000000 := by
              have : xs.getD i 0 = xs[i] := by simp [List.getD_eq_getElem?_getD, List.getElem?_eq_getElem hix]
              rw [this]; exact hh.2 _ (List.getElem_mem _)
            refine ⟨_, rfl, _, rfl, a, _, _, _, rfl, rfl, SqL.of (s3 _ _ hS), atI_mapM hix, _, rfl, pp, q.1, q.2, rfl, s3 _ _ hq2, _, _, rfl, rfl, .inl ⟨by omega, by omega⟩, _, rfl, _, _, rfl, rfl, _, rfl, ite2 (fun hg => bad ?_) (fun hg => ?_)⟩
            · have hg' : m * h < xs.getD i 0 * cntP (q.1, q.2) := of_decide_eq_true hg
              unfold okB
              rw [show q = (q.1, q.2) from rfl, hend, Bool.true_and]
              exact decide_eq_false (by omega)
            · have hg' : ¬ m * h < xs.getD i 0 * cntP (q.1, q.2) := fun z => hg (decide_eq_true z)
              refine ⟨_, _, rfl, s3, fun j hj => ?_⟩
              by_cases hji : j = i
              · subst hji
                rw [egd]
                unfold okB
                rw [show q = (q.1, q.2) from rfl, hend, Bool.true_and]
                exact decide_eq_true (by omega)
              · exact hok j (by omega)
      · rintro σ H2 ⟨v3, v4, rfl, s2, hok⟩
        have e : ngB xs m h prs = true := by
          unfold ngB
          rw [if_pos hlen, List.all_eq_true]
          intro j hj
          exact hok j (by rw [List.length_map, hpsl]; exact List.mem_range.mp hj)
        have := k H2 s2
        rw [e] at this; exact this
    · have e : (!decide (V.int (((ps.map V.ref).length : Nat) : Int) = V.int (((xs.map V.int).length : Nat) : Int))) = true := by
        rw [el, en, decide_eq_false (fun z => hlen (by have := V.int.inj z; omega))]; rfl
      rw [e]
      refine iteT ?_
      have e2 : ngB xs m h prs = false := by unfold ngB; rw [if_neg hlen]
      have := k H (Same.refl _)
      rw [e2] at this; exact this
end
end Sky

namespace Sky
open PySem L2
section
variable {P : Program} {w : World} {K : PySem.W.Frag} {mg : Str → Option Value} {base : Heap}
theorem scShows : FnScope ["self", "bars"] ["self", "bars"] (defScope sShows) := ⟨rfl, rfl, rfl, by decide +kernel, rfl, by decide +kernel, by decide +kernel⟩
theorem ok_shows {f C fL fN : Addr} {fd fdL fdN : FuncData} (F : Fun K "shows" "Board.shows" sShows f fd) (T : BCls K C) (GL : FnOk P w K mg base CX0 1 fL fdL ["self", "bars"] (spLies C)) (bL : Binds K fdL ["self", "bars"] []) (mL : Meth K C "lies_under" fL)
    (GN : FnOk P w K mg base CX0 2 fN fdN ["self", "bars"] (spNone C)) (bN : Binds K fdN ["self", "bars"] []) (mN : Meth K C "none_is_greater" fN) : FnOk P w K mg base CX0 3 f fd ["self", "bars"] (spShows C) := by
  refine F.ok scShows (fun vs H Q E h => ?_) (fun cdv A outer s H vs Q E hr h => ?_)
  · obtain ⟨p, dx, ar, a, f, m, h, xs, prs, rfl, _⟩ := h
    rfl
  · obtain ⟨p, dx, ar, a, f, m, h, xs, prs, rfl, hp, hT, hpl, hS, hh, hb, k⟩ := h
    refine ⟨_, pss_one (ps_ret (pe_and (pe_meth (pv 0) T.cl mL GL (hr.mono (by decide)) bL .nil pass0 (pa_cons (pv 1) pa_nil)) (pe_one (pe_meth (pv 0) T.cl mN GN hr bN .nil pass0 (pa_cons (pv 1) pa_nil))))), ?_⟩
    refine ⟨_, rfl, p, dx, _, rfl, hp, bfl_no _ _ _ _ (by decide +kernel) (by decide +kernel) (by decide +kernel) (by decide +kernel), _, rfl, p, dx, ar, a, f, m, h, xs, rfl, hp, hS, hh.1, fun H1 s1 => ⟨_, rfl, ?_⟩⟩
    cases hu : underB xs f m h with
    | false =>
      rw [hu, Bool.false_and] at k
      exact iteF (k H1 s1)
    | true =>
      rw [hu, Bool.true_and] at k
      refine iteT ⟨_, rfl, p, dx, _, rfl, s1 _ _ hp, bfl_no _ _ _ _ (by decide +kernel) (by decide +kernel) (by decide +kernel) (by decide +kernel), _, rfl, p, dx, ar, a, f, m, h, xs, prs, rfl, s1 _ _ hp, hT.same s1, hpl, s1 _ _ hS, hh, hb, fun H2 s2 => k H2 (s1.trans s2)⟩
end
end Sky

namespace Sky
open PySem L2
section
variable {P : Program} {w : World} {K : PySem.W.Frag} {mg : Str → Option Value} {base : Heap}
theorem scBoard : FnScope ["bars", "around", "sizes", "best"] ["bars"] (defScope sBoard) := ⟨rfl, rfl, rfl, by decide +kernel, rfl, by decide +kernel, by decide +kernel⟩
theorem ok_board {f C fI : Addr} {fd fdI : FuncData} (F : Fun K "board" "board" sBoard f fd) (B : Blt mg) (cR : Callee P w K mg base 4 "reaches" ["bars"] spReach) (cC : Callee P w K mg base 1 "count_of_places" ["pair"] spCount)
    (M : Mk K C fI) (GI : FnOk P w K mg base CX0 1 fI fdI ["self", "first", "many", "high", "around"] (spInit C)) (bI : Binds K fdI ["self", "first", "many", "high", "around"] []) (mgC : mg "Board" = some (.ref C)) : FnOk P w K mg base CX0 5 f fd ["bars"] (spBoard C) := by
  refine F.ok scBoard (fun vs H Q E h => ?_) (fun cdv A outer s H vs Q E hr h => ?_)
  · obtain ⟨a, xs, rfl, _⟩ := h
    rfl
  · obtain ⟨a, xs, rfl, hS, hh, hne, k⟩ := h
    have hr1 : Room 1 _ := hr.mono (by decide)
    have hr2 : Room 2 _ := hr.mono (by decide)
    refine ⟨_, pss_cons (ps_set (i := 1) scBoard.nd rfl (Or.inl rfl) (pe_fn cR hr rfl (pa_cons (pv 0) pa_nil)))
      (pss_cons (ps_if (pt_not (pt_truth (pv 1) (fun _ => rfl))) pss_never pss_nil)
      (pss_cons (ps_lc (i := 2) (cap := []) ["height", "pair"] rfl (CompOk.of (defScope sBoard) ["bars", "around", "sizes", "best"] rfl rfl (by decide +kernel)) scBoard.nd rfl (Or.inl rfl) (PIV.pi (piv_zip rfl B.zip (pa_cons (pv 0) (pa_cons (pv 1) pa_nil))))
        (fun C s H fp => pg_tup rfl (pgs_cons (pg_name (i := 0) (show List.Nodup (["height", "pair"] : List Str) from by decide +kernel) rfl (Or.inl rfl)) (pgs_cons (pg_name (i := 1) (show List.Nodup (["height", "pair"] : List Str) from by decide +kernel) rfl (Or.inl rfl)) pgs_nil))) (fun C s H fp => pf_nil)
        (fun C s H fp => pe_op op_mul (pv 0) (pe_fn cC hr1 rfl (pa_cons (pv 1) pa_nil))) rfl)
      (pss_cons (ps_set (i := 3) scBoard.nd rfl (Or.inl rfl) (pe_bm PySem.F.plainAttrs_list PySem.F.slot_list_index PySem.F.type_list_index mt_index (pv 2) (pa_cons (pe_callB (call_maxL rfl) rfl B.max PyProof.Rows.boot_max (pa_cons (pv 2) pa_nil)) pa_nil)))
      (pss_one (ps_ret (pe_make M GI hr2 rfl mgC bI .nil pass0 (pa_cons (pe_ix ix_tup (pe_ix ix_list (pv 1) (pv 3) (fun _ _ => rfl)) pe_int (fun _ _ => rfl)) (pa_cons (pe_fn cC hr1 rfl (pa_cons (pe_ix ix_list (pv 1) (pv 3) (fun _ _ => rfl)) pa_nil)) (pa_cons (pe_ix ix_list (pv 0) (pv 3) (fun _ _ => rfl)) (pa_cons (pv 1) pa_nil)))))))))), ?_⟩
    refine ⟨_, rfl, a, xs, rfl, hS, hh, fun l H1 nl s1 hT => ?_⟩
    obtain ⟨ps, hps, hpl, hpI⟩ := id hT
    have hpl' : ps.length = xs.length := by rw [hpl, reachP_length]
    have hxl : 0 < xs.length := List.length_pos_iff.mpr hne
    have hS1 : IL H1 a xs := s1 _ _ hS
    have hem : (!(ps.map V.ref).isEmpty) = true := by
      cases ps with
      | nil => simp at hpl'; omega
      | cons x r => rfl
    refine ⟨_, rfl, _, .inl ⟨_, SqL.of hps, rfl⟩, ?_⟩
    rw [hem]
    refine iteF ?_
    refine ⟨_, rfl, _, rfl, a, l, rfl, ⟨_, SqL.of hS1⟩, ⟨_, SqL.of hps⟩, fun D hD => ?_⟩
    refine lc_zip (xs := xs.map V.int) (zs := ps.map V.ref) (fun C s H0 fp p x z σ H Q' hp hq => ⟨p, _, rfl, SqT.of hp, rfl, _, _, rfl, _, _, rfl, rfl, hq⟩) (by rw [List.length_map, List.length_map, hpl']; exact Nat.le_refl _)
      (fun i H2 ys => Same H1 H2 ∧ H2 D = some (.lst ys) ∧ ys = ((sizes xs).take i).map V.int) ⟨Same.new hD _, upd_same, by simp⟩ (fun i H2 ys _ h => ⟨SqL.of (h.1 _ _ hS1), SqL.of (h.1 _ _ hps), h.2.1⟩) ?_ ?_
    · rintro i x z t H2 ys hx hz ⟨s2, hD2, rfl⟩ ht C' s H0 fp
      obtain ⟨b, rfl, hb⟩ := get_mapM hx
      have hix : i < xs.length := (List.getElem?_eq_some_iff.mp hb).1
      have hbd : xs.getD i 0 = b := by rw [List.getD_eq_getElem?_getD, hb]; rfl
      rw [List.getElem?_map] at hz
      cases ep : ps[i]? with
      | none => rw [ep] at hz; cases hz
      | some pp =>
        rw [ep] at hz
        cases Option.some.inj hz
        obtain ⟨q, q1, q2⟩ := hpI i pp ep
        rw [reachP_get hix] at q1
        have eq := Option.some.inj q1
        subst eq
        have s3 : Same H2 (upd H2 t (.tup [.int b, .ref pp])) := Same.new ht _
        have hbb := getD_ht hh hix
        rw [hbd] at hbb
        refine ⟨_, rfl, _, rfl, pp, _, _, rfl, s3 _ _ (s2 _ _ q2), b, _, rfl, rfl, .inl ⟨by omega, by omega⟩, s3 _ _ hD2, ?_, (s2.trans s3).put hD, upd_same, ?_⟩
        · rw [List.length_map, List.length_take]
          exact small100 (by rw [sizes_length]; have := hh.1; omega)
        · rw [List.take_add_one, sizes_get hix, hbd, List.map_append]; rfl
    rintro H2 ys ⟨s2, hD2, rfl⟩
    have hD2' : IL H2 D (sizes xs) := by
      rw [List.length_map, List.take_of_length_le (by rw [sizes_length]; exact Nat.le_refl _)] at hD2
      exact hD2
    refine ⟨_, rfl, .inl ⟨rfl, _, SqL.of hD2'⟩, _, rfl, D, sizes xs, rfl, SqL.of hD2', (by intro z; have := sizes_length xs; rw [z] at this; simp at this; omega), fun M' hM hM2 => ?_⟩
    have Bt := best_of hM hM2
    refine ⟨D, sizes xs, M', rfl, rfl, SqL.of hD2', hM, ?_⟩
    generalize (sizes xs).idxOf M' = mi at Bt
    have hps2 := s2 _ _ hps
    have hmi : mi < ps.length := by have := Bt.lt; omega
    obtain ⟨q, q1, q2⟩ := hpI mi ps[mi] (List.getElem?_eq_getElem hmi)
    rw [reachP_get Bt.lt] at q1
    have eq := Option.some.inj q1
    subst eq
    have hat : atI (ps.map V.ref) (mi : Int) = some (V.ref ps[mi]) := atI_nat (by rw [List.getElem?_map, List.getElem?_eq_getElem hmi]; rfl)
    have q2' := s2 _ _ q2
    refine ⟨_, rfl, _, rfl, l, _, _, _, rfl, rfl, SqL.of hps2, hat, ps[mi], _, 0, _, rfl, rfl, SqT.of q2', rfl, ?_⟩
    refine ⟨_, rfl, _, rfl, l, _, _, _, rfl, rfl, SqL.of hps2, hat, ps[mi], _, _, rfl, q2', ?_⟩
    refine ⟨_, rfl, _, rfl, a, _, _, _, rfl, rfl, SqL.of (s2 _ _ hS1), atI_mapM Bt.lt, _, rfl, fun x dx nx ndx nex => ?_⟩
    have n1 : H1 x = none := s2.free nx
    have s3 : Same H2 (upd (upd H2 dx (.own x)) x (.ins C dx [])) := fun b o e => by rw [upd_ne (ne_of_none e nx), upd_ne (ne_of_none e ndx)]; exact e
    refine ⟨x, dx, l, _, _, _, ps, rfl, upd_same, s3 _ _ hps2, fun ar H4 nar hp4 har4 keep => ⟨rfl, ?_⟩⟩
    have s4 : Same H2 H4 := fun b o e => keep b o (s3 b o e) (ne_of_none e nx)
    have sA : Same H H4 := (s1.trans s2).trans s4
    have nar2 : H2 ar = none := s3.free nar
    refine k mi x dx ar H4 Bt (s1.free n1) ((s1.trans s2).free nar2) sA hp4 ⟨ps, har4, hpl, fun j p e => ?_⟩
    obtain ⟨q, a1, a2⟩ := hpI j p e
    exact ⟨q, a1, s4 _ _ (s2 _ _ a2)⟩
end
end Sky

namespace Sky
open PySem L2
section
variable {P : Program} {w : World} {K : PySem.W.Frag} {mg : Str → Option Value} {base : Heap}
theorem scRInit : FnScope ["self", "bars"] ["self", "bars"] (defScope sRInit) := ⟨rfl, rfl, rfl, by decide +kernel, rfl, by decide +kernel, by decide +kernel⟩
theorem ok_rInit {f C : Addr} {fd : FuncData} (F : Fun K "__init__" "Row.__init__" sRInit f fd) (B : Blt mg) (T : RCls K C) : FnOk P w K mg base CX0 1 f fd ["self", "bars"] (spRInit C) := by
  refine F.ok scRInit (fun vs H Q E h => ?_) (fun cdv A outer s H vs Q E hr h => ?_)
  · obtain ⟨p, dx, l, xs, rfl, _⟩ := h
    rfl
  · obtain ⟨p, dx, l, xs, rfl, hp, hl, k⟩ := h
    refine ⟨_, (pss_one (ps_fld (pv 0) (pe_callTy call_list_of rfl B.list boot_list' (pa_cons (pv 1) pa_nil)) rfl)), ?_⟩
    have npl : l ≠ p := ne_of hl hp (by intro z; cases z)
    refine ⟨_, rfl, l, _, rfl, .inl (SqL.of hl), fun ar har => ?_⟩
    have npa : p ≠ ar := ne_of_none hp har
    refine ⟨_, rfl, p, C, dx, _, rfl, (upd_ne npa).trans hp, T.cl, T.n1, (by show 0 < 1000; decide), ?_⟩
    refine k ar _ har upd_same ((upd_ne npa.symm).trans upd_same) fun b o e hb => ?_
    rw [upd_ne hb, upd_ne (ne_of_none e har)]
    exact e
end
end Sky

namespace Sky
open PySem L2
section
variable {P : Program} {w : World} {K : PySem.W.Frag} {mg : Str → Option Value} {base : Heap}
theorem scRShows : FnScope ["self", "links"] ["self", "links"] (defScope sRShows) := ⟨rfl, rfl, rfl, by decide +kernel, rfl, by decide +kernel, by decide +kernel⟩
theorem ok_rShows {f C : Addr} {fd : FuncData} (F : Fun K "shows" "Row.shows" sRShows f fd) (B : Blt mg) (T : RCls K C) (cN : Callee P w K mg base 2 "nearest_lower" ["bars"] spNear) : FnOk P w K mg base CX0 3 f fd ["self", "links"] (spRShows C) := by
  refine F.ok scRShows (fun vs H Q E h => ?_) (fun cdv A outer s H vs Q E hr h => ?_)
  · obtain ⟨p, dx, ar, a, bs, ls, rfl, _⟩ := h
    rfl
  · obtain ⟨p, dx, ar, a, bs, ls, rfl, hp, hR, hS, hl, k⟩ := h
    have hu := hr.units
    refine ⟨_, (pss_one (ps_ret (pe_cmpR (op_eqI hu) (pe_fn cN hr rfl (pa_cons (pe_fld (pv 0) rfl) pa_nil)) (pv 1) (nomark _)))), ?_⟩
    refine ⟨_, rfl, p, C, dx, _, _, rfl, hp, T.cl, T.n1, rowF_bars ar, ar, bs, rfl, hR, hl, fun l H1 nl s1 hL => ?_⟩
    refine ⟨_, rfl, l, a, _, _, rfl, rfl, SqL.of hL, SqL.of (s1 _ _ hS), ?_⟩
    rw [ifF]
    exact k _ s1
end
end Sky

namespace Sky
open PySem L2
section
variable {P : Program} {w : World} {K : PySem.W.Frag} {mg : Str → Option Value} {base : Heap}
theorem scCInit : FnScope ["self", "first", "second"] ["self", "first", "second"] (defScope sCInit) := ⟨rfl, rfl, rfl, by decide +kernel, rfl, by decide +kernel, by decide +kernel⟩
theorem ok_cInit {f C : Addr} {fd : FuncData} (F : Fun K "__init__" "Crossed.__init__" sCInit f fd) (B : Blt mg) (T : CCls K C) : FnOk P w K mg base CX0 1 f fd ["self", "first", "second"] (spCInit C) := by
  refine F.ok scCInit (fun vs H Q E h => ?_) (fun cdv A outer s H vs Q E hr h => ?_)
  · obtain ⟨p, dx, f, s, rfl, _⟩ := h
    rfl
  · obtain ⟨p, dx, f, s, rfl, hp, k⟩ := h
    refine ⟨_, (pss_cons (ps_fld (pv 0) (pv 1) rfl)
      (pss_one (ps_fld (pv 0) (pv 2) rfl))), ?_⟩
    refine ⟨_, rfl, _, rfl, p, C, dx, _, rfl, hp, T.cl, T.n1, (by show 0 < 1000; decide), ?_⟩
    refine ⟨_, rfl, _, rfl, p, C, dx, _, rfl, upd_same, T.cl, T.n2, (by show 1 < 1000; decide), ?_⟩
    refine k _ upd_same fun b o e hb => ?_
    rw [upd_ne hb, upd_ne hb]
    exact e
end
end Sky

namespace Sky
open PySem L2
section
variable {P : Program} {w : World} {K : PySem.W.Frag} {mg : Str → Option Value} {base : Heap}
theorem scCShows : FnScope ["self", "links"] ["self", "links"] (defScope sCShows) := ⟨rfl, rfl, rfl, by decide +kernel, rfl, by decide +kernel, by decide +kernel⟩
theorem ok_cShows {f C : Addr} {fd : FuncData} (F : Fun K "shows" "Crossed.shows" sCShows f fd) (B : Blt mg) (T : CCls K C) (cA : Callee P w K mg base 2 "all_below_their_places" ["links"] spBelow) : FnOk P w K mg base CX0 3 f fd ["self", "links"] (spCShows C) := by
  refine F.ok scCShows (fun vs H Q E h => ?_) (fun cdv A outer s H vs Q E hr h => ?_)
  · obtain ⟨p, dx, a, f, s, ls, rfl, _⟩ := h
    rfl
  · obtain ⟨p, dx, a, f, s, ls, rfl, hp, hS, hl, k⟩ := h
    refine ⟨_, (pss_cons (ps_if (pt_not (pt_chn pe_int (pch_cons op_le (pe_fld (pv 0) rfl) (pch_cons op_lt (pe_fld (pv 0) rfl) (pch_last op_lt (pe_callB call_len_seq rfl B.len PySem.boot_len (pa_cons (pv 1) pa_nil))))))) (pss_one (ps_ret pe_bl)) pss_nil)
      (pss_one (ps_ret (pe_and (pe_chain op_lt op_lt (pe_ix ix_list (pv 1) (pe_fld (pv 0) rfl) (fun _ _ => rfl)) (pe_ix ix_list (pv 1) (pe_fld (pv 0) rfl) (fun _ _ => rfl)) (pe_fld (pv 0) rfl)) (pe_one (pe_fn cA hr rfl (pa_cons (pv 1) pa_nil))))))), ?_⟩
    have g1 := crF_first f s
    have g2 := crF_second f s
    have hn : (((ls.map V.int).length : Nat) : Int) = (ls.length : Int) := by rw [List.length_map]
    have bad : ¬ Cross ls f s → Q (.bl false) H := fun hb => by
      have := k H (Same.refl _)
      unfold crossB at this
      rw [decide_eq_false hb, Bool.false_and] at this; exact this
    refine ⟨_, rfl, p, C, dx, _, _, rfl, hp, T.cl, T.n1, g1, 0, f, rfl, rfl, _, rfl, ite2 (fun h1 => ?_) (fun h1 => iteT (bad fun z => h1 (decide_eq_true z.1)))⟩
    refine ⟨_, rfl, p, C, dx, _, _, rfl, hp, T.cl, T.n2, g2, f, s, rfl, rfl, _, rfl, ite2 (fun h2 => ?_) (fun h2 => iteT (bad fun z => h2 (decide_eq_true z.2.1)))⟩
    have h1' : 0 ≤ f := of_decide_eq_true h1
    have h2' : f < s := of_decide_eq_true h2
    refine ⟨_, rfl, a, _, rfl, .inl (SqL.of hS), s, _, rfl, rfl, _, rfl, ?_⟩
    rw [hn]
    by_cases h3 : s < (ls.length : Int)
    · rw [decide_eq_true h3]
      refine iteF ?_
      refine ⟨_, rfl, _, rfl, p, C, dx, _, _, rfl, hp, T.cl, T.n1, g1, a, _, _, _, rfl, rfl, SqL.of hS, atI_map' f.toNat (by omega) (by omega), ?_⟩
      refine ⟨_, rfl, _, rfl, p, C, dx, _, _, rfl, hp, T.cl, T.n2, g2, a, _, _, _, rfl, rfl, SqL.of hS, atI_map' s.toNat (by omega) (by omega), ?_⟩
      refine ⟨_, _, rfl, rfl, _, rfl, ite2 (fun h4 => ?_) (fun h4 => ⟨_, rfl, iteF (bad fun z => h4 (decide_eq_true z.2.2.2.1))⟩)⟩
      have h4' : ls.getD f.toNat 0 < ls.getD s.toNat 0 := of_decide_eq_true h4
      refine ⟨_, rfl, p, C, dx, _, _, rfl, hp, T.cl, T.n1, g1, _, _, rfl, rfl, _, rfl, ite2 (fun h5 => ?_) (fun h5 => bad fun z => h5 (decide_eq_true z.2.2.2.2))⟩
      have h5' : ls.getD s.toNat 0 < f := of_decide_eq_true h5
      refine ⟨_, rfl, a, ls, rfl, hS, hl, fun H1 s1 => ?_⟩
      have := k H1 s1
      unfold crossB at this
      rw [decide_eq_true (show Cross ls f s from ⟨h1', h2', h3, h4', h5'⟩), Bool.true_and] at this
      exact this
    · rw [decide_eq_false h3]
      exact iteT (bad fun z => h3 z.2.2.1)
end
end Sky

namespace Sky
open PySem L2
section
variable {P : Program} {w : World} {K : PySem.W.Frag} {mg : Str → Option Value} {base : Heap}
theorem scNear : FnScope ["bars"] ["bars"] (defScope sNear) := ⟨rfl, rfl, rfl, by decide +kernel, rfl, by decide +kernel, by decide +kernel⟩
theorem ok_near {f : Addr} {fd : FuncData} (F : Fun K "nearest_lower" "nearest_lower" sNear f fd) (B : Blt mg) (cS : Callee P w K mg base 1 "reach_starts" ["bars"] spStarts) : FnOk P w K mg base CX0 2 f fd ["bars"] spNear := by
  refine F.ok scNear (fun vs H Q E h => ?_) (fun cdv A outer s H vs Q E hr h => ?_)
  · obtain ⟨a, xs, rfl, _⟩ := h
    rfl
  · obtain ⟨a, xs, rfl, hS, hl, k⟩ := h
    refine ⟨_, (pss_one (ps_ret (pe_lc (cap := []) ["start"] rfl (CompOk.of (defScope sNear) ["bars"] rfl rfl (by decide +kernel)) (pi_list (pe_fn cS hr rfl (pa_cons (pv 0) pa_nil))) (fun C s H fp => (pg_name (i := 0) (show List.Nodup (["start"] : List Str) from by decide +kernel) rfl (Or.inl rfl))) (fun C s H fp => pf_nil)
        (fun C s H fp => (pe_op op_sub (pv 0) pe_int))))), ?_⟩
    refine ⟨_, rfl, a, xs, rfl, hS, hl, fun l H1 nl s1 hL => ?_⟩
    refine ⟨l, rfl, ⟨_, SqL.of hL⟩, fun D hD => lc_listP (xs := (starts xs).map V.int) (fun v => match v with | .int x => .int (x - 1) | _ => .non) hD (SqL.of hL) (by rw [List.length_map, starts_length]; exact Nat.le_of_lt (small100 hl)) ?_ ?_⟩
    · intro i x ys C s H0 fp R hx hR
      obtain ⟨z, rfl, _⟩ := get_mapM hx
      exact ⟨_, rfl, z, 1, rfl, rfl, hR⟩
    · refine k D _ (s1.free hD) (s1.put (s1.free hD)) (upd_same.trans ?_)
      unfold linksL
      rw [List.map_map, List.map_map]; rfl
end
end Sky

namespace Sky
open PySem L2
section
variable {P : Program} {w : World} {K : PySem.W.Frag} {mg : Str → Option Value} {base : Heap}
theorem scBars : FnScope ["_law_script", "_law_mixed", "_law_most", "_law_bars_here"] ["_law_script"] (defScope sBars) := ⟨rfl, rfl, rfl, by decide +kernel, rfl, by decide +kernel, by decide +kernel⟩
theorem ok_bars {f : Addr} {fd : FuncData} (F : Fun K "_law_bars" "_law_bars" sBars f fd) (B : Blt mg) : FnOk P w K mg base CX0 1 f fd ["_law_script"] (spBars K) := by
  refine F.ok scBars (fun vs H Q E h => ?_) (fun cdv A outer s H vs Q E hr h => ?_)
  · obtain ⟨a, ns, rfl, _⟩ := h
    rfl
  · obtain ⟨a, ns, rfl, hS, hl, k⟩ := h
    refine ⟨_, pss_cons (ps_set (i := 1) scBars.nd rfl (Or.inl rfl) (pe_callB (call_sum rfl) rfl B.sum boot_sum' (pa_cons (pv 0) pa_nil)))
      (pss_cons (ps_set (i := 2) scBars.nd rfl (Or.inr rfl) (pe_ix ix_tup (pe_tup (pa_cons pe_int (pa_cons pe_int (pa_cons pe_int (pa_cons pe_int pa_nil))))) (pe_op op_mod (pv 1) pe_int) (fun _ _ => rfl)))
      (pss_cons (ps_lc (i := 3) (cap := [2]) ["_law_cell"] rfl (CompOk.of (defScope sBars) ["_law_script", "_law_mixed", "_law_most", "_law_bars_here"] rfl rfl (by decide +kernel)) scBars.nd rfl (Or.inl rfl) (pi_list (pv 0)) (fun C s H fp => pg_name (i := 0) (show List.Nodup (["_law_cell", "_law_most"] : List Str) from by decide +kernel) rfl (Or.inl rfl)) (fun C s H fp => pf_nil)
        (fun C s H fp => pe_op op_mod (pv 0) (pv 1)) rfl)
      (pss_cons (ps_if (pt_cmpR op_eq (pe_op op_mod (pe_op op_fdiv (pv 1) pe_int) pe_int) pe_int (nomark _)) (pss_one (ps_ret (pe_callB call_sorted rfl B.sorted boot_sorted' (pa_cons (pv 3) pa_nil)))) pss_nil)
      (pss_one (ps_ret (pe_ifExp (pt_cmpR op_eq (pe_op op_mod (pe_op op_fdiv (pv 1) pe_int) pe_int) pe_int (nomark _)) (pe_rev (pe_callB call_sorted rfl B.sorted boot_sorted' (pa_cons (pv 3) pa_nil))) (pv 3))))))), ?_⟩
    refine ⟨_, rfl, a, ns, rfl, hS, ?_⟩
    obtain ⟨v, hv, v0, v1⟩ : ∃ v : Int, atI [V.int 3, V.int 3, V.int 10, V.int 10000001] (ns.sum % 4) = some (V.int v) ∧ 0 < v ∧ v ≤ 10000001 := by
      have h : ns.sum % 4 = 0 ∨ ns.sum % 4 = 1 ∨ ns.sum % 4 = 2 ∨ ns.sum % 4 = 3 := by omega
      rcases h with h | h | h | h
      · rw [h]; exact ⟨3, rfl, by omega, by omega⟩
      · rw [h]; exact ⟨3, rfl, by omega, by omega⟩
      · rw [h]; exact ⟨10, rfl, by omega, by omega⟩
      · rw [h]; exact ⟨10000001, rfl, by omega, by omega⟩
    refine ⟨by show 4 ≤ sizeLine; decide, fun t ht => ⟨_, rfl, _, _, rfl, rfl, (by show (0 : Int) < 4; decide), t, [V.int 3, V.int 3, V.int 10, V.int 10000001], ns.sum % 4, V.int v, rfl, rfl, SqT.of upd_same, hv, ?_⟩⟩
    have s1 : Same H (upd H t (.tup [V.int 3, V.int 3, V.int 10, V.int 10000001])) := Same.new ht _
    have hz : (ns.map V.int).length ≤ sizeLine := by rw [List.length_map]; exact Nat.le_of_lt (small100 (by omega))
    refine ⟨_, rfl, a, rfl, ⟨_, s1.seq hS⟩, fun D hD => lc_listP (fun u => match u with | .int x => .int (x % v) | _ => .non) hD (s1.seq hS) hz ?_ ?_⟩
    · intro i x ys C s H0 fp R hx hR
      obtain ⟨z, rfl, _⟩ := get_mapM hx
      exact ⟨_, rfl, _, rfl, z, v, rfl, rfl, v0, hR⟩
    have hbl : (ns.map (· % v)).length = ns.length := List.length_map _
    have hbh : Hts (ns.map (· % v)) := by
      refine ⟨by rw [hbl]; omega, fun x hx => ?_⟩
      obtain ⟨z, _, rfl⟩ := List.mem_map.mp hx
      have := Int.emod_nonneg z (by omega : v ≠ 0)
      have := Int.emod_lt_of_pos z v0
      omega
    have nD : H D = none := s1.free hD
    generalize hH2 : upd (upd H t (.tup [V.int 3, V.int 3, V.int 10, V.int 10000001])) D _ = H2
    have s2 : Same H H2 := by rw [← hH2]; exact s1.put nD
    have hB : IL H2 D (ns.map (· % v)) := by
      rw [← hH2]
      refine upd_same.trans ?_
      rw [List.map_map, List.map_map]; rfl
    have fin : ∀ l ns', H2 l = none → ns'.Perm (ns.map (· % v)) → H l = none ∧ ns'.length = ns.length ∧ Hts ns' := fun l ns' hl' hp => ⟨s2.free hl', hp.length_eq.trans hbl, by rw [hp.length_eq]; exact hbh.1, fun x hx => hbh.2 x (hp.mem_iff.mp hx)⟩
    refine ⟨_, rfl, _, _, rfl, rfl, ⟨by decide, by decide⟩, _, _, rfl, rfl, (by show (0 : Int) < 7; decide), rfl, _, rfl, ite2 (fun _ => ?_) (fun _ => ?_)⟩
    · refine ⟨_, rfl, D, ns.map (· % v), rfl, SqL.of hB, by rw [hbl]; omega, fun l ns' hl' hp _ => ?_⟩
      obtain ⟨f1, f2, f3⟩ := fin l ns' hl' hp
      exact k ns' f2 f3 l _ f1 (s2.put f1) upd_same
    · refine ⟨_, rfl, _, _, rfl, rfl, ⟨by decide, by decide⟩, _, _, rfl, rfl, (by show (0 : Int) < 7; decide), rfl, _, rfl, ite2 (fun _ => ?_) (fun _ => ?_)⟩
      · refine ⟨_, rfl, D, ns.map (· % v), rfl, SqL.of hB, by rw [hbl]; omega, fun l ns' hl' hp _ => ?_⟩
        obtain ⟨f1, f2, f3⟩ := fin l ns' hl' hp
        refine ⟨l, _, rfl, SqL.of upd_same, fun p hp' => ?_⟩
        have s3 : Same H (upd H2 l (.lst (ns'.map V.int))) := s2.put f1
        have np : H p = none := s3.free hp'
        refine k ns'.reverse (by rw [List.length_reverse]; exact f2) ⟨by rw [List.length_reverse]; exact f3.1, fun x hx => f3.2 x (List.mem_reverse.mp hx)⟩ p _ np (s3.put np) (upd_same.trans ?_)
        rw [List.map_reverse]
      · exact ⟨_, rfl, k _ hbl hbh D H2 nD s2 hB⟩
end
end Sky

namespace Sky
open PySem L2
section
variable {P : Program} {w : World} {K : PySem.W.Frag} {mg : Str → Option Value} {base : Heap}
theorem scLLinks : FnScope ["_law_bars_here", "_law_found", "_law_place", "_law_at"] ["_law_bars_here"] (defScope sLLinks) := ⟨rfl, rfl, rfl, by decide +kernel, rfl, by decide +kernel, by decide +kernel⟩
theorem ok_llinks {f : Addr} {fd : FuncData} (F : Fun K "_law_links" "_law_links" sLLinks f fd) (B : Blt mg)  : FnOk P w K mg base CX0 1 f fd ["_law_bars_here"] spNear := by
  refine F.ok scLLinks (fun vs H Q E h => ?_) (fun cdv A outer s H vs Q E hr h => ?_)
  · obtain ⟨a, xs, rfl, _⟩ := h
    rfl
  · obtain ⟨a, xs, rfl, hS, hl, k⟩ := h
    refine ⟨_, (pss_cons (ps_set (i := 1) scLLinks.nd rfl (Or.inl rfl) (pe_lst pa_nil))
      (pss_cons (ps_for PassesOwn.never rfl (pi_range1 rfl B.range (pa_cons (pe_callB call_len_seq rfl B.len PySem.boot_len (pa_cons (pv 0) pa_nil)) pa_nil)) (pg_name (i := 2) scLLinks.nd rfl (Or.inl rfl))
      (pss_cons (ps_set (i := 3) scLLinks.nd rfl (Or.inl rfl) (pe_op op_sub (pv 2) pe_int))
      (pss_cons (ps_while PassesOwn.never (PW.pt (pw_and (pt_cmpR op_ge (pv 3) pe_int (nomark _)) (pw_and1 (pt_cmpR op_ge (pe_ix ix_list (pv 0) (pv 3) (fun _ _ => rfl)) (pe_ix ix_list (pv 0) (pv 2) (fun _ _ => rfl)) (nomark _)))))
      (pss_one (ps_set (i := 3) scLLinks.nd rfl (Or.inl rfl) (pe_op op_sub (pv 3) pe_int))))
      (pss_one (ps_expr (pe_bm PySem.F.plainAttrs_list PySem.F.slot_list_append PySem.F.type_list_append mt_append (pv 1) (pa_cons (pv 3) pa_nil)))))))
      (pss_one (ps_ret (pv 1))))), ?_⟩
    refine ⟨Nat.zero_le _, fun c hc => ?_⟩
    have s1 : Same H (upd H c (.lst [])) := Same.new hc _
    refine ⟨_, rfl, a, _, rfl, .inl (SqL.of (s1 _ _ hS)), ((xs.map V.int).length : Int), rfl, by omega, by rw [List.length_map]; omega, ?_⟩
    rw [show (((xs.map V.int).length : Int)).toNat = xs.length by rw [List.length_map]; rfl]
    refine for_range (lo := 0) (n := xs.length) (fun i σ H2 => ∃ v2 v3, σ = [some (.ref a), some (.ref c), v2, v3] ∧ Same H H2 ∧ IL H2 c ((linksL xs).take i)) ⟨none, none, rfl, s1, upd_same⟩ ?_ ?_
    · rintro i σ H2 hi ⟨v2, v3, rfl, s2, hC⟩
      have e0 : (0 : Int) + (i : Int) = (i : Int) := by omega
      rw [e0]
      have hS2 : IL H2 a xs := s2 _ _ hS
      have hst := stN_le xs i
      refine ⟨_, rfl, (i : Int), 1, rfl, rfl, ?_⟩
      refine ⟨fun m σ H3 => ∃ f : Nat, H3 = H2 ∧ σ = [some (.ref a), some (.ref c), some (.int (i : Nat)), some (.int ((f : Int) - 1))] ∧ m = f ∧ f ≤ i ∧ stN xs i ≤ f, ⟨i, i, rfl, rfl, rfl, Nat.le_refl _, hst⟩, ?_⟩
      rintro m σ H3 ⟨f, rfl, rfl, rfl, hf, hsf⟩
      have fin : stN xs i = m → ∃ v2 v3, ([some (.ref a), some (.ref c), some (.int (i : Nat)), some (.int ((m : Int) - 1))] : St) = [some (.ref a), some (.ref c), v2, v3] ∧ Same H (upd H3 c (.lst (((linksL xs).take i).map V.int ++ [.int ((m : Int) - 1)]))) ∧ IL (upd H3 c (.lst (((linksL xs).take i).map V.int ++ [.int ((m : Int) - 1)]))) c ((linksL xs).take (i + 1)) := fun e => by
        refine ⟨_, _, rfl, s2.put hc, upd_same.trans ?_⟩
        rw [linksL_take hi, e, List.map_append]; rfl
      refine ⟨_, rfl, _, 0, rfl, rfl, _, rfl, ite2 (fun h1 => ?_) (fun h1 => iteF ?_)⟩
      · have h1' : 0 ≤ (m : Int) - 1 := of_decide_eq_true h1
        refine ⟨_, rfl, _, rfl, a, _, _, _, rfl, rfl, SqL.of hS2, atI_map' (m - 1) (by omega) (by omega), _, rfl, _, rfl, a, _, _, _, rfl, rfl, SqL.of hS2, atI_mapM hi, _, _, rfl, rfl, _, rfl, ite2 (fun h2 => ?_) (fun h2 => ?_)⟩
        · have h2' : xs.getD i 0 ≤ xs.getD (m - 1) 0 := of_decide_eq_true h2
          refine ⟨_, fun _ _ z => z, ⟨_, rfl, _, 1, rfl, rfl, m - 1, by omega, m - 1, rfl, ?_, rfl, by omega, ?_⟩⟩
          · show ([some (.ref a), some (.ref c), some (.int (i : Nat)), some (.int ((m : Int) - 1 - 1))] : St) = _
            rw [show (m : Int) - 1 - 1 = ((m - 1 : Nat) : Int) - 1 by omega]
          · rcases stN_low xs i with z | z
            · omega
            · by_cases hc2 : stN xs i = m
              · rw [hc2] at z; omega
              · omega
        · have h2' : ¬ xs.getD i 0 ≤ xs.getD (m - 1) 0 := fun z => h2 (decide_eq_true z)
          have e : stN xs i = m := by
            by_cases hc2 : stN xs i = m
            · exact hc2
            · exact absurd (stN_ge xs i (m - 1) (by omega) (by omega)) h2'
          exact ⟨_, rfl, .inl ⟨rfl, _, SqL.of hC⟩, _, rfl, c, _, _, rfl, rfl, hC, by rw [List.length_map, List.length_take, linksL_length]; exact small100 (by omega), fin e⟩
      · have h1' : ¬ 0 ≤ (m : Int) - 1 := fun z => h1 (decide_eq_true z)
        exact ⟨_, rfl, .inl ⟨rfl, _, SqL.of hC⟩, _, rfl, c, _, _, rfl, rfl, hC, by rw [List.length_map, List.length_take, linksL_length]; exact small100 (by omega), fin (by omega)⟩
    · rintro σ H2 ⟨v2, v3, rfl, s2, hC⟩
      rw [List.take_of_length_le (by rw [linksL_length]; exact Nat.le_refl _)] at hC
      exact ⟨_, rfl, k c H2 hc s2 hC⟩
end
end Sky

namespace Sky
open PySem L2
section
variable {P : Program} {w : World} {K : PySem.W.Frag} {mg : Str → Option Value} {base : Heap}
theorem scSays : FnScope ["_law_said", "_law_due"] ["_law_said", "_law_due"] (defScope sSays) := ⟨rfl, rfl, rfl, by decide +kernel, rfl, by decide +kernel, by decide +kernel⟩
theorem ok_says {f : Addr} {fd : FuncData} (F : Fun K "_law_says" "_law_says" sSays f fd) (B : Blt mg)  : FnOk P w K mg base CX0 1 f fd ["_law_said", "_law_due"] spSays := by
  refine F.ok scSays (fun vs H Q E h => ?_) (fun cdv A outer s H vs Q E hr h => ?_)
  · obtain ⟨x, y, rfl, _⟩ := h
    rfl
  · obtain ⟨x, y, rfl, k⟩ := h
    refine ⟨_, (pss_one (ps_ret (pe_and (pe_callB call_isinst rfl B.isinstance boot_isinst' (pa_cons (pv 0) (pa_cons (pe_bltn rfl B.bool boot_bool' (v := .ty "bool") rfl) pa_nil))) (pe_one (pe_cmpR op_eq (pv 0) (pv 1) (nomark _)))))), ?_⟩
    refine ⟨_, rfl, _, _, _, _, _, rfl, .bl x, rfl, kit_bb _, true, rfl, iteT ⟨_, rfl, _, rfl, rfl, ?_⟩⟩
    have e : decide (V.bl x = V.bl y) = decide (x = y) := by
      by_cases h : x = y
      · rw [h]; simp
      · rw [decide_eq_false h, decide_eq_false (fun z => h (V.bl.inj z))]
    rw [e]
    exact k
end
end Sky

namespace Sky
open PySem L2
section
variable {P : Program} {w : World} {K : PySem.W.Frag} {mg : Str → Option Value} {base : Heap}
theorem scUnder : FnScope ["_law_bars_here", "_law_first", "_law_many", "_law_high", "_law_around", "_law_place", "_law_pair", "_law_one", "_law_two"] ["_law_bars_here", "_law_first", "_law_many", "_law_high", "_law_around"] (defScope sUnder) := ⟨rfl, rfl, rfl, by decide +kernel, rfl, by decide +kernel, by decide +kernel⟩
theorem ok_under {f : Addr} {fd : FuncData} (F : Fun K "_law_under" "_law_under" sUnder f fd) (B : Blt mg)  : FnOk P w K mg base CX0 1 f fd ["_law_bars_here", "_law_first", "_law_many", "_law_high", "_law_around"] spUnder := by
  refine F.ok scUnder (fun vs H Q E h => ?_) (fun cdv A outer s H vs Q E hr h => ?_)
  · obtain ⟨a, l, f, m, h, xs, prs, rfl, _⟩ := h
    rfl
  · obtain ⟨a, l, f, m, h, xs, prs, rfl, hS, hh, hT, hpl, hb, k⟩ := h
    refine ⟨_, (pss_cons (ps_if (PW.pt (pw_or (pt_cmpR op_lt (pv 1) pe_int (nomark _)) (pw_or (pt_cmpR op_lt (pv 2) pe_int (nomark _)) (pw_or (pt_cmpR op_lt (pv 3) pe_int (nomark _)) (pw_or (pt_cmpR op_gt (pe_op op_add (pv 1) (pv 2)) (pe_callB call_len_seq rfl B.len PySem.boot_len (pa_cons (pv 0) pa_nil)) (nomark _)) (pw_or1 (pt_cmpR op_ne (pe_callB call_len_seq rfl B.len PySem.boot_len (pa_cons (pv 4) pa_nil)) (pe_callB call_len_seq rfl B.len PySem.boot_len (pa_cons (pv 0) pa_nil)) (nomark _)))))))) (pss_one (ps_ret pe_bl)) pss_nil)
      (pss_cons (ps_if (pt_cmpR op_lt (pe_callB (call_minL rfl) rfl B.min PyProof.Rows.boot_min (pa_cons (pe_slice sl_list (pv 0) (po_some (pv 1)) (po_some (pe_op op_add (pv 1) (pv 2)))) pa_nil)) (pv 3) (nomark _)) (pss_one (ps_ret pe_bl)) pss_nil)
      (pss_cons (ps_for PassesOwn.never rfl (pi_enum rfl B.enumerate (pa_cons (pv 4) pa_nil)) (pg_tup rfl (pgs_cons (pg_name (i := 5) scUnder.nd rfl (Or.inl rfl)) (pgs_cons (pg_name (i := 6) scUnder.nd rfl (Or.inl rfl)) pgs_nil)))
      (pss_cons (ps_asg (pv 6) (pg_tup rfl (pgs_cons (pg_name (i := 7) scUnder.nd rfl (Or.inl rfl)) (pgs_cons (pg_name (i := 8) scUnder.nd rfl (Or.inl rfl)) pgs_nil))))
      (pss_cons (ps_if (pt_not (pt_chn pe_int (pch_cons op_le (pv 7) (pch_cons op_le (pv 5) (pch_cons op_le (pv 8) (pch_last op_lt (pe_callB call_len_seq rfl B.len PySem.boot_len (pa_cons (pv 0) pa_nil)))))))) (pss_one (ps_ret pe_bl)) pss_nil)
      (pss_cons (ps_if (pt_cmpR op_ge (pe_maxD rfl rfl B.max (pa_cons (pe_op op_cat (pe_slice sl_list (pv 0) (po_some (pe_callB (call_max2 rfl) rfl B.max PyProof.Rows.boot_max (pa_cons (pe_op op_sub (pv 7) pe_int) (pa_cons pe_int pa_nil)))) (po_some (pv 7))) (pe_slice sl_list (pv 0) (po_some (pe_op op_add (pv 8) pe_int)) (po_some (pe_op op_add (pv 8) pe_int)))) pa_nil) (pe_un un_neg pe_int)) (pe_ix ix_list (pv 0) (pv 5) (fun _ _ => rfl)) (nomark _)) (pss_one (ps_ret pe_bl)) pss_nil)
      (pss_one (ps_if (pt_cmpR op_gt (pe_op op_mul (pe_ix ix_list (pv 0) (pv 5) (fun _ _ => rfl)) (pe_op op_add (pe_op op_sub (pv 8) (pv 7)) pe_int)) (pe_op op_mul (pv 2) (pv 3)) (nomark _)) (pss_one (ps_ret pe_bl)) pss_nil))))))
      (pss_one (ps_ret pe_bl))))), ?_⟩
    have hn : (((xs.map V.int).length : Nat) : Int) = (xs.length : Int) := by rw [List.length_map]
    obtain ⟨ps, E⟩ := hT.e
    have el : (((ps.map V.ref).length : Nat) : Int) = (prs.length : Int) := by rw [List.length_map, E.len]
    have hx := hh.1
    have badU : (f < 0 ∨ m < 1 ∨ (xs.length : Int) < f + m ∨ h < 0) → ∀ H', Same H H' → Q (.bl false) H' := fun hb H' s => by
      have := k H' s
      unfold underB at this
      rw [if_pos hb, Bool.false_and] at this; exact this
    have badN : ngB xs m h prs = false → ∀ H', Same H H' → Q (.bl false) H' := fun hb H' s => by
      have := k H' s
      rw [hb, Bool.and_false] at this; exact this
    refine ⟨_, rfl, f, 0, rfl, rfl, _, rfl, ite2 (fun h1 => iteT (badU (.inl (of_decide_eq_true h1)) _ (Same.refl _))) (fun h1 => ?_)⟩
    refine ⟨_, rfl, m, 1, rfl, rfl, _, rfl, ite2 (fun h2 => iteT (badU (.inr (.inl (of_decide_eq_true h2))) _ (Same.refl _))) (fun h2 => ?_)⟩
    refine ⟨_, rfl, h, 0, rfl, rfl, _, rfl, ite2 (fun h3 => iteT (badU (.inr (.inr (.inr (of_decide_eq_true h3)))) _ (Same.refl _))) (fun h3 => ?_)⟩
    refine ⟨_, rfl, _, rfl, f, m, rfl, rfl, _, rfl, a, _, rfl, .inl (SqL.of hS), _, _, rfl, rfl, _, rfl, ite2 (fun h4 => iteT (badU (.inr (.inr (.inl (by rw [← hn]; exact of_decide_eq_true h4)))) _ (Same.refl _))) (fun h4 => ?_)⟩
    have h1' : 0 ≤ f := by have : ¬ f < 0 := fun z => h1 (decide_eq_true z); omega
    have h2' : 1 ≤ m := by have : ¬ m < 1 := fun z => h2 (decide_eq_true z); omega
    have h3' : 0 ≤ h := by have : ¬ h < 0 := fun z => h3 (decide_eq_true z); omega
    have h4' : f + m ≤ xs.length := by have : ¬ (((xs.map V.int).length : Nat) : Int) < f + m := fun z => h4 (decide_eq_true z); rw [hn] at this; omega
    refine ⟨_, rfl, l, _, rfl, .inl (SqL.of E.at_), _, rfl, a, _, rfl, .inl (SqL.of hS), rfl, _, rfl, ?_⟩
    rw [el, hn, dec_int']
    by_cases hlen : prs.length = xs.length
    · rw [decide_eq_true (show (prs.length : Int) = (xs.length : Int) by omega)]
      refine iteF ?_
      have eu : underB xs f m h = ((xs.drop f.toNat).take m.toNat).all fun x => decide (h ≤ x) := by unfold underB; rw [if_neg (by omega)]
      -- the slice
      refine ⟨_, rfl, _, rfl, f, rfl, _, rfl, _, rfl, f, m, rfl, rfl, _, rfl, a, _, rfl, SqL.of hS, fun q hq => ?_⟩
      have e1 : f = ((f.toNat : Nat) : Int) := by omega
      have e2 : f + m = (((f + m).toNat : Nat) : Int) := by omega
      have e3 : cutV (xs.map V.int) (some f) (some (f + m)) = ((xs.drop f.toNat).take m.toNat).map V.int := by
        have := cut_map xs f.toNat (f + m).toNat (by omega) (by omega)
        rw [← e1, ← e2] at this
        rw [this]
        congr 2
        omega
      have s1 : Same H (upd H q (.lst (cutV (xs.map V.int) (some f) (some (f + m))))) := Same.new hq _
      have hq1 : (upd H q (.lst (cutV (xs.map V.int) (some f) (some (f + m))))) q = some (.lst (((xs.drop f.toNat).take m.toNat).map V.int)) := by rw [upd_same, e3]
      generalize upd H q (.lst (cutV (xs.map V.int) (some f) (some (f + m)))) = H1 at s1 hq1
      refine ⟨q, _, rfl, SqL.of hq1, ?_, fun M hM hM2 => ?_⟩
      · intro z
        have := congrArg List.length z
        rw [List.length_take, List.length_drop, List.length_nil] at this
        omega
      refine ⟨_, rfl, M, h, rfl, rfl, _, rfl, ite2 (fun h5 => ?_) (fun h5 => ?_)⟩
      · have h5' : M < h := of_decide_eq_true h5
        have := k H1 s1
        have eF : underB xs f m h = false := by
          rw [eu]
          refine Bool.eq_false_iff.mpr fun z => ?_
          have := of_decide_eq_true (List.all_eq_true.mp z M hM)
          omega
        rw [eF, Bool.false_and] at this
        exact this
      have h5' : ¬ M < h := fun z => h5 (decide_eq_true z)
      have eT : underB xs f m h = true := by
        rw [eu, List.all_eq_true]
        intro x hx'
        have := hM2 x hx'
        exact decide_eq_true (by omega)
      rw [eT, Bool.true_and] at k
      -- the pairs
      have E1 := E.same s1
      refine ⟨_, rfl, l, rfl, ⟨_, SqL.of E1.at_⟩, for_enum (K := K) (a := l) (xs := ps.map V.ref) (fun i σ H2 => ∃ v5 v6 v7 v8, σ = [some (.ref a), some (.int f), some (.int m), some (.int h), some (.ref l), v5, v6, v7, v8] ∧ Same H1 H2 ∧ ∀ j, j < i → okB xs (m * h) j (prs.getD j (0, 0)) = true)
        ⟨none, none, none, none, rfl, Same.refl _, fun j hj => by omega⟩ (fun i σ H2 _ ⟨_, _, _, _, _, s2, _⟩ => SqL.of (s2 _ _ E1.at_)) ?_ ?_⟩
      · rintro i y σ H2 t hi ⟨v5, v6, v7, v8, rfl, s2, hok⟩ ht
        rw [List.getElem?_map] at hi
        cases ep : ps[i]? with
        | none => rw [ep] at hi; cases hi
        | some pp =>
          rw [ep] at hi
          cases Option.some.inj hi
          have hil : i < ps.length := (List.getElem?_eq_some_iff.mp ep).1
          have hlen2 := E.len
          have hix : i < xs.length := by omega
          obtain ⟨⟨p, r⟩, hq1, hq2⟩ := E1.it i pp ep
          have s3 : Same H1 (upd H2 t (.tup [.int (i : Nat), .ref pp])) := s2.put (s2.free ht)
          refine ⟨t, _, rfl, SqT.of upd_same, rfl, _, _, rfl, _, _, rfl, rfl, ?_⟩
          generalize upd H2 t (.tup [.int (i : Nat), .ref pp]) = H3 at s3
          have egd : prs.getD i (0, 0) = (p, r) := by rw [List.getD_eq_getElem?_getD, hq1]; rfl
          have bad : ∀ H', Same H H' → okB xs (m * h) i (p, r) = false → Q (.bl false) H' := fun H' s hb => by
            have := k H' s
            have e : ngB xs m h prs = false := by
              unfold ngB
              rw [if_pos hlen]
              refine Bool.eq_false_iff.mpr fun z => ?_
              have := List.all_eq_true.mp z i (List.mem_range.mpr (by omega))
              rw [egd, hb] at this; cases this
            rw [e] at this; exact this
          have s03 := s1.trans s3
          have hbi := getD_ht hh hix
          refine ⟨_, rfl, pp, _, rfl, SqT.of (s3 _ _ hq2), rfl, _, _, rfl, _, _, rfl, rfl, ?_⟩
          have badE : ¬ (0 ≤ p ∧ p ≤ i ∧ (i : Int) ≤ r ∧ r ≤ (xs.length : Int) - 1) → okB xs (m * h) i (p, r) = false := fun hc => by unfold okB endsB; rw [if_neg hc]; rfl
          refine ⟨_, rfl, 0, p, rfl, rfl, _, rfl, ite2 (fun g1 => ?_) (fun g1 => iteT (bad _ s03 (badE fun z => g1 (decide_eq_true z.1))))⟩
          refine ⟨_, rfl, p, _, rfl, rfl, _, rfl, ite2 (fun g2 => ?_) (fun g2 => iteT (bad _ s03 (badE fun z => g2 (decide_eq_true z.2.1))))⟩
          refine ⟨_, rfl, _, r, rfl, rfl, _, rfl, ite2 (fun g3 => ?_) (fun g3 => iteT (bad _ s03 (badE fun z => g3 (decide_eq_true z.2.2.1))))⟩
          have hS3 : IL H3 a xs := s03 _ _ hS
          refine ⟨_, rfl, a, _, rfl, .inl (SqL.of hS3), r, _, rfl, rfl, _, rfl, ?_⟩
          rw [hn]
          have g1' : 0 ≤ p := of_decide_eq_true g1
          have g2' : p ≤ i := of_decide_eq_true g2
          have g3' : (i : Int) ≤ r := of_decide_eq_true g3
          by_cases g4 : r < (xs.length : Int)
          · rw [decide_eq_true g4]
            refine iteF ?_
            obtain ⟨o, rfl⟩ : ∃ o : Nat, p = (o : Int) := ⟨p.toNat, by omega⟩
            obtain ⟨t2, rfl⟩ : ∃ t2 : Nat, r = (t2 : Int) := ⟨r.toNat, by omega⟩
            have eok : okB xs (m * h) i ((o : Int), (t2 : Int)) = (((decide (o = 0) || decide (xs.getD (o - 1) 0 < xs.getD i 0)) && (decide (t2 = xs.length - 1) || decide (xs.getD (t2 + 1) 0 < xs.getD i 0))) && decide (xs.getD i 0 * ((t2 : Int) - (o : Int) + 1) ≤ m * h)) := by
              unfold okB endsB cntP
              rw [if_pos ⟨g1', g2', g3', by omega⟩]
              have d1 : decide ((o : Int) = 0) = decide (o = 0) := by by_cases z : o = 0 <;> simp [z]
              have d2 : decide ((t2 : Int) = (xs.length : Int) - 1) = decide (t2 = xs.length - 1) := by
                by_cases z : t2 = xs.length - 1
                · rw [decide_eq_true z, decide_eq_true (by omega)]
                · rw [decide_eq_false z, decide_eq_false (by omega)]
              simp only [Int.toNat_natCast]
              rw [d1, d2]
            -- the bars just outside
            refine ⟨_, rfl, _, rfl, _, 1, rfl, rfl, (o : Int) - 1, 0, rfl, _, rfl, _, rfl, _, rfl, a, _, rfl, SqL.of hS3, fun q1 hq1' => ?_⟩
            have ec1 : cutV (xs.map V.int) (some (if 0 > (o : Int) - 1 then 0 else (o : Int) - 1)) (some (o : Int)) = ((xs.drop (o - 1)).take (o - (o - 1))).map V.int := by
              have e0 : (if 0 > (o : Int) - 1 then 0 else (o : Int) - 1) = ((o - 1 : Nat) : Int) := by split <;> omega
              rw [e0]
              exact cut_map xs (o - 1) o (by omega) (by omega)
            have hL4 : (upd H3 q1 (.lst (cutV (xs.map V.int) (some (if 0 > (o : Int) - 1 then 0 else (o : Int) - 1)) (some (o : Int))))) q1 = some (.lst (((xs.drop (o - 1)).take (o - (o - 1))).map V.int)) := by rw [upd_same, ec1]
            have s34 := Same.new hq1' (.lst (cutV (xs.map V.int) (some (if 0 > (o : Int) - 1 then 0 else (o : Int) - 1)) (some (o : Int))))
            generalize upd H3 q1 (.lst (cutV (xs.map V.int) (some (if 0 > (o : Int) - 1 then 0 else (o : Int) - 1)) (some (o : Int)))) = H4 at hL4 s34
            refine ⟨_, rfl, _, rfl, _, 1, rfl, rfl, _, rfl, _, rfl, _, 2, rfl, rfl, _, rfl, a, _, rfl, SqL.of (s34 _ _ hS3), fun q2 hq2' => ?_⟩
            have ec2 : cutV (xs.map V.int) (some ((t2 : Int) + 1)) (some ((t2 : Int) + 2)) = ((xs.drop (min (t2 + 1) xs.length)).take (min (t2 + 2) xs.length - min (t2 + 1) xs.length)).map V.int := by
              unfold cutV
              rw [show (t2 : Int) + 1 = ((t2 + 1 : Nat) : Int) by omega, show (t2 : Int) + 2 = ((t2 + 2 : Nat) : Int) by omega, HT.sIx_nat, HT.sIx_nat, List.length_map, List.map_take, List.map_drop]
            have hL5 : (upd H4 q2 (.lst (cutV (xs.map V.int) (some ((t2 : Int) + 1)) (some ((t2 : Int) + 2))))) q2 = some (.lst (((xs.drop (min (t2 + 1) xs.length)).take (min (t2 + 2) xs.length - min (t2 + 1) xs.length)).map V.int)) := by rw [upd_same, ec2]
            have s45 := Same.new hq2' (.lst (cutV (xs.map V.int) (some ((t2 : Int) + 1)) (some ((t2 : Int) + 2))))
            generalize upd H4 q2 (.lst (cutV (xs.map V.int) (some ((t2 : Int) + 1)) (some ((t2 : Int) + 2)))) = H5 at hL5 s45
            have hL45 := s45 _ _ hL4
            refine ⟨q1, q2, _, _, rfl, rfl, hL45, hL5, ?_, fun q3 hq3 => ?_⟩
            · rw [List.length_map, List.length_map, List.length_take, List.length_take]; exact Nat.le_of_lt (small100 (by omega))
            have hL6 : (upd H5 q3 (.lst (((xs.drop (o - 1)).take (o - (o - 1))).map V.int ++ ((xs.drop (min (t2 + 1) xs.length)).take (min (t2 + 2) xs.length - min (t2 + 1) xs.length)).map V.int))) q3 = some (.lst ((outL xs o t2).map V.int)) := by rw [upd_same]; unfold outL; rw [List.map_append]
            have s56 := Same.new hq3 (.lst (((xs.drop (o - 1)).take (o - (o - 1))).map V.int ++ ((xs.drop (min (t2 + 1) xs.length)).take (min (t2 + 2) xs.length - min (t2 + 1) xs.length)).map V.int))
            generalize upd H5 q3 (.lst (((xs.drop (o - 1)).take (o - (o - 1))).map V.int ++ ((xs.drop (min (t2 + 1) xs.length)).take (min (t2 + 2) xs.length - min (t2 + 1) xs.length)).map V.int)) = H6 at hL6 s56
            have s36 := (s34.trans s45).trans s56
            have s06 := s03.trans s36
            have s16 := s3.trans s36
            have hS6 : IL H6 a xs := s06 _ _ hS
            refine ⟨1, rfl, q3, outL xs o t2, -1, rfl, rfl, SqL.of hL6, fun z0 => ?_, fun z0 M2 hM3 hM4 => ?_⟩
            · have eM := outL_top (M := -1) hbi.1 (by omega) (by omega) (fun _ => rfl) (fun z => absurd z0 z)
              refine ⟨_, rfl, _, rfl, a, _, _, _, rfl, rfl, SqL.of hS6, atI_mapM hix, _, _, rfl, rfl, _, rfl, ?_⟩
              rw [eM]
              cases hw : ((decide (o = 0) || decide (xs.getD (o - 1) 0 < xs.getD i 0)) && (decide (t2 = xs.length - 1) || decide (xs.getD (t2 + 1) 0 < xs.getD i 0))) with
              | false =>
                rw [hw, Bool.false_and] at eok
                exact iteT (bad _ s06 eok)
              | true =>
                rw [hw, Bool.true_and] at eok
                refine iteF ?_
                refine ⟨_, rfl, _, rfl, a, _, _, _, rfl, rfl, SqL.of hS6, atI_mapM hix, _, rfl, _, rfl, _, _, rfl, rfl, _, 1, rfl, rfl, _, _, rfl, rfl, .inl ⟨by omega, by omega⟩, _, rfl, _, rfl, m, h, rfl, rfl, .inr hb, _, _, rfl, rfl, _, rfl, ite2 (fun g5 => ?_) (fun g5 => ?_)⟩
                · have g5' : m * h < xs.getD i 0 * ((t2 : Int) - (o : Int) + 1) := of_decide_eq_true g5
                  rw [decide_eq_false (by omega)] at eok
                  exact bad _ s06 eok
                · have g5' : ¬ m * h < xs.getD i 0 * ((t2 : Int) - (o : Int) + 1) := fun z => g5 (decide_eq_true z)
                  rw [decide_eq_true (by omega)] at eok
                  refine ⟨_, _, _, _, rfl, s16, fun j hj => ?_⟩
                  by_cases hji : j = i
                  · rw [hji, egd]; exact eok
                  · exact hok j (by omega)
            · have eM := outL_top (M := M2) hbi.1 (by omega) (by omega) (fun z => absurd z z0) (fun _ => ⟨hM3, hM4⟩)
              refine ⟨_, rfl, _, rfl, a, _, _, _, rfl, rfl, SqL.of hS6, atI_mapM hix, _, _, rfl, rfl, _, rfl, ?_⟩
              rw [eM]
              cases hw : ((decide (o = 0) || decide (xs.getD (o - 1) 0 < xs.getD i 0)) && (decide (t2 = xs.length - 1) || decide (xs.getD (t2 + 1) 0 < xs.getD i 0))) with
              | false =>
                rw [hw, Bool.false_and] at eok
                exact iteT (bad _ s06 eok)
              | true =>
                rw [hw, Bool.true_and] at eok
                refine iteF ?_
                refine ⟨_, rfl, _, rfl, a, _, _, _, rfl, rfl, SqL.of hS6, atI_mapM hix, _, rfl, _, rfl, _, _, rfl, rfl, _, 1, rfl, rfl, _, _, rfl, rfl, .inl ⟨by omega, by omega⟩, _, rfl, _, rfl, m, h, rfl, rfl, .inr hb, _, _, rfl, rfl, _, rfl, ite2 (fun g5 => ?_) (fun g5 => ?_)⟩
                · have g5' : m * h < xs.getD i 0 * ((t2 : Int) - (o : Int) + 1) := of_decide_eq_true g5
                  rw [decide_eq_false (by omega)] at eok
                  exact bad _ s06 eok
                · have g5' : ¬ m * h < xs.getD i 0 * ((t2 : Int) - (o : Int) + 1) := fun z => g5 (decide_eq_true z)
                  rw [decide_eq_true (by omega)] at eok
                  refine ⟨_, _, _, _, rfl, s16, fun j hj => ?_⟩
                  by_cases hji : j = i
                  · rw [hji, egd]; exact eok
                  · exact hok j (by omega)
          · rw [decide_eq_false g4]
            exact iteT (bad _ s03 (badE fun z => g4 (by omega)))
      · rintro σ H2 ⟨v5, v6, v7, v8, rfl, s2, hok⟩
        have e : ngB xs m h prs = true := by
          unfold ngB
          rw [if_pos hlen, List.all_eq_true]
          intro j hj
          exact hok j (by rw [List.length_map, E.len]; exact List.mem_range.mp hj)
        have := k H2 (s1.trans s2)
        rw [e] at this; exact this
    · rw [decide_eq_false (show ¬ (prs.length : Int) = (xs.length : Int) by omega)]
      exact iteT (badN (by unfold ngB; rw [if_neg hlen]) _ (Same.refl _))
end
end Sky

namespace Sky
open PySem L2
section
variable {P : Program} {w : World} {K : PySem.W.Frag} {mg : Str → Option Value} {base : Heap}
theorem scBoardR : FnScope ["_law_bars_here", "_law_first", "_law_many", "_law_high", "_law_around", "_law_handed", "_law_answer"] ["_law_bars_here", "_law_first", "_law_many", "_law_high", "_law_around"] (defScope sBoardR) := ⟨rfl, rfl, rfl, by decide +kernel, rfl, by decide +kernel, by decide +kernel⟩
theorem ok_boardR {f C fS fI : Addr} {fd : FuncData} (F : Fun K "_law_board_right" "_law_board_right" sBoardR f fd) (B : Blt mg) {fdS fdI : FuncData} (T : BCls K C) (GS : FnOk P w K mg base CX0 3 fS fdS ["self", "bars"] (spShows C)) (bS : Binds K fdS ["self", "bars"] []) (mS : Meth K C "shows" fS) (M : Mk K C fI) (GI : FnOk P w K mg base CX0 1 fI fdI ["self", "first", "many", "high", "around"] (spInit C)) (bI : Binds K fdI ["self", "first", "many", "high", "around"] []) (mgC : mg "Board" = some (.ref C)) (cY : Callee P w K mg base 1 "_law_says" ["_law_said", "_law_due"] spSays) (cU : Callee P w K mg base 1 "_law_under" ["_law_bars_here", "_law_first", "_law_many", "_law_high", "_law_around"] spUnder) : FnOk P w K mg base CX0 4 f fd ["_law_bars_here", "_law_first", "_law_many", "_law_high", "_law_around"] spBoardR := by
  refine F.ok scBoardR (fun vs H Q E h => ?_) (fun cdv A outer s H vs Q E hr h => ?_)
  · obtain ⟨a, l, f, m, h, xs, prs, rfl, _⟩ := h
    rfl
  · obtain ⟨a, l, f, m, h, xs, prs, rfl, hS, hh, hT, hpl, hb, k⟩ := h
    have hr1 : Room 1 _ := hr.mono (by decide)
    have hu := hr.units
    refine ⟨_, (pss_cons (ps_set (i := 5) scBoardR.nd rfl (Or.inl rfl) (pe_callTy call_list_of rfl B.list boot_list' (pa_cons (pv 4) pa_nil)))
      (pss_cons (ps_set (i := 6) scBoardR.nd rfl (Or.inl rfl) (pe_make M GI (hr.mono (by decide)) rfl mgC bI .nil pass0 (pa_cons (pv 1) (pa_cons (pv 2) (pa_cons (pv 3) (pa_cons (pv 5) pa_nil))))))
      (pss_cons (ps_expr (pe_bm PySem.F.plainAttrs_list PySem.F.slot_list_append PySem.F.type_list_append mt_append (pv 5) (pa_cons (pe_tup (pa_cons pe_int (pa_cons pe_int pa_nil))) pa_nil)))
      (pss_cons (ps_if (PW.pt (pw_or (pt_cmpR (op_neTI hu) (pe_tup (pa_cons (pe_fld (pv 6) rfl) (pa_cons (pe_fld (pv 6) rfl) (pa_cons (pe_fld (pv 6) rfl) pa_nil)))) (pe_tup (pa_cons (pv 1) (pa_cons (pv 2) (pa_cons (pv 3) pa_nil)))) (nomark _)) (pw_or1 (pt_cmpR (op_neP hu) (pe_fld (pv 6) rfl) (pv 4) (nomark _))))) pss_never pss_nil)
      (pss_one (ps_ret (pe_fn cY hr1 rfl (pa_cons (pe_meth (pv 6) T.cl mS GS hr bS .nil pass0 (pa_cons (pv 0) pa_nil)) (pa_cons (pe_fn cU hr1 rfl (pa_cons (pv 0) (pa_cons (pv 1) (pa_cons (pv 2) (pa_cons (pv 3) (pa_cons (pv 4) pa_nil)))))) pa_nil))))))))), ?_⟩
    obtain ⟨ps, E1⟩ := hT.e
    refine ⟨_, rfl, l, _, rfl, .inl (SqL.of E1.at_), fun hd hhd => ?_⟩
    have s1 := Same.new hhd (.lst (ps.map V.ref))
    have hH1 : (upd H hd (.lst (ps.map V.ref))) hd = some (.lst (ps.map V.ref)) := upd_same
    have nhd : H hd = none := hhd
    generalize upd H hd (.lst (ps.map V.ref)) = H1 at s1 hH1
    -- the answer
    refine ⟨_, rfl, _, rfl, _, rfl, _, rfl, fun x dx nx ndx nex => ?_⟩
    have s2 : Same H1 (upd (upd H1 dx (.own x)) x (.ins C dx [])) := fun b o e => by rw [upd_ne (ne_of_none e nx), upd_ne (ne_of_none e ndx)]; exact e
    refine ⟨x, dx, hd, f, m, h, ps, rfl, upd_same, s2 _ _ hH1, fun ar H2 nar hx2 har2 keep => ⟨rfl, ?_⟩⟩
    have s12 : Same H1 H2 := fun b o e => keep b o (s2 b o e) (ne_of_none e nx)
    have s02 := s1.trans s12
    have hH2 := s12 _ _ hH1
    have nxhd : x ≠ hd := Ne.symm (ne_of_none hH1 nx)
    have narhd : ar ≠ hd := fun z => by rw [z, s2 _ _ hH1] at nar; cases nar
    have E2 := E1.same s02
    have A2 : TLe H2 ar ps prs := E1.to s02 har2
    -- one pair more in what was handed in
    refine ⟨_, rfl, .inl ⟨rfl, _, SqL.of hH2⟩, (by show 2 ≤ sizeLine; decide), fun t ht => ⟨hd, _, _, rfl, rfl, (Same.new ht _) _ _ hH2, by rw [List.length_map, E1.len]; exact small1000 (by omega), ?_⟩⟩
    have s03 : Same H (upd (upd H2 t (.tup [.int 0, .int 0])) hd (.lst (ps.map V.ref ++ [.ref t]))) := (s02.put (s02.free ht)).put nhd
    have ntup : ∀ (b : Addr) (o : HO), H2 b = some o → b ≠ hd → (upd (upd H2 t (.tup [.int 0, .int 0])) hd (.lst (ps.map V.ref ++ [.ref t]))) b = some o := fun b o e hb => by rw [upd_ne hb, upd_ne (ne_of_none e ht)]; exact e
    have hx3 := ntup x _ hx2 nxhd
    have A3 : TLe (upd (upd H2 t (.tup [.int 0, .int 0])) hd (.lst (ps.map V.ref ++ [.ref t]))) ar ps prs := ⟨ntup ar _ har2 narhd, E1.len, fun j p e => by
      obtain ⟨q, a1, a2⟩ := A2.it j p e
      exact ⟨q, a1, ntup p _ a2 (ne_of a2 hH2 (by intro z; cases z))⟩⟩
    generalize upd (upd H2 t (.tup [.int 0, .int 0])) hd (.lst (ps.map V.ref ++ [.ref t])) = H3 at s03 hx3 A3
    have g1 := bfl_first f m h ar
    have g2 := bfl_many f m h ar
    have g3 := bfl_high f m h ar
    have g4 := bfl_around f m h ar
    -- its fields
    refine ⟨_, rfl, x, C, dx, _, _, rfl, hx3, T.cl, T.n1, g1, _, rfl, x, C, dx, _, _, rfl, hx3, T.cl, T.n2, g2, _, rfl, x, C, dx, _, _, rfl, hx3, T.cl, T.n3, g3, (by show 3 ≤ sizeLine; decide), fun t1 ht1 => ?_⟩
    have s34 := Same.new ht1 (.tup [.int f, .int m, .int h])
    have hT4 : (upd H3 t1 (.tup [.int f, .int m, .int h])) t1 = some (.tup ([f, m, h].map V.int)) := upd_same
    generalize upd H3 t1 (.tup [.int f, .int m, .int h]) = H4 at s34 hT4
    refine ⟨_, rfl, _, rfl, _, rfl, (by show 3 ≤ sizeLine; decide), fun t2 ht2 => ?_⟩
    have s45 := Same.new ht2 (.tup [.int f, .int m, .int h])
    have hT5 : (upd H4 t2 (.tup [.int f, .int m, .int h])) t2 = some (.tup ([f, m, h].map V.int)) := upd_same
    generalize upd H4 t2 (.tup [.int f, .int m, .int h]) = H5 at s45 hT5
    refine ⟨t1, t2, _, _, rfl, rfl, SqT.of (s45 _ _ hT4), SqT.of hT5, _, rfl, iteNeg rfl ?_⟩
    have s35 := s34.trans s45
    have s05 := s03.trans s35
    have hx5 := s35 _ _ hx3
    have A5 := A3.same s35
    refine ⟨_, rfl, x, C, dx, _, _, rfl, hx5, T.cl, T.n4, g4, _, rfl, ar, l, _, _, rfl, rfl, A5.tl.tp, (E1.same s05).tl.tp, _, rfl, iteNeg rfl ?_⟩
    -- its own word
    refine ⟨_, rfl, x, dx, _, rfl, hx5, bfl_no _ _ _ _ (by decide +kernel) (by decide +kernel) (by decide +kernel) (by decide +kernel), _, rfl, x, dx, ar, a, f, m, h, xs, prs, rfl, hx5, A5.tl, hpl, s05 _ _ hS, hh, hb, fun H6 s6 => ?_⟩
    have s06 := s05.trans s6
    refine ⟨_, rfl, _, rfl, _, rfl, _, rfl, _, rfl, a, l, f, m, h, xs, prs, rfl, s06 _ _ hS, hh, (E1.same s06).tl, hpl, hb, fun H7 s7 => ⟨_, _, rfl, ?_⟩⟩
    rw [decide_eq_true rfl]
    exact k _ (s06.trans s7)
end
end Sky

namespace Sky
open PySem L2
section
variable {P : Program} {w : World} {K : PySem.W.Frag} {mg : Str → Option Value} {base : Heap}
theorem scBoardsR : FnScope ["_law_bars_here", "_law_cell", "_law_told", "_law_first", "_law_many", "_law_high", "_law_around", "_law_at", "_law_one", "_law_two", "_law_kind"] ["_law_bars_here", "_law_cell"] (defScope sBoardsR) := ⟨rfl, rfl, rfl, by decide +kernel, rfl, by decide +kernel, by decide +kernel⟩
theorem ok_boardsR {f C : Addr} {fd : FuncData} (F : Fun K "_law_boards_right" "_law_boards_right" sBoardsR f fd) (B : Blt mg) (T : BCls K C) (cBo : Callee P w K mg base 5 "board" ["bars"] (spBoard C)) (cBR : Callee P w K mg base 4 "_law_board_right" ["_law_bars_here", "_law_first", "_law_many", "_law_high", "_law_around"] spBoardR) : FnOk P w K mg base CX0 6 f fd ["_law_bars_here", "_law_cell"] spBoardsR := by
  refine F.ok scBoardsR (fun vs H Q E h => ?_) (fun cdv A outer s H vs Q E hr h => ?_)
  · obtain ⟨a, z, xs, rfl, _⟩ := h
    rfl
  · obtain ⟨a, z, xs, rfl, hS, hh, hne, k⟩ := h
    refine ⟨_, (pss_cons (ps_set (i := 2) scBoardsR.nd rfl (Or.inl rfl) (pe_fn cBo hr rfl (pa_cons (pv 0) pa_nil)))
      (pss_cons (ps_par3 (i := 3) (j := 4) (l := 5) rfl scBoardsR.nd rfl rfl rfl (by decide) (by decide) (by decide) rfl rfl rfl (pa_cons (pe_fld (pv 2) rfl) (pa_cons (pe_fld (pv 2) rfl) (pa_cons (pe_fld (pv 2) rfl) pa_nil))) rfl)
      (pss_cons (ps_set (i := 6) scBoardsR.nd rfl (Or.inl rfl) (pe_callTy call_list_of rfl B.list boot_list' (pa_cons (pe_fld (pv 2) rfl) pa_nil)))
      (pss_cons (ps_set (i := 7) scBoardsR.nd rfl (Or.inl rfl) (pe_op op_mod (pe_op op_fdiv (pv 1) pe_int) (pe_callB call_len_seq rfl B.len PySem.boot_len (pa_cons (pv 6) pa_nil))))
      (pss_cons (ps_asg (pe_ix ix_list (pv 6) (pv 7) (fun _ _ => rfl)) (pg_tup rfl (pgs_cons (pg_name (i := 8) scBoardsR.nd rfl (Or.inl rfl)) (pgs_cons (pg_name (i := 9) scBoardsR.nd rfl (Or.inl rfl)) pgs_nil))))
      (pss_cons (ps_set (i := 10) scBoardsR.nd rfl (Or.inl rfl) (pe_op op_mod (pv 1) pe_int))
      (pss_cons (ps_if (pt_cmpR op_eq (pv 10) pe_int (nomark _)) (pss_one (ps_set (i := 3) scBoardsR.nd rfl (Or.inl rfl) (pe_op op_sub (pe_op op_add (pv 3) (pe_op op_mod (pe_op op_fdiv (pv 1) pe_int) pe_int)) pe_int))) pss_nil)
      (pss_cons (ps_if (pt_cmpR op_eq (pv 10) pe_int (nomark _)) (pss_one (ps_set (i := 4) scBoardsR.nd rfl (Or.inl rfl) (pe_op op_sub (pe_op op_add (pv 4) (pe_op op_mod (pe_op op_fdiv (pv 1) pe_int) pe_int)) pe_int))) pss_nil)
      (pss_cons (ps_if (pt_cmpR op_eq (pv 10) pe_int (nomark _)) (pss_one (ps_set (i := 5) scBoardsR.nd rfl (Or.inl rfl) (pe_op op_sub (pe_op op_add (pv 5) (pe_op op_mod (pe_op op_fdiv (pv 1) pe_int) pe_int)) pe_int))) pss_nil)
      (pss_cons (ps_if (pt_cmpR op_eq (pv 10) pe_int (nomark _)) (pss_one (ps_asg (pe_tup (pa_cons (pe_op op_sub (pe_op op_add (pv 8) (pe_op op_mod (pe_op op_fdiv (pv 1) pe_int) pe_int)) pe_int) (pa_cons (pv 9) pa_nil))) (pg_sub (pv 6) (pv 7) set_list))) pss_nil)
      (pss_cons (ps_if (pt_cmpR op_eq (pv 10) pe_int (nomark _)) (pss_one (ps_asg (pe_tup (pa_cons (pv 8) (pa_cons (pe_op op_sub (pe_op op_add (pv 9) (pe_op op_mod (pe_op op_fdiv (pv 1) pe_int) pe_int)) pe_int) pa_nil))) (pg_sub (pv 6) (pv 7) set_list))) pss_nil)
      (pss_cons (ps_if (pt_cmpR op_eq (pv 10) pe_int (nomark _)) (pss_one (ps_set (i := 6) scBoardsR.nd rfl (Or.inl rfl) (pe_op op_cat (pe_slice sl_list (pv 6) po_none (po_some (pv 7))) (pe_slice sl_list (pv 6) (po_some (pe_op op_add (pv 7) pe_int)) po_none)))) pss_nil)
      (pss_cons (ps_if (pt_cmpR op_eq (pv 10) pe_int (nomark _)) (pss_one (ps_asg (pe_tup (pa_cons (pv 9) (pa_cons (pv 8) pa_nil))) (pg_sub (pv 6) (pv 7) set_list))) pss_nil)
      (pss_cons (ps_if (pt_cmpR op_eq (pv 10) pe_int (nomark _)) (pss_one (ps_asg (pe_ix ix_list (pv 6) (pe_op op_mod (pe_op op_fdiv (pv 1) pe_int) (pe_callB call_len_seq rfl B.len PySem.boot_len (pa_cons (pv 6) pa_nil))) (fun _ _ => rfl)) (pg_sub (pv 6) (pv 7) set_list))) pss_nil)
      (pss_one (ps_ret (pe_fn cBR (hr.mono (by decide)) rfl (pa_cons (pv 0) (pa_cons (pv 3) (pa_cons (pv 4) (pa_cons (pv 5) (pa_cons (pv 6) pa_nil)))))))))))))))))))))), ?_⟩
    refine ⟨_, rfl, a, xs, rfl, hS, hh, hne, fun mi p dx ar H1 Bt np nar s1 hp hT => ?_⟩
    have hx := hh.1
    have hmh := getD_ht hh Bt.lt
    have g1 := bfl_first ((stN xs mi : Nat) : Int) (cntR xs mi) (xs.getD mi 0) ar
    have g2 := bfl_many ((stN xs mi : Nat) : Int) (cntR xs mi) (xs.getD mi 0) ar
    have g3 := bfl_high ((stN xs mi : Nat) : Int) (cntR xs mi) (xs.getD mi 0) ar
    have g4 := bfl_around ((stN xs mi : Nat) : Int) (cntR xs mi) (xs.getD mi 0) ar
    refine ⟨_, rfl, p, C, dx, _, _, rfl, hp, T.cl, T.n1, g1, _, rfl, p, C, dx, _, _, rfl, hp, T.cl, T.n2, g2, _, rfl, p, C, dx, _, _, rfl, hp, T.cl, T.n3, g3, _, _, _, rfl, ?_⟩
    obtain ⟨ps, E0⟩ := hT.e
    refine ⟨_, rfl, p, C, dx, _, _, rfl, hp, T.cl, T.n4, g4, ar, _, rfl, .inl (SqL.of E0.at_), fun l nl0 => ?_⟩
    have s12 := Same.new nl0 (.lst (ps.map V.ref))
    have E : TLe (upd H1 l (.lst (ps.map V.ref))) l ps (reachP xs) := E0.to s12 upd_same
    have sH := s1.trans s12
    have nl : H l = none := s1.free nl0
    generalize upd H1 l (.lst (ps.map V.ref)) = H2 at s12 E sH
    have hpl : (reachP xs).length ≤ 100 := by rw [reachP_length]; exact hx
    have hps : ps.length = xs.length := by rw [E.len, reachP_length]
    have hxl : 0 < xs.length := List.length_pos_iff.mpr hne
    have hnl : (((ps.map V.ref).length : Nat) : Int) = (xs.length : Int) := by rw [List.length_map, hps]
    -- the place that is changed
    refine ⟨_, rfl, z, 8, rfl, rfl, ⟨by decide, by decide⟩, _, rfl, l, _, rfl, .inl (SqL.of E.at_), _, _, rfl, rfl, (by show (0 : Int) < (((ps.map V.ref).length : Nat) : Int); rw [hnl]; omega), ?_⟩
    dsimp only
    rw [hnl]
    have m0 := Int.emod_nonneg (z / 8) (show (xs.length : Int) ≠ 0 by omega)
    have m1 := Int.emod_lt_of_pos (z / 8) (show (0 : Int) < (xs.length : Int) by omega)
    obtain ⟨at_, ea⟩ : ∃ j : Nat, z / 8 % (xs.length : Int) = (j : Int) := ⟨(z / 8 % (xs.length : Int)).toNat, by omega⟩
    rw [ea] at m0 m1 ⊢
    have hat : at_ < xs.length := by omega
    have hatp : at_ < ps.length := by omega
    have hix : atI (ps.map V.ref) (at_ : Int) = some (V.ref ps[at_]) := atI_nat (by rw [List.getElem?_map, List.getElem?_eq_getElem hatp]; rfl)
    obtain ⟨⟨o, t⟩, _, q2⟩ := E.it at_ ps[at_] (List.getElem?_eq_getElem hatp)
    refine ⟨_, rfl, _, rfl, l, _, _, _, rfl, rfl, SqL.of E.at_, hix, ps[at_], _, rfl, SqT.of q2, rfl, _, _, rfl, _, _, rfl, rfl, ?_⟩
    refine ⟨_, rfl, z, 8, rfl, rfl, (by show (0 : Int) < 8; decide), ?_⟩
    have hlen : z % 8 = 5 ∨ (reachP xs).length = xs.length := .inr (reachP_length xs)
    dsimp only
    generalize z % 8 = kd at hlen
    have start : (fun (σ : St) (H' : Hp) => ∃ (f m h : Int) (l : Addr) (ps : List Addr) (prs : List (Int × Int)), σ = [some (.ref a), some (.int z), some (.ref p), some (.int f), some (.int m), some (.int h), some (.ref l), some (.int (at_ : Nat)), some (.int o), some (.int t), some (.int kd)] ∧ Same H H' ∧ TLe H' l ps prs ∧ H l = none ∧ prs.length ≤ 100 ∧ (kd = 5 ∨ prs.length = xs.length) ∧ (0 ≤ h ∧ h ≤ 10000000)) ([some (.ref a), some (.int z), some (.ref p), some (.int ((stN xs mi : Nat) : Int)), some (.int (cntR xs mi)), some (.int (xs.getD mi 0)), some (.ref l), some (.int (at_ : Nat)), some (.int o), some (.int t), some (.int kd)] : St) H2 := ⟨_, _, _, l, ps, _, rfl, sH, E, nl, hpl, hlen, hmh⟩
    have c3 : (0 : Int) ≤ z / 8 % 3 ∧ z / 8 % 3 < 3 := ⟨Int.emod_nonneg _ (by decide), Int.emod_lt_of_pos _ (by decide)⟩
    clear E sH hlen hpl hps hnl hatp hix q2
    show tSeq _ _ _ ([some (.ref a), some (.int z), some (.ref p), some (.int ((stN xs mi : Nat) : Int)), some (.int (cntR xs mi)), some (.int (xs.getD mi 0)), some (.ref l), some (.int (at_ : Nat)), some (.int o), some (.int t), some (.int kd)] : St) H2
    revert start
    generalize ([some (.ref a), some (.int z), some (.ref p), some (.int ((stN xs mi : Nat) : Int)), some (.int (cntR xs mi)), some (.int (xs.getD mi 0)), some (.ref l), some (.int (at_ : Nat)), some (.int o), some (.int t), some (.int kd)] : St) = σ0
    rintro ⟨f, m, h, l, ps, prs, rfl, sH, E, nl, hpl, hlen, hhb⟩

    refine seq_cut (fun (σ : St) (H' : Hp) => ∃ (f m h : Int) (l : Addr) (ps : List Addr) (prs : List (Int × Int)), σ = [some (.ref a), some (.int z), some (.ref p), some (.int f), some (.int m), some (.int h), some (.ref l), some (.int (at_ : Nat)), some (.int o), some (.int t), some (.int kd)] ∧ Same H H' ∧ TLe H' l ps prs ∧ H l = none ∧ prs.length ≤ 100 ∧ (kd = 5 ∨ prs.length = xs.length) ∧ (0 ≤ h ∧ h ≤ 10000000)) (fun N hN => ?_) ?_
    · refine ⟨_, rfl, rfl, _, rfl, ?_⟩
      rw [dec_int']
      refine ite2 (fun hk => ?_) (fun _ => hN _ _ ⟨f, m, h, l, ps, prs, rfl, sH, E, nl, hpl, hlen, by omega⟩)
      have hk' : kd = 0 := of_decide_eq_true hk
      exact ⟨_, rfl, _, rfl, z, 8, rfl, rfl, ⟨by decide, by decide⟩, _, 3, rfl, rfl, (by show (0 : Int) < 3; decide), _, _, rfl, rfl, _, 1, rfl, rfl, hN _ _ ⟨_, m, h, l, ps, prs, rfl, sH, E, nl, hpl, hlen, by omega⟩⟩
    rintro σ H' ⟨f, m, h, l, ps, prs, rfl, sH, E, nl, hpl, hlen, hhb⟩

    refine seq_cut (fun (σ : St) (H' : Hp) => ∃ (f m h : Int) (l : Addr) (ps : List Addr) (prs : List (Int × Int)), σ = [some (.ref a), some (.int z), some (.ref p), some (.int f), some (.int m), some (.int h), some (.ref l), some (.int (at_ : Nat)), some (.int o), some (.int t), some (.int kd)] ∧ Same H H' ∧ TLe H' l ps prs ∧ H l = none ∧ prs.length ≤ 100 ∧ (kd = 5 ∨ prs.length = xs.length) ∧ (0 ≤ h ∧ h ≤ 10000000)) (fun N hN => ?_) ?_
    · refine ⟨_, rfl, rfl, _, rfl, ?_⟩
      rw [dec_int']
      refine ite2 (fun hk => ?_) (fun _ => hN _ _ ⟨f, m, h, l, ps, prs, rfl, sH, E, nl, hpl, hlen, by omega⟩)
      have hk' : kd = 1 := of_decide_eq_true hk
      exact ⟨_, rfl, _, rfl, z, 8, rfl, rfl, ⟨by decide, by decide⟩, _, 3, rfl, rfl, (by show (0 : Int) < 3; decide), _, _, rfl, rfl, _, 1, rfl, rfl, hN _ _ ⟨f, _, h, l, ps, prs, rfl, sH, E, nl, hpl, hlen, by omega⟩⟩
    rintro σ H' ⟨f, m, h, l, ps, prs, rfl, sH, E, nl, hpl, hlen, hhb⟩

    refine seq_cut (fun (σ : St) (H' : Hp) => ∃ (f m h : Int) (l : Addr) (ps : List Addr) (prs : List (Int × Int)), σ = [some (.ref a), some (.int z), some (.ref p), some (.int f), some (.int m), some (.int h), some (.ref l), some (.int (at_ : Nat)), some (.int o), some (.int t), some (.int kd)] ∧ Same H H' ∧ TLe H' l ps prs ∧ H l = none ∧ prs.length ≤ 100 ∧ (kd = 5 ∨ prs.length = xs.length) ∧ (-2 ≤ h ∧ h ≤ 10000002)) (fun N hN => ?_) ?_
    · refine ⟨_, rfl, rfl, _, rfl, ?_⟩
      rw [dec_int']
      refine ite2 (fun hk => ?_) (fun _ => hN _ _ ⟨f, m, h, l, ps, prs, rfl, sH, E, nl, hpl, hlen, by omega⟩)
      have hk' : kd = 2 := of_decide_eq_true hk
      exact ⟨_, rfl, _, rfl, z, 8, rfl, rfl, ⟨by decide, by decide⟩, _, 3, rfl, rfl, (by show (0 : Int) < 3; decide), _, _, rfl, rfl, _, 1, rfl, rfl, hN _ _ ⟨f, m, _, l, ps, prs, rfl, sH, E, nl, hpl, hlen, by omega⟩⟩
    rintro σ H' ⟨f, m, h, l, ps, prs, rfl, sH, E, nl, hpl, hlen, hhb⟩

    refine seq_cut (fun (σ : St) (H' : Hp) => ∃ (f m h : Int) (l : Addr) (ps : List Addr) (prs : List (Int × Int)), σ = [some (.ref a), some (.int z), some (.ref p), some (.int f), some (.int m), some (.int h), some (.ref l), some (.int (at_ : Nat)), some (.int o), some (.int t), some (.int kd)] ∧ Same H H' ∧ TLe H' l ps prs ∧ H l = none ∧ prs.length ≤ 100 ∧ (kd = 5 ∨ prs.length = xs.length) ∧ (-2 ≤ h ∧ h ≤ 10000002)) (fun N hN => ?_) ?_
    · refine ⟨_, rfl, rfl, _, rfl, ?_⟩
      rw [dec_int']
      refine ite2 (fun hk => ?_) (fun _ => hN _ _ ⟨f, m, h, l, ps, prs, rfl, sH, E, nl, hpl, hlen, by omega⟩)
      have hk' : kd = 3 := of_decide_eq_true hk
      have hl2 : prs.length = xs.length := by omega
      have hpl2 := E.len
      refine ⟨_, rfl, _, rfl, z, 64, rfl, rfl, ⟨by decide, by decide⟩, _, 3, rfl, rfl, (by show (0 : Int) < 3; decide), _, _, rfl, rfl, _, 1, rfl, rfl, _, rfl, (by show 2 ≤ sizeLine; decide), fun tt htt => ?_⟩
      have E2 := (E.same (Same.new htt (.tup [.int ((o + z / 64 % 3 - 1, t)).1, .int ((o + z / 64 % 3 - 1, t)).2]))).set (i := at_) (q := (o + z / 64 % 3 - 1, t)) upd_same
      refine ⟨_, rfl, _, rfl, l, _, _, at_, rfl, rfl, (Same.new htt _) _ _ E.at_, ixN_nat (by rw [List.length_map]; omega), hN _ _ ⟨f, m, h, l, _, _, rfl, (sH.put (sH.free htt)).put nl, E2, nl, by rw [List.length_set]; exact hpl, by rw [List.length_set]; exact hlen, by omega⟩⟩
    rintro σ H' ⟨f, m, h, l, ps, prs, rfl, sH, E, nl, hpl, hlen, hhb⟩

    refine seq_cut (fun (σ : St) (H' : Hp) => ∃ (f m h : Int) (l : Addr) (ps : List Addr) (prs : List (Int × Int)), σ = [some (.ref a), some (.int z), some (.ref p), some (.int f), some (.int m), some (.int h), some (.ref l), some (.int (at_ : Nat)), some (.int o), some (.int t), some (.int kd)] ∧ Same H H' ∧ TLe H' l ps prs ∧ H l = none ∧ prs.length ≤ 100 ∧ (kd = 5 ∨ prs.length = xs.length) ∧ (-2 ≤ h ∧ h ≤ 10000002)) (fun N hN => ?_) ?_
    · refine ⟨_, rfl, rfl, _, rfl, ?_⟩
      rw [dec_int']
      refine ite2 (fun hk => ?_) (fun _ => hN _ _ ⟨f, m, h, l, ps, prs, rfl, sH, E, nl, hpl, hlen, by omega⟩)
      have hk' : kd = 4 := of_decide_eq_true hk
      have hl2 : prs.length = xs.length := by omega
      have hpl2 := E.len
      refine ⟨_, rfl, _, rfl, _, rfl, z, 64, rfl, rfl, ⟨by decide, by decide⟩, _, 3, rfl, rfl, (by show (0 : Int) < 3; decide), _, _, rfl, rfl, _, 1, rfl, rfl, (by show 2 ≤ sizeLine; decide), fun tt htt => ?_⟩
      have E2 := (E.same (Same.new htt (.tup [.int ((o, t + z / 64 % 3 - 1)).1, .int ((o, t + z / 64 % 3 - 1)).2]))).set (i := at_) (q := (o, t + z / 64 % 3 - 1)) upd_same
      refine ⟨_, rfl, _, rfl, l, _, _, at_, rfl, rfl, (Same.new htt _) _ _ E.at_, ixN_nat (by rw [List.length_map]; omega), hN _ _ ⟨f, m, h, l, _, _, rfl, (sH.put (sH.free htt)).put nl, E2, nl, by rw [List.length_set]; exact hpl, by rw [List.length_set]; exact hlen, by omega⟩⟩
    rintro σ H' ⟨f, m, h, l, ps, prs, rfl, sH, E, nl, hpl, hlen, hhb⟩

    refine seq_cut (fun (σ : St) (H' : Hp) => ∃ (f m h : Int) (l : Addr) (ps : List Addr) (prs : List (Int × Int)), σ = [some (.ref a), some (.int z), some (.ref p), some (.int f), some (.int m), some (.int h), some (.ref l), some (.int (at_ : Nat)), some (.int o), some (.int t), some (.int kd)] ∧ Same H H' ∧ TLe H' l ps prs ∧ H l = none ∧ prs.length ≤ 100 ∧ (kd = 5 ∨ prs.length = xs.length) ∧ (-2 ≤ h ∧ h ≤ 10000002)) (fun N hN => ?_) ?_
    · refine ⟨_, rfl, rfl, _, rfl, ?_⟩
      rw [dec_int']
      refine ite2 (fun hk => ?_) (fun _ => hN _ _ ⟨f, m, h, l, ps, prs, rfl, sH, E, nl, hpl, hlen, by omega⟩)
      have hk' : kd = 5 := of_decide_eq_true hk
      by_cases hl2 : at_ < ps.length
      · have hpl2 := E.len
        have hc1 : cutV (ps.map V.ref) none (some (at_ : Int)) = (ps.take at_).map V.ref := by rw [cutV_take _ _ (by rw [List.length_map]; omega), List.map_take]
        have hc2 : cutV (ps.map V.ref) (some ((at_ : Int) + 1)) none = (ps.drop (at_ + 1)).map V.ref := by rw [show (at_ : Int) + 1 = ((at_ + 1 : Nat) : Int) by omega, cutV_drop _ _ (by rw [List.length_map]; omega), List.map_drop]
        refine ⟨_, rfl, _, rfl, _, rfl, l, _, rfl, SqL.of E.at_, fun q1 hq1 => ?_⟩
        have s1' := Same.new hq1 (.lst (cutV (ps.map V.ref) none (some (at_ : Int))))
        have hL1 : (upd H' q1 (.lst (cutV (ps.map V.ref) none (some (at_ : Int))))) q1 = some (.lst ((ps.take at_).map V.ref)) := by rw [upd_same, hc1]
        generalize upd H' q1 (.lst (cutV (ps.map V.ref) none (some (at_ : Int)))) = Ha at s1' hL1
        refine ⟨_, rfl, _, rfl, _, 1, rfl, rfl, _, rfl, l, _, rfl, SqL.of (s1' _ _ E.at_), fun q2 hq2 => ?_⟩
        have s2' := Same.new hq2 (.lst (cutV (ps.map V.ref) (some ((at_ : Int) + 1)) none))
        have hL2 : (upd Ha q2 (.lst (cutV (ps.map V.ref) (some ((at_ : Int) + 1)) none))) q2 = some (.lst ((ps.drop (at_ + 1)).map V.ref)) := by rw [upd_same, hc2]
        generalize upd Ha q2 (.lst (cutV (ps.map V.ref) (some ((at_ : Int) + 1)) none)) = Hb at s2' hL2
        have hL1b := s2' _ _ hL1
        refine ⟨q1, q2, _, _, rfl, rfl, hL1b, hL2, by rw [List.length_map, List.length_map, List.length_take, List.length_drop]; exact Nat.le_of_lt (small100 (by omega)), fun q3 hq3 => ?_⟩
        have s3' := Same.new hq3 (.lst ((ps.take at_).map V.ref ++ (ps.drop (at_ + 1)).map V.ref))
        have sAll := (s1'.trans s2').trans s3'
        have nq3 : H q3 = none := (sH.trans (s1'.trans s2')).free hq3
        exact hN _ _ ⟨f, m, h, q3, _, _, rfl, sH.trans sAll, E.erase sAll hl2 upd_same, nq3, by simp only [List.length_append, List.length_take, List.length_drop]; omega, .inl hk', by omega⟩
      · have hpl2 := E.len
        have hc1 : cutV (ps.map V.ref) none (some (at_ : Int)) = ps.map V.ref := by
          unfold cutV
          rw [HT.sIx_nat, HT.sIx_none, List.drop_zero, Nat.sub_zero, List.take_of_length_le (by rw [List.length_map]; omega)]
        have hc2 : cutV (ps.map V.ref) (some ((at_ : Int) + 1)) none = [] := by
          unfold cutV
          rw [show (at_ : Int) + 1 = ((at_ + 1 : Nat) : Int) by omega, HT.sIx_nat, HT.sIx_none, Nat.min_eq_right (by rw [List.length_map]; omega), Nat.sub_self, List.take_zero]
        refine ⟨_, rfl, _, rfl, _, rfl, l, _, rfl, SqL.of E.at_, fun q1 hq1 => ?_⟩
        have s1' := Same.new hq1 (.lst (cutV (ps.map V.ref) none (some (at_ : Int))))
        have hL1 : (upd H' q1 (.lst (cutV (ps.map V.ref) none (some (at_ : Int))))) q1 = some (.lst (ps.map V.ref)) := by rw [upd_same, hc1]
        generalize upd H' q1 (.lst (cutV (ps.map V.ref) none (some (at_ : Int)))) = Ha at s1' hL1
        refine ⟨_, rfl, _, rfl, _, 1, rfl, rfl, _, rfl, l, _, rfl, SqL.of (s1' _ _ E.at_), fun q2 hq2 => ?_⟩
        have s2' := Same.new hq2 (.lst (cutV (ps.map V.ref) (some ((at_ : Int) + 1)) none))
        have hL2 : (upd Ha q2 (.lst (cutV (ps.map V.ref) (some ((at_ : Int) + 1)) none))) q2 = some (.lst []) := by rw [upd_same, hc2]
        generalize upd Ha q2 (.lst (cutV (ps.map V.ref) (some ((at_ : Int) + 1)) none)) = Hb at s2' hL2
        have hL1b := s2' _ _ hL1
        refine ⟨q1, q2, _, _, rfl, rfl, hL1b, hL2, by rw [List.length_map]; exact Nat.le_of_lt (small1000 (by simp; omega)), fun q3 hq3 => ?_⟩
        have s3' := Same.new hq3 (.lst (ps.map V.ref ++ []))
        have sAll := (s1'.trans s2').trans s3'
        have nq3 : H q3 = none := (sH.trans (s1'.trans s2')).free hq3
        exact hN _ _ ⟨f, m, h, q3, _, _, rfl, sH.trans sAll, E.to sAll (upd_same.trans (by rw [List.append_nil])), nq3, hpl, .inl hk', by omega⟩
    rintro σ H' ⟨f, m, h, l, ps, prs, rfl, sH, E, nl, hpl, hlen, hhb⟩

    refine seq_cut (fun (σ : St) (H' : Hp) => ∃ (f m h : Int) (l : Addr) (ps : List Addr) (prs : List (Int × Int)), σ = [some (.ref a), some (.int z), some (.ref p), some (.int f), some (.int m), some (.int h), some (.ref l), some (.int (at_ : Nat)), some (.int o), some (.int t), some (.int kd)] ∧ Same H H' ∧ TLe H' l ps prs ∧ H l = none ∧ prs.length ≤ 100 ∧ (kd = 5 ∨ prs.length = xs.length) ∧ (-2 ≤ h ∧ h ≤ 10000002)) (fun N hN => ?_) ?_
    · refine ⟨_, rfl, rfl, _, rfl, ?_⟩
      rw [dec_int']
      refine ite2 (fun hk => ?_) (fun _ => hN _ _ ⟨f, m, h, l, ps, prs, rfl, sH, E, nl, hpl, hlen, by omega⟩)
      have hk' : kd = 6 := of_decide_eq_true hk
      have hl2 : prs.length = xs.length := by omega
      have hpl2 := E.len
      refine ⟨_, rfl, _, rfl, (by show 2 ≤ sizeLine; decide), fun tt htt => ?_⟩
      have E2 := (E.same (Same.new htt (.tup [.int ((t, o)).1, .int ((t, o)).2]))).set (i := at_) (q := (t, o)) upd_same
      refine ⟨_, rfl, _, rfl, l, _, _, at_, rfl, rfl, (Same.new htt _) _ _ E.at_, ixN_nat (by rw [List.length_map]; omega), hN _ _ ⟨f, m, h, l, _, _, rfl, (sH.put (sH.free htt)).put nl, E2, nl, by rw [List.length_set]; exact hpl, by rw [List.length_set]; exact hlen, by omega⟩⟩
    rintro σ H' ⟨f, m, h, l, ps, prs, rfl, sH, E, nl, hpl, hlen, hhb⟩

    refine seq_cut (fun (σ : St) (H' : Hp) => ∃ (f m h : Int) (l : Addr) (ps : List Addr) (prs : List (Int × Int)), σ = [some (.ref a), some (.int z), some (.ref p), some (.int f), some (.int m), some (.int h), some (.ref l), some (.int (at_ : Nat)), some (.int o), some (.int t), some (.int kd)] ∧ Same H H' ∧ TLe H' l ps prs ∧ H l = none ∧ prs.length ≤ 100 ∧ (kd = 5 ∨ prs.length = xs.length) ∧ (-2 ≤ h ∧ h ≤ 10000002)) (fun N hN => ?_) ?_
    · refine ⟨_, rfl, rfl, _, rfl, ?_⟩
      rw [dec_int']
      refine ite2 (fun hk => ?_) (fun _ => hN _ _ ⟨f, m, h, l, ps, prs, rfl, sH, E, nl, hpl, hlen, by omega⟩)
      have hk' : kd = 7 := of_decide_eq_true hk
      have hl2 : prs.length = xs.length := by omega
      have hpl2 := E.len
      have hnl : (((ps.map V.ref).length : Nat) : Int) = (xs.length : Int) := by rw [List.length_map]; omega
      have m2 := Int.emod_nonneg (z / 64) (show (xs.length : Int) ≠ 0 by omega)
      have m3 := Int.emod_lt_of_pos (z / 64) (show (0 : Int) < (xs.length : Int) by omega)
      obtain ⟨j, ej⟩ : ∃ j : Nat, z / 64 % (xs.length : Int) = (j : Int) := ⟨(z / 64 % (xs.length : Int)).toNat, by omega⟩
      rw [ej] at m2 m3
      have hjp : j < ps.length := by omega
      have hix : atI (ps.map V.ref) (j : Int) = some (V.ref ps[j]) := atI_nat (by rw [List.getElem?_map, List.getElem?_eq_getElem hjp]; rfl)
      obtain ⟨q, _, q2⟩ := E.it j ps[j] (List.getElem?_eq_getElem hjp)
      refine ⟨_, rfl, _, rfl, z, 64, rfl, rfl, ⟨by decide, by decide⟩, _, rfl, l, _, rfl, .inl (SqL.of E.at_), _, _, rfl, rfl, (by show (0 : Int) < (((ps.map V.ref).length : Nat) : Int); rw [hnl]; omega), l, _, (j : Int), V.ref ps[j], rfl, (by rw [hnl]; show V.int (z / 64 % (xs.length : Int)) = _; rw [ej]), SqL.of E.at_, hix, ?_⟩
      have E2 := E.set (i := at_) (q := q) q2
      exact ⟨_, rfl, _, rfl, l, _, _, at_, rfl, rfl, E.at_, ixN_nat (by rw [List.length_map]; omega), hN _ _ ⟨f, m, h, l, _, _, rfl, sH.put nl, E2, nl, by rw [List.length_set]; exact hpl, by rw [List.length_set]; exact hlen, by omega⟩⟩
    rintro σ H' ⟨f, m, h, l, ps, prs, rfl, sH, E, nl, hpl, hlen, hhb⟩

    exact ⟨_, rfl, _, rfl, _, rfl, _, rfl, _, rfl, a, l, f, m, h, xs, prs, rfl, sH _ _ hS, hh, E.tl, by omega, ⟨by omega, by omega⟩, fun H'' s'' => k _ (sH.trans s'')⟩
end
end Sky

namespace Sky
open PySem L2
section
variable {P : Program} {w : World} {K : PySem.W.Frag} {mg : Str → Option Value} {base : Heap}
theorem scRowsR : FnScope ["_law_bars_here", "_law_other", "_law_told", "_law_row", "_law_mine", "_law_handed", "_law_answer"] ["_law_bars_here", "_law_other"] (defScope sRowsR) := ⟨rfl, rfl, rfl, by decide +kernel, rfl, by decide +kernel, by decide +kernel⟩
theorem ok_rowsR {f CR fRS fRI : Addr} {fd : FuncData} (F : Fun K "_law_rows_right" "_law_rows_right" sRowsR f fd) (B : Blt mg) {fdR fdI : FuncData} (TR : RCls K CR) (GR : FnOk P w K mg base CX0 3 fRS fdR ["self", "links"] (spRShows CR)) (bR : Binds K fdR ["self", "links"] []) (mR : Meth K CR "shows" fRS) (MR : Mk K CR fRI) (GI : FnOk P w K mg base CX0 1 fRI fdI ["self", "bars"] (spRInit CR)) (bI : Binds K fdI ["self", "bars"] []) (mgR : mg "Row" = some (.ref CR)) (cY : Callee P w K mg base 1 "_law_says" ["_law_said", "_law_due"] spSays) (cLL : Callee P w K mg base 1 "_law_links" ["_law_bars_here"] spNear) : FnOk P w K mg base CX0 4 f fd ["_law_bars_here", "_law_other"] spRowsR := by
  refine F.ok scRowsR (fun vs H Q E h => ?_) (fun cdv A outer s H vs Q E hr h => ?_)
  · obtain ⟨a, o, xs, ys, rfl, _⟩ := h
    rfl
  · obtain ⟨a, o, xs, ys, rfl, hS, hO, hl, hl2, k⟩ := h
    have hr1 : Room 1 _ := hr.mono (by decide)
    have hu := hr.units
    refine ⟨_, (pss_cons (ps_set (i := 2) scRowsR.nd rfl (Or.inl rfl) (pe_lst (pa_cons (pe_fn cLL hr1 rfl (pa_cons (pv 0) pa_nil)) (pa_cons (pe_fn cLL hr1 rfl (pa_cons (pv 1) pa_nil)) (pa_cons (pe_fn cLL hr1 rfl (pa_cons (pe_slice sl_list (pv 0) (po_some pe_int) po_none) pa_nil)) pa_nil)))))
      (pss_cons (ps_for PassesOwn.never rfl (PIV.pi (piv_zip rfl B.zip (pa_cons (pe_lst (pa_cons (pv 0) (pa_cons (pv 1) (pa_cons (pe_slice sl_list (pv 0) (po_some pe_int) po_none) pa_nil)))) (pa_cons (pv 2) pa_nil)))) (pg_tup rfl (pgs_cons (pg_name (i := 3) scRowsR.nd rfl (Or.inl rfl)) (pgs_cons (pg_name (i := 4) scRowsR.nd rfl (Or.inr rfl)) pgs_nil)))
      (pss_cons (ps_set (i := 5) scRowsR.nd rfl (Or.inl rfl) (pe_callTy call_list_of rfl B.list boot_list' (pa_cons (pv 3) pa_nil)))
      (pss_cons (ps_set (i := 6) scRowsR.nd rfl (Or.inr rfl) (pe_make MR GI (hr.mono (by decide)) rfl mgR bI .nil pass0 (pa_cons (pv 5) pa_nil)))
      (pss_cons (ps_expr (pe_bm PySem.F.plainAttrs_list PySem.F.slot_list_append PySem.F.type_list_append mt_append (pv 5) (pa_cons pe_int pa_nil)))
      (pss_cons (ps_if (pt_cmpR (op_neI hu) (pe_fld (pv 6) rfl) (pv 3) (nomark _)) pss_never pss_nil)
      (pss_one (ps_if (pt_not (pt_val (pe_callB (call_all rfl) rfl B.all boot_all' (pa_cons (pe_lc (cap := [4, 6]) ["_law_some"] rfl (CompOk.of (defScope sRowsR) ["_law_bars_here", "_law_other", "_law_told", "_law_row", "_law_mine", "_law_handed", "_law_answer"] rfl rfl (by decide +kernel)) (pi_list (pv 2)) (fun C s H fp => (pg_name (i := 0) (show List.Nodup (["_law_some", "_law_mine", "_law_answer"] : List Str) from by decide +kernel) rfl (Or.inl rfl))) (fun C s H fp => pf_nil)
        (fun C s H fp => (pe_fn cY hr1 rfl (pa_cons (pe_meth (pv 2) TR.cl mR GR hr bR .nil pass0 (pa_cons (pv 0) pa_nil)) (pa_cons (pe_cmpR (op_eqI hu) (pv 1) (pv 0) (nomark _)) pa_nil))))) pa_nil)))) pss_never pss_nil)))))))
      (pss_one (ps_ret pe_bl)))), ?_⟩
    have hdl : (xs.drop 1).length ≤ 90 := by rw [List.length_drop]; omega
    have ec : cutV (xs.map V.int) (some 1) none = (xs.drop 1).map V.int := by
      by_cases h1 : 1 ≤ xs.length
      · exact cut_drop xs 1 h1
      · have : xs = [] := List.length_eq_zero_iff.mp (by omega)
        subst this; rfl
    -- the links of each
    refine ⟨_, rfl, a, xs, rfl, hS, by omega, fun l1 H1 n1 s1 hL1 => ?_⟩
    refine ⟨_, rfl, o, ys, rfl, s1 _ _ hO, by omega, fun l2 H2 n2 s2 hL2 => ?_⟩
    have s02 := s1.trans s2
    refine ⟨_, rfl, 1, rfl, a, _, rfl, SqL.of (s02 _ _ hS), fun q1 hq1 => ?_⟩
    have s23 := Same.new hq1 (.lst (cutV (xs.map V.int) (some 1) none))
    have hQ3 : IL (upd H2 q1 (.lst (cutV (xs.map V.int) (some 1) none))) q1 (xs.drop 1) := by show _ = _; rw [upd_same, ec]
    generalize upd H2 q1 (.lst (cutV (xs.map V.int) (some 1) none)) = H3 at s23 hQ3
    refine ⟨q1, xs.drop 1, rfl, hQ3, by omega, fun l3 H4 n3 s34 hL3 => ?_⟩
    refine ⟨(by show 3 ≤ sizeLine; decide), fun T hT => ?_⟩
    have s45 := Same.new hT (.lst [V.ref l1, V.ref l2, V.ref l3])
    have s24 := s23.trans s34
    have s05 := (s02.trans s24).trans s45
    have hT5 : (upd H4 T (.lst [V.ref l1, V.ref l2, V.ref l3])) T = some (.lst [V.ref l1, V.ref l2, V.ref l3]) := upd_same
    have hL15 := s45 _ _ (s24 _ _ (s2 _ _ hL1))
    have hL25 := s45 _ _ (s24 _ _ hL2)
    have hL35 := s45 _ _ hL3
    generalize upd H4 T (.lst [V.ref l1, V.ref l2, V.ref l3]) = H5 at s45 s05 hT5 hL15 hL25 hL35
    -- the rows
    refine ⟨_, rfl, _, rfl, _, rfl, 1, rfl, a, _, rfl, SqL.of (s05 _ _ hS), fun q2 hq2 => ?_⟩
    have s56 := Same.new hq2 (.lst (cutV (xs.map V.int) (some 1) none))
    have hQ6 : IL (upd H5 q2 (.lst (cutV (xs.map V.int) (some 1) none))) q2 (xs.drop 1) := by show _ = _; rw [upd_same, ec]
    generalize upd H5 q2 (.lst (cutV (xs.map V.int) (some 1) none)) = H6 at s56 hQ6
    refine ⟨(by show 3 ≤ sizeLine; decide), fun R hR => ?_⟩
    have s67 := Same.new hR (.lst [V.ref a, V.ref o, V.ref q2])
    have hR7 : (upd H6 R (.lst [V.ref a, V.ref o, V.ref q2])) R = some (.lst [V.ref a, V.ref o, V.ref q2]) := upd_same
    have s57 := s56.trans s67
    have hQ7 := s67 _ _ hQ6
    generalize upd H6 R (.lst [V.ref a, V.ref o, V.ref q2]) = H7 at s67 hR7 s57 hQ7
    have s07 := s05.trans s57
    have hT7 := s57 _ _ hT5
    refine ⟨_, rfl, R, T, rfl, ⟨_, SqL.of hR7⟩, ⟨_, SqL.of hT7⟩, for_zip (K := K) (a := R) (b := T) (xs := [V.ref a, V.ref o, V.ref q2]) (zs := [V.ref l1, V.ref l2, V.ref l3]) (Nat.le_refl _) (fun i σ H8 => ∃ v3 v4 v5 v6, σ = [some (.ref a), some (.ref o), some (.ref T), v3, v4, v5, v6] ∧ Same H7 H8)
      ⟨none, none, none, none, rfl, Same.refl _⟩ (fun i σ H8 _ ⟨_, _, _, _, _, s8⟩ => ⟨SqL.of (s8 _ _ hR7), SqL.of (s8 _ _ hT7)⟩) ?_ ?_⟩
    · rintro i x y σ H8 t hx hy ⟨v3, v4, v5, v6, rfl, s8⟩ ht
      obtain ⟨rw_, mn, r, rfl, rfl, hrw, hmn, hrl⟩ : ∃ (rw_ mn : Addr) (r : List Int), x = V.ref rw_ ∧ y = V.ref mn ∧ IL H7 rw_ r ∧ IL H7 mn (linksL r) ∧ r.length ≤ 90 := by
        match i, hx, hy with
        | 0, hx, hy => exact ⟨a, l1, xs, by simpa using hx.symm, by simpa using hy.symm, s07 _ _ hS, s57 _ _ hL15, hl⟩
        | 1, hx, hy => exact ⟨o, l2, ys, by simpa using hx.symm, by simpa using hy.symm, s07 _ _ hO, s57 _ _ hL25, hl2⟩
        | 2, hx, hy => exact ⟨q2, l3, xs.drop 1, by simpa using hx.symm, by simpa using hy.symm, hQ7, s57 _ _ hL35, hdl⟩
        | n + 3, hx, hy => simp at hx
      have s9 : Same H7 (upd H8 t (.tup [.ref rw_, .ref mn])) := s8.put (s8.free ht)
      refine ⟨t, _, rfl, SqT.of upd_same, rfl, _, _, rfl, _, _, rfl, rfl, ?_⟩
      generalize upd H8 t (.tup [.ref rw_, .ref mn]) = H9 at s9
      -- a row of it
      refine ⟨_, rfl, rw_, _, rfl, .inl (SqL.of (s9 _ _ hrw)), fun hd hhd => ?_⟩
      have s910 := Same.new hhd (.lst (r.map V.int))
      have hH10 : IL (upd H9 hd (.lst (r.map V.int))) hd r := upd_same
      have nhd : H7 hd = none := s9.free hhd
      generalize upd H9 hd (.lst (r.map V.int)) = H10 at s910 hH10
      refine ⟨_, rfl, fun x dx nx ndx nex => ?_⟩
      have sx : Same H10 (upd (upd H10 dx (.own x)) x (.ins CR dx [])) := fun b o e => by rw [upd_ne (ne_of_none e nx), upd_ne (ne_of_none e ndx)]; exact e
      refine ⟨x, dx, hd, r, rfl, upd_same, sx _ _ hH10, fun ar H11 nar hx11 hA11 keep => ⟨rfl, ?_⟩⟩
      have s1011 : Same H10 H11 := fun b o e => keep b o (sx b o e) (ne_of_none e nx)
      have s711 := (s9.trans s910).trans s1011
      have hH11 := s1011 _ _ hH10
      have narhd : ar ≠ hd := fun z => by rw [z, sx _ _ hH10] at nar; cases nar
      refine ⟨_, rfl, .inl ⟨rfl, _, SqL.of hH11⟩, hd, _, _, rfl, rfl, hH11, by rw [List.length_map]; exact small100 (by omega), ?_⟩
      have s712 : Same H7 (upd H11 hd (.lst (r.map V.int ++ [.int 0]))) := s711.put nhd
      have hx12 : (upd H11 hd (.lst (r.map V.int ++ [.int 0]))) x = some (.ins CR dx (rowF ar)) := (upd_ne (Ne.symm (ne_of_none hH10 nx))).trans hx11
      have hA12 : IL (upd H11 hd (.lst (r.map V.int ++ [.int 0]))) ar r := (upd_ne narhd).trans hA11
      generalize upd H11 hd (.lst (r.map V.int ++ [.int 0])) = H12 at s712 hx12 hA12
      refine ⟨_, rfl, x, CR, dx, _, _, rfl, hx12, TR.cl, TR.n1, rowF_bars ar, _, rfl, ar, rw_, r, r, rfl, rfl, SqL.of hA12, SqL.of (s712 _ _ hrw), _, rfl, iteNeg rfl ?_⟩
      -- its own word for each
      have hT12 := s712 _ _ hT7
      refine ⟨_, rfl, T, rfl, ⟨_, SqL.of hT12⟩, fun D hD => lc_list (xs := [V.ref l1, V.ref l2, V.ref l3]) (fun i H13 ys => Same H12 H13 ∧ H13 D = some (.lst ys) ∧ ys = (List.replicate i true).map V.bl) ⟨Same.new hD _, upd_same, rfl⟩ (fun i H13 ys _ h => ⟨SqL.of (h.1 _ _ hT12), h.2.1⟩) ?_ ?_⟩
      · rintro j y H13 ys' hj ⟨s13, hD13, rfl⟩ C s H0 fp
        have s713 := s712.trans s13
        obtain ⟨lj, lsj, rfl, hlj, hjl⟩ : ∃ (lj : Addr) (lsj : List Int), y = V.ref lj ∧ IL H13 lj lsj ∧ j < 3 := by
          match j, hj with
          | 0, hj => exact ⟨l1, linksL xs, by simpa using hj.symm, s713 _ _ (s57 _ _ hL15), by omega⟩
          | 1, hj => exact ⟨l2, linksL ys, by simpa using hj.symm, s713 _ _ (s57 _ _ hL25), by omega⟩
          | 2, hj => exact ⟨l3, linksL (xs.drop 1), by simpa using hj.symm, s713 _ _ (s57 _ _ hL35), by omega⟩
          | n + 3, hj => simp at hj
        have hx13 := s13 _ _ hx12
        refine ⟨_, rfl, x, dx, _, rfl, hx13, rowF_no _ (by decide +kernel), _, rfl, x, dx, ar, lj, r, lsj, rfl, hx13, s13 _ _ hA12, hlj, by omega, fun H14 s14 => ?_⟩
        refine ⟨_, rfl, _, rfl, mn, lj, linksL r, lsj, rfl, rfl, SqL.of (s14 _ _ (s713 _ _ hmn)), SqL.of (s14 _ _ hlj), _, _, rfl, ?_⟩
        rw [ifF, decide_eq_true rfl]
        refine ⟨s14 _ _ hD13, by rw [List.length_map, List.length_replicate]; exact small100 (by omega), (s13.trans s14).put hD, upd_same, ?_⟩
        rw [List.replicate_succ', List.map_append]; rfl
      rintro H13 ys' ⟨s13, hD13, rfl⟩
      refine ⟨D, _, rfl, SqL.of hD13, _, rfl, ?_⟩
      have e3 : (List.replicate ([V.ref l1, V.ref l2, V.ref l3] : List V).length true).all id = true := rfl
      rw [e3]
      exact iteF ⟨_, _, _, _, rfl, s712.trans s13⟩
    · rintro σ H8 ⟨v3, v4, v5, v6, rfl, s8⟩
      exact k _ (s07.trans s8)
end
end Sky

namespace Sky
open PySem L2
section
variable {P : Program} {w : World} {K : PySem.W.Frag} {mg : Str → Option Value} {base : Heap}
theorem scCrossR : FnScope ["_law_bars_here", "_law_cell", "_law_some", "_law_first", "_law_second", "_law_due", "_law_answer"] ["_law_bars_here", "_law_cell"] (defScope sCrossR) := ⟨rfl, rfl, rfl, by decide +kernel, rfl, by decide +kernel, by decide +kernel⟩
theorem ok_crossR {f CC fCI fCS : Addr} {fd : FuncData} (F : Fun K "_law_crossed_right" "_law_crossed_right" sCrossR f fd) (B : Blt mg) {fdI fdC : FuncData} (TC : CCls K CC) (MC : Mk K CC fCI) (GI : FnOk P w K mg base CX0 1 fCI fdI ["self", "first", "second"] (spCInit CC)) (bI : Binds K fdI ["self", "first", "second"] []) (mgX : mg "Crossed" = some (.ref CC)) (GC : FnOk P w K mg base CX0 3 fCS fdC ["self", "links"] (spCShows CC)) (bC : Binds K fdC ["self", "links"] []) (mC : Meth K CC "shows" fCS) (cY : Callee P w K mg base 1 "_law_says" ["_law_said", "_law_due"] spSays) : FnOk P w K mg base CX0 4 f fd ["_law_bars_here", "_law_cell"] spCrossR := by
  refine F.ok scCrossR (fun vs H Q E h => ?_) (fun cdv A outer s H vs Q E hr h => ?_)
  · obtain ⟨a, z, xs, rfl, _⟩ := h
    rfl
  · obtain ⟨a, z, xs, rfl, hS, hl, k⟩ := h
    have hr1 : Room 1 _ := hr.mono (by decide)
    have hu := hr.units
    refine ⟨_, (pss_cons (ps_lc (i := 2) (cap := []) ["_law_place", "_law_one"] rfl (CompOk.of (defScope sCrossR) ["_law_bars_here", "_law_cell", "_law_some", "_law_first", "_law_second", "_law_due", "_law_answer"] rfl rfl (by decide +kernel)) scCrossR.nd rfl (Or.inl rfl) (pi_enum rfl B.enumerate (pa_cons (pv 0) pa_nil)) (fun C s H fp => (pg_tup rfl (pgs_cons (pg_name (i := 0) (show List.Nodup (["_law_place", "_law_one"] : List Str) from by decide +kernel) rfl (Or.inl rfl)) (pgs_cons (pg_name (i := 1) (show List.Nodup (["_law_place", "_law_one"] : List Str) from by decide +kernel) rfl (Or.inl rfl)) pgs_nil)))) (fun C s H fp => pf_nil)
        (fun C s H fp => (pe_op op_sub (pe_op op_mod (pe_op op_fdiv (pv 1) pe_int) (pe_op op_add (pv 0) pe_int)) pe_int)) rfl)
      (pss_cons (ps_set (i := 3) scCrossR.nd rfl (Or.inl rfl) (pe_op op_sub (pe_op op_mod (pv 1) (pe_op op_add (pe_callB call_len_seq rfl B.len PySem.boot_len (pa_cons (pv 2) pa_nil)) pe_int)) pe_int))
      (pss_cons (ps_set (i := 4) scCrossR.nd rfl (Or.inl rfl) (pe_op op_sub (pe_op op_mod (pe_op op_fdiv (pv 1) pe_int) (pe_op op_add (pe_callB call_len_seq rfl B.len PySem.boot_len (pa_cons (pv 2) pa_nil)) pe_int)) pe_int))
      (pss_cons (ps_set (i := 5) scCrossR.nd rfl (Or.inl rfl) (pe_chn pe_int (pcv_cons op_le (pv 3) (pcv_cons op_lt (pv 4) (pcv_last op_lt (pe_callB call_len_seq rfl B.len PySem.boot_len (pa_cons (pv 2) pa_nil)))))))
      (pss_cons (ps_set (i := 5) scCrossR.nd rfl (Or.inl rfl) (pe_and (pv 5) (pe_one (pe_chain op_lt op_lt (pe_ix ix_list (pv 2) (pv 3) (fun _ _ => rfl)) (pe_ix ix_list (pv 2) (pv 4) (fun _ _ => rfl)) (pv 3)))))
      (pss_cons (ps_set (i := 6) scCrossR.nd rfl (Or.inl rfl) (pe_make MC GI (hr.mono (by decide)) rfl mgX bI .nil pass0 (pa_cons (pv 3) (pa_cons (pv 4) pa_nil))))
      (pss_one (ps_ret (pe_and (pe_cmpR (op_eqTI hu) (pe_tup (pa_cons (pe_fld (pv 6) rfl) (pa_cons (pe_fld (pv 6) rfl) pa_nil))) (pe_tup (pa_cons (pv 3) (pa_cons (pv 4) pa_nil))) (nomark _)) (pe_one (pe_fn cY hr1 rfl (pa_cons (pe_meth (pv 6) TC.cl mC GC hr bC .nil pass0 (pa_cons (pv 2) pa_nil)) (pa_cons (pv 5) pa_nil))))))))))))), ?_⟩
    -- links by the bars
    refine ⟨_, rfl, a, rfl, ⟨_, SqL.of hS⟩, fun D hD => lc_enum (xs := xs.map V.int) (fun C s H0 fp p x z σ H Q' hp hq => ⟨p, _, rfl, SqT.of hp, rfl, _, _, rfl, _, _, rfl, rfl, hq⟩)
      (fun i H2 ys => i ≤ xs.length ∧ Same H H2 ∧ H2 D = some (.lst ys) ∧ ∃ ls : List Int, ys = ls.map V.int ∧ ls.length = i ∧ Valid ls) ⟨Nat.zero_le _, Same.new hD _, upd_same, [], rfl, rfl, fun i hi => by simp at hi⟩ (fun i H2 ys _ h => ⟨SqL.of (h.2.1 _ _ hS), h.2.2.1⟩) ?_ ?_⟩
    · rintro i x t H2 ys hx ⟨_, s2, hD2, ls, rfl, hll, hv⟩ ht C s H0 fp
      obtain ⟨y, rfl, b1⟩ := get_mapM hx
      have hi : i < xs.length := (List.getElem?_eq_some_iff.mp b1).1
      have hpos : (0 : Int) < (i : Int) + 1 := by omega
      have m0 := Int.emod_nonneg (y / 3) (show (i : Int) + 1 ≠ 0 by omega)
      have m1 := Int.emod_lt_of_pos (y / 3) hpos
      refine ⟨_, rfl, y, 3, rfl, rfl, ⟨by decide, by decide⟩, _, rfl, _, 1, rfl, rfl, _, _, rfl, rfl, hpos, _, 1, rfl, rfl, (Same.new ht _) _ _ hD2, by rw [List.length_map, hll]; exact small100 (by omega), hi, (s2.put (s2.free ht)).put hD, upd_same, ls ++ [y / 3 % ((i : Int) + 1) - 1], by rw [List.map_append]; rfl, by rw [List.length_append, hll]; rfl, fun j hj => ?_⟩
      rw [List.length_append, List.length_singleton] at hj
      by_cases hji : j < ls.length
      · rw [List.getD_eq_getElem?_getD, List.getElem?_append_left hji, ← List.getD_eq_getElem?_getD]
        exact hv j hji
      · have e : j = ls.length := by omega
        rw [List.getD_eq_getElem?_getD, List.getElem?_append_right (by omega), e, Nat.sub_self]
        show -1 ≤ y / 3 % ((i : Int) + 1) - 1 ∧ y / 3 % ((i : Int) + 1) - 1 < _
        omega
    rintro H1 ys ⟨_, s1, hD1, ls, rfl, hll, hv⟩
    rw [List.length_map] at hll
    have hn : (((ls.map V.int).length : Nat) : Int) = (ls.length : Int) := by rw [List.length_map]
    have hL1 : IL H1 D ls := hD1
    -- two places
    refine ⟨_, rfl, _, rfl, D, _, rfl, .inl (SqL.of hL1), _, 2, rfl, rfl, _, _, rfl, rfl, (by show (0 : Int) < (((ls.map V.int).length : Nat) : Int) + 2; omega), _, 1, rfl, rfl, ?_⟩
    refine ⟨_, rfl, _, 5, rfl, rfl, ⟨by decide, by decide⟩, _, rfl, D, _, rfl, .inl (SqL.of hL1), _, 2, rfl, rfl, _, _, rfl, rfl, (by show (0 : Int) < (((ls.map V.int).length : Nat) : Int) + 2; omega), _, 1, rfl, rfl, ?_⟩
    dsimp only
    rw [hn]
    generalize z % ((ls.length : Int) + 2) - 1 = f
    generalize z / 5 % ((ls.length : Int) + 2) - 1 = g
    have g1 := crF_first f g
    have g2 := crF_second f g
    have ec : crossB ls f g = decide (Cross ls f g) := by unfold crossB; rw [validB_of hv, Bool.and_true]
    -- what is due
    refine seq_cut (fun σ H' => H' = H1 ∧ σ = [some (.ref a), some (.int z), some (.ref D), some (.int f), some (.int g), some (.bl (decide (0 ≤ f ∧ f < g ∧ g < (ls.length : Int)))), none]) (fun N hN => ?_) ?_
    · refine ⟨_, rfl, 0, f, rfl, rfl, _, rfl, ite2 (fun h1 => ?_) (fun h1 => hN _ _ ⟨rfl, ?_⟩)⟩
      · refine ⟨_, rfl, f, g, rfl, rfl, _, rfl, ite2 (fun h2 => ?_) (fun h2 => hN _ _ ⟨rfl, ?_⟩)⟩
        · refine ⟨_, rfl, D, _, rfl, .inl (SqL.of hL1), g, _, rfl, rfl, hN _ _ ⟨rfl, ?_⟩⟩
          have h1' := of_decide_eq_true h1
          have h2' := of_decide_eq_true h2
          show ([some (.ref a), some (.int z), some (.ref D), some (.int f), some (.int g), some (.bl (decide (g < (((ls.map V.int).length : Nat) : Int)))), none] : St) = _
          rw [hn, show decide (g < (ls.length : Int)) = decide (0 ≤ f ∧ f < g ∧ g < (ls.length : Int)) by simp [h1', h2']]
        · have h2' : ¬ f < g := fun w => h2 (decide_eq_true w)
          show ([some (.ref a), some (.int z), some (.ref D), some (.int f), some (.int g), some (.bl false), none] : St) = _
          rw [decide_eq_false (show ¬ (0 ≤ f ∧ f < g ∧ g < (ls.length : Int)) from fun w => h2' w.2.1)]
      · have h1' : ¬ 0 ≤ f := fun w => h1 (decide_eq_true w)
        show ([some (.ref a), some (.int z), some (.ref D), some (.int f), some (.int g), some (.bl false), none] : St) = _
        rw [decide_eq_false (show ¬ (0 ≤ f ∧ f < g ∧ g < (ls.length : Int)) from fun w => h1' w.1)]
    rintro σ H' ⟨rfl, rfl⟩
    refine seq_cut (fun σ H'' => H'' = H' ∧ σ = [some (.ref a), some (.int z), some (.ref D), some (.int f), some (.int g), some (.bl (decide (Cross ls f g))), none]) (fun N hN => ?_) ?_
    · refine ⟨_, rfl, _, rfl, ite2 (fun h1 => ?_) (fun h1 => hN _ _ ⟨rfl, ?_⟩)⟩
      · have h1' := of_decide_eq_true h1
        refine ⟨_, rfl, _, rfl, D, _, _, _, rfl, rfl, SqL.of hL1, atI_map' f.toNat (by omega) (by omega), _, rfl, _, rfl, D, _, _, _, rfl, rfl, SqL.of hL1, atI_map' g.toNat (by omega) (by omega), _, _, rfl, rfl, _, rfl, ite2 (fun h2 => ?_) (fun h2 => hN _ _ ⟨rfl, ?_⟩)⟩
        · have h2' := of_decide_eq_true h2
          refine ⟨_, rfl, _, _, rfl, rfl, hN _ _ ⟨rfl, ?_⟩⟩
          show ([some (.ref a), some (.int z), some (.ref D), some (.int f), some (.int g), some (.bl (decide (ls.getD g.toNat 0 < f))), none] : St) = _
          rw [show decide (ls.getD g.toNat 0 < f) = decide (Cross ls f g) by
            by_cases hc : ls.getD g.toNat 0 < f
            · rw [decide_eq_true hc, decide_eq_true (show Cross ls f g from ⟨h1'.1, h1'.2.1, h1'.2.2, h2', hc⟩)]
            · rw [decide_eq_false hc, decide_eq_false (show ¬ Cross ls f g from fun w => hc w.2.2.2.2)]]
        · have h2' : ¬ ls.getD f.toNat 0 < ls.getD g.toNat 0 := fun w => h2 (decide_eq_true w)
          show ([some (.ref a), some (.int z), some (.ref D), some (.int f), some (.int g), some (.bl false), none] : St) = _
          rw [decide_eq_false (show ¬ Cross ls f g from fun w => h2' w.2.2.2.1)]
      · have h1' : ¬ (0 ≤ f ∧ f < g ∧ g < (ls.length : Int)) := fun w => h1 (decide_eq_true w)
        show ([some (.ref a), some (.int z), some (.ref D), some (.int f), some (.int g), some (.bl false), none] : St) = _
        rw [decide_eq_false (show ¬ Cross ls f g from fun w => h1' ⟨w.1, w.2.1, w.2.2.1⟩)]
    rintro σ H'' ⟨rfl, rfl⟩
    -- the answer
    refine ⟨_, rfl, _, rfl, fun x dx nx ndx nex => ⟨x, dx, f, g, rfl, upd_same, fun H3 hx3 keep => ⟨rfl, ?_⟩⟩⟩
    have s2 : Same H'' (upd (upd H'' dx (.own x)) x (.ins CC dx [])) := fun b o e => by rw [upd_ne (ne_of_none e nx), upd_ne (ne_of_none e ndx)]; exact e
    have s3 : Same H'' H3 := fun b o e => keep b o (s2 b o e) (ne_of_none e nx)
    refine ⟨_, rfl, x, CC, dx, _, _, rfl, hx3, TC.cl, TC.n1, g1, _, rfl, x, CC, dx, _, _, rfl, hx3, TC.cl, TC.n2, g2, (by show 2 ≤ sizeLine; decide), fun t1 ht1 => ?_⟩
    have s34 := Same.new ht1 (.tup [.int f, .int g])
    have hT4 : (upd H3 t1 (.tup [.int f, .int g])) t1 = some (.tup ([f, g].map V.int)) := upd_same
    generalize upd H3 t1 (.tup [.int f, .int g]) = H4 at s34 hT4
    refine ⟨_, rfl, _, rfl, (by show 2 ≤ sizeLine; decide), fun t2 ht2 => ?_⟩
    have s45 := Same.new ht2 (.tup [.int f, .int g])
    have hT5 : (upd H4 t2 (.tup [.int f, .int g])) t2 = some (.tup ([f, g].map V.int)) := upd_same
    generalize upd H4 t2 (.tup [.int f, .int g]) = H5 at s45 hT5
    refine ⟨t1, t2, _, _, rfl, rfl, SqT.of (s45 _ _ hT4), SqT.of hT5, true, ?_, iteT ?_⟩
    · rw [ifF, decide_eq_true rfl]
    have hx5 := (s34.trans s45) _ _ hx3
    have s15 := (s3.trans s34).trans s45
    refine ⟨_, rfl, x, dx, _, rfl, hx5, crF_no _ _ (by decide +kernel) (by decide +kernel), _, rfl, x, dx, D, f, g, ls, rfl, hx5, s15 _ _ hL1, by omega, fun H6 s6 => ⟨_, rfl, _, _, rfl, ?_⟩⟩
    rw [ec, decide_eq_true rfl]
    exact k _ ((s1.trans s15).trans s6)
end
end Sky

namespace Sky
open PySem L2
section
variable {P : Program} {w : World} {K : PySem.W.Frag} {mg : Str → Option Value} {base : Heap}
abbrev nLaw : List Str := ["_law_script", "_law_bars_here", "_law_at", "_law_cell", "_law_crossed"]
theorem scLaw : FnScope nLaw ["_law_script"] (defScope sLaw) := ⟨rfl, rfl, rfl, by decide +kernel, rfl, by decide +kernel, by decide +kernel⟩
theorem ok_law {f CC fCI fCS : Addr} {fd : FuncData} (F : Fun K "law" "law" sLaw f fd) (B : Blt mg) {fdI fdC : FuncData} (TC : CCls K CC) (MC : Mk K CC fCI) (GI : FnOk P w K mg base CX0 1 fCI fdI ["self", "first", "second"] (spCInit CC)) (bI : Binds K fdI ["self", "first", "second"] []) (mgX : mg "Crossed" = some (.ref CC)) (GC : FnOk P w K mg base CX0 3 fCS fdC ["self", "links"] (spCShows CC)) (bC : Binds K fdC ["self", "links"] []) (mC : Meth K CC "shows" fCS) (cY : Callee P w K mg base 1 "_law_says" ["_law_said", "_law_due"] spSays) (cB : Callee P w K mg base 1 "_law_bars" ["_law_script"] (spBars K)) (cRR : Callee P w K mg base 4 "_law_rows_right" ["_law_bars_here", "_law_other"] spRowsR) (cCR : Callee P w K mg base 4 "_law_crossed_right" ["_law_bars_here", "_law_cell"] spCrossR) (cBR : Callee P w K mg base 6 "_law_boards_right" ["_law_bars_here", "_law_cell"] spBoardsR) : FnOk P w K mg base CX0 7 f fd ["_law_script"] (spLaw K) := by
  refine F.ok scLaw (fun vs H Q E h => ?_) (fun cdv A outer s H vs Q E hr h => ?_)
  · obtain ⟨a, ns, rfl, _⟩ := h
    rfl
  · obtain ⟨a, ns, rfl, hS, hl, k⟩ := h
    refine ⟨_, (pss_cons (ps_set (i := 1) scLaw.nd rfl (Or.inl rfl) (pe_fn cB (hr.mono (by decide)) rfl (pa_cons (pv 0) pa_nil)))
      (pss_cons (ps_if (pt_not (pt_val (pe_fn cRR (hr.mono (by decide)) rfl (pa_cons (pv 1) (pa_cons (pe_lc (cap := []) ["_law_bar"] rfl (CompOk.of (defScope sLaw) nLaw rfl rfl (by decide +kernel)) (pi_list (pv 1)) (fun C s H fp => (pg_name (i := 0) (show List.Nodup (["_law_bar"] : List Str) from by decide +kernel) rfl (Or.inl rfl))) (fun C s H fp => pf_nil)
        (fun C s H fp => (pe_op op_fdiv (pv 0) pe_int))) pa_nil))))) pss_never pss_nil)
      (pss_cons (ps_for PassesOwn.never rfl (pi_enum rfl B.enumerate (pa_cons (pv 0) pa_nil)) (pg_tup rfl (pgs_cons (pg_name (i := 2) scLaw.nd rfl (Or.inl rfl)) (pgs_cons (pg_name (i := 3) scLaw.nd rfl (Or.inl rfl)) pgs_nil)))
      (pss_one (ps_if (PW.pt (pw_or (pt_not (pt_val (pe_fn cCR (hr.mono (by decide)) rfl (pa_cons (pv 1) (pa_cons (pv 3) pa_nil))))) (pw_or1 (PW.pt (pw_and (pt_cmpR op_eq (pe_op op_mod (pv 2) pe_int) pe_int (nomark _)) (pw_and1 (pt_not (pt_val (pe_fn cBR hr rfl (pa_cons (pv 1) (pa_cons (pv 3) pa_nil))))))))))) pss_never pss_nil)))
      (pss_cons (ps_set (i := 4) scLaw.nd rfl (Or.inl rfl) (pe_make MC GI (hr.mono (by decide)) rfl mgX bI .nil pass0 (pa_cons pe_int (pa_cons pe_int pa_nil))))
      (pss_one (ps_ret (pe_and (pe_fn cY (hr.mono (by decide)) rfl (pa_cons (pe_meth (pv 4) TC.cl mC GC (hr.mono (by decide)) bC .nil pass0 (pa_cons (pe_lst (pa_cons (pe_un un_neg pe_int) (pa_cons (pe_un un_neg pe_int) (pa_cons pe_int pa_nil)))) pa_nil)) (pa_cons pe_bl pa_nil))) (pe_one (pe_fn cY (hr.mono (by decide)) rfl (pa_cons (pe_meth (pv 4) TC.cl mC GC (hr.mono (by decide)) bC .nil pass0 (pa_cons (pe_lst (pa_cons (pe_un un_neg pe_int) (pa_cons pe_int (pa_cons pe_int pa_nil)))) pa_nil)) (pa_cons pe_bl pa_nil))))))))))), ?_⟩
    refine ⟨_, rfl, a, ns, rfl, hS, hl, fun xs hxl hh b H1 nb s1 hB => ?_⟩
    -- rows
    refine ⟨_, rfl, _, rfl, b, rfl, ⟨_, SqL.of hB⟩, fun D hD => lc_listP (xs := xs.map V.int) (fun v => match v with | .int x => .int (x / 2) | _ => .non) hD (SqL.of hB) (by rw [List.length_map]; exact Nat.le_of_lt (small100 hh.1)) ?_ ?_⟩
    · intro i x ys C s H0 fp R hx hR
      obtain ⟨z, rfl, _⟩ := get_mapM hx
      exact ⟨_, rfl, z, 2, rfl, rfl, ⟨by decide, by decide⟩, hR⟩
    have hD1 : IL (upd H1 D (.lst ((xs.map V.int).map fun v => match v with | .int x => .int (x / 2) | _ => .non))) D (xs.map fun x => x / 2) := upd_same.trans (by rw [List.map_map, List.map_map]; rfl)
    have s12 := Same.new hD (.lst ((xs.map V.int).map fun v => match v with | .int x => .int (x / 2) | _ => .non))
    generalize upd H1 D (.lst ((xs.map V.int).map fun v => match v with | .int x => .int (x / 2) | _ => .non)) = H2 at hD1 s12
    have s02 := s1.trans s12
    have hB2 : IL H2 b xs := s12 _ _ hB
    refine ⟨b, D, xs, _, rfl, hB2, hD1, by omega, by rw [List.length_map]; omega, fun H3 s3 => ⟨true, rfl, iteF ?_⟩⟩
    have s03 := s02.trans s3
    have hB3 : IL H3 b xs := s3 _ _ hB2
    -- for each cell
    refine ⟨_, rfl, a, rfl, ⟨_, s03.seq hS⟩, for_enum (K := K) (a := a) (xs := ns.map V.int) (fun i σ H4 => ∃ v2 v3, σ = [some (.ref a), some (.ref b), v2, v3, none] ∧ Same H3 H4) ⟨none, none, rfl, Same.refl _⟩ (fun i σ H4 _ ⟨_, _, _, s4⟩ => (s03.trans s4).seq hS) ?_ ?_⟩
    · rintro i y σ H4 t hi ⟨v2, v3, rfl, s4⟩ ht
      obtain ⟨z, rfl, hz⟩ := get_mapM hi
      have hil : i < ns.length := (List.getElem?_eq_some_iff.mp hz).1
      have hne : xs ≠ [] := fun e => by rw [e] at hxl; simp at hxl; omega
      have s5 : Same H3 (upd H4 t (.tup [.int (i : Nat), .int z])) := s4.put (s4.free ht)
      refine ⟨t, _, rfl, SqT.of upd_same, rfl, _, _, rfl, _, _, rfl, rfl, ?_⟩
      generalize upd H4 t (.tup [.int (i : Nat), .int z]) = H5 at s5
      refine ⟨_, rfl, _, rfl, b, z, xs, rfl, s5 _ _ hB3, by omega, fun H6 s6 => ⟨true, rfl, iteF ?_⟩⟩
      have s36 := s5.trans s6
      refine ⟨_, rfl, _, 7, rfl, rfl, (by show (0 : Int) < 7; decide), rfl, _, rfl, ite2 (fun _ => ?_) (fun _ => iteF ⟨_, _, rfl, s36⟩)⟩
      exact ⟨_, rfl, _, rfl, b, z, xs, rfl, s36 _ _ hB3, hh, hne, fun H7 s7 => ⟨true, rfl, iteF ⟨_, _, rfl, s36.trans s7⟩⟩⟩
    rintro σ H4 ⟨v2, v3, rfl, s4⟩
    -- two links by hand
    refine fun x dx nx ndx nex => ⟨x, dx, 1, 2, rfl, upd_same, fun H5 hx5 keep => ⟨rfl, ?_⟩⟩
    refine ⟨_, rfl, x, dx, _, rfl, hx5, crF_no _ _ (by decide +kernel) (by decide +kernel), 1, rfl, 1, rfl, (by show 3 ≤ sizeLine; decide), fun q1 hq1 => ?_⟩
    have s56 := Same.new hq1 (.lst [.int (-1), .int (-1), .int 0])
    have hQ6 : IL (upd H5 q1 (.lst [.int (-1), .int (-1), .int 0])) q1 [-1, -1, 0] := upd_same
    have hx6 := s56 _ _ hx5
    refine ⟨x, dx, q1, 1, 2, [-1, -1, 0], rfl, hx6, hQ6, by show 3 ≤ 100; decide, fun H7 s7 => ?_⟩
    rw [show crossB [-1, -1, 0] 1 2 = true by decide]
    refine ⟨true, true, rfl, true, by decide, iteT ?_⟩
    have hx7 := s7 _ _ hx6
    refine ⟨_, rfl, x, dx, _, rfl, hx7, crF_no _ _ (by decide +kernel) (by decide +kernel), 1, rfl, (by show 3 ≤ sizeLine; decide), fun q2 hq2 => ?_⟩
    have s78 := Same.new hq2 (.lst [.int (-1), .int 0, .int 0])
    have hQ8 : IL (upd H7 q2 (.lst [.int (-1), .int 0, .int 0])) q2 [-1, 0, 0] := upd_same
    refine ⟨x, dx, q2, 1, 2, [-1, 0, 0], rfl, s78 _ _ hx7, hQ8, by show 3 ≤ 100; decide, fun H9 s9 => ?_⟩
    rw [show crossB [-1, 0, 0] 1 2 = false by decide]
    refine ⟨false, false, rfl, ?_⟩
    exact k _
end
end Sky

namespace Sky
open PySem L2
theorem all_mk {l : PySem.W.OpenLaw} {w : World} {K : PySem.W.Frag} {h : Heap} {mg : Str → Option Value} {fa fL f_is_whole_within f_all_below_their_places f__law_says f__law_bars f_reach_starts f_nearest_lower f__law_links f__law_rows_right f__law_crossed_right f_check_bars f_turned f_reach_ends f_reaches f_count_of_places f_board f_ends_at_lower f__law_under f__law_board_right f__law_boards_right f_Crossed___init__ f_Crossed_shows f_Row_shows f_Row___init__ f_Board___init__ f_Board_lies_under f_Board_none_is_greater f_Board_shows Crossed Row Board : Addr} (X : K.In h) (G : h.Ns mainGlobals mg) (hfa : mg "law" = some (.ref fa))
    (d_is_whole_within : DefIn K "is_whole_within" sWithin f_is_whole_within)
    (d_all_below_their_places : DefIn K "all_below_their_places" sBelow f_all_below_their_places)
    (d__law_says : DefIn K "_law_says" sSays f__law_says)
    (d__law_bars : DefIn K "_law_bars" sBars f__law_bars)
    (d_reach_starts : DefIn K "reach_starts" sStarts f_reach_starts)
    (d_nearest_lower : DefIn K "nearest_lower" sNear f_nearest_lower)
    (d__law_links : DefIn K "_law_links" sLLinks f__law_links)
    (d__law_rows_right : DefIn K "_law_rows_right" sRowsR f__law_rows_right)
    (d__law_crossed_right : DefIn K "_law_crossed_right" sCrossR f__law_crossed_right)
    (d_check_bars : DefIn K "check_bars" sChk f_check_bars)
    (d_turned : DefIn K "turned" sTurned f_turned)
    (d_reach_ends : DefIn K "reach_ends" sEnds f_reach_ends)
    (d_reaches : DefIn K "reaches" sReach f_reaches)
    (d_count_of_places : DefIn K "count_of_places" sCount f_count_of_places)
    (d_board : DefIn K "board" sBoard f_board)
    (d_ends_at_lower : DefIn K "ends_at_lower" sEndsAt f_ends_at_lower)
    (d__law_under : DefIn K "_law_under" sUnder f__law_under)
    (d__law_board_right : DefIn K "_law_board_right" sBoardR f__law_board_right)
    (d__law_boards_right : DefIn K "_law_boards_right" sBoardsR f__law_boards_right)
    (aC_Crossed : PySem.W.nsIn K mainGlobals "Crossed" = some (some (.ref Crossed)))
    (ci_Crossed : ClsIn K Crossed)
    (na_Crossed_first : PySem.W.findIn K (.ref Crossed) "first" = some none)
    (na_Crossed_second : PySem.W.findIn K (.ref Crossed) "second" = some none)
    (mk_Crossed : PySem.W.makesIn K Crossed = true) (kc_Crossed : PySem.W.keepIn K (.ref Crossed) = true)
    (aC_Row : PySem.W.nsIn K mainGlobals "Row" = some (some (.ref Row)))
    (ci_Row : ClsIn K Row)
    (na_Row_bars : PySem.W.findIn K (.ref Row) "bars" = some none)
    (mk_Row : PySem.W.makesIn K Row = true) (kc_Row : PySem.W.keepIn K (.ref Row) = true)
    (aC_Board : PySem.W.nsIn K mainGlobals "Board" = some (some (.ref Board)))
    (ci_Board : ClsIn K Board)
    (na_Board_first : PySem.W.findIn K (.ref Board) "first" = some none)
    (na_Board_many : PySem.W.findIn K (.ref Board) "many" = some none)
    (na_Board_high : PySem.W.findIn K (.ref Board) "high" = some none)
    (na_Board_around : PySem.W.findIn K (.ref Board) "around" = some none)
    (mk_Board : PySem.W.makesIn K Board = true) (kc_Board : PySem.W.keepIn K (.ref Board) = true)
    (d_Crossed___init__ : MethIn K Crossed "__init__" "Crossed.__init__" sCInit f_Crossed___init__)
    (d_Crossed_shows : MethIn K Crossed "shows" "Crossed.shows" sCShows f_Crossed_shows)
    (d_Row_shows : MethIn K Row "shows" "Row.shows" sRShows f_Row_shows)
    (d_Row___init__ : MethIn K Row "__init__" "Row.__init__" sRInit f_Row___init__)
    (d_Board___init__ : MethIn K Board "__init__" "Board.__init__" sInit f_Board___init__)
    (d_Board_lies_under : MethIn K Board "lies_under" "Board.lies_under" sLies f_Board_lies_under)
    (d_Board_none_is_greater : MethIn K Board "none_is_greater" "Board.none_is_greater" sNone f_Board_none_is_greater)
    (d_Board_shows : MethIn K Board "shows" "Board.shows" sShows f_Board_shows)
    {oc : Value} {od an : Option Addr} {osl : Array (Option Value)} {kV doc pm cdv ct : Value} (aL : PySem.W.nsIn K mainGlobals "law" = some (some (.ref fL)))
    (lL : K.lookup fL = some ⟨oc, od, .func (PySem.W.fnOf "law" "law" (defArgs sLaw) (defBody sLaw) (defScope sLaw) .none kV doc pm an cdv ct), osl⟩) (cL : PySem.W.codeIn K cdv "law" = true) (kL : PySem.W.keepIn K (.ref fL) = true)
    {t : Tok} (hh : PySem.W.nsIn K mainGlobals "HIGHEST" = some (some (.int 10000000 t)))
    (z1 : PySem.W.nsIn K mainGlobals "isinstance" = some none)
    (z2 : PySem.W.nsIn K mainGlobals "int" = some none)
    (z3 : PySem.W.nsIn K mainGlobals "bool" = some none)
    (z4 : PySem.W.nsIn K mainGlobals "list" = some none)
    (z5 : PySem.W.nsIn K mainGlobals "len" = some none)
    (z6 : PySem.W.nsIn K mainGlobals "range" = some none)
    (z7 : PySem.W.nsIn K mainGlobals "enumerate" = some none)
    (z8 : PySem.W.nsIn K mainGlobals "reversed" = some none)
    (z9 : PySem.W.nsIn K mainGlobals "min" = some none)
    (z10 : PySem.W.nsIn K mainGlobals "max" = some none)
    (z11 : PySem.W.nsIn K mainGlobals "sum" = some none)
    (z12 : PySem.W.nsIn K mainGlobals "all" = some none)
    (z13 : PySem.W.nsIn K mainGlobals "sorted" = some none)
    (z14 : PySem.W.nsIn K mainGlobals "zip" = some none)
    (z15 : PySem.W.nsIn K mainGlobals "any" = some none)
    (z16 : PySem.W.nsIn K mainGlobals "tuple" = some none)
    : ∃ fd : FuncData, (∀ (s : Shared) (v : Value), BindsTo s fd ⟨[v], []⟩ [("_law_script", v)]) ∧ ∀ base : Heap, K.In base → base.Ns mainGlobals mg → FnOk l.prog w K mg base CX0 7 fa fd ["_law_script"] (spLaw K) := by
  have e := hfa.symm.trans (PySem.W.mg_of X G aL)
  cases e
  have B : Blt mg := ⟨PySem.W.mg_none_of X G z1, PySem.W.mg_none_of X G z2, PySem.W.mg_none_of X G z3, PySem.W.mg_none_of X G z4, PySem.W.mg_none_of X G z5, PySem.W.mg_none_of X G z6, PySem.W.mg_none_of X G z7, PySem.W.mg_none_of X G z8, PySem.W.mg_none_of X G z9, PySem.W.mg_none_of X G z10, PySem.W.mg_none_of X G z11, PySem.W.mg_none_of X G z12, PySem.W.mg_none_of X G z13, PySem.W.mg_none_of X G z14, PySem.W.mg_none_of X G z15, PySem.W.mg_none_of X G z16⟩
  have HI : Hi mg := ⟨t, PySem.W.mg_of X G hh⟩
  obtain ⟨g_is_whole_within, fd_is_whole_within, F_is_whole_within⟩ := d_is_whole_within
  obtain ⟨g_all_below_their_places, fd_all_below_their_places, F_all_below_their_places⟩ := d_all_below_their_places
  obtain ⟨g__law_says, fd__law_says, F__law_says⟩ := d__law_says
  obtain ⟨g__law_bars, fd__law_bars, F__law_bars⟩ := d__law_bars
  obtain ⟨g_reach_starts, fd_reach_starts, F_reach_starts⟩ := d_reach_starts
  obtain ⟨g_nearest_lower, fd_nearest_lower, F_nearest_lower⟩ := d_nearest_lower
  obtain ⟨g__law_links, fd__law_links, F__law_links⟩ := d__law_links
  obtain ⟨g__law_rows_right, fd__law_rows_right, F__law_rows_right⟩ := d__law_rows_right
  obtain ⟨g__law_crossed_right, fd__law_crossed_right, F__law_crossed_right⟩ := d__law_crossed_right
  obtain ⟨g_check_bars, fd_check_bars, F_check_bars⟩ := d_check_bars
  obtain ⟨g_turned, fd_turned, F_turned⟩ := d_turned
  obtain ⟨g_reach_ends, fd_reach_ends, F_reach_ends⟩ := d_reach_ends
  obtain ⟨g_reaches, fd_reaches, F_reaches⟩ := d_reaches
  obtain ⟨g_count_of_places, fd_count_of_places, F_count_of_places⟩ := d_count_of_places
  obtain ⟨g_board, fd_board, F_board⟩ := d_board
  obtain ⟨g_ends_at_lower, fd_ends_at_lower, F_ends_at_lower⟩ := d_ends_at_lower
  obtain ⟨g__law_under, fd__law_under, F__law_under⟩ := d__law_under
  obtain ⟨g__law_board_right, fd__law_board_right, F__law_board_right⟩ := d__law_board_right
  obtain ⟨g__law_boards_right, fd__law_boards_right, F__law_boards_right⟩ := d__law_boards_right
  obtain ⟨fd_Crossed___init__, F_Crossed___init__⟩ := d_Crossed___init__.fn
  obtain ⟨fd_Crossed_shows, F_Crossed_shows⟩ := d_Crossed_shows.fn
  obtain ⟨fd_Row_shows, F_Row_shows⟩ := d_Row_shows.fn
  obtain ⟨fd_Row___init__, F_Row___init__⟩ := d_Row___init__.fn
  obtain ⟨fd_Board___init__, F_Board___init__⟩ := d_Board___init__.fn
  obtain ⟨fd_Board_lies_under, F_Board_lies_under⟩ := d_Board_lies_under.fn
  obtain ⟨fd_Board_none_is_greater, F_Board_none_is_greater⟩ := d_Board_none_is_greater.fn
  obtain ⟨fd_Board_shows, F_Board_shows⟩ := d_Board_shows.fn
  have FL := fun_mk (st := sLaw) lL cL kL
  refine ⟨PySem.W.fnOf "law" "law" (defArgs sLaw) (defBody sLaw) (defScope sLaw) .none kV doc pm an cdv ct, fun s v => .of_eq rfl, fun base _ _ => ?_⟩
  have T_Crossed : CCls K Crossed := ⟨ci_Crossed.cl, na_Crossed_first, na_Crossed_second⟩
  have G_Crossed___init__ : FnOk l.prog w K mg base CX0 1 f_Crossed___init__ fd_Crossed___init__ ["self", "first", "second"] (spCInit Crossed) := ok_cInit F_Crossed___init__ B T_Crossed
  have b_Crossed___init__ := F_Crossed___init__.binds (ps := ["self", "first", "second"]) fun _ _ _ _ _ _ us hl => match us, hl with | [_, _, _], _ => rfl
  have Mk_Crossed : Mk K Crossed f_Crossed___init__ := ⟨mk_Crossed, d_Crossed___init__.find, d_Crossed___init__.isfn, kc_Crossed⟩
  have c_is_whole_within : Callee l.prog w K mg base 1 "is_whole_within" ["value", "least", "most"] spWithin := Callee.of F_is_whole_within (ok_within F_is_whole_within B) (PySem.W.mg_of X G g_is_whole_within) (F_is_whole_within.binds fun _ _ _ _ _ _ us hl => match us, hl with | [_, _, _], _ => rfl)
  have c_all_below_their_places : Callee l.prog w K mg base 2 "all_below_their_places" ["links"] spBelow := Callee.of F_all_below_their_places (ok_below F_all_below_their_places B c_is_whole_within) (PySem.W.mg_of X G g_all_below_their_places) (F_all_below_their_places.binds fun _ _ _ _ _ _ us hl => match us, hl with | [_], _ => rfl)
  have G_Crossed_shows : FnOk l.prog w K mg base CX0 3 f_Crossed_shows fd_Crossed_shows ["self", "links"] (spCShows Crossed) := ok_cShows F_Crossed_shows B T_Crossed c_all_below_their_places
  have b_Crossed_shows := F_Crossed_shows.binds (ps := ["self", "links"]) fun _ _ _ _ _ _ us hl => match us, hl with | [_, _], _ => rfl
  have c__law_says : Callee l.prog w K mg base 1 "_law_says" ["_law_said", "_law_due"] spSays := Callee.of F__law_says (ok_says F__law_says B) (PySem.W.mg_of X G g__law_says) (F__law_says.binds fun _ _ _ _ _ _ us hl => match us, hl with | [_, _], _ => rfl)
  have c__law_bars : Callee l.prog w K mg base 1 "_law_bars" ["_law_script"] (spBars K) := Callee.of F__law_bars (ok_bars F__law_bars B) (PySem.W.mg_of X G g__law_bars) (F__law_bars.binds fun _ _ _ _ _ _ us hl => match us, hl with | [_], _ => rfl)
  have T_Row : RCls K Row := ⟨ci_Row.cl, na_Row_bars⟩
  have c_reach_starts : Callee l.prog w K mg base 1 "reach_starts" ["bars"] spStarts := Callee.of F_reach_starts (ok_starts F_reach_starts B) (PySem.W.mg_of X G g_reach_starts) (F_reach_starts.binds fun _ _ _ _ _ _ us hl => match us, hl with | [_], _ => rfl)
  have c_nearest_lower : Callee l.prog w K mg base 2 "nearest_lower" ["bars"] spNear := Callee.of F_nearest_lower (ok_near F_nearest_lower B c_reach_starts) (PySem.W.mg_of X G g_nearest_lower) (F_nearest_lower.binds fun _ _ _ _ _ _ us hl => match us, hl with | [_], _ => rfl)
  have G_Row_shows : FnOk l.prog w K mg base CX0 3 f_Row_shows fd_Row_shows ["self", "links"] (spRShows Row) := ok_rShows F_Row_shows B T_Row c_nearest_lower
  have b_Row_shows := F_Row_shows.binds (ps := ["self", "links"]) fun _ _ _ _ _ _ us hl => match us, hl with | [_, _], _ => rfl
  have G_Row___init__ : FnOk l.prog w K mg base CX0 1 f_Row___init__ fd_Row___init__ ["self", "bars"] (spRInit Row) := ok_rInit F_Row___init__ B T_Row
  have b_Row___init__ := F_Row___init__.binds (ps := ["self", "bars"]) fun _ _ _ _ _ _ us hl => match us, hl with | [_, _], _ => rfl
  have Mk_Row : Mk K Row f_Row___init__ := ⟨mk_Row, d_Row___init__.find, d_Row___init__.isfn, kc_Row⟩
  have c__law_links : Callee l.prog w K mg base 1 "_law_links" ["_law_bars_here"] spNear := Callee.of F__law_links (ok_llinks F__law_links B) (PySem.W.mg_of X G g__law_links) (F__law_links.binds fun _ _ _ _ _ _ us hl => match us, hl with | [_], _ => rfl)
  have c__law_rows_right : Callee l.prog w K mg base 4 "_law_rows_right" ["_law_bars_here", "_law_other"] spRowsR := Callee.of F__law_rows_right (ok_rowsR F__law_rows_right B T_Row G_Row_shows b_Row_shows (d_Row_shows).meth Mk_Row G_Row___init__ b_Row___init__ (PySem.W.mg_of X G aC_Row) c__law_says c__law_links) (PySem.W.mg_of X G g__law_rows_right) (F__law_rows_right.binds fun _ _ _ _ _ _ us hl => match us, hl with | [_, _], _ => rfl)
  have c__law_crossed_right : Callee l.prog w K mg base 4 "_law_crossed_right" ["_law_bars_here", "_law_cell"] spCrossR := Callee.of F__law_crossed_right (ok_crossR F__law_crossed_right B T_Crossed Mk_Crossed G_Crossed___init__ b_Crossed___init__ (PySem.W.mg_of X G aC_Crossed) G_Crossed_shows b_Crossed_shows (d_Crossed_shows).meth c__law_says) (PySem.W.mg_of X G g__law_crossed_right) (F__law_crossed_right.binds fun _ _ _ _ _ _ us hl => match us, hl with | [_, _], _ => rfl)
  have T_Board : BCls K Board := ⟨ci_Board.cl, na_Board_first, na_Board_many, na_Board_high, na_Board_around⟩
  have c_check_bars : Callee l.prog w K mg base 3 "check_bars" ["bars"] spChk := Callee.of F_check_bars (ok_chk F_check_bars B HI c_is_whole_within) (PySem.W.mg_of X G g_check_bars) (F_check_bars.binds fun _ _ _ _ _ _ us hl => match us, hl with | [_], _ => rfl)
  have c_turned : Callee l.prog w K mg base 1 "turned" ["places"] spTurned := Callee.of F_turned (ok_turned F_turned B) (PySem.W.mg_of X G g_turned) (F_turned.binds fun _ _ _ _ _ _ us hl => match us, hl with | [_], _ => rfl)
  have c_reach_ends : Callee l.prog w K mg base 2 "reach_ends" ["bars"] spEnds := Callee.of F_reach_ends (ok_ends F_reach_ends B c_reach_starts c_turned) (PySem.W.mg_of X G g_reach_ends) (F_reach_ends.binds fun _ _ _ _ _ _ us hl => match us, hl with | [_], _ => rfl)
  have c_reaches : Callee l.prog w K mg base 4 "reaches" ["bars"] spReach := Callee.of F_reaches (ok_reach F_reaches B c_check_bars c_reach_starts c_reach_ends) (PySem.W.mg_of X G g_reaches) (F_reaches.binds fun _ _ _ _ _ _ us hl => match us, hl with | [_], _ => rfl)
  have c_count_of_places : Callee l.prog w K mg base 1 "count_of_places" ["pair"] spCount := Callee.of F_count_of_places (ok_count F_count_of_places) (PySem.W.mg_of X G g_count_of_places) (F_count_of_places.binds fun _ _ _ _ _ _ us hl => match us, hl with | [_], _ => rfl)
  have G_Board___init__ : FnOk l.prog w K mg base CX0 1 f_Board___init__ fd_Board___init__ ["self", "first", "many", "high", "around"] (spInit Board) := ok_init F_Board___init__ B T_Board
  have b_Board___init__ := F_Board___init__.binds (ps := ["self", "first", "many", "high", "around"]) fun _ _ _ _ _ _ us hl => match us, hl with | [_, _, _, _, _], _ => rfl
  have Mk_Board : Mk K Board f_Board___init__ := ⟨mk_Board, d_Board___init__.find, d_Board___init__.isfn, kc_Board⟩
  have c_board : Callee l.prog w K mg base 5 "board" ["bars"] (spBoard Board) := Callee.of F_board (ok_board F_board B c_reaches c_count_of_places Mk_Board G_Board___init__ b_Board___init__ (PySem.W.mg_of X G aC_Board)) (PySem.W.mg_of X G g_board) (F_board.binds fun _ _ _ _ _ _ us hl => match us, hl with | [_], _ => rfl)
  have G_Board_lies_under : FnOk l.prog w K mg base CX0 1 f_Board_lies_under fd_Board_lies_under ["self", "bars"] (spLies Board) := ok_lies F_Board_lies_under B T_Board
  have b_Board_lies_under := F_Board_lies_under.binds (ps := ["self", "bars"]) fun _ _ _ _ _ _ us hl => match us, hl with | [_, _], _ => rfl
  have c_ends_at_lower : Callee l.prog w K mg base 1 "ends_at_lower" ["bars", "place", "pair"] spEndsAt := Callee.of F_ends_at_lower (ok_endsAt F_ends_at_lower B) (PySem.W.mg_of X G g_ends_at_lower) (F_ends_at_lower.binds fun _ _ _ _ _ _ us hl => match us, hl with | [_, _, _], _ => rfl)
  have G_Board_none_is_greater : FnOk l.prog w K mg base CX0 2 f_Board_none_is_greater fd_Board_none_is_greater ["self", "bars"] (spNone Board) := ok_none F_Board_none_is_greater B T_Board c_ends_at_lower c_count_of_places
  have b_Board_none_is_greater := F_Board_none_is_greater.binds (ps := ["self", "bars"]) fun _ _ _ _ _ _ us hl => match us, hl with | [_, _], _ => rfl
  have G_Board_shows : FnOk l.prog w K mg base CX0 3 f_Board_shows fd_Board_shows ["self", "bars"] (spShows Board) := ok_shows F_Board_shows T_Board G_Board_lies_under b_Board_lies_under (d_Board_lies_under).meth G_Board_none_is_greater b_Board_none_is_greater (d_Board_none_is_greater).meth
  have b_Board_shows := F_Board_shows.binds (ps := ["self", "bars"]) fun _ _ _ _ _ _ us hl => match us, hl with | [_, _], _ => rfl
  have c__law_under : Callee l.prog w K mg base 1 "_law_under" ["_law_bars_here", "_law_first", "_law_many", "_law_high", "_law_around"] spUnder := Callee.of F__law_under (ok_under F__law_under B) (PySem.W.mg_of X G g__law_under) (F__law_under.binds fun _ _ _ _ _ _ us hl => match us, hl with | [_, _, _, _, _], _ => rfl)
  have c__law_board_right : Callee l.prog w K mg base 4 "_law_board_right" ["_law_bars_here", "_law_first", "_law_many", "_law_high", "_law_around"] spBoardR := Callee.of F__law_board_right (ok_boardR F__law_board_right B T_Board G_Board_shows b_Board_shows (d_Board_shows).meth Mk_Board G_Board___init__ b_Board___init__ (PySem.W.mg_of X G aC_Board) c__law_says c__law_under) (PySem.W.mg_of X G g__law_board_right) (F__law_board_right.binds fun _ _ _ _ _ _ us hl => match us, hl with | [_, _, _, _, _], _ => rfl)
  have c__law_boards_right : Callee l.prog w K mg base 6 "_law_boards_right" ["_law_bars_here", "_law_cell"] spBoardsR := Callee.of F__law_boards_right (ok_boardsR F__law_boards_right B T_Board c_board c__law_board_right) (PySem.W.mg_of X G g__law_boards_right) (F__law_boards_right.binds fun _ _ _ _ _ _ us hl => match us, hl with | [_, _], _ => rfl)
  exact ok_law FL B T_Crossed Mk_Crossed G_Crossed___init__ b_Crossed___init__ (PySem.W.mg_of X G aC_Crossed) G_Crossed_shows b_Crossed_shows (d_Crossed_shows).meth c__law_says c__law_bars c__law_rows_right c__law_crossed_right c__law_boards_right
end Sky
open PySem PySem.W PyProof.Rows
set_option maxRecDepth 100000 in
set_option maxHeartbeats 0 in
theorem PySem.Challenge.cw_skybars_k08_answers_by_hand_holds : PySem.Challenge.rw_skybars_k08_answers_by_hand.Holds := by
  w_on; o_law; k_head; (case hw => w_witness2)
  k_fill
  refine Sky.walk 7 (l := PySem.Challenge.rw_skybars_k08_answers_by_hand) ⟨rfl, by decide, by decide⟩ rfl rfl (fun w h Y => PySem.W.kIn_of Y) ?F
  case F =>
    intro w mg fa h KX G hmg
    refine' Sky.all_mk KX G hmg (Sky.def_mk ?a_is_whole_within ?l_is_whole_within ?c_is_whole_within ?k_is_whole_within) (Sky.def_mk ?a_all_below_their_places ?l_all_below_their_places ?c_all_below_their_places ?k_all_below_their_places) (Sky.def_mk ?a__law_says ?l__law_says ?c__law_says ?k__law_says) (Sky.def_mk ?a__law_bars ?l__law_bars ?c__law_bars ?k__law_bars) (Sky.def_mk ?a_reach_starts ?l_reach_starts ?c_reach_starts ?k_reach_starts) (Sky.def_mk ?a_nearest_lower ?l_nearest_lower ?c_nearest_lower ?k_nearest_lower) (Sky.def_mk ?a__law_links ?l__law_links ?c__law_links ?k__law_links) (Sky.def_mk ?a__law_rows_right ?l__law_rows_right ?c__law_rows_right ?k__law_rows_right) (Sky.def_mk ?a__law_crossed_right ?l__law_crossed_right ?c__law_crossed_right ?k__law_crossed_right) (Sky.def_mk ?a_check_bars ?l_check_bars ?c_check_bars ?k_check_bars) (Sky.def_mk ?a_turned ?l_turned ?c_turned ?k_turned) (Sky.def_mk ?a_reach_ends ?l_reach_ends ?c_reach_ends ?k_reach_ends) (Sky.def_mk ?a_reaches ?l_reaches ?c_reaches ?k_reaches) (Sky.def_mk ?a_count_of_places ?l_count_of_places ?c_count_of_places ?k_count_of_places) (Sky.def_mk ?a_board ?l_board ?c_board ?k_board) (Sky.def_mk ?a_ends_at_lower ?l_ends_at_lower ?c_ends_at_lower ?k_ends_at_lower) (Sky.def_mk ?a__law_under ?l__law_under ?c__law_under ?k__law_under) (Sky.def_mk ?a__law_board_right ?l__law_board_right ?c__law_board_right ?k__law_board_right) (Sky.def_mk ?a__law_boards_right ?l__law_boards_right ?c__law_boards_right ?k__law_boards_right) ?aC_Crossed ⟨?pg_Crossed, ?hd_Crossed, ?po_Crossed, ?sa_Crossed, ?ha_Crossed, ?hn_Crossed, ?htk_Crossed, ?hm_Crossed⟩ ?na_Crossed_first ?na_Crossed_second ?mk_Crossed ?kc_Crossed ?aC_Row ⟨?pg_Row, ?hd_Row, ?po_Row, ?sa_Row, ?ha_Row, ?hn_Row, ?htk_Row, ?hm_Row⟩ ?na_Row_bars ?mk_Row ?kc_Row ?aC_Board ⟨?pg_Board, ?hd_Board, ?po_Board, ?sa_Board, ?ha_Board, ?hn_Board, ?htk_Board, ?hm_Board⟩ ?na_Board_first ?na_Board_many ?na_Board_high ?na_Board_around ?mk_Board ?kc_Board (Sky.meth_mk ?a_Crossed___init__ ?i_Crossed___init__ ?l_Crossed___init__ ?c_Crossed___init__ ?k_Crossed___init__) (Sky.meth_mk ?a_Crossed_shows ?i_Crossed_shows ?l_Crossed_shows ?c_Crossed_shows ?k_Crossed_shows) (Sky.meth_mk ?a_Row_shows ?i_Row_shows ?l_Row_shows ?c_Row_shows ?k_Row_shows) (Sky.meth_mk ?a_Row___init__ ?i_Row___init__ ?l_Row___init__ ?c_Row___init__ ?k_Row___init__) (Sky.meth_mk ?a_Board___init__ ?i_Board___init__ ?l_Board___init__ ?c_Board___init__ ?k_Board___init__) (Sky.meth_mk ?a_Board_lies_under ?i_Board_lies_under ?l_Board_lies_under ?c_Board_lies_under ?k_Board_lies_under) (Sky.meth_mk ?a_Board_none_is_greater ?i_Board_none_is_greater ?l_Board_none_is_greater ?c_Board_none_is_greater ?k_Board_none_is_greater) (Sky.meth_mk ?a_Board_shows ?i_Board_shows ?l_Board_shows ?c_Board_shows ?k_Board_shows) ?aL ?lL ?cL ?kL ?hh ?z1 ?z2 ?z3 ?z4 ?z5 ?z6 ?z7 ?z8 ?z9 ?z10 ?z11 ?z12 ?z13 ?z14 ?z15 ?z16
    (case a_is_whole_within => k_is); (case l_is_whole_within => k_is); (case c_is_whole_within => k_is); (case k_is_whole_within => k_is)
    (case a_all_below_their_places => k_is); (case l_all_below_their_places => k_is); (case c_all_below_their_places => k_is); (case k_all_below_their_places => k_is)
    (case a__law_says => k_is); (case l__law_says => k_is); (case c__law_says => k_is); (case k__law_says => k_is)
    (case a__law_bars => k_is); (case l__law_bars => k_is); (case c__law_bars => k_is); (case k__law_bars => k_is)
    (case a_reach_starts => k_is); (case l_reach_starts => k_is); (case c_reach_starts => k_is); (case k_reach_starts => k_is)
    (case a_nearest_lower => k_is); (case l_nearest_lower => k_is); (case c_nearest_lower => k_is); (case k_nearest_lower => k_is)
    (case a__law_links => k_is); (case l__law_links => k_is); (case c__law_links => k_is); (case k__law_links => k_is)
    (case a__law_rows_right => k_is); (case l__law_rows_right => k_is); (case c__law_rows_right => k_is); (case k__law_rows_right => k_is)
    (case a__law_crossed_right => k_is); (case l__law_crossed_right => k_is); (case c__law_crossed_right => k_is); (case k__law_crossed_right => k_is)
    (case a_check_bars => k_is); (case l_check_bars => k_is); (case c_check_bars => k_is); (case k_check_bars => k_is)
    (case a_turned => k_is); (case l_turned => k_is); (case c_turned => k_is); (case k_turned => k_is)
    (case a_reach_ends => k_is); (case l_reach_ends => k_is); (case c_reach_ends => k_is); (case k_reach_ends => k_is)
    (case a_reaches => k_is); (case l_reaches => k_is); (case c_reaches => k_is); (case k_reaches => k_is)
    (case a_count_of_places => k_is); (case l_count_of_places => k_is); (case c_count_of_places => k_is); (case k_count_of_places => k_is)
    (case a_board => k_is); (case l_board => k_is); (case c_board => k_is); (case k_board => k_is)
    (case a_ends_at_lower => k_is); (case l_ends_at_lower => k_is); (case c_ends_at_lower => k_is); (case k_ends_at_lower => k_is)
    (case a__law_under => k_is); (case l__law_under => k_is); (case c__law_under => k_is); (case k__law_under => k_is)
    (case a__law_board_right => k_is); (case l__law_board_right => k_is); (case c__law_board_right => k_is); (case k__law_board_right => k_is)
    (case a__law_boards_right => k_is); (case l__law_boards_right => k_is); (case c__law_boards_right => k_is); (case k__law_boards_right => k_is)
    (case aC_Crossed => k_is); (case pg_Crossed => k_is); (case hd_Crossed => k_is); (case po_Crossed => k_is)
    (case sa_Crossed => k_is); (case ha_Crossed => k_is); (case hn_Crossed => k_is); (case htk_Crossed => k_is)
    (case hm_Crossed => k_is); (case na_Crossed_first => k_is); (case na_Crossed_second => k_is); (case mk_Crossed => k_is)
    (case kc_Crossed => k_is); (case aC_Row => k_is); (case pg_Row => k_is); (case hd_Row => k_is)
    (case po_Row => k_is); (case sa_Row => k_is); (case ha_Row => k_is); (case hn_Row => k_is)
    (case htk_Row => k_is); (case hm_Row => k_is); (case na_Row_bars => k_is); (case mk_Row => k_is)
    (case kc_Row => k_is); (case aC_Board => k_is); (case pg_Board => k_is); (case hd_Board => k_is)
    (case po_Board => k_is); (case sa_Board => k_is); (case ha_Board => k_is); (case hn_Board => k_is)
    (case htk_Board => k_is); (case hm_Board => k_is); (case na_Board_first => k_is); (case na_Board_many => k_is)
    (case na_Board_high => k_is); (case na_Board_around => k_is); (case mk_Board => k_is); (case kc_Board => k_is)
    (case a_Crossed___init__ => k_is); (case i_Crossed___init__ => k_is); (case l_Crossed___init__ => k_is); (case c_Crossed___init__ => k_is)
    (case k_Crossed___init__ => k_is); (case a_Crossed_shows => k_is); (case i_Crossed_shows => k_is); (case l_Crossed_shows => k_is)
    (case c_Crossed_shows => k_is); (case k_Crossed_shows => k_is); (case a_Row_shows => k_is); (case i_Row_shows => k_is)
    (case l_Row_shows => k_is); (case c_Row_shows => k_is); (case k_Row_shows => k_is); (case a_Row___init__ => k_is)
    (case i_Row___init__ => k_is); (case l_Row___init__ => k_is); (case c_Row___init__ => k_is); (case k_Row___init__ => k_is)
    (case a_Board___init__ => k_is); (case i_Board___init__ => k_is); (case l_Board___init__ => k_is); (case c_Board___init__ => k_is)
    (case k_Board___init__ => k_is); (case a_Board_lies_under => k_is); (case i_Board_lies_under => k_is); (case l_Board_lies_under => k_is)
    (case c_Board_lies_under => k_is); (case k_Board_lies_under => k_is); (case a_Board_none_is_greater => k_is); (case i_Board_none_is_greater => k_is)
    (case l_Board_none_is_greater => k_is); (case c_Board_none_is_greater => k_is); (case k_Board_none_is_greater => k_is); (case a_Board_shows => k_is)
    (case i_Board_shows => k_is); (case l_Board_shows => k_is); (case c_Board_shows => k_is); (case k_Board_shows => k_is)
    (case aL => k_is); (case lL => k_is); (case cL => k_is); (case kL => k_is)
    (case hh => k_is); (case z1 => k_is); (case z2 => k_is); (case z3 => k_is)
    (case z4 => k_is); (case z5 => k_is); (case z6 => k_is); (case z7 => k_is)
    (case z8 => k_is); (case z9 => k_is); (case z10 => k_is); (case z11 => k_is)
    (case z12 => k_is); (case z13 => k_is); (case z14 => k_is); (case z15 => k_is)
    (case z16 => k_is)
