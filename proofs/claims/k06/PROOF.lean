import PyProof.Rows.All
import Wide.All
import OpenK.AllK
import Wide.FinOn
import Lean
import PyProof.EqAt
import PyProof.EqKinds
import PyProof.TupleCall
import PyProof.FactsAll.range
import PyProof.ListNew
import PyProof.ZipIter
import PyProof.Rows.EqDataRows
import PyProof.Rows.CallKwBuiltin
import PySem.Challenge.RW_skybars_k06_whole_tree
set_option Elab.async false
set_option linter.all false
set_option maxRecDepth 100000
-- CHANGE: your row's module here, as the last of these rows
/-! THE HAND LAYER, for ints, bools, texts, own classes, LISTS and tuples (index, slices, in, append, pop ..), calls, loops. Paste it whole ahead of your own text; what your proof does not reach may be deleted. -/
namespace L2
open PySem PySem.Spec PyProof.Rows

/-- a key: an int or a str -/
abbrev Key := Sum Int Str
def keyIs : Key → Value → Bool
  | .inl k, v => Value.isInt k v
  | .inr x, v => Value.isStrOf x v
def keyH (w : World) : Key → Int
  | .inl k => hashInt k
  | .inr x => hashStr w x
theorem keyIs_shape : ∀ {k : Key} {v : Value}, keyIs k v = true → (∃ i t, k = Sum.inl i ∧ v = Value.int i t) ∨ (∃ x t, k = Sum.inr x ∧ v = Value.str x t)
  | .inl i, v, h => by
    obtain ⟨t, e⟩ := Value.isInt_shape (k := i) (v := v) h
    exact .inl ⟨i, t, rfl, e⟩
  | .inr x, v, h => by
    obtain ⟨t, e⟩ := Value.isStrOf_shape (x := x) (v := v) h
    exact .inr ⟨x, t, rfl, e⟩
theorem keyIs_int (i : Int) (t : Tok) : keyIs (.inl i) (.int i t) = true := by simp [keyIs, Value.isInt]
theorem keyIs_str (x : Str) (t : Tok) : keyIs (.inr x) (.str x t) = true := by simp [keyIs, Value.isStrOf]
theorem key_ll (a b : Int) : decide ((Sum.inl a : Key) = Sum.inl b) = (a == b) := by
  by_cases e : a = b
  · subst e; simp
  · have h : ¬ (Sum.inl a : Key) = Sum.inl b := fun q => e (Sum.inl.inj q)
    rw [decide_eq_false h]
    exact (beq_eq_false_iff_ne.mpr e).symm
theorem key_rr (a b : Str) : decide ((Sum.inr a : Key) = Sum.inr b) = decide (a = b) := by
  by_cases e : a = b
  · subst e; simp
  · have h : ¬ (Sum.inr a : Key) = Sum.inr b := fun q => e (Sum.inr.inj q)
    rw [decide_eq_false h, decide_eq_false e]
theorem key_lr (a : Int) (b : Str) : decide ((Sum.inl a : Key) = Sum.inr b) = false := decide_eq_false (fun q => nomatch q)
theorem key_rl (a : Str) (b : Int) : decide ((Sum.inr a : Key) = Sum.inl b) = false := decide_eq_false (fun q => nomatch q)

def mixKind (prog : Program) (w : World) : PySem.KeyKind prog w Key where
  is := keyIs
  hash := keyH w
  inj := fun v a b ha hb => by
    rcases keyIs_shape ha with ⟨i, t, rfl, rfl⟩ | ⟨x, t, rfl, rfl⟩
    · rcases keyIs_shape hb with ⟨j, u, rfl, e⟩ | ⟨y, u, rfl, e⟩
      · injection e with e1 _; rw [e1]
      · exact nomatch e
    · rcases keyIs_shape hb with ⟨j, u, rfl, e⟩ | ⟨y, u, rfl, e⟩
      · exact nomatch e
      · injection e with e1 _; rw [e1]
  byValue := fun k v h => by
    rcases keyIs_shape h with ⟨i, t, rfl, rfl⟩ | ⟨x, t, rfl, rfl⟩ <;> rfl
  pyHash := fun hv h => by
    rcases keyIs_shape hv with ⟨i, t, rfl, rfl⟩ | ⟨x, t, rfl, rfl⟩
    · exact wpAny_pyHash_int h
    · exact wpAny_pyHash_str h
  eqBool := fun hu hv h => by
    rcases keyIs_shape hu with ⟨i, t, rfl, rfl⟩ | ⟨x, t, rfl, rfl⟩
    · rcases keyIs_shape hv with ⟨j, u, rfl, rfl⟩ | ⟨y, u, rfl, rfl⟩
      · rw [key_ll] at h; exact wpAny_eqBool_int h
      · rw [key_lr] at h; exact SeqAt.EqAt.int_str i t y u _ _ _ _ h
    · rcases keyIs_shape hv with ⟨j, u, rfl, rfl⟩ | ⟨y, u, rfl, rfl⟩
      · rw [key_rl] at h; exact SeqAt.EqAt.str_int x t j u _ _ _ _ h
      · rw [key_rr] at h; exact wpAny_eqBool_str h
  «strs» := fun k x t v h => by
    rcases keyIs_shape h with ⟨i, u, rfl, e⟩ | ⟨y, u, rfl, e⟩
    · exact nomatch e
    · injection e with e1 _
      subst e1
      cases v <;> rfl

theorem mixKind_is (prog : Program) (w : World) (k : Key) (v : Value) : (mixKind prog w).is k v = keyIs k v := rfl
theorem mixKind_int (prog : Program) (w : World) (i : Int) (t : Tok) : (mixKind prog w).is (.inl i) (.int i t) = true := keyIs_int i t
theorem mixKind_str (prog : Program) (w : World) (x : Str) (t : Tok) : (mixKind prog w).is (.inr x) (.str x t) = true := keyIs_str x t
end L2

namespace L2
open PySem PySem.Spec PyProof.Rows

/-- a value, without the heap -/
inductive V where
  | non | bl (b : Bool) | int (i : Int) | str (x : Str) | byt (b : Array UInt8) | flt (b : UInt64) | ref (a : Addr) | ty (n : String)
  deriving DecidableEq

def RelV : V → Value → Prop
  | .non, u => u = Value.none
  | .bl b, u => u = Value.bool b
  | .int i, u => ∃ t, u = Value.int i t
  | .str x, u => ∃ t, u = Value.str x t
  | .byt b, u => ∃ t, u = Value.bytes b t
  | .flt b, u => ∃ t, u = Value.float b t
  | .ref a, u => u = Value.ref a
  | .ty n, u => u = Value.type n

abbrev Vals : List V → List Value → Prop := Paired RelV
theorem Vals.length {xs : List V} {us : List Value} (r : Vals xs us) : xs.length = us.length := Paired.length r
theorem Vals.get : ∀ {xs : List V} {us : List Value} {i : Nat} {x : V}, Vals xs us → xs[i]? = some x → ∃ u, us[i]? = some u ∧ RelV x u
  | _, _, _, _, .nil, e => by simp at e
  | _, _, 0, _, .cons r _, e => by simp at e; subst e; exact ⟨_, rfl, r⟩
  | _, _, i + 1, x, .cons _ t, e => by
    obtain ⟨u, h1, h2⟩ := Vals.get (i := i) (x := x) t (by simpa using e)
    exact ⟨u, by simpa using h1, h2⟩
theorem Vals.set {x : V} {u : Value} (r : RelV x u) : ∀ {xs : List V} {us : List Value} (i : Nat), Vals xs us → Vals (xs.set i x) (us.set i u)
  | _, _, _, .nil => .nil
  | _, _, 0, .cons _ t => .cons r t
  | _, _, i + 1, .cons q t => .cons q (Vals.set r i t)
theorem Vals.append : ∀ {xs ys : List V} {us ws : List Value}, Vals xs us → Vals ys ws → Vals (xs ++ ys) (us ++ ws)
  | _, _, _, _, .nil, s => s
  | _, _, _, _, .cons r t, s => .cons r (Vals.append t s)
theorem Vals.take : ∀ {xs : List V} {us : List Value} (n : Nat), Vals xs us → Vals (xs.take n) (us.take n)
  | _, _, 0, _ => .nil
  | _, _, _ + 1, .nil => .nil
  | _, _, n + 1, .cons r t => .cons r (Vals.take n t)
theorem Vals.drop : ∀ {xs : List V} {us : List Value} (n : Nat), Vals xs us → Vals (xs.drop n) (us.drop n)
  | _, _, 0, r => r
  | _, _, _ + 1, .nil => .nil
  | _, _, n + 1, .cons _ t => Vals.drop n t
theorem Vals.none_of : ∀ {xs : List V} {us : List Value} {i : Nat}, Vals xs us → xs[i]? = none → us[i]? = none := fun {xs us i} r e => by
  have h1 := r.length
  have h2 : xs.length ≤ i := List.getElem?_eq_none_iff.mp e
  exact List.getElem?_eq_none_iff.mpr (by omega)

def RelO : Option V → Option Value → Prop
  | some v, some u => RelV v u
  | none, none => True
  | _, _ => False
def KV {κ : Type} : List (κ × V) → List (κ × Value) → Prop := Paired fun (p : κ × V) (q : κ × Value) => p.1 = q.1 ∧ RelV p.2 q.2

/-- a key of a dict (00_mix): an int or a text -/
def kV : Key → V
  | .inl i => .int i
  | .inr x => .str x

/-- what stands at a tracked address -/
inductive HO where
  /-- a list -/
  | lst (xs : List V)
  /-- a tuple (never changes) -/
  | tup (xs : List V)
  /-- a dict whose keys are ints and texts; one whose keys are tuples of ints and texts (the empty one is both) -/
  | dK (kvs : List (Key × V)) | dT (kvs : List (List Key × V))
  /-- a set of ints: its members, its size -/
  | set (S : Int → Bool) (n : Nat)
  /-- an instance of the class at C, its dict at dx, its attributes -/
  | ins (C dx : Addr) (fs : List (Str × V))
  /-- the dict of the instance at x -/
  | own (x : Addr)
  /-- the dict of an exception -/
  | xd (fs : List (Str × V))
  /-- a bound method, f of x -/
  | met (f x : Addr)
  /-- a range object lo, lo + 1, .. below hi -/
  | rng (lo hi : Int)
  /-- a thing that is known to the object (the script; a dict while a loop walks it): read, never written while it is so -/
  | frz (o : Obj) (u : HO)
  /-- a code object's table -/
  | tbl (ps : Array Value)
  /-- any other thing, by what is true of its one object (a def of one's own: SetO a S n := HO.ext fun h => ..) -/
  | ext (φ : Heap → Prop)

abbrev Hp := Addr → Option HO
def upd (H : Hp) (a : Addr) (o : HO) : Hp := fun b => if b = a then some o else H b
theorem upd_same {H : Hp} {a : Addr} {o : HO} : upd H a o a = some o := by unfold upd; rw [if_pos rfl]
theorem upd_ne {H : Hp} {a b : Addr} {o : HO} (h : b ≠ a) : upd H a o b = H b := by unfold upd; rw [if_neg h]
theorem upd_upd {H : Hp} {a : Addr} {o u : HO} : upd (upd H a o) a u = upd H a u := by
  funext b; unfold upd; split <;> rfl
/-- two objects of different content stand apart -/
theorem ne_of {H : Hp} {a b : Addr} {o u : HO} (h : H a = some o) (h' : H b = some u) (d : o ≠ u) : a ≠ b := by
  intro e; subst e; rw [h] at h'; exact d (Option.some.inj h')
theorem ne_of_none {H : Hp} {a b : Addr} {o : HO} (h : H a = some o) (h' : H b = none) : a ≠ b := by
  intro e; subst e; rw [h] at h'; cases h'

section
variable (P : Program) (w : World)
def ObjOk (H : Hp) (h : Heap) (a : Addr) : HO → Prop
  | .lst xs => xs.length ≤ sizeLine ∧ ∃ (its : List Value) (n : Nat), Vals xs its ∧ h.get? a = some { cls := .type "list", data := .seq its.toArray n }
  | .tup xs => xs.length ≤ sizeLine ∧ ∃ its : List Value, Vals xs its ∧ IsTup h a its.toArray
  | .dK kvs => kvs.length ≤ sizeLine ∧ (a == sysModules) = false ∧ ∃ vs, KV kvs vs ∧ h.DictOf (mixKind P w) a vs
  | .dT kvs => kvs.length ≤ sizeLine ∧ (a == sysModules) = false ∧ ∃ xs : List (List Key × Addr × Value),
      Paired (fun (p : List Key × V) (q : List Key × Addr × Value) => p.1 = q.1 ∧ H q.2.1 = some (.tup (p.1.map kV)) ∧ RelV p.2 q.2.2) kvs xs ∧
      ∃ o es ep, h.get? a = some o ∧ o.ExactDict ∧ o.data = .dict es ep ∧ es.toList = xs.map (entryOfKey (tupleKind (mixKind P w))) ∧ (xs.map (·.1)).Nodup
  | .set S n => h.SetOf (intKind P w) a S n
  | .ins C dx fs => H dx = some (.own a) ∧ fs.length ≤ 1000 ∧ dx ≠ a ∧ h.get? a = some (PySem.W.instObj C dx) ∧
      ∃ mA, h.Ns1 dx mA ∧ (∀ f, RelO (fs.lookup f) (mA f)) ∧ PySem.Within mA (fs.map (·.1))
  | .own _ => ∃ o, h.get? a = some o
  | .xd fs => ∃ mA, h.Ns1 a mA ∧ ∀ f, RelO (fs.lookup f) (mA f)
  | .rng lo hi => ∃ t u v, h.get? a = some { cls := .type "range", data := .fields #[.int lo t, .int hi u, .int 1 v] }
  | .frz o u => h.get? a = some o ∧ ObjOk H h a u
  | .tbl ps => h.get? a = some { cls := .none, data := .fields ps }
  | .met f x => h.get? a = some (PySem.W.methodObj (.ref f) (.ref x))
  | .ext φ => φ h ∧ (∃ o, h.get? a = some o) ∧ ∀ h1 h2 : Heap, φ h1 → (∀ o, h1.get? a = some o → h2.get? a = some o) → φ h2
/-- the abstract heap is held -/
def HOk (H : Hp) (h : Heap) : Prop := ∀ a o, H a = some o → ObjOk P w H h a o
end

section
variable {P : Program} {w : World} {H H' : Hp} {h h' : Heap} {a : Addr} {o : HO}
theorem ObjOk.lt (x : ObjOk P w H h a o) : a < h.objs.size := by
  cases o with
  | lst xs => obtain ⟨_, _, _, _, e⟩ := x; exact Heap.lt_size e
  | tup xs => obtain ⟨_, _, _, p⟩ := x; exact p.lt
  | dK kvs => obtain ⟨_, _, _, _, o, _, _, e, _⟩ := x; exact Heap.lt_size e
  | dT kvs => obtain ⟨_, _, _, _, o, _, _, e, _⟩ := x; exact Heap.lt_size e
  | set S n => obtain ⟨o, _, _, _, e, _⟩ := x; exact Heap.lt_size e
  | ins C dx fs => obtain ⟨_, _, _, e, _⟩ := x; exact Heap.lt_size e
  | own y => obtain ⟨_, e⟩ := x; exact Heap.lt_size e
  | xd fs => obtain ⟨_, ⟨_, _, _, e, _⟩, _⟩ := x; exact Heap.lt_size e
  | rng lo hi => obtain ⟨_, _, _, e⟩ := x; exact Heap.lt_size e
  | frz ob u => obtain ⟨e, _⟩ := x; exact Heap.lt_size e
  | tbl ps => exact Heap.lt_size (show h.get? a = some _ from x)
  | met f y => exact Heap.lt_size (show h.get? a = some _ from x)
  | ext φ => obtain ⟨_, ⟨_, e⟩, _⟩ := x; exact Heap.lt_size e
theorem Paired.mapP {α β : Type} {F G : α → β → Prop} : ∀ {l₁ : List α} {l₂ : List β}, Paired F l₁ l₂ → (∀ a b, F a b → G a b) → Paired G l₁ l₂
  | _, _, .nil, _ => .nil
  | _, _, .cons r t, f => .cons (f _ _ r) (Paired.mapP t f)
theorem Paired.imp' {α β : Type} {F G : α → β → Prop} (f : ∀ a b, F a b → G a b) {l₁ : List α} {l₂ : List β} (r : Paired F l₁ l₂) : Paired G l₁ l₂ := Paired.mapP r f
/-- what an object's description leans on: its own object, its own dict, the tuples -/
theorem ObjOk.stay (x : ObjOk P w H h a o) (k : ∀ b u, (b = a ∨ H b = some (.own a)) → h.get? b = some u → h'.get? b = some u)
    (ho : ∀ b, H b = some (.own a) → H' b = some (.own a)) (ht : ∀ b xs, H b = some (.tup xs) → H' b = some (.tup xs)) : ObjOk P w H' h' a o := by
  induction o with
  | lst xs => obtain ⟨z, its, n, r, e⟩ := x; exact ⟨z, its, n, r, k _ _ (.inl rfl) e⟩
  | tup xs => obtain ⟨z, its, r, ob, e, c⟩ := x; exact ⟨z, its, r, ob, k _ _ (.inl rfl) e, c⟩
  | dK kvs => obtain ⟨z, y, vs, r, ob, es, ep, e, c⟩ := x; exact ⟨z, y, vs, r, ob, es, ep, k _ _ (.inl rfl) e, c⟩
  | dT kvs =>
    obtain ⟨z, y, xs, r, ob, es, ep, e, c⟩ := x
    exact ⟨z, y, xs, Paired.mapP r fun p q z => ⟨z.1, ht _ _ z.2.1, z.2.2⟩, ob, es, ep, k _ _ (.inl rfl) e, c⟩
  | set S n => obtain ⟨ob, es, ep, t, e, c⟩ := x; exact ⟨ob, es, ep, t, k _ _ (.inl rfl) e, c⟩
  | ins C dx fs =>
    obtain ⟨d, z, ne, e, mA, ⟨od, es, ep, e2, c⟩, r⟩ := x
    exact ⟨ho _ d, z, ne, k _ _ (.inl rfl) e, mA, ⟨od, es, ep, k _ _ (.inr d) e2, c⟩, r⟩
  | own y => obtain ⟨ob, e⟩ := x; exact ⟨ob, k _ _ (.inl rfl) e⟩
  | xd fs => obtain ⟨mA, ⟨od, es, ep, e, c⟩, r⟩ := x; exact ⟨mA, ⟨od, es, ep, k _ _ (.inl rfl) e, c⟩, r⟩
  | rng lo hi => obtain ⟨t, u, v, e⟩ := x; exact ⟨t, u, v, k _ _ (.inl rfl) e⟩
  | frz ob u ih => obtain ⟨e, q⟩ := x; exact ⟨k _ _ (.inl rfl) e, ih q⟩
  | tbl ps =>
    have e : h.get? a = some { cls := .none, data := .fields ps } := x
    show h'.get? a = some { cls := .none, data := .fields ps }
    exact k a _ (.inl rfl) e
  | met f y =>
    have e : h.get? a = some (PySem.W.methodObj (.ref f) (.ref y)) := x
    show h'.get? a = some (PySem.W.methodObj (.ref f) (.ref y))
    exact k a _ (.inl rfl) e
  | ext φ => obtain ⟨p, ⟨o, e⟩, st⟩ := x; exact ⟨st _ _ p fun o q => k _ _ (.inl rfl) q, ⟨o, k _ _ (.inl rfl) e⟩, st⟩
theorem HOk.lt (x : HOk P w H h) (e : H a = some o) : a < h.objs.size := (x a o e).lt
theorem HOk.fresh (x : HOk P w H h) (e : h.objs.size ≤ a) : H a = none := by
  cases q : H a with
  | none => rfl
  | some u => exact absurd (Nat.lt_of_lt_of_le (x.lt q) e) (Nat.lt_irrefl _)
/-- every object of the heap is kept -/
theorem HOk.kept (x : HOk P w H h) (k : ∀ b u, h.get? b = some u → h'.get? b = some u) : HOk P w H h' := fun a o e =>
  (x a o e).stay (fun b u _ q => k b u q) (fun _ q => q) fun _ _ q => q
/-- a new object is laid and tracked -/
theorem HOk.laid (x : HOk P w H h) (k : ∀ b u, h.get? b = some u → h'.get? b = some u) (hp : h.objs.size ≤ a) (new : ObjOk P w (upd H a o) h' a o) : HOk P w (upd H a o) h' := fun b u e => by
  have hn := x.fresh hp
  by_cases hb : b = a
  · subst hb; rw [upd_same] at e; cases e; exact new
  · rw [upd_ne hb] at e
    exact (x b u e).stay (fun c v _ q => k c v q) (fun c q => by rw [upd_ne (ne_of_none q hn)]; exact q) fun c xs q => by rw [upd_ne (ne_of_none q hn)]; exact q
end

/-- what may be read as u: it is u, or a known u -/
def Rd (H : Hp) (a : Addr) (u : HO) : Prop := H a = some u ∨ ∃ o, H a = some (.frz o u)
theorem Rd.of {H : Hp} {a : Addr} {u : HO} (h : H a = some u) : Rd H a u := .inl h
theorem Rd.ok {P : Program} {w : World} {H : Hp} {h : Heap} {a : Addr} {u : HO} (r : Rd H a u) (x : HOk P w H h) : ObjOk P w H h a u := by
  rcases r with r | ⟨o, r⟩
  · exact x a u r
  · obtain ⟨_, q⟩ := x a _ r
    exact q
/-- what may be written -/
def Mut : Option HO → Prop
  | some (.lst _) => True
  | some (.dK _) => True
  | some (.dT _) => True
  | some (.set _ _) => True
  | some (.ins _ _ _) => True
  | some (.ext _) => True
  | _ => False
section
variable {P : Program} {w : World} {H : Hp} {h h' : Heap} {x e : Addr} {o' : HO}
/-- the object at e is changed: x itself, or the dict of the instance x -/
theorem HOk.write (ok : HOk P w H h) (mu : Mut (H x)) (he : e = x ∨ H e = some (.own x)) (k : ∀ b u, b ≠ e → h.get? b = some u → h'.get? b = some u) (heo : ∃ u, h'.get? e = some u)
    (new : ObjOk P w (upd H x o') h' x o') : HOk P w (upd H x o') h' := fun b u q => by
  have nown : ∀ c y, H c = some (.own y) → c ≠ x := fun c y r z => by subst z; rw [r] at mu; exact mu
  have ntup : ∀ c xs, H c = some (.tup xs) → c ≠ x := fun c xs r z => by subst z; rw [r] at mu; exact mu
  by_cases hb : b = x
  · subst hb; rw [upd_same] at q; cases q; exact new
  · rw [upd_ne hb] at q
    by_cases hbe : b = e
    · have q' : H b = some (.own x) := by
        rcases he with z | z
        · exact absurd (hbe.trans z) hb
        · rw [hbe]; exact z
      rw [q] at q'; cases q'
      obtain ⟨v, hv⟩ := heo
      exact ⟨v, by rw [hbe]; exact hv⟩
    · refine (ok b u q).stay (fun c v hc r => k c v ?_ r) (fun c r => by rw [upd_ne (nown c b r)]; exact r) fun c xs r => by rw [upd_ne (ntup c xs r)]; exact r
      rcases hc with rfl | hc
      · exact hbe
      · rintro rfl
        rcases he with z | z
        · exact nown c b hc z
        · rw [hc] at z; cases z; exact hb rfl
end

/-! ### kept unless tracked; of the frames at fs (the callers') the slots may change (an exception that passes writes there); of the records at ex (iterators) nothing is said -/
structure Un (fs ex : List Addr) (H H' : Hp) (h h' : Heap) : Prop where
  keep : ∀ b o, h.get? b = some o → H b = none → b ∉ fs → b ∉ ex → h'.get? b = some o
  slot : ∀ b o, h.get? b = some o → H b = none → b ∈ fs → b ∉ ex → ∃ sl, h'.get? b = some { o with slots := sl }
  free : ∀ b o, h.get? b = some o → H b = none → b ∉ ex → H' b = none
  there : ∀ b o, h.get? b = some o → b ∉ ex → ∃ o', h'.get? b = some o'
  tups : ∀ b xs, H b = some (.tup xs) → H' b = some (.tup xs)
  frzs : ∀ b o u, H b = some (.frz o u) → H' b = some (.frz o u)
  tbls : ∀ b ps, H b = some (.tbl ps) → ∃ more, H' b = some (.tbl (ps ++ more))
section
variable {fs fs' ex ex' : List Addr} {H H1 H2 : Hp} {h h1 h2 h' : Heap} {a x e : Addr} {o : HO}
theorem Un.any (u : Un fs ex H H1 h h1) {b : Addr} {ob : Obj} (q : h.get? b = some ob) (n : H b = none) (hx : b ∉ ex) : ∃ sl, h1.get? b = some { ob with slots := sl } := by
  by_cases hb : b ∈ fs
  · exact u.slot b ob q n hb hx
  · exact ⟨ob.slots, u.keep b ob q n hb hx⟩
theorem Un.trans (a : Un fs ex H H1 h h1) (b : Un fs ex H1 H2 h1 h2) : Un fs ex H H2 h h2 where
  keep := fun c ob q n hc hx => b.keep c ob (a.keep c ob q n hc hx) (a.free c ob q n hx) hc hx
  slot := fun c ob q n hc hx => by
    obtain ⟨sl, e1⟩ := a.slot c ob q n hc hx
    obtain ⟨sl', e2⟩ := b.slot c _ e1 (a.free c ob q n hx) hc hx
    exact ⟨sl', e2⟩
  free := fun c ob q n hx => by
    obtain ⟨o', e1⟩ := a.there c ob q hx
    exact b.free c o' e1 (a.free c ob q n hx) hx
  there := fun c ob q hx => by
    obtain ⟨o', e1⟩ := a.there c ob q hx
    exact b.there c o' e1 hx
  tups := fun c xs q => b.tups c xs (a.tups c xs q)
  frzs := fun c ob xs q => b.frzs c ob xs (a.frzs c ob xs q)
  tbls := fun c ps q => by
    obtain ⟨m1, e1⟩ := a.tbls c ps q
    obtain ⟨m2, e2⟩ := b.tbls c _ e1
    exact ⟨m1 ++ m2, by rw [e2, Array.append_assoc]⟩
theorem Un.kept (k : ∀ b u, h.get? b = some u → h'.get? b = some u) : Un fs ex H H h h' :=
  ⟨fun b ob q _ _ _ => k b ob q, fun b ob q _ _ _ => ⟨ob.slots, k b ob q⟩, fun _ _ _ n _ => n, fun b ob q _ => ⟨ob, k b ob q⟩, fun _ _ q => q, fun _ _ _ q => q, fun _ ps q => ⟨#[], by rw [q]; simp⟩⟩
theorem Un.refl : Un fs ex H H h h := Un.kept fun _ _ q => q
theorem Un.laid (k : ∀ b u, h.get? b = some u → h'.get? b = some u) (hp : h.objs.size ≤ a) (hn : H a = none) : Un fs ex H (upd H a o) h h' where
  keep := fun b u q _ _ _ => k b u q
  slot := fun b u q _ _ _ => ⟨u.slots, k b u q⟩
  free := fun b u q n _ => by rw [upd_ne (Nat.ne_of_lt (Nat.lt_of_lt_of_le (Heap.lt_size q) hp))]; exact n
  there := fun b u q _ => ⟨u, k b u q⟩
  tups := fun b xs q => by rw [upd_ne (ne_of_none q hn)]; exact q
  frzs := fun b u xs q => by rw [upd_ne (ne_of_none q hn)]; exact q
  tbls := fun b ps q => ⟨#[], by rw [upd_ne (ne_of_none q hn), q]; simp⟩
theorem Un.write (mu : Mut (H x)) (he : e = x ∨ H e = some (.own x)) (k : ∀ b u, b ≠ e → h.get? b = some u → h'.get? b = some u) (heo : ∃ u, h'.get? e = some u) : Un fs ex H (upd H x o) h h' := by
  have hx : ∀ b, H b = none → b ≠ x := fun b n z => by subst z; rw [n] at mu; exact mu
  have hb : ∀ b, H b = none → b ≠ e := fun b n z => by
    subst z
    rcases he with r | r
    · exact hx b n r
    · rw [n] at r; cases r
  have hm : ∀ b u, H b = some u → ¬ Mut (some u) → b ≠ x := fun b u q nm z => by subst z; rw [q] at mu; exact nm mu
  refine ⟨fun b u q n _ _ => k b u (hb b n) q, fun b u q n _ _ => ⟨u.slots, k b u (hb b n) q⟩, fun b u q n _ => by rw [upd_ne (hx b n)]; exact n, fun b u q _ => ?_,
    fun b xs q => by rw [upd_ne (hm b _ q fun z => z)]; exact q, fun b u xs q => by rw [upd_ne (hm b _ q fun z => z)]; exact q, fun b ps q => ⟨#[], by rw [upd_ne (hm b _ q fun z => z), q]; simp⟩⟩
  by_cases hbe : b = e
  · subst hbe; exact heo
  · exact ⟨u, k b u hbe q⟩
theorem Un.mono (u : Un fs ex H H1 h h1) (hs : ∀ b ∈ fs, b ∈ fs') (hx : ∀ b ∈ ex, b ∈ ex') : Un fs' ex' H H1 h h1 :=
  ⟨fun b ob q n hb he => u.keep b ob q n (fun z => hb (hs b z)) fun z => he (hx b z), fun _ _ q n _ he => u.any q n fun z => he (hx _ z), fun b ob q n he => u.free b ob q n fun z => he (hx b z), fun b ob q he => u.there b ob q fun z => he (hx b z), u.tups, u.frzs, u.tbls⟩
end

/-! ### the heap without what is tracked -/
def trk (h : Heap) (H : Hp) : List Addr := (List.range h.objs.size).filter fun a => (H a).isSome
def hidT (h : Heap) (H : Hp) : Heap := PySem.W.hideAll h (trk h H)
theorem hidT_size (h : Heap) (H : Hp) : (hidT h H).objs.size = h.objs.size := PySem.W.hideAll_size _ _
theorem hidT_get {h : Heap} {H : Hp} {b : Addr} {o : Obj} (e : h.get? b = some o) (n : H b = none) : (hidT h H).get? b = some o :=
  PySem.W.hideAll_get _ e fun hm => by
    have q : (H b).isSome = true := (List.mem_filter.mp hm).2
    rw [n] at q; simp at q
theorem of_hidT {h : Heap} {H : Hp} {b : Addr} {o : Obj} (e : (hidT h H).get? b = some o) : h.get? b = some o ∧ H b = none := by
  have e' : h.get? b = some o := PySem.W.of_hideAll (trk h H) e
  refine ⟨e', ?_⟩
  cases q : H b with
  | none => rfl
  | some x =>
    have hm : b ∈ trk h H := List.mem_filter.mpr ⟨List.mem_range.mpr (Heap.lt_size e'), by simp [q]⟩
    have z : (hidT h H).get? b = none := PySem.W.hideAll_none (trk h H) hm
    rw [z] at e; cases e

/-! ### OpenK's ledger, filled with every new object but one -/
def allNews (g h : Heap) (L : Addr) : List (Addr × Obj) := (List.range h.objs.size).filterMap fun a => if a = L ∨ (g.get? a).isSome = true then none else (h.get? a).map fun o => (a, o)
theorem mem_allNews {g h : Heap} {L a : Addr} {o : Obj} (h1 : a ≠ L) (h2 : g.get? a = none) (h3 : h.get? a = some o) : (a, o) ∈ allNews g h L :=
  List.mem_filterMap.mpr ⟨a, List.mem_range.mpr (Heap.lt_size h3), by simp [h1, h2, h3]⟩
theorem of_mem_allNews {g h : Heap} {L : Addr} {p : Addr × Obj} (hp : p ∈ allNews g h L) : p.1 ≠ L ∧ g.get? p.1 = none ∧ h.get? p.1 = some p.2 := by
  obtain ⟨b, _, e⟩ := List.mem_filterMap.mp hp
  split at e
  · cases e
  · rename_i hn
    cases q : h.get? b with
    | none => rw [q] at e; simp at e
    | some u =>
      rw [q] at e
      simp only [Option.map_some, Option.some.injEq] at e
      subst e
      refine ⟨fun z => hn (.inl z), ?_, q⟩
      show g.get? b = none
      cases r : g.get? b with
      | none => rfl
      | some v => exact (hn (.inr (by simp [r]))).elim
def rest (g h : Heap) (L d : Addr) : List (Addr × Obj) := (allNews g h L).filter fun p => decide (p.1 ≠ d)
theorem rest_ne {g h : Heap} {L d : Addr} : ∀ p ∈ rest g h L d, p.1 ≠ d := fun p hp => of_decide_eq_true (List.mem_filter.mp hp).2
theorem mem_rest {g h : Heap} {L d a : Addr} {o : Obj} (h1 : a ≠ L) (h2 : g.get? a = none) (h3 : h.get? a = some o) (h4 : a ≠ d) : (a, o) ∈ rest g h L d :=
  List.mem_filter.mpr ⟨mem_allNews h1 h2 h3, decide_eq_true h4⟩
theorem news_all {g h : Heap} {L : Addr} : News g L h (allNews g h L) := fun p hp => let ⟨a, b, c⟩ := of_mem_allNews hp; ⟨c, a, b⟩
theorem news_at {g h : Heap} {L d : Addr} {o : Obj} (h1 : d ≠ L) (h2 : g.get? d = none) (h3 : h.get? d = some o) : News g L h ((d, o) :: rest g h L d) := fun p hp => by
  rcases List.mem_cons.mp hp with rfl | hp
  · exact ⟨h3, h1, h2⟩
  · exact news_all p (List.mem_filter.mp hp).1
/-- behind a rule that changed d alone: all else but the frame is kept -/
theorem kept_of_news {g h h' : Heap} {L d : Addr} {m : Str → Option Value} (k : ∀ b o, g.get? b = some o → h.get? b = some o) (F : Fr g L h' m) (N : News g L h' (rest g h L d)) :
    ∀ b o, b ≠ L → b ≠ d → h.get? b = some o → h'.get? b = some o := fun b o h1 h2 e => by
  cases q : g.get? b with
  | some u =>
    have := k b u q
    rw [e] at this; cases this
    exact F.keep b _ q
  | none => exact (N (b, o) (mem_rest h1 q e h2)).1
end L2

namespace L2
open PySem PySem.Spec PyProof.Rows

/-- the module's facts, over the base: the heap at the law's entry without what is tracked there -/
structure Mod (K : PySem.W.Frag) (mg : Str → Option Value) (base : Heap) : Prop where
  kin : K.In base
  glob : base.Ns mainGlobals mg
  blt : ∃ mb, base.Ns builtinsNs mb ∧ ∀ x : Str, x ≠ "__name__" → mb x = bootBuiltins x
  nolimit : base.NoLimit

/-- the context: a def's body (or a comprehension's block) running. base: fixed through the whole law; s₀, H₀: the entry; outer: the frames whose slots others may change (a def's callers); stack: all frames that run;
   ex: iterators that were made ahead of the entry and are walked here (a comprehension's); fn: the names whose cells were made at the entry (a def: all; a comprehension's block: its own); calm: not within an except suite; pn: pins that every state bears; xe: what is wanted of an exception that leaves the code -/
structure Cx where
  prog : Program
  w : World
  K : PySem.W.Frag
  mg : Str → Option Value
  base : Heap
  A : Around
  N : List Str
  s₀ : Shared
  H₀ : Hp
  env : Env
  outer : List Env
  stack : List Env
  ex : List Addr
  fn : Str → Bool
  calm : Bool
  pn : List (Addr × Obj)
  xe : Value → Shared → Prop
/-- the callers' frames -/
def frs (l : List Env) : List Addr := l.filterMap (·.frame)
abbrev Cx.fs (X : Cx) : List Addr := frs X.outer

def Vis (sc : Scope) (x : Str) : Prop := sc.names.lookup x = some .local ∨ sc.names.lookup x = some .cell ∨ sc.names.lookup x = some .free
def Loc (sc : Scope) (x : Str) : Prop := sc.names.lookup x = some .local ∨ sc.names.lookup x = some .cell
def Look (env : Env) (h : Heap) (m : Str → Option Value) (x : Str) (u : Value) : Prop :=
  (env.kindOf x = some .local ∧ m x = some u) ∨ ((env.kindOf x = some .cell ∨ env.kindOf x = some .free) ∧ ∃ c, env.cells.lookup x = some c ∧ h.IsCell c (some u))

structure Cx.Ok (X : Cx) : Prop where
  mod : Mod X.K X.mg X.base
  kind : X.env.scope.kind = .function
  glob : X.env.globals = mainGlobals
  blt : X.env.builtins = builtinsNs
  above : X.s₀.heap.objs.size ≤ X.env.locals
  inj : ∀ x y c, X.env.cells.lookup x = some c → X.env.cells.lookup y = some c → x = y
  has : ∀ x, (X.env.kindOf x = some .cell ∨ X.env.kindOf x = some .free) → ∃ c, X.env.cells.lookup x = some c
  cab : ∀ x c, X.fn x = true → X.env.cells.lookup x = some c → X.s₀.heap.objs.size ≤ c
  hd : X.calm = true → X.A.handled = none
  frames : X.A.frames = some X.stack
  stk : X.stack = X.outer ∨ (X.stack = X.env :: X.outer ∧ X.env.frame = some X.env.locals)
  exf : ∀ b ∈ X.ex, b ≠ X.env.locals ∧ ∀ x c, X.env.cells.lookup x = some c → c ≠ b
  bs : ∀ b o, X.base.get? b = some o → X.s₀.heap.get? b = some o ∧ X.H₀ b = none
  bsz : X.base.objs.size ≤ X.s₀.heap.objs.size
  noex : ∀ b o, X.base.get? b = some o → b ∉ X.ex
  exfs : ∀ b ∈ X.ex, b ∉ X.fs
  funs : X.s₀.heap.FunFrames X.base X.outer
  frf : ∀ b ∈ X.fs, X.H₀ b = none

structure Inv (X : Cx) (pins : List (Addr × Obj)) (σ : List (Option V)) (H : Hp) (s : Shared) : Prop where
  ok : X.Ok
  os : s.os = X.s₀.os
  bare : AllBare s.gens
  base : Un X.fs X.ex X.H₀ H X.s₀.heap s.heap
  loc : ∃ m, s.heap.Ns X.env.locals m ∧ ∀ (i : Nat) (x : Str) (v : V), X.N[i]? = some x → σ[i]? = some (some v) → Vis X.env.scope x → ∃ u, RelV v u ∧ Look X.env s.heap m x u
  cell : ∀ x c, X.env.cells.lookup x = some c → ∃ v, s.heap.IsCell c v
  free : H X.env.locals = none
  freeC : ∀ x c, X.env.cells.lookup x = some c → H c = none
  pin : ∀ p ∈ X.pn ++ pins, s.heap.get? p.1 = some p.2 ∧ H p.1 = none ∧ p.1 ≠ X.env.locals ∧ p.1 ∉ X.fs ∧ ∀ v, p.2.data ≠ .cell v
  hok : HOk X.prog X.w H s.heap
  len : σ.length = X.N.length

section
variable {X : Cx} {pins : List (Addr × Obj)} {σ : List (Option V)} {H H' : Hp} {s : Shared} {h' : Heap}

theorem Cx.Ok.nofr (ok : X.Ok) {b : Addr} {o : Obj} (e : X.base.get? b = some o) : b ∉ X.fs := fun hb => by
  have := (ok.funs.mem hb).1
  rw [e] at this; cases this
theorem Inv.bs (I : Inv X pins σ H s) : ∀ b o, X.base.get? b = some o → s.heap.get? b = some o ∧ H b = none := fun b o e =>
  ⟨I.base.keep b o (I.ok.bs b o e).1 (I.ok.bs b o e).2 (I.ok.nofr e) (I.ok.noex b o e), I.base.free b o (I.ok.bs b o e).1 (I.ok.bs b o e).2 (I.ok.noex b o e)⟩
theorem Inv.bk (I : Inv X pins σ H s) : ∀ b o, X.base.get? b = some o → s.heap.get? b = some o := fun b o e => (I.bs b o e).1
theorem Inv.mod (I : Inv X pins σ H s) : Mod X.K X.mg X.base := I.ok.mod
theorem Inv.kIn (I : Inv X pins σ H s) : X.K.In s.heap := I.ok.mod.kin.keeps I.bk
theorem Inv.nolimit (I : Inv X pins σ H s) : s.heap.NoLimit := I.ok.mod.nolimit.keeps I.bk
/-- the frame over the base: for OpenK's rules (K.In X.base is I.mod.kin) -/
theorem Inv.fr (I : Inv X pins σ H s) : ∃ m, Fr X.base X.env.locals s.heap m :=
  let ⟨m, hn, _⟩ := I.loc
  ⟨m, hn, I.bk, Nat.le_trans I.ok.bsz I.ok.above⟩
theorem Inv.lt (I : Inv X pins σ H s) : X.env.locals < s.heap.objs.size := let ⟨_, hn, _⟩ := I.loc; hn.lt
theorem Inv.sz (I : Inv X pins σ H s) : X.s₀.heap.objs.size ≤ s.heap.objs.size := Nat.le_trans I.ok.above (Nat.le_of_lt I.lt)
theorem Inv.nofs (I : Inv X pins σ H s) {a : Addr} (h : s.heap.objs.size ≤ a) : a ∉ X.fs := fun hb => by
  obtain ⟨_, o, ho, _⟩ := I.ok.funs.mem hb
  exact absurd (Nat.lt_of_lt_of_le (Heap.lt_size ho) (Nat.le_trans I.sz h)) (Nat.lt_irrefl _)
theorem Inv.cne (I : Inv X pins σ H s) : ∀ x c, X.env.cells.lookup x = some c → c ≠ X.env.locals := fun x c e z => by
  obtain ⟨v, o, ho, hd⟩ := I.cell x c e
  obtain ⟨m, ⟨o', es, ep, ho', hd', _⟩, _⟩ := I.loc
  rw [z, ho'] at ho; cases ho; rw [hd'] at hd; cases hd
theorem Inv.funs (I : Inv X pins σ H s) : s.heap.FunFrames X.base X.outer := by
  have all : ∀ (l : List Env), (∀ b ∈ frs l, b ∈ X.fs) → X.s₀.heap.FunFrames X.base l → s.heap.FunFrames X.base l := by
    intro l
    induction l with
    | nil => intro _ _; trivial
    | cons env r ih =>
      intro hs hl
      obtain ⟨hk, ⟨L, o, hf, hn, ho, hd⟩, hr⟩ := hl
      have hL : L ∈ X.fs := hs L (by unfold frs; rw [List.filterMap_cons, hf]; exact List.mem_cons_self)
      obtain ⟨sl, e⟩ := I.base.slot L o ho (I.ok.frf L hL) hL fun z => I.ok.exfs L z hL
      exact ⟨hk, ⟨L, _, hf, hn, e, hd⟩, ih (fun b hb => hs b (by unfold frs; rw [List.filterMap_cons, hf]; exact List.mem_cons_of_mem _ hb)) hr⟩
  exact all X.outer (fun _ hb => hb) I.ok.funs

/-- the frames that run, for a call -/
theorem Inv.stack (I : Inv X pins σ H s) : s.heap.FunFrames X.base X.stack := by
  rcases I.ok.stk with e | ⟨e, hf⟩
  · rw [e]; exact I.funs
  · rw [e]
    obtain ⟨m, hn, _⟩ := I.loc
    refine .cons (by rw [I.ok.kind]; decide) hf hn ?_ I.funs
    exact Heap.get?_none_of_le (Nat.le_trans I.ok.bsz I.ok.above)
theorem Inv.stkSub (I : Inv X pins σ H s) : ∀ b ∈ frs X.stack, b ∈ X.env.locals :: X.fs := fun b hb => by
  rcases I.ok.stk with e | ⟨e, hf⟩
  · rw [e] at hb; exact List.mem_cons_of_mem _ hb
  · rw [e] at hb
    unfold frs at hb
    rw [List.filterMap_cons, hf] at hb
    exact hb
theorem Inv.stkFree (I : Inv X pins σ H s) : ∀ b ∈ frs X.stack, H b = none := fun b hb => by
  rcases List.mem_cons.mp (I.stkSub b hb) with e | hb
  · rw [e]; exact I.free
  · obtain ⟨_, o, ho, _⟩ := I.ok.funs.mem hb
    exact I.base.free b o ho (I.ok.frf b hb) fun z => I.ok.exfs b z hb

/-- THE STEP: the untracked objects but the frame and the records at ch are kept (the callers' frames up to slots), the frame's map is kept, the new abstract heap is held -/
theorem Inv.step {g' : Array GenState} {t' : Nat} {d' : Drawn} {ch : List Addr} (I : Inv X pins σ H s)
    (hch : ∀ b ∈ ch, (b ∈ X.ex ∨ X.s₀.heap.objs.size ≤ b) ∧ b ≠ X.env.locals ∧ (∀ x c, X.env.cells.lookup x = some c → c ≠ b) ∧ ∀ p ∈ X.pn ++ pins, p.1 ≠ b)
    (keep : ∀ b o, b ≠ X.env.locals → b ∉ X.fs → b ∉ ch → s.heap.get? b = some o → H b = none → h'.get? b = some o)
    (slot : ∀ b o, b ≠ X.env.locals → b ∈ X.fs → b ∉ ch → s.heap.get? b = some o → H b = none → ∃ sl, h'.get? b = some { o with slots := sl }) (free : ∀ b o, b ∉ ch → s.heap.get? b = some o → H b = none → H' b = none)
    (there : ∀ b o, b ∉ ch → s.heap.get? b = some o → ∃ o', h'.get? b = some o')
    (tups : ∀ b xs, H b = some (.tup xs) → H' b = some (.tup xs)) (frzs : ∀ b o u, H b = some (.frz o u) → H' b = some (.frz o u)) (tbls : ∀ b ps, H b = some (.tbl ps) → ∃ more, H' b = some (.tbl (ps ++ more)))
    (ns : ∀ m, s.heap.Ns X.env.locals m → h'.Ns X.env.locals m) (hok : HOk X.prog X.w H' h') (hg : AllBare g') :
    Inv X pins σ H' { s with heap := h', gens := g', drawn := d', toks := t' } := by
  have neL : ∀ b o, X.s₀.heap.get? b = some o → b ≠ X.env.locals := fun b o e => Nat.ne_of_lt (Nat.lt_of_lt_of_le (Heap.lt_size e) I.ok.above)
  have neC : ∀ b o, X.s₀.heap.get? b = some o → b ∉ X.ex → b ∉ ch := fun b o e hx hb => by
    rcases (hch b hb).1 with z | z
    · exact hx z
    · exact absurd (Nat.lt_of_lt_of_le (Heap.lt_size e) z) (Nat.lt_irrefl _)
  have cellK : ∀ x c, X.env.cells.lookup x = some c → ∀ v, s.heap.IsCell c v → h'.IsCell c v := fun x c e v ⟨o, ho, hd⟩ => by
    have nch : c ∉ ch := fun z => (hch c z).2.2.1 x c e rfl
    by_cases hc : c ∈ X.fs
    · obtain ⟨sl, q⟩ := slot c o (I.cne x c e) hc nch ho (I.freeC x c e)
      exact ⟨_, q, hd⟩
    · exact ⟨o, keep c o (I.cne x c e) hc nch ho (I.freeC x c e), hd⟩
  refine ⟨I.ok, I.os, hg, ⟨fun b o e n hb hx => ?_, fun b o e n hb hx => ?_, fun b o e n hx => ?_, fun b o e hx => ?_, fun b xs e => tups b xs (I.base.tups b xs e), fun b o xs e => frzs b o xs (I.base.frzs b o xs e), fun b ps e => ?_⟩, ?_, fun x c e => ?_, ?_, fun x c e => ?_, fun p hp => ?_, hok, I.len⟩
  · exact keep b o (neL b o e) hb (neC b o e hx) (I.base.keep b o e n hb hx) (I.base.free b o e n hx)
  · obtain ⟨sl, e1⟩ := I.base.slot b o e n hb hx
    obtain ⟨sl', e2⟩ := slot b _ (neL b o e) hb (neC b o e hx) e1 (I.base.free b o e n hx)
    exact ⟨sl', e2⟩
  · obtain ⟨o', e1⟩ := I.base.there b o e hx
    exact free b o' (neC b o e hx) e1 (I.base.free b o e n hx)
  · obtain ⟨o', e1⟩ := I.base.there b o e hx
    exact there b o' (neC b o e hx) e1
  · obtain ⟨m1, e1⟩ := I.base.tbls b ps e
    obtain ⟨m2, e2⟩ := tbls b _ e1
    exact ⟨m1 ++ m2, by rw [e2, Array.append_assoc]⟩
  · obtain ⟨m, hn, hl⟩ := I.loc
    refine ⟨m, ns m hn, fun i x v e1 e2 e3 => ?_⟩
    obtain ⟨u, r, l⟩ := hl i x v e1 e2 e3
    refine ⟨u, r, ?_⟩
    rcases l with l | ⟨k, c, e, z⟩
    · exact .inl l
    · exact .inr ⟨k, c, e, cellK x c e _ z⟩
  · obtain ⟨v, z⟩ := I.cell x c e
    exact ⟨v, cellK x c e v z⟩
  · obtain ⟨m, ⟨o, _, _, ho, _⟩, _⟩ := I.loc
    exact free _ o (fun z => (hch _ z).2.1 rfl) ho I.free
  · obtain ⟨v, o, ho, hd⟩ := I.cell x c e
    exact free c o (fun z => (hch c z).2.2.1 x c e rfl) ho (I.freeC x c e)
  · obtain ⟨e, n, ne, nf, d⟩ := I.pin p hp
    have nch : p.1 ∉ ch := fun z => (hch p.1 z).2.2.2 p hp rfl
    exact ⟨keep p.1 p.2 ne nf nch e n, free p.1 p.2 nch e n, ne, nf, d⟩
/-- .. where the frame's own object is kept too -/
theorem Inv.un {t' : Nat} (I : Inv X pins σ H s) (u : Un X.fs [] H H' s.heap h') (hok : HOk X.prog X.w H' h') : Inv X pins σ H' { s with heap := h', toks := t' } := by
  obtain ⟨m, ⟨o, es, ep, ho, r⟩, _⟩ := id I.loc
  obtain ⟨sl, hL⟩ := u.any ho I.free (by simp)
  exact I.step (g' := s.gens) (d' := s.drawn) (ch := []) (fun _ z => nomatch z) (fun b o _ hb _ e n => u.keep b o e n hb (by simp)) (fun b o _ hb _ e n => u.slot b o e n hb (by simp)) (fun b o _ e n => u.free b o e n (by simp)) (fun b o _ e => u.there b o e (by simp)) u.tups u.frzs u.tbls (fun m' hm => by
    obtain ⟨o', es', ep', ho', r'⟩ := hm
    rw [ho] at ho'; cases ho'
    exact ⟨_, es', ep', hL, r'⟩) hok I.bare
/-- behind a call (or a comprehension's block): the slots of this frame may have changed too, the records at ch may have turned -/
theorem Inv.call {g' : Array GenState} {t' : Nat} {d' : Drawn} {ch : List Addr} (I : Inv X pins σ H s) (u : Un (frs X.stack) ch H H' s.heap h') (hok : HOk X.prog X.w H' h') (hg : AllBare g')
    (hch : ∀ b ∈ ch, (b ∈ X.ex ∨ X.s₀.heap.objs.size ≤ b) ∧ b ≠ X.env.locals ∧ (∀ x c, X.env.cells.lookup x = some c → c ≠ b) ∧ ∀ p ∈ X.pn ++ pins, p.1 ≠ b) :
    Inv X pins σ H' { s with heap := h', gens := g', drawn := d', toks := t' } := by
  obtain ⟨m, ⟨o, es, ep, ho, r⟩, _⟩ := id I.loc
  obtain ⟨sl, hL⟩ := u.any ho I.free fun z => (hch _ z).2.1 rfl
  exact I.step (ch := ch) hch (fun b o hL hb hc e n => u.keep b o e n (fun z => (List.mem_cons.mp (I.stkSub b z)).elim hL hb) hc) (fun b o _ _ hc e n => u.any e n hc) (fun b o hc e n => u.free b o e n hc) (fun b o hc e => u.there b o e hc) u.tups u.frzs u.tbls (fun m' hm => by
    obtain ⟨o', es', ep', ho', r'⟩ := hm
    rw [ho] at ho'; cases ho'
    exact ⟨_, es', ep', hL, r'⟩) hok hg
/-- an untracked record of ours (an iterator) has turned -/
theorem Inv.turned {t' : Nat} {it : Addr} (I : Inv X pins σ H s) (k : ∀ b o, b ≠ it → s.heap.get? b = some o → h'.get? b = some o) (hn : H it = none) (hL : it ≠ X.env.locals)
    (h1 : it ∈ X.ex ∨ X.s₀.heap.objs.size ≤ it) (h2 : ∀ x c, X.env.cells.lookup x = some c → c ≠ it) (h3 : ∀ p ∈ X.pn ++ pins, p.1 ≠ it) : Inv X pins σ H { s with heap := h', toks := t' } := by
  have nit : ∀ b u, H b = some u → b ≠ it := fun b u e z => by rw [z, hn] at e; cases e
  refine I.step (g' := s.gens) (d' := s.drawn) (ch := [it]) (fun b hb => ?_) (fun b o _ _ hc e _ => k b o (fun z => hc (by simp [z])) e) (fun b o _ _ hc e _ => ⟨o.slots, k b o (fun z => hc (by simp [z])) e⟩) (fun _ _ _ _ n => n)
    (fun b o hc e => ⟨o, k b o (fun z => hc (by simp [z])) e⟩) (fun _ _ e => e) (fun _ _ _ e => e) (fun b ps e => ⟨#[], by rw [e]; simp⟩) (fun m hm => ?_) (fun b u e => ?_) I.bare
  · have e : b = it := by simpa using hb
    subst e
    exact ⟨h1, hL, h2, h3⟩
  · obtain ⟨o, es, ep, ho, r⟩ := hm
    exact ⟨o, es, ep, k _ o (Ne.symm hL) ho, r⟩
  · refine (I.hok b u e).stay (fun c v hc q => k c v ?_ q) (fun _ q => q) fun _ _ q => q
    rcases hc with z | z
    · rw [z]; exact nit b u e
    · exact nit c _ z
theorem Inv.tok (I : Inv X pins σ H s) (t : Nat) : Inv X pins σ H { s with toks := t } := I.un (h' := s.heap) (t' := t) Un.refl I.hok
/-- all objects kept -/
theorem Inv.kept {t' : Nat} (I : Inv X pins σ H s) (k : ∀ b u, s.heap.get? b = some u → h'.get? b = some u) : Inv X pins σ H { s with heap := h', toks := t' } := I.un (Un.kept k) (I.hok.kept k)
/-- a new object laid and tracked -/
theorem Inv.laid {a : Addr} {o : HO} {t' : Nat} (I : Inv X pins σ H s) (k : ∀ b u, s.heap.get? b = some u → h'.get? b = some u) (hp : s.heap.objs.size ≤ a) (new : ObjOk X.prog X.w (upd H a o) h' a o) :
    Inv X pins σ (upd H a o) { s with heap := h', toks := t' } := I.un (Un.laid k hp (I.hok.fresh hp)) (I.hok.laid k hp new)
/-- an object written -/
theorem Inv.write {x e : Addr} {o : HO} {t' : Nat} (I : Inv X pins σ H s) (mu : Mut (H x)) (he : e = x ∨ H e = some (.own x)) (k : ∀ b u, b ≠ e → s.heap.get? b = some u → h'.get? b = some u) (heo : ∃ u, h'.get? e = some u)
    (new : ObjOk X.prog X.w (upd H x o) h' x o) : Inv X pins σ (upd H x o) { s with heap := h', toks := t' } := I.un (Un.write mu he k heo) (I.hok.write mu he k heo new)
/-- forgetting slots, pins -/
theorem Inv.weak {σ' : List (Option V)} (I : Inv X pins σ H s) (hl : σ'.length = σ.length) (w : ∀ (i : Nat) v, σ'[i]? = some (some v) → σ[i]? = some (some v)) : Inv X pins σ' H s :=
  ⟨I.ok, I.os, I.bare, I.base, let ⟨m, hn, hl'⟩ := I.loc; ⟨m, hn, fun i x v e1 e2 e3 => hl' i x v e1 (w i v e2) e3⟩, I.cell, I.free, I.freeC, I.pin, I.hok, hl.trans I.len⟩
theorem Inv.pins_of {pins' : List (Addr × Obj)} (I : Inv X pins σ H s) (h : ∀ p ∈ pins', s.heap.get? p.1 = some p.2 ∧ H p.1 = none ∧ p.1 ≠ X.env.locals ∧ p.1 ∉ X.fs ∧ ∀ v, p.2.data ≠ .cell v) : Inv X pins' σ H s :=
  ⟨I.ok, I.os, I.bare, I.base, I.loc, I.cell, I.free, I.freeC, fun p hp => (List.mem_append.mp hp).elim (fun z => I.pin p (List.mem_append_left _ z)) (h p), I.hok, I.len⟩

theorem nodup_ix {N : List Str} (hN : N.Nodup) {i j : Nat} {x : Str} (a : N[i]? = some x) (b : N[j]? = some x) : i = j := by
  obtain ⟨h1, e1⟩ := List.getElem?_eq_some_iff.mp a
  obtain ⟨h2, e2⟩ := List.getElem?_eq_some_iff.mp b
  exact (List.getElem_inj hN).mp (e1.trans e2.symm)

/-- a name is stored; what changed -/
theorem store_ok2 {M : Model} {A : Around} {E : Value → Shared → Prop} {i : Nat} {x : Str} {v : V} {u : Value} {Q : Unit → Shared → Prop} (I : Inv X pins σ H s) (hN : X.N.Nodup) (hi : X.N[i]? = some x) (hx : Loc X.env.scope x) (r : RelV v u)
    (h : ∀ s', Inv X pins (σ.set i (some v)) H s' → (∃ a, Heap.SameBut a s.heap s'.heap ∧ (a = X.env.locals ∨ X.env.cells.lookup x = some a)) → Q () s') (hf : X.fn x = true ∨ X.env.scope.names.lookup x = some .local := by first | exact .inl rfl | exact .inr rfl | assumption) : wpAny M A (storeName X.env x u) Q E s := by
  obtain ⟨m, hn, hl⟩ := id I.loc
  have hcls : (X.env.scope.kind == .class || (X.env.scope.kind == .module && X.env.locals != X.env.globals)) = false := by rw [I.ok.kind]; rfl
  have hiσ : i < σ.length := by rw [I.len]; exact (List.getElem?_eq_some_iff.mp hi).1
  have cne := I.cne
  have tracked : ∀ {a : Addr} {h' : Heap}, (∃ o, s.heap.get? a = some o ∧ H a = none) → Heap.SameBut a s.heap h' → HOk X.prog X.w H h' := fun {a h'} ha hs b ob e => by
    obtain ⟨_, _, hfree⟩ := ha
    refine (I.hok b ob e).stay (fun c w' hc q => (hs.2 c ?_).trans q) (fun _ q => q) fun _ _ q => q
    rintro rfl
    rcases hc with rfl | hc
    · rw [hfree] at e; cases e
    · rw [hfree] at hc; cases hc
  rcases hx with hk | hk
  · refine wpAny_storeName_local hk hn (fun h' hn' hs => ?_) hcls
    obtain ⟨oL, _, _, hoL, _⟩ := id hn
    refine h _ ⟨I.ok, I.os, I.bare, ⟨fun b o e n hb hx => ?_, fun b o e n hb hx => ?_, I.base.free, fun b o e hx => ?_, I.base.tups, I.base.frzs, I.base.tbls⟩, ⟨_, hn', fun j y v' e1 e2 e3 => ?_⟩, fun y c e => ?_, I.free, I.freeC, fun p hp => ?_, tracked ⟨oL, hoL, I.free⟩ hs, by simpa using I.len⟩ ⟨_, hs, .inl rfl⟩
    · exact (hs.2 b (Nat.ne_of_lt (Nat.lt_of_lt_of_le (Heap.lt_size e) I.ok.above))).trans (I.base.keep b o e n hb hx)
    · obtain ⟨sl, e1⟩ := I.base.slot b o e n hb hx
      exact ⟨sl, (hs.2 b (Nat.ne_of_lt (Nat.lt_of_lt_of_le (Heap.lt_size e) I.ok.above))).trans e1⟩
    · obtain ⟨o', e1⟩ := I.base.there b o e hx
      exact ⟨o', (hs.2 b (Nat.ne_of_lt (Nat.lt_of_lt_of_le (Heap.lt_size e) I.ok.above))).trans e1⟩
    · by_cases hj : j = i
      · subst hj
        rw [hi] at e1; cases e1
        rw [List.getElem?_set_self hiσ] at e2
        cases e2
        exact ⟨u, r, .inl ⟨hk, by simp⟩⟩
      · rw [List.getElem?_set_ne (Ne.symm hj)] at e2
        obtain ⟨u', r', q⟩ := hl j y v' e1 e2 e3
        refine ⟨u', r', ?_⟩
        rcases q with ⟨k, e⟩ | ⟨k, c, e, z⟩
        · refine .inl ⟨k, ?_⟩
          have : y ≠ x := fun e => hj (nodup_ix hN e1 (e ▸ hi))
          simp [this, e]
        · exact .inr ⟨k, c, e, z.sameBut hs (cne y c e)⟩
    · obtain ⟨w', z⟩ := I.cell y c e
      exact ⟨w', z.sameBut hs (cne y c e)⟩
    · obtain ⟨e, n, ne, nf, d⟩ := I.pin p hp
      exact ⟨(hs.2 p.1 ne).trans e, n, ne, nf, d⟩
  · have hfn : X.fn x = true := by
      rcases hf with z | z
      · exact z
      · rw [z] at hk; cases hk
    obtain ⟨c, hc⟩ := I.ok.has x (.inl hk)
    obtain ⟨w', z⟩ := I.cell x c hc
    refine wpAny_storeName_cell I.ok.kind hk hc z (fun h' hc' hs => ?_)
    obtain ⟨oc, hoc, hocd⟩ := id z
    refine h { s with heap := h' } ⟨I.ok, I.os, I.bare, ⟨fun b o e n hb hx => ?_, fun b o e n hb hx => ?_, I.base.free, fun b o e hx => ?_, I.base.tups, I.base.frzs, I.base.tbls⟩, ⟨m, hn.sameBut hs (Ne.symm (cne x c hc)), fun j y v' e1 e2 e3 => ?_⟩, fun y c' e => ?_, I.free, I.freeC, fun p hp => ?_, tracked ⟨oc, hoc, I.freeC x c hc⟩ hs, by simpa using I.len⟩ ⟨c, hs, .inr hc⟩
    · exact (hs.2 b (Nat.ne_of_lt (Nat.lt_of_lt_of_le (Heap.lt_size e) (I.ok.cab x c hfn hc)))).trans (I.base.keep b o e n hb hx)
    · obtain ⟨sl, e1⟩ := I.base.slot b o e n hb hx
      exact ⟨sl, (hs.2 b (Nat.ne_of_lt (Nat.lt_of_lt_of_le (Heap.lt_size e) (I.ok.cab x c hfn hc)))).trans e1⟩
    · obtain ⟨o', e1⟩ := I.base.there b o e hx
      exact ⟨o', (hs.2 b (Nat.ne_of_lt (Nat.lt_of_lt_of_le (Heap.lt_size e) (I.ok.cab x c hfn hc)))).trans e1⟩
    · by_cases hj : j = i
      · subst hj
        rw [hi] at e1; cases e1
        rw [List.getElem?_set_self hiσ] at e2
        cases e2
        exact ⟨u, r, .inr ⟨.inl hk, c, hc, hc'⟩⟩
      · rw [List.getElem?_set_ne (Ne.symm hj)] at e2
        obtain ⟨u', r', q⟩ := hl j y v' e1 e2 e3
        refine ⟨u', r', ?_⟩
        rcases q with q | ⟨k, c', e, z'⟩
        · exact .inl q
        · refine .inr ⟨k, c', e, z'.sameBut hs ?_⟩
          rintro rfl
          exact hj (nodup_ix hN e1 (I.ok.inj _ _ _ e hc ▸ hi))
    · by_cases hcc : c' = c
      · subst hcc; exact ⟨_, hc'⟩
      · obtain ⟨w2, z2⟩ := I.cell y c' e
        exact ⟨w2, z2.sameBut hs hcc⟩
    · obtain ⟨e, n, ne, nf, d⟩ := I.pin p hp
      refine ⟨(hs.2 p.1 ?_).trans e, n, ne, nf, d⟩
      intro q
      rw [q, hoc] at e
      have q' : oc = p.2 := Option.some.inj e
      exact d w' (by rw [← q']; exact hocd)
theorem store_ok {M : Model} {A : Around} {E : Value → Shared → Prop} {i : Nat} {x : Str} {v : V} {u : Value} {Q : Unit → Shared → Prop} (I : Inv X pins σ H s) (hN : X.N.Nodup) (hi : X.N[i]? = some x) (hx : Loc X.env.scope x) (r : RelV v u)
    (h : ∀ s', Inv X pins (σ.set i (some v)) H s' → Q () s') (hf : X.fn x = true ∨ X.env.scope.names.lookup x = some .local := by first | exact .inl rfl | exact .inr rfl | assumption) : wpAny M A (storeName X.env x u) Q E s :=
  store_ok2 I hN hi hx r (fun s' I' _ => h s' I') hf
/-- behind a call or a block, the state as it is -/
theorem Inv.call' {s' : Shared} {ch : List Addr} (I : Inv X pins σ H s) (ho : s'.os = s.os) (u : Un (frs X.stack) ch H H' s.heap s'.heap) (hok : HOk X.prog X.w H' s'.heap) (hg : AllBare s'.gens)
    (hch : ∀ b ∈ ch, (b ∈ X.ex ∨ X.s₀.heap.objs.size ≤ b) ∧ b ≠ X.env.locals ∧ (∀ x c, X.env.cells.lookup x = some c → c ≠ b) ∧ ∀ p ∈ X.pn ++ pins, p.1 ≠ b) : Inv X pins σ H' s' := by
  obtain ⟨h', g', d', t', o'⟩ := s'
  have e : o' = s.os := ho
  subst e
  exact I.call (g' := g') (t' := t') (d' := d') u hok hg hch
end

/-! ### the judgements -/
/-- an exception: its class, its own dict's address (where it has one), the abstract heap behind it -/
abbrev XK := Value → Option Addr → Hp → Prop
abbrev St := List (Option V)
abbrev VK := V → Hp → Prop
/-- an expression's reading; a test's; an argument list's -/
abbrev TE := St → Hp → VK → Prop
abbrev TT := St → Hp → (Bool → Hp → Prop) → Prop
abbrev TA := St → Hp → (List V → Hp → Prop) → Prop
/-- what is wanted behind a statement -/
structure Ends where
  nx : St → Hp → Prop
  rt : VK
  bk : St → Hp → Prop := fun _ _ => False
  ct : St → Hp → Prop := fun _ _ => False
abbrev TS := Ends → St → Hp → Prop

def EP (X : Cx) (pins : List (Addr × Obj)) (σ : St) (Q : VK) (u : Value) (s' : Shared) : Prop := ∃ v H', Inv X pins σ H' s' ∧ RelV v u ∧ Q v H'
def TP (X : Cx) (pins : List (Addr × Obj)) (σ : St) (Q : Bool → Hp → Prop) (b : Bool) (s' : Shared) : Prop := ∃ H', Inv X pins σ H' s' ∧ Q b H'
def AP (X : Cx) (pins : List (Addr × Obj)) (σ : St) (Q : List V → Hp → Prop) (us : List Value) (s' : Shared) : Prop := ∃ vs H', Inv X pins σ H' s' ∧ Vals vs us ∧ Q vs H'
def SP (X : Cx) (pins : List (Addr × Obj)) (D : Ends) (f : Flow) (s' : Shared) : Prop :=
  match f with
  | .next => ∃ σ' H', Inv X pins σ' H' s' ∧ D.nx σ' H'
  | .brk => ∃ σ' H', Inv X pins σ' H' s' ∧ D.bk σ' H'
  | .cont => ∃ σ' H', Inv X pins σ' H' s' ∧ D.ct σ' H'
  | .ret u => ∃ v σ' H', Inv X pins σ' H' s' ∧ RelV v u ∧ D.rt v H'

def PE (X : Cx) (e : Expr) (t : TE) : Prop :=
  ∀ (pins : List (Addr × Obj)) (s : Shared) (σ : St) (H : Hp) (Q : VK), Inv X pins σ H s → t σ H Q → wpAny (model X.prog X.w) X.A (eval e X.env) (EP X pins σ Q) X.xe s
def PT (X : Cx) (e : Expr) (t : TT) : Prop :=
  ∀ (pins : List (Addr × Obj)) (s : Shared) (σ : St) (H : Hp) (Q : Bool → Hp → Prop), Inv X pins σ H s → t σ H Q → wpAny (model X.prog X.w) X.A (isTrue e X.env (eval e X.env)) (TP X pins σ Q) X.xe s
/-- a test whatever its 'whole' is (and, or) -/
def PW (X : Cx) (e : Expr) (t : TT) : Prop :=
  ∀ (whole : Sem Value) (pins : List (Addr × Obj)) (s : Shared) (σ : St) (H : Hp) (Q : Bool → Hp → Prop), Inv X pins σ H s → t σ H Q → wpAny (model X.prog X.w) X.A (isTrue e X.env whole) (TP X pins σ Q) X.xe s
theorem PW.pt {X : Cx} {e : Expr} {t : TT} (h : PW X e t) : PT X e t := h _
/-- an argument list (no star), from the left -/
def PA (X : Cx) (es : List Expr) (t : TA) : Prop :=
  ∀ (pos : Pos) (pins : List (Addr × Obj)) (s : Shared) (σ : St) (H : Hp) (Q : List V → Hp → Prop), Inv X pins σ H s → t σ H Q → wpAny (model X.prog X.w) X.A (spliced (backTo pos (starEach es X.env))) (AP X pins σ Q) X.xe s
def PS (X : Cx) (st : Stmt) (t : TS) : Prop :=
  ∀ (pins : List (Addr × Obj)) (s : Shared) (σ : St) (H : Hp) (D : Ends), Inv X pins σ H s → t D σ H → wpAny (model X.prog X.w) X.A (exec st X.env) (SP X pins D) X.xe s
def PSs (X : Cx) (st : List Stmt) (t : TS) : Prop :=
  ∀ (pins : List (Addr × Obj)) (s : Shared) (σ : St) (H : Hp) (D : Ends), Inv X pins σ H s → t D σ H → wpAny (model X.prog X.w) X.A (execs st X.env) (SP X pins D) X.xe s
/-- weaken the end -/
theorem thn {α : Type} {t : Sem α} {Q Q' : α → Shared → Prop} {M : Model} {A : Around} {E : Value → Shared → Prop} {s : Shared} (h : wpAny M A t Q E s) (hQ : ∀ a s, Q a s → Q' a s) : wpAny M A t Q' E s := wpAny_mono h hQ fun _ _ x => x
end L2

namespace L2
open PySem PySem.Spec PyProof.Rows
section
variable {X : Cx}

/-- two expressions in a row -/
theorem bin {a b : Expr} {ta tb : TE} (ha : PE X a ta) (hb : PE X b tb) {pins : List (Addr × Obj)} {s : Shared} {σ : St} {H : Hp} {R : V → V → Hp → Prop} (I : Inv X pins σ H s) (h : ta σ H fun x H1 => tb σ H1 fun y H2 => R x y H2)
    {α : Type} {Q : α → Shared → Prop} {f : Value → Value → Sem α}
    (hf : ∀ v u s2 x y H2, Inv X pins σ H2 s2 → RelV x v → RelV y u → R x y H2 → wpAny (model X.prog X.w) X.A (f v u) Q X.xe s2) :
    wpAny (model X.prog X.w) X.A (eval a X.env) (fun v s₁ => wpAny (model X.prog X.w) X.A (eval b X.env) (fun u s₂ => wpAny (model X.prog X.w) X.A (f v u) Q X.xe s₂) X.xe s₁) X.xe s := by
  refine thn (ha pins s σ H _ I h) fun v s1 ⟨x, H1, I1, r1, q1⟩ => ?_
  refine thn (hb pins s1 σ H1 _ I1 q1) fun u s2 ⟨y, H2, I2, r2, q2⟩ => ?_
  exact hf v u s2 x y H2 I2 r1 r2 q2

/-! ### names and constants -/
def tVar (i : Nat) : TE := fun σ H Q => ∃ v, σ[i]? = some (some v) ∧ Q v H
def tC (v : V) : TE := fun _ H Q => Q v H
theorem pe_var {i : Nat} {x : Str} {pos : Pos} (hN : X.N[i]? = some x) (hv : Vis X.env.scope x) (hd : (x == ("__debug__" : Str)) = false := by decide) (hcd : (x == ("__classdict__" : Str)) = false := by decide) : PE X (.Name x pos) (tVar i) := by
  intro pins s σ H Q I h
  obtain ⟨v, e, h⟩ := h
  obtain ⟨m, hn, hl⟩ := I.loc
  obtain ⟨u, r, l⟩ := hl i x v hN e hv
  have fin : EP X pins σ Q u s := ⟨v, H, I, r, h⟩
  rcases l with ⟨hk, hm⟩ | ⟨hk, c, hc, hcell⟩
  · exact wpAny_Name (wpAny_loadName_local I.ok.kind hk hn hm fin) hd
  · rcases hk with hk | hk
    · exact wpAny_Name (wpAny_loadName_cell I.ok.kind hk hc hcell fin) hd
    · exact wpAny_Name (wpAny_loadName_free I.ok.kind hk hc hcell fin hcd) hd
theorem pe_int {i j pos} : PE X (.Constant (.int i) j pos) (tC (.int i)) := fun _ _ _ H _ I h => wpAny_Constant_int ⟨.int i, H, I.tok _, ⟨_, rfl⟩, h⟩
theorem pe_bl {b j pos} : PE X (.Constant (.bool b) j pos) (tC (.bl b)) := fun _ _ _ H _ I h => Constant_bool ⟨.bl b, H, I, rfl, h⟩
theorem pe_non {j pos} : PE X (.Constant .none j pos) (tC .non) := fun _ _ _ H _ I h => Constant_none ⟨.non, H, I, rfl, h⟩
theorem pe_str {x j pos} : PE X (.Constant (.str x) j pos) (tC (.str x)) := fun _ _ _ H _ I h => Calls.Constant_str ⟨.str x, H, I.tok _, ⟨_, rfl⟩, h⟩

/-- a global name of the def -/
def Gl (X : Cx) (x : Str) : Prop := X.env.kindOf x = some .globalImplicit
theorem ld_glob {E : Value → Shared → Prop} {pins : List (Addr × Obj)} {s : Shared} {σ : St} {H : Hp} {x : Str} {u : Value} {pos : Pos} {Q : Value → Shared → Prop} (I : Inv X pins σ H s) (hg : Gl X x) (hm : X.mg x = some u) (h : Q u s)
    (hd : (x == ("__debug__" : Str)) = false := by decide) : wpAny (model X.prog X.w) X.A (eval (.Name x pos) X.env) Q E s :=
  Calls.Name_function_global I.ok.kind hg (Calls.loadGlobal_global (by rw [I.ok.glob]; exact I.mod.glob.keeps I.bk) hm h) hd
theorem ld_blt {E : Value → Shared → Prop} {pins : List (Addr × Obj)} {s : Shared} {σ : St} {H : Hp} {x : Str} {u : Value} {pos : Pos} {Q : Value → Shared → Prop} (I : Inv X pins σ H s) (hg : Gl X x) (hm : X.mg x = none) (hv : bootBuiltins x = some u) (h : Q u s)
    (hn : x ≠ "__name__" := by decide) (hd : (x == ("__debug__" : Str)) = false := by decide) : wpAny (model X.prog X.w) X.A (eval (.Name x pos) X.env) Q E s := by
  obtain ⟨mb, h1, h2⟩ := I.mod.blt
  exact Calls.Name_function_global I.ok.kind hg (Calls.loadGlobal_builtin (by rw [I.ok.glob]; exact I.mod.glob.keeps I.bk) hm (by rw [I.ok.blt]; exact h1.keeps I.bk) ((h2 x hn).trans hv) h) hd
/-- a module's constant, a class, a function, as a value -/
theorem pe_glob {x : Str} {v : V} {u : Value} {pos : Pos} (hg : Gl X x) (hm : X.mg x = some u) (r : RelV v u) (hd : (x == ("__debug__" : Str)) = false := by decide) : PE X (.Name x pos) (tC v) :=
  fun _ _ _ H _ I h => ld_glob I hg hm ⟨v, H, I, r, h⟩ hd
theorem pe_bltn {x : Str} {v : V} {u : Value} {pos : Pos} (hg : Gl X x) (hm : X.mg x = none) (hv : bootBuiltins x = some u) (r : RelV v u) (hn : x ≠ "__name__" := by decide) (hd : (x == ("__debug__" : Str)) = false := by decide) : PE X (.Name x pos) (tC v) :=
  fun _ _ _ H _ I h => ld_blt I hg hm hv ⟨v, H, I, r, h⟩ hn hd

/-! ### arithmetic -/
/-- two ints -/
def t2I (ta tb : TE) (k : Int → Int → Hp → Prop) : St → Hp → Prop := fun σ H => ta σ H fun x H1 => tb σ H1 fun y H2 => ∃ i j, x = .int i ∧ y = .int j ∧ k i j H2
def tAdd (ta tb : TE) : TE := fun σ H Q => t2I ta tb (fun i j H2 => Q (.int (i + j)) H2) σ H
def tSub (ta tb : TE) : TE := fun σ H Q => t2I ta tb (fun i j H2 => Q (.int (i - j)) H2) σ H
/-- the left factor below 2^64 -/
def tMul (ta tb : TE) : TE := fun σ H Q => t2I ta tb (fun i j H2 => (-(2 ^ 64) < i ∧ i < 2 ^ 64) ∧ Q (.int (i * j)) H2) σ H
variable {a b : Expr} {ta tb : TE} {pos : Pos}
theorem pe_add (ha : PE X a ta) (hb : PE X b tb) : PE X (.BinOp a .Add b pos) (tAdd ta tb) := by
  intro pins s σ H Q I h
  refine wpAny_BinOp (bin ha hb I h fun v u s2 x y H2 I2 rx ry q => ?_)
  obtain ⟨i, j, rfl, rfl, q⟩ := q
  obtain ⟨t, rfl⟩ := rx
  obtain ⟨t', rfl⟩ := ry
  exact add_int ⟨.int _, H2, I2.tok _, ⟨_, rfl⟩, q⟩
theorem pe_sub (ha : PE X a ta) (hb : PE X b tb) : PE X (.BinOp a .Sub b pos) (tSub ta tb) := by
  intro pins s σ H Q I h
  refine wpAny_BinOp (bin ha hb I h fun v u s2 x y H2 I2 rx ry q => ?_)
  obtain ⟨i, j, rfl, rfl, q⟩ := q
  obtain ⟨t, rfl⟩ := rx
  obtain ⟨t', rfl⟩ := ry
  exact sub_int ⟨.int _, H2, I2.tok _, ⟨_, rfl⟩, q⟩
theorem pe_mul (ha : PE X a ta) (hb : PE X b tb) : PE X (.BinOp a .Mult b pos) (tMul ta tb) := by
  intro pins s σ H Q I h
  refine wpAny_BinOp (bin ha hb I h fun v u s2 x y H2 I2 rx ry q => ?_)
  obtain ⟨i, j, rfl, rfl, ⟨q1, q2⟩, q⟩ := q
  obtain ⟨t, rfl⟩ := rx
  obtain ⟨t', rfl⟩ := ry
  exact mul_int ⟨.int _, H2, I2.tok _, ⟨_, rfl⟩, q⟩ (.of_left (intBits_le_64 q1 q2))

/-! ### comparisons -/
def PC (X : Cx) (op : CmpOp) (a b : Expr) (t : TE) : Prop :=
  ∀ (pins : List (Addr × Obj)) (s : Shared) (σ : St) (H : Hp) (Q : VK), Inv X pins σ H s → t σ H Q →
    wpAny (model X.prog X.w) X.A (eval a X.env) (fun v s₁ => wpAny (model X.prog X.w) X.A (eval b X.env) (fun u s₂ => wpAny (model X.prog X.w) X.A (compareOp op v u) (EP X pins σ Q) X.xe s₂) X.xe s₁) X.xe s
theorem nobehind (b : Expr) {op : CmpOp} (h : op ≠ .In) (h2 : op ≠ .NotIn) : behindInMarks op b = false := by
  have e1 : (op == CmpOp.In) = false := by cases op <;> first | rfl | exact absurd rfl h
  have e2 : (op == CmpOp.NotIn) = false := by cases op <;> first | rfl | exact absurd rfl h2
  cases b <;> simp [behindInMarks, e1, e2]
def tCmp (p : Int → Int → Bool) (ta tb : TE) : TE := fun σ H Q => t2I ta tb (fun i j H2 => Q (.bl (p i j)) H2) σ H
abbrev tLt : TE → TE → TE := tCmp fun i j => decide (i < j)
abbrev tLe : TE → TE → TE := tCmp fun i j => decide (i ≤ j)
abbrev tGt : TE → TE → TE := tCmp fun i j => decide (j < i)
abbrev tGe : TE → TE → TE := tCmp fun i j => decide (j ≤ i)
abbrev tEqI : TE → TE → TE := tCmp fun i j => decide (i = j)
abbrev tNeI : TE → TE → TE := tCmp fun i j => !decide (i = j)
/-- a comparison of two ints, by its rule -/
theorem pc_int {op : CmpOp} {p : Int → Int → Bool} (ha : PE X a ta) (hb : PE X b tb)
    (rule : ∀ (i j : Int) (t u : Tok) (Q : Value → Shared → Prop) (s : Shared), Q (.bool (p i j)) s → wpAny (model X.prog X.w) X.A (compareOp op (.int i t) (.int j u)) Q X.xe s) : PC X op a b (tCmp p ta tb) := by
  intro pins s σ H Q I h
  refine bin ha hb I h fun v u s2 x y H2 I2 rx ry q => ?_
  obtain ⟨i, j, rfl, rfl, q⟩ := q
  obtain ⟨t, rfl⟩ := rx
  obtain ⟨t', rfl⟩ := ry
  exact rule i j t t' _ s2 ⟨.bl _, H2, I2, rfl, q⟩
theorem pc_lt (ha : PE X a ta) (hb : PE X b tb) : PC X .Lt a b (tLt ta tb) := pc_int ha hb fun _ _ _ _ _ _ h => lt_int h
theorem pc_le (ha : PE X a ta) (hb : PE X b tb) : PC X .LtE a b (tLe ta tb) := pc_int ha hb fun _ _ _ _ _ _ h => le_int h
theorem pc_gt (ha : PE X a ta) (hb : PE X b tb) : PC X .Gt a b (tGt ta tb) := pc_int ha hb fun _ _ _ _ _ _ h => gt_int h
theorem pc_ge (ha : PE X a ta) (hb : PE X b tb) : PC X .GtE a b (tGe ta tb) := pc_int ha hb fun _ _ _ _ _ _ h => ge_int h
theorem pc_eqI (ha : PE X a ta) (hb : PE X b tb) : PC X .Eq a b (tEqI ta tb) := pc_int ha hb fun _ _ _ _ _ _ h => eq_int (by rw [Bool.beq_eq_decide_eq]; exact h)
theorem pc_neI (ha : PE X a ta) (hb : PE X b tb) : PC X .NotEq a b (tNeI ta tb) := pc_int ha hb fun _ _ _ _ _ _ h => ne_int (by rw [bne, Bool.beq_eq_decide_eq]; exact h)
/-- is None -/
def tIsN (ta : TE) : TE := fun σ H Q => ta σ H fun x H1 => Q (.bl (decide (x = .non))) H1
def tNotN (ta : TE) : TE := fun σ H Q => ta σ H fun x H1 => Q (.bl (!decide (x = .non))) H1
theorem RelV.none_iff {x : V} {v : Value} (r : RelV x v) : (v == Value.none) = decide (x = .non) := by
  cases x with
  | non => cases r; rfl
  | bl _ => cases r; rfl
  | int _ => obtain ⟨t, rfl⟩ := r; rfl
  | str _ => obtain ⟨t, rfl⟩ := r; rfl
  | byt _ => obtain ⟨t, rfl⟩ := r; rfl
  | flt _ => obtain ⟨t, rfl⟩ := r; rfl
  | ref _ => cases r; rfl
  | ty _ => cases r; rfl
theorem pc_isN {j pos'} (ha : PE X a ta) : PC X .Is a (.Constant .none j pos') (tIsN ta) := by
  intro pins s σ H Q I h
  refine thn (ha pins s σ H _ I h) fun v s1 ⟨x, H1, I1, r1, q1⟩ => ?_
  exact Constant_none (is_none_gen ⟨.bl _, H1, I1, by rw [r1.none_iff]; rfl, q1⟩)
theorem pc_notN {j pos'} (ha : PE X a ta) : PC X .IsNot a (.Constant .none j pos') (tNotN ta) := by
  intro pins s σ H Q I h
  refine thn (ha pins s σ H _ I h) fun v s1 ⟨x, H1, I1, r1, q1⟩ => ?_
  exact Constant_none (isnot_none_gen ⟨.bl _, H1, I1, by rw [r1.none_iff]; rfl, q1⟩)
/-- a comparison as a value, as a test -/
def tB (t : TE) : TT := fun σ H Q => t σ H fun x H1 => ∃ c, x = .bl c ∧ Q c H1
theorem pe_cmp {op : CmpOp} {t : TE} (h : PC X op a b t) (h1 : behindInMarks op b = false := by first | exact nobehind _ (by decide) (by decide) | rfl) : PE X (.Compare a [op] [b] pos) t := fun pins s σ H Q I hw => wpAny_Compare1 (h pins s σ H Q I hw) h1
theorem pt_cmp {op : CmpOp} {t : TE} (h : PC X op a b t) (h1 : behindInMarks op b = false := by first | exact nobehind _ (by decide) (by decide) | rfl) : PT X (.Compare a [op] [b] pos) (tB t) := by
  intro pins s σ H Q I hw
  refine wpAny_isTrue_Compare1 (thn (h pins s σ H _ I hw) fun v s1 h1 => thn h1 fun u s2 h2 => thn h2 fun c s3 ⟨x, H1, I1, r1, q1⟩ => ?_) h1
  obtain ⟨d, rfl, q⟩ := q1
  cases r1
  exact wpAny_truthy_bool ⟨H1, I1, q⟩
/-- an expression whose value is a bool, as a test -/
theorem pt_val {e : Expr} {t : TE} (h : PE X e t) (he : ∀ whole, isTrue e X.env whole = (do let v ← whole; standAt e.pos; holding [v] (truthy v)) := by intro _; rfl) : PT X e (tB t) := by
  intro pins s σ H Q I hw
  refine isTrue_plain (thn (h pins s σ H _ I hw) fun v s1 ⟨x, H1, I1, r1, q1⟩ => ?_) (he _)
  obtain ⟨d, rfl, q⟩ := q1
  cases r1
  exact wpAny_truthy_bool ⟨H1, I1, q⟩

/-! ### and, or, not -/
variable {tA tB' : TT} {rest : List Expr}
def tAnd (t u : TT) : TT := fun σ H Q => t σ H fun c H1 => if c = true then u σ H1 Q else Q false H1
def tOr (t u : TT) : TT := fun σ H Q => t σ H fun c H1 => if c = true then Q true H1 else u σ H1 Q
def tNot (t : TT) : TT := fun σ H Q => t σ H fun c H1 => Q (!c) H1
theorem pw_and1 (ha : PT X a tA) : PW X (.BoolOp .And [a] pos) tA := by
  intro wh pins s σ H Q I h
  refine isTrue_and (thn (ha pins s σ H Q I h) fun c s1 e => ?_)
  cases c with
  | true => exact isTrue_and_nil e
  | false => exact e
theorem pw_or1 (ha : PT X a tA) : PW X (.BoolOp .Or [a] pos) tA := by
  intro wh pins s σ H Q I h
  refine isTrue_or (thn (ha pins s σ H Q I h) fun c s1 e => ?_)
  cases c with
  | false => exact isTrue_or_nil e
  | true => exact e
theorem pw_and (ha : PT X a tA) (hb : PW X (.BoolOp .And (b :: rest) pos) tB') : PW X (.BoolOp .And (a :: b :: rest) pos) (tAnd tA tB') := by
  intro wh pins s σ H Q I h
  refine isTrue_and (thn (ha pins s σ H _ I h) fun c s1 ⟨H1, I1, q1⟩ => ?_)
  cases c with
  | true => exact hb wh pins s1 σ H1 Q I1 q1
  | false => exact ⟨H1, I1, q1⟩
theorem pw_or (ha : PT X a tA) (hb : PW X (.BoolOp .Or (b :: rest) pos) tB') : PW X (.BoolOp .Or (a :: b :: rest) pos) (tOr tA tB') := by
  intro wh pins s σ H Q I h
  refine isTrue_or (thn (ha pins s σ H _ I h) fun c s1 ⟨H1, I1, q1⟩ => ?_)
  cases c with
  | true => exact ⟨H1, I1, q1⟩
  | false => exact hb wh pins s1 σ H1 Q I1 q1
theorem pt_not (ha : PT X a tA) : PT X (.UnaryOp .Not a pos) (tNot tA) := by
  intro pins s σ H Q I h
  exact isTrue_not (ha pins s σ H (fun c H1 => Q (!c) H1) I h)
/-- .. as values (bools) -/
def tAndV (ta tb : TE) : TE := fun σ H Q => ta σ H fun x H1 => ∃ c, x = .bl c ∧ if c = true then tb σ H1 Q else Q (.bl false) H1
def tOrV (ta tb : TE) : TE := fun σ H Q => ta σ H fun x H1 => ∃ c, x = .bl c ∧ if c = true then Q (.bl true) H1 else tb σ H1 Q
def tNotV (ta : TE) : TE := fun σ H Q => ta σ H fun x H1 => ∃ c, x = .bl c ∧ Q (.bl (!c)) H1
theorem pe_one {op} {t : TE} (h : PE X a t) : PE X (.BoolOp op [a] pos) t := fun pins s σ H Q I hw => BoolOp_one (h pins s σ H Q I hw)
theorem pe_and (ha : PE X a ta) (hb : PE X (.BoolOp .And (b :: rest) pos) tb) : PE X (.BoolOp .And (a :: b :: rest) pos) (tAndV ta tb) := by
  intro pins s σ H Q I h
  refine BoolOp_and (thn (ha pins s σ H _ I h) fun v s1 ⟨x, H1, I1, r1, q1⟩ => ?_)
  obtain ⟨c, rfl, q1⟩ := q1
  cases r1
  refine wpAny_truthy_bool ?_
  cases c with
  | true => exact hb pins s1 σ H1 Q I1 q1
  | false => exact ⟨.bl false, H1, I1, rfl, q1⟩
theorem pe_or (ha : PE X a ta) (hb : PE X (.BoolOp .Or (b :: rest) pos) tb) : PE X (.BoolOp .Or (a :: b :: rest) pos) (tOrV ta tb) := by
  intro pins s σ H Q I h
  refine BoolOp_or (thn (ha pins s σ H _ I h) fun v s1 ⟨x, H1, I1, r1, q1⟩ => ?_)
  obtain ⟨c, rfl, q1⟩ := q1
  cases r1
  refine wpAny_truthy_bool ?_
  cases c with
  | false => exact hb pins s1 σ H1 Q I1 q1
  | true => exact ⟨.bl true, H1, I1, rfl, q1⟩
theorem pe_not (ha : PE X a ta) : PE X (.UnaryOp .Not a pos) (tNotV ta) := by
  intro pins s σ H Q I h
  refine UnaryOp_ (thn (ha pins s σ H _ I h) fun v s1 ⟨x, H1, I1, r1, q1⟩ => ?_)
  obtain ⟨c, rfl, q1⟩ := q1
  cases r1
  exact not_of (wpAny_truthy_bool ⟨.bl (!c), H1, I1, rfl, q1⟩)
/-- a if t else b -/
def tIf (t : TT) (ta tb : TE) : TE := fun σ H Q => t σ H fun c H1 => if c = true then ta σ H1 Q else tb σ H1 Q
theorem pe_ifExp {c : Expr} (hc : PT X c tA) (ha : PE X a ta) (hb : PE X b tb) : PE X (.IfExp c a b pos) (tIf tA ta tb) := by
  intro pins s σ H Q I h
  refine wpAny_IfExp (thn (hc pins s σ H _ I h) fun d s1 ⟨H1, I1, q1⟩ => ?_)
  cases d with
  | true => exact ha pins s1 σ H1 Q I1 q1
  | false => exact hb pins s1 σ H1 Q I1 q1
end
end L2

namespace L2
open PySem PySem.Spec PyProof.Rows

/-! ### a list, a tuple that is read: tracked, frozen, or an object of the module -/
def SqL (K : PySem.W.Frag) (H : Hp) (a : Addr) (xs : List V) : Prop :=
  Rd H a (.lst xs) ∨
    ∃ (o : Obj) (its : Array Value) (n : Nat), K.lookup a = some o ∧ o.cls = .type "list" ∧ o.dict = none ∧ o.data = .seq its n ∧ its.size ≤ sizeLine ∧ Vals xs its.toList
def SqT (K : PySem.W.Frag) (H : Hp) (a : Addr) (xs : List V) : Prop :=
  Rd H a (.tup xs) ∨
    ∃ (o : Obj) (its : Array Value) (n : Nat), K.lookup a = some o ∧ o.cls = .type "tuple" ∧ o.data = .seq its n ∧ its.size ≤ sizeLine ∧ Vals xs its.toList
def absV : Value → Option V
  | .none => some .non
  | .bool b => some (.bl b)
  | .int i _ => some (.int i)
  | .str x _ => some (.str x)
  | .bytes b _ => some (.byt b)
  | .float b _ => some (.flt b)
  | .ref a => some (.ref a)
  | .type n => some (.ty n)
  | _ => none
theorem RelV.abs {x : V} {u : Value} (r : RelV x u) : absV u = some x := by
  cases x with
  | non => cases r; rfl
  | bl _ => cases r; rfl
  | int _ => obtain ⟨t, rfl⟩ := r; rfl
  | str _ => obtain ⟨t, rfl⟩ := r; rfl
  | byt _ => obtain ⟨t, rfl⟩ := r; rfl
  | flt _ => obtain ⟨t, rfl⟩ := r; rfl
  | ref _ => cases r; rfl
  | ty _ => cases r; rfl
theorem RelV.inj {x y : V} {u : Value} (r : RelV x u) (q : RelV y u) : x = y := Option.some.inj (r.abs.symm.trans q.abs)
theorem Vals.inj : ∀ {xs ys : List V} {us : List Value}, Vals xs us → Vals ys us → xs = ys
  | _, _, _, .nil, .nil => rfl
  | _, _, _, .cons r t, .cons r' t' => by rw [r.inj r', Vals.inj t t']
section
variable {X : Cx} {pins : List (Addr × Obj)} {σ : St} {H : Hp} {s : Shared} {a : Addr} {xs ys : List V}
theorem SqL.of {K : PySem.W.Frag} (h : H a = some (.lst xs)) : SqL K H a xs := .inl (.inl h)
theorem SqT.of {K : PySem.W.Frag} (h : H a = some (.tup xs)) : SqT K H a xs := .inl (.inl h)
theorem Inv.list (I : Inv X pins σ H s) (h : SqL X.K H a xs) : ∃ its : List Value, Vals xs its ∧ PlainL s.heap a its.toArray ∧ xs.length ≤ sizeLine := by
  rcases h with h | ⟨o, its, n, hk, hc, hd, hs, hz, r⟩
  · obtain ⟨z, its, n, r, e⟩ := h.ok I.hok
    exact ⟨its, r, ⟨_, n, e, rfl, rfl, rfl⟩, z⟩
  · refine ⟨its.toList, r, ⟨o, n, I.kIn a o hk, hc, hd, by simpa using hs⟩, ?_⟩
    have e := r.length
    simp only [Array.length_toList] at e
    omega
theorem Inv.tuple (I : Inv X pins σ H s) (h : SqT X.K H a xs) : ∃ its : List Value, Vals xs its ∧ IsTup s.heap a its.toArray ∧ xs.length ≤ sizeLine := by
  rcases h with h | ⟨o, its, n, hk, hc, hs, hz, r⟩
  · obtain ⟨z, its, r, p⟩ := h.ok I.hok
    exact ⟨its, r, p, z⟩
  · refine ⟨its.toList, r, ⟨o, I.kIn a o hk, hc, n, by simpa using hs⟩, ?_⟩
    have e := r.length
    simp only [Array.length_toList] at e
    omega
theorem Inv.list_inj (I : Inv X pins σ H s) (h : SqL X.K H a xs) (h' : SqL X.K H a ys) : xs = ys := by
  obtain ⟨its, r, ⟨o, n, e, _, _, d⟩, _⟩ := I.list h
  obtain ⟨its', r', ⟨o', n', e', _, _, d'⟩, _⟩ := I.list h'
  rw [e] at e'; cases e'
  rw [d] at d'
  injection d' with d1 _
  have : its = its' := by simpa using congrArg Array.toList d1
  subst this
  exact r.inj r'
theorem Inv.tuple_inj (I : Inv X pins σ H s) (h : SqT X.K H a xs) (h' : SqT X.K H a ys) : xs = ys := by
  obtain ⟨its, r, ⟨o, e, _, n, d⟩, _⟩ := I.tuple h
  obtain ⟨its', r', ⟨o', e', _, n', d'⟩, _⟩ := I.tuple h'
  rw [e] at e'; cases e'
  rw [d] at d'
  injection d' with d1 _
  have : its = its' := by simpa using congrArg Array.toList d1
  subst this
  exact r.inj r'
end

/-! ### another wish about exceptions -/
abbrev Cx.wish (X : Cx) (E : Value → Shared → Prop) : Cx := { X with xe := E }
/-- no exception leaves -/
abbrev Cx.nox (X : Cx) : Cx := X.wish fun _ _ => False
theorem Cx.Ok.wish {X : Cx} (ok : X.Ok) (E : Value → Shared → Prop) : (X.wish E).Ok :=
  ⟨ok.mod, ok.kind, ok.glob, ok.blt, ok.above, ok.inj, ok.has, ok.cab, ok.hd, ok.frames, ok.stk, ok.exf, ok.bs, ok.bsz, ok.noex, ok.exfs, ok.funs, ok.frf⟩
theorem Cx.Ok.unwish {X : Cx} {E : Value → Shared → Prop} (ok : (X.wish E).Ok) : X.Ok :=
  ⟨ok.mod, ok.kind, ok.glob, ok.blt, ok.above, ok.inj, ok.has, ok.cab, ok.hd, ok.frames, ok.stk, ok.exf, ok.bs, ok.bsz, ok.noex, ok.exfs, ok.funs, ok.frf⟩
section
variable {X : Cx} {pins : List (Addr × Obj)} {σ : St} {H : Hp} {s : Shared} {E : Value → Shared → Prop}
theorem Inv.wish (I : Inv X pins σ H s) (E : Value → Shared → Prop) : Inv (X.wish E) pins σ H s := ⟨I.ok.wish E, I.os, I.bare, I.base, I.loc, I.cell, I.free, I.freeC, I.pin, I.hok, I.len⟩
theorem Inv.unwish (I : Inv (X.wish E) pins σ H s) : Inv X pins σ H s := ⟨I.ok.unwish, I.os, I.bare, I.base, I.loc, I.cell, I.free, I.freeC, I.pin, I.hok, I.len⟩
theorem SP.unwish {D : Ends} {f : Flow} {s' : Shared} (h : SP (X.wish E) pins D f s') : SP X pins D f s' := by
  cases f with
  | next => obtain ⟨σ', H', I, q⟩ := h; exact ⟨σ', H', I.unwish, q⟩
  | brk => obtain ⟨σ', H', I, q⟩ := h; exact ⟨σ', H', I.unwish, q⟩
  | cont => obtain ⟨σ', H', I, q⟩ := h; exact ⟨σ', H', I.unwish, q⟩
  | ret u => obtain ⟨v, σ', H', I, r, q⟩ := h; exact ⟨v, σ', H', I.unwish, r, q⟩
theorem PE.nox {e : Expr} {t : TE} (h : PE X.nox e t) : PE X e t := fun pins s σ H Q I hw =>
  wpAny_mono (h pins s σ H Q (I.wish _) hw) (fun _ _ ⟨v, H', I', r, q⟩ => ⟨v, H', I'.unwish, r, q⟩) fun _ _ z => False.elim z
theorem PT.nox {e : Expr} {t : TT} (h : PT X.nox e t) : PT X e t := fun pins s σ H Q I hw =>
  wpAny_mono (h pins s σ H Q (I.wish _) hw) (fun _ _ ⟨H', I', q⟩ => ⟨H', I'.unwish, q⟩) fun _ _ z => False.elim z
theorem PSs.nox {st : List Stmt} {t : TS} (h : PSs X.nox st t) : PSs X st t := fun pins s σ H D I hw =>
  wpAny_mono (h pins s σ H D (I.wish _) hw) (fun _ _ q => q.unwish) fun _ _ z => False.elim z
end

/-! ### blocks and small statements -/
section
variable {X : Cx} {st : Stmt} {rest : List Stmt} {t u : TS} {e : Expr} {te : TE} {pos : Pos}
def tNext : TS := fun D σ H => D.nx σ H
def tSeq (t u : TS) : TS := fun D σ H => t { D with nx := u D } σ H
theorem pss_nil : PSs X [] tNext := fun _ _ σ H _ I h => wpAny_execs_nil ⟨σ, H, I, h⟩
theorem pss_cons (h1 : PS X st t) (h2 : PSs X rest u) : PSs X (st :: rest) (tSeq t u) := by
  intro pins s σ H D I h
  refine wpAny_execs_cons (thn (h1 pins s σ H { D with nx := u D } I h) fun f s1 q => ?_)
  cases f with
  | next =>
    obtain ⟨σ', H', I', q⟩ := q
    exact h2 pins s1 σ' H' D I' q
  | ret v => exact q
  | brk => exact q
  | cont => exact q
theorem pss_one (h1 : PS X st t) : PSs X [st] t := by
  intro pins s σ H D I h
  refine wpAny_execs_cons (thn (h1 pins s σ H D I h) fun f s1 q => ?_)
  cases f with
  | next => exact wpAny_execs_nil q
  | ret v => exact q
  | brk => exact q
  | cont => exact q
def tBreak : TS := fun D σ H => D.bk σ H
def tCont : TS := fun D σ H => D.ct σ H
theorem ps_pass : PS X (.Pass pos) tNext := fun _ _ σ H _ I h => wpAny_Pass ⟨σ, H, I, h⟩
theorem ps_break : PS X (.Break pos) tBreak := fun _ _ σ H _ I h => wpAny_Break ⟨σ, H, I, h⟩
theorem ps_continue : PS X (.Continue pos) tCont := fun _ _ σ H _ I h => wpAny_Continue ⟨σ, H, I, h⟩
/-- in a def's body nothing is shown -/
theorem Inv.quiet {pins : List (Addr × Obj)} {σ : St} {H : Hp} {s : Shared} (I : Inv X pins σ H s) : interactive X.env = false := by simp [interactive, I.ok.kind]
/-- a docstring -/
theorem ps_doc {x j pos pos'} : PS X (.Expr (.Constant (.str x) j pos) pos') tNext := fun _ s σ H _ I h => wpAny_Expr (Calls.Constant_str (show SP X _ _ .next { s with toks := s.toks + 1 } from ⟨σ, H, I.tok _, h⟩)) I.quiet
/-- an expression whose value is dropped -/
def tDrop (te : TE) : TS := fun D σ H => te σ H fun _ H1 => D.nx σ H1
theorem ps_expr (he : PE X e te) (hs : swapsWith e none pos.line X.env = pure false := by rfl) : PS X (.Expr e pos) (tDrop te) := by
  intro pins s σ H D I h
  exact wpAny_Expr_any (thn (he pins s σ H _ I h) fun v s1 ⟨x, H1, I1, r1, q1⟩ => ⟨σ, H1, I1, q1⟩) I.quiet hs
def tRet (te : TE) : TS := fun D σ H => te σ H D.rt
theorem ps_ret (he : PE X e te) : PS X (.Return (some e) pos) (tRet te) := by
  intro pins s σ H D I h
  exact wpAny_Return_some (thn (he pins s σ H _ I h) fun v s1 ⟨x, H1, I1, r1, q1⟩ => ⟨x, σ, H1, I1, r1, q1⟩)
def tRetN : TS := fun D _ H => D.rt .non H
theorem ps_retN : PS X (.Return none pos) tRetN := fun _ _ σ H _ I h => wpAny_Return_none ⟨.non, σ, H, I, rfl, h⟩
def tIfS (c : TT) (t u : TS) : TS := fun D σ H => c σ H fun b H1 => if b = true then t D σ H1 else u D σ H1
theorem ps_if {c : Expr} {a b : List Stmt} {tc : TT} (hc : PT X c tc) (ha : PSs X a t) (hb : PSs X b u) : PS X (.If c a b pos) (tIfS tc t u) := by
  intro pins s σ H D I h
  refine wpAny_If (thn (hc pins s σ H _ I h) fun d s1 ⟨H1, I1, q1⟩ => ?_)
  cases d with
  | true => exact ha pins s1 σ H1 D I1 q1
  | false => exact hb pins s1 σ H1 D I1 q1
/-- code that the proof never comes to -/
def tNever : TS := fun _ _ _ => False
theorem ps_never : PS X st tNever := fun _ _ _ _ _ _ h => h.elim
theorem pss_never {sts : List Stmt} : PSs X sts tNever := fun _ _ _ _ _ _ h => h.elim
end

/-! ### targets -/
abbrev TG := V → St → Hp → (St → Hp → Prop) → Prop
abbrev TGs := List V → St → Hp → (St → Hp → Prop) → Prop
def PG (X : Cx) (target : Expr) (t : TG) : Prop :=
  ∀ (pins : List (Addr × Obj)) (s : Shared) (σ : St) (H : Hp) (v : V) (u : Value) (Q : St → Hp → Prop), Inv X pins σ H s → RelV v u → t v σ H Q →
    wpAny (model X.prog X.w) X.A (assign target X.env u) (fun _ s' => ∃ σ' H', Inv X pins σ' H' s' ∧ Q σ' H') X.xe s
/-- several targets, one after another -/
def PGs (X : Cx) (ts : List Expr) (t : TGs) : Prop :=
  ∀ (pins : List (Addr × Obj)) (s : Shared) (σ : St) (H : Hp) (vs : List V) (us : List Value) (Q : St → Hp → Prop), Inv X pins σ H s → Vals vs us → t vs σ H Q →
    wpAny (model X.prog X.w) X.A (assignInOrder ((assignEach ts X.env).map (·.2)) us) (fun _ s' => ∃ σ' H', Inv X pins σ' H' s' ∧ Q σ' H') X.xe s
/-- o[i] = v, by values -/
abbrev TSet := V → V → V → Hp → (Hp → Prop) → Prop
def PSet (X : Cx) (t : TSet) : Prop :=
  ∀ (pins : List (Addr × Obj)) (s : Shared) (σ : St) (H : Hp) (o i v : V) (ov iv u : Value) (Q : Hp → Prop), Inv X pins σ H s → RelV o ov → RelV i iv → RelV v u → t o i v H Q →
    wpAny (model X.prog X.w) X.A (setItem ov iv u) (fun _ s' => ∃ H', Inv X pins σ H' s' ∧ Q H') X.xe s
/-- a op= b, by values -/
abbrev TIp := V → V → Hp → VK → Prop
def PIp (X : Cx) (op : Operator) (t : TIp) : Prop :=
  ∀ (pins : List (Addr × Obj)) (s : Shared) (σ : St) (H : Hp) (x y : V) (v u : Value) (Q : VK), Inv X pins σ H s → RelV x v → RelV y u → t x y H Q →
    wpAny (model X.prog X.w) X.A (inplaceOp op v u) (EP X pins σ Q) X.xe s
section
variable {X : Cx} {pos : Pos}
def gName (i : Nat) : TG := fun v σ H Q => Q (σ.set i (some v)) H
theorem pg_name {i : Nat} {x : Str} (hN : X.N.Nodup) (hi : X.N[i]? = some x) (hx : Loc X.env.scope x) (hf : X.fn x = true ∨ X.env.scope.names.lookup x = some .local := by first | exact .inl rfl | exact .inr rfl | assumption) : PG X (.Name x pos) (gName i) := by
  intro pins s σ H v u Q I r h
  exact wpAny_assign_Name (store_ok I hN hi hx r (fun s' I' => ⟨_, H, I', h⟩) hf)
def gNil : TGs := fun vs σ H Q => vs = [] ∧ Q σ H
def gCons (t : TG) (u : TGs) : TGs := fun vs σ H Q => ∃ v r, vs = v :: r ∧ t v σ H fun σ' H' => u r σ' H' Q
theorem pgs_nil : PGs X [] gNil := by
  intro pins s σ H vs us Q I r h
  obtain ⟨e, h⟩ := h
  subst e
  cases r
  exact assignInOrder_nil ⟨σ, H, I, h⟩
theorem pgs_cons {e : Expr} {es : List Expr} {t : TG} {u : TGs} (h1 : PG X e t) (h2 : PGs X es u)
    (hs : (assignEach (e :: es) X.env).map (·.2) = assign e X.env :: (assignEach es X.env).map (·.2) := by rfl) : PGs X (e :: es) (gCons t u) := by
  intro pins s σ H vs us Q I r h
  obtain ⟨v, vr, e1, h⟩ := h
  subst e1
  cases r with
  | cons r rr =>
    rw [hs]
    refine assignInOrder_cons (thn (h1 pins s σ H _ _ _ I r h) fun _ s1 ⟨σ1, H1, I1, q1⟩ => ?_)
    exact h2 pins s1 σ1 H1 _ _ Q I1 rr q1
/-- (a, b, ..) = a tuple of that length -/
def gTup (K : PySem.W.Frag) (n : Nat) (t : TGs) : TG := fun v σ H Q => ∃ a xs, v = .ref a ∧ SqT K H a xs ∧ xs.length = n ∧ t xs σ H Q
theorem pg_tup {es : List Expr} {k : Nat} {t : TGs} {n : Nat} (hc : X.calm = true) (h : PGs X es t)
    (hn : (assignEach es X.env).length = n := by rfl) (hst : (assignEach es X.env).findIdx? (·.1) = none := by rfl) : PG X (.Tuple es k pos) (gTup X.K n t) := by
  intro pins s σ H v u Q I r hw
  obtain ⟨a, xs, e1, hq, hl, hw⟩ := hw
  subst e1
  cases r
  obtain ⟨its, rv, ht, hz⟩ := I.tuple hq
  refine assign_Tuple_tuple (I.ok.hd hc) ht (by simp [hn, ← hl, rv.length]) hst fun h' hx => ?_
  have I1 : Inv X pins σ H { s with heap := h' } := I.kept (t' := s.toks) fun b o e => hx b o (Nat.ne_of_lt (Heap.lt_size e)) e
  exact h pins _ σ H xs _ Q I1 (by simpa using rv) hw
/-- o[i] = .. -/
def gSub (to ti : TE) (t : TSet) : TG := fun v σ H Q => to σ H fun o H1 => ti σ H1 fun i H2 => t o i v H2 fun H3 => Q σ H3
theorem pg_sub {o i : Expr} {to ti : TE} {t : TSet} (ho : PE X o to) (hi : PE X i ti) (hs : PSet X t)
    (ha : ∀ v, assign (.Subscript o i pos) X.env v = (do
      let ov ← holding [v] (eval o X.env)
      let iv ← holding [v, ov] (eval i X.env)
      standAt pos
      holding [v, ov, iv] (setItem ov iv v)
      release [v, ov, iv] []) := by intro _; rfl) : PG X (.Subscript o i pos) (gSub to ti t) := by
  intro pins s σ H v u Q I r h
  rw [ha]
  refine wpAny_bind (wpAny_holding (thn (ho pins s σ H _ I h) fun ov s1 ⟨x, H1, I1, r1, q1⟩ => ?_))
  refine wpAny_bind (wpAny_holding (thn (hi pins s1 σ H1 _ I1 q1) fun iv s2 ⟨y, H2, I2, r2, q2⟩ => ?_))
  refine wpAny_bind (wpAny_standAt (wpAny_bind (wpAny_holding (thn (hs pins s2 σ H2 x y v ov iv u _ I2 r1 r2 r q2) fun _ s3 ⟨H3, I3, q3⟩ => ?_))))
  exact wpAny_release ⟨σ, H3, I3, q3⟩
/-- target = value -/
def tAsg (te : TE) (g : TG) : TS := fun D σ H => te σ H fun x H1 => g x σ H1 D.nx
theorem ps_asg {tg e : Expr} {te : TE} {g : TG} (he : PE X e te) (hg : PG X tg g) (hs : swapsWithSole [tg] e pos.line X.env = pure false := by rfl) (hw : swappedStores [tg] e X.env = pure none := by rfl)
    (h1 : (assignEach [tg] X.env).map (·.2) = [assign tg X.env] := by rfl) : PS X (.Assign [tg] e pos) (tAsg te g) := by
  intro pins s σ H D I h
  refine wpAny_Assign_stores (thn (he pins s σ H _ I h) fun v s1 ⟨x, H1, I1, r1, q1⟩ => ?_) hs hw
  rw [h1]
  exact thn (hg pins s1 σ H1 x v _ I1 r1 q1) fun _ s2 q => q
/-- name = value -/
theorem ps_set {i : Nat} {x : Str} {e : Expr} {te : TE} {pos' : Pos} (hN : X.N.Nodup) (hi : X.N[i]? = some x) (hx : Loc X.env.scope x) (he : PE X e te) (hs : swapsWith e (some (.Name x pos')) pos.line X.env = pure false := by rfl) (hf : X.fn x = true ∨ X.env.scope.names.lookup x = some .local := by first | exact .inl rfl | exact .inr rfl | assumption) :
    PS X (.Assign [.Name x pos'] e pos) (tAsg te (gName i)) := by
  intro pins s σ H D I h
  refine wpAny_Assign_Name (thn (he pins s σ H _ I h) fun v s1 ⟨y, H1, I1, r1, q1⟩ => ?_) hs
  exact store_ok I1 hN hi hx r1 (fun s2 I2 => ⟨_, H1, I2, q1⟩) hf
/-- a, b = x, y with plain local names: stored from the right; the pair itself is not tracked (the opening rows as in PyProof/Rows/TupAssign.lean:23) -/
def tPar (i j : Nat) (ta : TA) : TS := fun D σ H => ta σ H fun vs H1 => ∃ v w, vs = [v, w] ∧ D.nx ((σ.set i (some v)).set j (some w)) H1
theorem ps_par {i j : Nat} {x y : Str} {a b : Expr} {ta : TA} {px py pt : Pos} {kt k2 pt2} (hc : X.calm = true) (hN : X.N.Nodup) (hi : X.N[i]? = some x) (hj : X.N[j]? = some y) (hij : i ≠ j)
    (hx : X.env.scope.names.lookup x = some .local) (hy : X.env.scope.names.lookup y = some .local) (ha : PA X [a, b] ta)
    (hw : swappedStores [.Tuple [.Name x px, .Name y py] kt pt] (.Tuple [a, b] k2 pt2) X.env = pure (some [x, y]))
    (hs : swapsWithSole [.Tuple [.Name x px, .Name y py] kt pt] (.Tuple [a, b] k2 pt2) pos.line X.env = pure false := by rfl) :
    PS X (.Assign [.Tuple [.Name x px, .Name y py] kt pt] (.Tuple [a, b] k2 pt2) pos) (tPar i j ta) := by
  intro pins s σ H D I h
  rw [exec_Assign_arm]
  refine wpAny_bind (wpAny_standAt ?_)
  rw [hs]
  refine wpAny_bind (wpAny_pure ?_)
  rw [if_neg (by decide)]
  refine wpAny_bind (Tuple_ (thn (ha _ pins s σ H _ I h) fun us s1 ⟨vs, H1, I1, r1, q1⟩ => ?_))
  obtain ⟨v, w, e1, q1⟩ := q1
  subst e1
  obtain ⟨u1, u2, rfl, rv, rw'⟩ : ∃ u1 u2, us = [u1, u2] ∧ RelV v u1 ∧ RelV w u2 := by
    cases r1 with
    | cons p q =>
      cases q with
      | cons p' q' =>
        cases q'
        exact ⟨_, _, rfl, p, p'⟩
  refine wpAny_newObj_type ?_ (by show 2 ≤ sizeLine; decide)
  have I2 : Inv X pins σ H1 { s1 with heap := s1.heap.push { cls := .type "tuple", data := .seq [u1, u2].toArray } } := I1.kept (t' := s1.toks) fun b o e => Heap.get?_push_of_some _ e
  rw [hw]
  refine wpAny_bind (wpAny_pure ?_)
  show wpAny (model X.prog X.w) X.A (do rule "assign.swapped-stores"; let items ← unpackItems (.ref s1.heap.objs.size) 2 none; assignInOrder [fun v => bindName X.env y v, fun v => bindName X.env x v] items.reverse; pure Flow.next) _ _ _
  refine wpAny_bind (wpAny_rule (wpAny_bind (unpackItems_tuple (items := #[u1, u2]) (I.ok.hd hc) (IsTup.new s1.heap _) fun h' hx' => ?_)))
  have I3 := I2.kept (h' := h') (t' := s1.toks) fun b o e => hx' b o (Nat.ne_of_lt (Heap.lt_size e)) e
  show wpAny _ _ (assignInOrder [fun v => bindName X.env y v, fun v => bindName X.env x v] [u2, u1] >>= fun _ => pure Flow.next) _ _ _
  refine wpAny_bind (assignInOrder_cons (wpAny_bindName (store_ok I3 hN hj (.inl hy) rw' (fun s2 I4 => ?_) (.inr hy))))
  refine assignInOrder_cons (wpAny_bindName (store_ok I4 hN hi (.inl hx) rv (fun s3 I5 => assignInOrder_nil (wpAny_pure ?_)) (.inr hx)))
  rw [List.set_comm _ _ (Ne.symm hij)] at I5
  exact ⟨_, H1, I5, q1⟩
/-- name op= e -/
def tAug (i : Nat) (te : TE) (ti : TIp) : TS := fun D σ H => ∃ x, σ[i]? = some (some x) ∧ te σ H fun y H1 => ti x y H1 fun z H2 => D.nx (σ.set i (some z)) H2
theorem ps_aug {i : Nat} {x : Str} {e : Expr} {te : TE} {op : Operator} {ti : TIp} {pos' : Pos} (hN : X.N.Nodup) (hi : X.N[i]? = some x) (hx : Loc X.env.scope x) (he : PE X e te) (ho : PIp X op ti) (hf : X.fn x = true ∨ X.env.scope.names.lookup x = some .local := by first | exact .inl rfl | exact .inr rfl | assumption) :
    PS X (.AugAssign (.Name x pos') op e pos) (tAug i te ti) := by
  intro pins s σ H D I h
  obtain ⟨v, e1, h⟩ := h
  obtain ⟨m, hn, hl⟩ := I.loc
  have vis : Vis X.env.scope x := by rcases hx with k | k; exact .inl k; exact .inr (.inl k)
  obtain ⟨u, r, l⟩ := hl i x v hi e1 vis
  refine wpAny_AugAssign_Name ?_
  have go : wpAny (model X.prog X.w) X.A (eval e X.env) (fun w s₂ => wpAny (model X.prog X.w) X.A (inplaceOp op u w) (fun r s₃ => wpAny (model X.prog X.w) X.A (storeName X.env x r) (fun _ => SP X pins D .next) X.xe s₃) X.xe s₂) X.xe s := by
    refine thn (he pins s σ H _ I h) fun w s1 ⟨y, H1, I1, r1, q1⟩ => ?_
    refine thn (ho pins s1 σ H1 v y u w _ I1 r r1 q1) fun z s2 ⟨zv, H2, I2, r2, q2⟩ => ?_
    exact store_ok I2 hN hi hx r2 (fun s3 I3 => ⟨_, H2, I3, q2⟩) hf
  rcases l with ⟨hk, hm⟩ | ⟨hk, c, hc, hcell⟩
  · exact wpAny_loadName_local I.ok.kind hk hn hm go
  · rcases hk with hk | hk
    · exact wpAny_loadName_cell I.ok.kind hk hc hcell go
    · rcases hx with k | k
      · have : X.env.scope.names.lookup x = some .free := hk
        rw [k] at this; cases this
      · have : X.env.scope.names.lookup x = some .free := hk
        rw [k] at this; cases this
/-- o[i] op= e -/
def tAugS (to ti te : TE) (tget : V → V → Hp → VK → Prop) (tip : TIp) (tset : TSet) : TS := fun D σ H => to σ H fun o H1 => ti σ H1 fun i H2 => tget o i H2 fun x H3 => te σ H3 fun y H4 => tip x y H4 fun z H5 => tset o i z H5 fun H6 => D.nx σ H6
/-- o[i], by values -/
def PGet (X : Cx) (t : V → V → Hp → VK → Prop) : Prop :=
  ∀ (pins : List (Addr × Obj)) (s : Shared) (σ : St) (H : Hp) (o i : V) (ov iv : Value) (Q : VK), Inv X pins σ H s → RelV o ov → RelV i iv → t o i H Q →
    wpAny (model X.prog X.w) X.A (getItem ov iv) (EP X pins σ Q) X.xe s
theorem ps_augS {o i e : Expr} {to ti te : TE} {tget : V → V → Hp → VK → Prop} {tip : TIp} {tset : TSet} {op : Operator} {tpos : Pos} (ho : PE X o to) (hi : PE X i ti) (hg : PGet X tget) (he : PE X e te) (hp : PIp X op tip) (hs : PSet X tset)
    (ha : ∀ ov iv new, augStore i ov iv new = (do holding [new, ov, iv] (setItem ov iv new); release [new, ov, iv] []; pure .next) := by intros; rfl) : PS X (.AugAssign (.Subscript o i tpos) op e pos) (tAugS to ti te tget tip tset) := by
  intro pins s σ H D I h
  refine wpAny_AugAssign_SubscriptAny (thn (ho pins s σ H _ I h) fun ov s1 ⟨x1, H1, I1, r1, q1⟩ => ?_) ha
  refine thn (hi pins s1 σ H1 _ I1 q1) fun iv s2 ⟨x2, H2, I2, r2, q2⟩ => ?_
  refine thn (hg pins s2 σ H2 x1 x2 ov iv _ I2 r1 r2 q2) fun old s3 ⟨x3, H3, I3, r3, q3⟩ => ?_
  refine thn (he pins s3 σ H3 _ I3 q3) fun v s4 ⟨x4, H4, I4, r4, q4⟩ => ?_
  refine thn (hp pins s4 σ H4 x3 x4 old v _ I4 r3 r4 q4) fun new s5 ⟨x5, H5, I5, r5, q5⟩ => ?_
  exact thn (hs pins s5 σ H5 x1 x2 x5 ov iv new _ I5 r1 r2 r5 q5) fun _ s6 ⟨H6, I6, q6⟩ => ⟨σ, H6, I6, q6⟩
/-- ints -/
def ipI (f : Int → Int → Int) : TIp := fun x y H Q => ∃ i j, x = .int i ∧ y = .int j ∧ Q (.int (f i j)) H
theorem ip_add : PIp X .Add (ipI fun i j => i + j) := by
  intro pins s σ H x y v u Q I r1 r2 h
  obtain ⟨i, j, e1, e2, q⟩ := h
  subst e1; subst e2
  obtain ⟨t, rfl⟩ := r1
  obtain ⟨t', rfl⟩ := r2
  exact iadd_int ⟨.int _, H, I.tok _, ⟨_, rfl⟩, q⟩
theorem ip_sub : PIp X .Sub (ipI fun i j => i - j) := by
  intro pins s σ H x y v u Q I r1 r2 h
  obtain ⟨i, j, e1, e2, q⟩ := h
  subst e1; subst e2
  obtain ⟨t, rfl⟩ := r1
  obtain ⟨t', rfl⟩ := r2
  exact isub_int ⟨.int _, H, I.tok _, ⟨_, rfl⟩, q⟩
end

/-! ### while -/
section
variable {X : Cx} {pos : Pos}
/-- the invariant W with its measure -/
def tWhile (c : TT) (tb : TS) : TS := fun D σ H => ∃ W : Nat → St → Hp → Prop, (∃ m, W m σ H) ∧ ∀ m σ H, W m σ H →
  c σ H fun b H1 => if b = true then ∃ N : St → Hp → Prop, (∀ σ' H', N σ' H' → ∃ m', m' < m ∧ W m' σ' H') ∧ tb { D with nx := N, ct := N, bk := D.nx } σ H1 else D.nx σ H1
theorem ps_while {c : Expr} {body : List Stmt} {tc : TT} {tb : TS} (hp : PassesOwn (model X.prog X.w) X.A X.env X.xe) (hc : PT X c tc) (hb : PSs X body tb) : PS X (.While c body [] pos) (tWhile tc tb) := by
  intro pins s σ H D I h
  obtain ⟨W, ⟨m0, w0⟩, turn⟩ := h
  refine wpAny_While (codeAny_whileLoop (fun n s' => ∃ σ' H', Inv X pins σ' H' s' ∧ W n σ' H') ?_ m0 ⟨σ, H, I, w0⟩)
  rintro n s1 ⟨σ1, H1, I1, w1⟩
  refine wpAny_passesOwn hp (thn (hc pins s1 σ1 H1 _ I1 (turn n σ1 H1 w1)) fun b s2 ⟨H2, I2, q2⟩ => ?_)
  cases b with
  | true =>
    obtain ⟨N, hN, q2⟩ := q2
    rw [if_pos rfl]
    refine wpAny_passesOwn hp (thn (hb pins s2 σ1 H2 _ I2 q2) fun f s3 q3 => ?_)
    cases f with
    | next =>
      obtain ⟨σ3, H3, I3, n3⟩ := q3
      obtain ⟨m', hm, w3⟩ := hN σ3 H3 n3
      exact ⟨m', hm, σ3, H3, I3, w3⟩
    | cont =>
      obtain ⟨σ3, H3, I3, n3⟩ := q3
      obtain ⟨m', hm, w3⟩ := hN σ3 H3 n3
      exact ⟨m', hm, σ3, H3, I3, w3⟩
    | brk => exact q3
    | ret v => exact q3
  | false =>
    rw [if_neg Bool.false_ne_true]
    exact wpAny_execs_nil ⟨σ1, H2, I2, q2⟩
end

/-! ### what a loop or a comprehension walks -/
/-- at turn i: it yields x (the heap may grow), or it stops -/
structure It where
  go : Nat → Hp → Prop
  yld : Nat → Hp → V → Hp → Prop
  stop : Nat → Hp → Prop
/-- the iterator's own objects may turn: they are not the frame's, not pinned, younger than the entry (or a comprehension's own) -/
def FpOk (X : Cx) (pins : List (Addr × Obj)) (H : Hp) (b : Addr) : Prop :=
  H b = none ∧ b ≠ X.env.locals ∧ b ∉ X.fs ∧ (b ∈ X.ex ∨ X.s₀.heap.objs.size ≤ b) ∧ (∀ x c, X.env.cells.lookup x = some c → c ≠ b) ∧ ∀ p ∈ X.pn ++ pins, p.1 ≠ b
theorem Inv.fpOk {X : Cx} {pins : List (Addr × Obj)} {σ : St} {H H' : Hp} {s : Shared} {b : Addr} (I : Inv X pins σ H s) (hb : s.heap.objs.size ≤ b) (hn : H' b = none) : FpOk X pins H' b := by
  refine ⟨hn, Nat.ne_of_gt (Nat.lt_of_lt_of_le I.lt hb), I.nofs hb, .inr (Nat.le_trans I.sz hb), fun x c e z => ?_, fun p hp z => ?_⟩
  · obtain ⟨v, q⟩ := I.cell x c e
    exact absurd (Nat.lt_of_lt_of_le q.lt (by rw [z]; exact hb)) (Nat.lt_irrefl _)
  · exact absurd (Nat.lt_of_lt_of_le (Heap.lt_size (I.pin p hp).1) (by rw [z]; exact hb)) (Nat.lt_irrefl _)
structure Turn (P : Program) (w : World) (K : PySem.W.Frag) (tg : Expr) (J : It) (fp : List Addr) (it : Addr) (tn : Nat → Heap → Prop) : Prop where
  mem : it ∈ fp
  obj : ∀ i h, tn i h → ∀ b ∈ fp, ∃ o, h.get? b = some o ∧ ∀ v, o.data ≠ .cell v
  keep : ∀ i h h', tn i h → (∀ b ∈ fp, ∀ o, h.get? b = some o → h'.get? b = some o) → tn i h'
  item : ∀ (X : Cx), X.prog = P → X.w = w → X.K = K → X.calm = true → ∀ (i : Nat) (pins : List (Addr × Obj)) (s : Shared) (σ : St) (H : Hp) (E : Value → Shared → Prop), Inv X pins σ H s → (∀ b ∈ fp, FpOk X pins H b) → tn i s.heap → J.go i H →
    wpAny (model P w) X.A (pyNext (.ref it)) (fun r s1 => ∃ u, r = some u ∧
      wpAny (model P w) X.A (letOwnedTupleGo tg (.ref it) u) (fun _ s2 => ∃ x H', Inv X pins σ H' s2 ∧ RelV x u ∧ J.yld i H x H' ∧ tn (i + 1) s2.heap ∧ ∀ b ∈ fp, H' b = none) E s1) E s
  done : ∀ (X : Cx), X.prog = P → X.w = w → X.K = K → X.calm = true → ∀ (i : Nat) (pins : List (Addr × Obj)) (s : Shared) (σ : St) (H : Hp) (E : Value → Shared → Prop), Inv X pins σ H s → (∀ b ∈ fp, FpOk X pins H b) → tn i s.heap → J.stop i H →
    wpAny (model P w) X.A (pyNext (.ref it)) (fun r s1 => r = none ∧ Inv X pins σ H s1) E s
  self : ∀ (A : Around) (i : Nat) (s : Shared) (Q : Value → Shared → Prop) (E : Value → Shared → Prop), tn i s.heap → Q (.ref it) s → wpAny (model P w) A (pyIter (.ref it)) Q E s
abbrev TI := St → Hp → (It → Hp → Prop) → Prop
/-- an iterator has come -/
def PIE (X : Cx) (pins : List (Addr × Obj)) (σ : St) (tg : Expr) (R : It → Hp → Prop) (itv : Value) (s2 : Shared) : Prop :=
  ∃ (it : Addr) (fp : List Addr) (tn : Nat → Heap → Prop) (J : It) (H' : Hp), itv = .ref it ∧ Inv X pins σ H' s2 ∧ Turn X.prog X.w X.K tg J fp it tn ∧ tn 0 s2.heap ∧ (∀ b ∈ fp, FpOk X pins H' b) ∧ R J H'
def PI (X : Cx) (tg iter : Expr) (wi : TI) : Prop :=
  ∀ (pins : List (Addr × Obj)) (s : Shared) (σ : St) (H : Hp) (R : It → Hp → Prop), Inv X pins σ H s → wi σ H R →
    wpAny (model X.prog X.w) X.A (eval iter X.env) (fun v s1 => wpAny (model X.prog X.w) X.A (pyIter v) (PIE X pins σ tg R) X.xe s1) X.xe s

/-- the step ahead of the store is nothing for an iterator that keeps no tuple -/
theorem go_of {M : Model} {A : Around} {E : Value → Shared → Prop} {s : Shared} {tg : Expr} {it : Addr} {u : Value} {o : Obj} {n : String} {vs : Array Value} {Q : Unit → Shared → Prop} (ho : s.heap.get? it = some o) (hc : o.cls = .type n) (hd : o.data = .fields vs)
    (hn : ["enumerate", "zip", "dict_itemiterator", "dict_reverseitemiterator", "odict_iterator", "itertools.zip_longest", "itertools.pairwise"].contains n = false) (hQ : Q () s) : wpAny M A (letOwnedTupleGo tg (.ref it) u) Q E s := by
  unfold letOwnedTupleGo
  cases tg <;> first
    | exact wpAny_pure hQ
    | (cases u <;> first
        | exact wpAny_pure hQ
        | (refine wpAny_bind (wpAny_load ho ?_)
           rw [hc, hd]
           show wpAny M A (if (["enumerate", "zip", "dict_itemiterator", "dict_reverseitemiterator", "odict_iterator", "itertools.zip_longest", "itertools.pairwise"].contains n && vs[0]? == some (rawInt _)) = true then _ else _) Q E s
           rw [if_neg (by intro h; rw [hn, Bool.false_and] at h; cases h)]
           exact wpAny_pure hQ))

/-- the list at a, as it stands at each turn (a loop may append to it) -/
def Itl (K : PySem.W.Frag) (a : Addr) : It :=
  ⟨fun i H => ∃ xs x, SqL K H a xs ∧ xs[i]? = some x, fun i H x H' => H' = H ∧ ∀ xs, SqL K H a xs → xs[i]? = some x, fun i H => ∃ xs, SqL K H a xs ∧ xs.length ≤ i⟩
def Itt (K : PySem.W.Frag) (a : Addr) : It :=
  ⟨fun i H => ∃ xs x, SqT K H a xs ∧ xs[i]? = some x, fun i H x H' => H' = H ∧ ∀ xs, SqT K H a xs → xs[i]? = some x, fun i H => ∃ xs, SqT K H a xs ∧ xs.length ≤ i⟩
/-- lo, lo + 1, .. (n of them) -/
def Itr (lo : Int) (n : Nat) : It := ⟨fun i _ => i < n, fun i H x H' => H' = H ∧ x = .int (lo + i), fun i _ => n ≤ i⟩
theorem turn_list {P : Program} {w : World} {K : PySem.W.Frag} {tg : Expr} (a it : Addr) : Turn P w K tg (Itl K a) [it] it (fun i h => h.IsListIter it a i) where
  mem := by simp
  obj := fun i h st b hb => by
    have e : b = it := by simpa using hb
    subst e
    obtain ⟨o, e, c, d⟩ := st
    exact ⟨o, e, fun v z => by rw [d] at z; cases z⟩
  keep := fun i h h' st k => st.at fun o e => k it (by simp) o e
  item := by
    intro X hP hw hK hc i pins s σ H E I hf st hg
    subst hP hw hK
    obtain ⟨xs, x, hq, hx⟩ := hg
    obtain ⟨its, rv, p, hz⟩ := I.list hq
    obtain ⟨u, hu, ru⟩ := rv.get hx
    obtain ⟨f0, f1, f2, f3, f4, f5⟩ := hf it (by simp)
    refine wpAny_pyNext_list_item st p.isList (x := u) (by simpa using hu) fun h' st' sb => ?_
    have I1 : Inv X pins σ H { s with heap := h' } := I.turned (t' := s.toks) (fun b o hb e => (sb.2 b hb).trans e) f0 f1 f3 f4 f5
    obtain ⟨o, e, c, d⟩ := id st'
    exact ⟨u, rfl, go_of (s := { s with heap := h' }) e c d (by decide) ⟨x, H, I1, ru, ⟨rfl, fun ys hy => by rw [I.list_inj hy hq]; exact hx⟩, st', fun b hb => (hf b hb).1⟩⟩
  done := by
    intro X hP hw hK hc i pins s σ H E I hf st hg
    subst hP hw hK
    obtain ⟨xs, hq, hx⟩ := hg
    obtain ⟨its, rv, p, hz⟩ := I.list hq
    obtain ⟨f0, f1, f2, f3, f4, f5⟩ := hf it (by simp)
    have hl := rv.length
    exact wpAny_pyNext_list_end (I.ok.hd hc) st p.isList (by simp; omega) fun h' eb => ⟨rfl, I.turned (t' := s.toks) (fun b o hb e => eb b o hb e) f0 f1 f3 f4 f5⟩
  self := fun _ _ _ _ _ st h => wpAny_pyIter_listiter st h
theorem turn_tuple {P : Program} {w : World} {K : PySem.W.Frag} {tg : Expr} (a it : Addr) : Turn P w K tg (Itt K a) [it] it (fun i h => h.IsTupleIter it a i) where
  mem := by simp
  obj := fun i h st b hb => by
    have e : b = it := by simpa using hb
    subst e
    obtain ⟨o, e, c, d⟩ := st
    exact ⟨o, e, fun v z => by rw [d] at z; cases z⟩
  keep := fun i h h' st k => st.at fun o e => k it (by simp) o e
  item := by
    intro X hP hw hK hc i pins s σ H E I hf st hg
    subst hP hw hK
    obtain ⟨xs, x, hq, hx⟩ := hg
    obtain ⟨its, rv, p, hz⟩ := I.tuple hq
    obtain ⟨u, hu, ru⟩ := rv.get hx
    obtain ⟨f0, f1, f2, f3, f4, f5⟩ := hf it (by simp)
    refine wpAny_pyNext_tuple_item st (show s.heap.IsTuple a its.toArray from p) (x := u) (by simpa using hu) fun h' st' sb => ?_
    have I1 : Inv X pins σ H { s with heap := h' } := I.turned (t' := s.toks) (fun b o hb e => (sb.2 b hb).trans e) f0 f1 f3 f4 f5
    obtain ⟨o, e, c, d⟩ := id st'
    exact ⟨u, rfl, go_of (s := { s with heap := h' }) e c d (by decide) ⟨x, H, I1, ru, ⟨rfl, fun ys hy => by rw [I.tuple_inj hy hq]; exact hx⟩, st', fun b hb => (hf b hb).1⟩⟩
  done := by
    intro X hP hw hK hc i pins s σ H E I hf st hg
    subst hP hw hK
    obtain ⟨xs, hq, hx⟩ := hg
    obtain ⟨its, rv, p, hz⟩ := I.tuple hq
    obtain ⟨f0, f1, f2, f3, f4, f5⟩ := hf it (by simp)
    have hl := rv.length
    exact wpAny_pyNext_tuple_end (I.ok.hd hc) st (show s.heap.IsTuple a its.toArray from p) (by simp; omega) fun h' eb => ⟨rfl, I.turned (t' := s.toks) (fun b o hb e => eb b o hb e) f0 f1 f3 f4 f5⟩
  self := fun _ _ _ _ _ st h => wpAny_pyIter_tupleiter st h
theorem turn_range {P : Program} {w : World} {K : PySem.W.Frag} {tg : Expr} (it : Addr) (lo : Int) (n : Nat) : Turn P w K tg (Itr lo n) [it] it (fun i h => IsRangeIter h it (lo + (i : Nat) * 1) ((n : Int) - (i : Nat)) 1) where
  mem := by simp
  obj := fun i h st b hb => by
    have e : b = it := by simpa using hb
    subst e
    exact ⟨_, st, fun v z => by
      have z' : Data.fields _ = Data.cell v := z
      cases z'⟩
  keep := fun i h h' st k => k it (by simp) _ st
  item := by
    intro X hP hw hK hc i pins s σ H E I hf st hg
    subst hP hw hK
    obtain ⟨f0, f1, f2, f3, f4, f5⟩ := hf it (by simp)
    have W := Walks.range (prog := X.prog) (w := X.w) (I.ok.hd hc) it lo 1 n
    refine W.item i s _ _ hg st fun v h' tk hv st' kk => ?_
    obtain ⟨t, rfl⟩ := hv
    have I1 : Inv X pins σ H { s with heap := h', toks := tk } := I.turned (fun b o hb e => kk b o (by simpa using hb) e) f0 f1 f3 f4 f5
    refine ⟨_, rfl, go_of (s := { s with heap := h', toks := tk }) (n := "range_iterator") st' rfl rfl (by decide) ⟨.int (lo + i), H, I1, ⟨t, ?_⟩, ⟨rfl, rfl⟩, st', fun b hb => (hf b hb).1⟩⟩
    rw [Int.mul_one]
  done := by
    intro X hP hw hK hc i pins s σ H E I hf st hg
    subst hP hw hK
    obtain ⟨f0, f1, f2, f3, f4, f5⟩ := hf it (by simp)
    exact wpAny_pyNext_range_end (I.ok.hd hc) st (by have : n ≤ i := hg; omega) fun h' eb => ⟨rfl, I.turned (t' := s.toks) (fun b o hb e => eb b o hb e) f0 f1 f3 f4 f5⟩
  self := fun _ _ _ _ _ st h => wpAny_pyIter_rangeiter st h
end L2

namespace L2
open PySem PySem.Spec PyProof.Rows
section
variable {X : Cx} {tg : Expr}
def iList (K : PySem.W.Frag) (tl : TE) : TI := fun σ H R => tl σ H fun x H1 => ∃ a, x = .ref a ∧ (∃ xs, SqL K H1 a xs) ∧ R (Itl K a) H1
def iTup (K : PySem.W.Frag) (tl : TE) : TI := fun σ H R => tl σ H fun x H1 => ∃ a, x = .ref a ∧ (∃ xs, SqT K H1 a xs) ∧ R (Itt K a) H1
theorem pi_list {l : Expr} {tl : TE} (hl : PE X l tl) : PI X tg l (iList X.K tl) := by
  intro pins s σ H R I h
  refine thn (hl pins s σ H _ I h) fun v s1 ⟨x, H1, I1, r1, q1⟩ => ?_
  obtain ⟨a, e, ⟨xs, hq⟩, q⟩ := q1
  subst e
  cases r1
  obtain ⟨its, rv, p, hz⟩ := I1.list hq
  refine wpAny_pyIter_list p.isList ?_
  refine ⟨s1.heap.objs.size, [s1.heap.objs.size], _, _, H1, rfl, I1.kept (t' := s1.toks) fun b o e => Heap.get?_push_of_some _ e, turn_list a _, ⟨_, Heap.get?_push_size _ rfl, rfl, rfl⟩, fun b hb => ?_, q⟩
  have e : b = s1.heap.objs.size := by simpa using hb
  subst e
  exact I1.fpOk (Nat.le_refl _) (I1.hok.fresh (Nat.le_refl _))
theorem pi_tup {l : Expr} {tl : TE} (hl : PE X l tl) : PI X tg l (iTup X.K tl) := by
  intro pins s σ H R I h
  refine thn (hl pins s σ H _ I h) fun v s1 ⟨x, H1, I1, r1, q1⟩ => ?_
  obtain ⟨a, e, ⟨xs, hq⟩, q⟩ := q1
  subst e
  cases r1
  obtain ⟨its, rv, p, hz⟩ := I1.tuple hq
  refine wpAny_pyIter_tuple (show s1.heap.IsTuple a its.toArray from p) ?_
  refine ⟨s1.heap.objs.size, [s1.heap.objs.size], _, _, H1, rfl, I1.kept (t' := s1.toks) fun b o e => Heap.get?_push_of_some _ e, turn_tuple a _, ⟨_, Heap.get?_push_size _ rfl, rfl, rfl⟩, fun b hb => ?_, q⟩
  have e : b = s1.heap.objs.size := by simpa using hb
  subst e
  exact I1.fpOk (Nat.le_refl _) (I1.hok.fresh (Nat.le_refl _))
/-- a range object just made, walked -/
theorem range_it {pins : List (Addr × Obj)} {σ : St} {H : Hp} {s : Shared} {R : It → Hp → Prop} {E : Value → Shared → Prop} {lo hi : Int} {t u v : Tok} {tk : Nat} (I : Inv X pins σ H s) (h1 : -(2 ^ 62) ≤ lo) (h2 : lo < 2 ^ 62) (h3 : -(2 ^ 62) ≤ hi) (h4 : hi < 2 ^ 62)
    (q : R (Itr lo (hi - lo).toNat) H) : wpAny (model X.prog X.w) X.A (pyIter (.ref s.heap.objs.size)) (PIE X pins σ tg R) E { s with heap := s.heap.push { cls := .type "range", data := .fields #[.int lo t, .int hi u, .int 1 v] }, toks := tk } := by
  refine wpAny_pyIter_range (IsRange.new ..) (small_one h1 h2 h3 h4) ?_
  have I1 : Inv X pins σ H { s with heap := s.heap.push { cls := .type "range", data := .fields #[.int lo t, .int hi u, .int 1 v] }, toks := tk } := I.kept fun b o e => Heap.get?_push_of_some _ e
  refine ⟨(s.heap.push { cls := .type "range", data := .fields #[.int lo t, .int hi u, .int 1 v] }).objs.size, [(s.heap.push { cls := .type "range", data := .fields #[.int lo t, .int hi u, .int 1 v] }).objs.size], _, _, H, rfl,
    I1.kept (t' := tk) fun b o e => Heap.get?_push_of_some _ e, turn_range _ lo (hi - lo).toNat, ?_, fun b hb => ?_, q⟩
  · have e1 : lo + ((0 : Nat) : Int) * 1 = lo := by simp
    have e2 : (((hi - lo).toNat : Nat) : Int) - ((0 : Nat) : Int) = Builtin.Range.rangeSize lo hi 1 := by rw [rangeSize_one]; split <;> omega
    show IsRangeIter _ _ (lo + ((0 : Nat) : Int) * 1) ((((hi - lo).toNat : Nat) : Int) - ((0 : Nat) : Int)) 1
    rw [e1, e2]
    exact Heap.get?_push_size _ rfl
  · have e : b = (s.heap.push { cls := .type "range", data := .fields #[.int lo t, .int hi u, .int 1 v] }).objs.size := by simpa using hb
    subst e
    exact I1.fpOk (Nat.le_refl _) (I1.hok.fresh (Nat.le_refl _))
def iRng1 (ta : TA) : TI := fun σ H R => ta σ H fun vs H1 => ∃ j : Int, vs = [.int j] ∧ -(2 ^ 62) ≤ j ∧ j < 2 ^ 62 ∧ R (Itr 0 j.toNat) H1
def iRng2 (ta : TA) : TI := fun σ H R => ta σ H fun vs H1 => ∃ i j : Int, vs = [.int i, .int j] ∧ (-(2 ^ 62) ≤ i ∧ i < 2 ^ 62 ∧ -(2 ^ 62) ≤ j ∧ j < 2 ^ 62) ∧ R (Itr i (j - i).toNat) H1
theorem pi_range1 {a : Expr} {ta : TA} {p pos : Pos} (hg : Gl X "range") (hm : X.mg "range" = none) (ha : PA X [a] ta) (hs : starEach [a] X.env = [(false, eval a X.env)] := by rfl) : PI X tg (.Call (.Name "range" p) [a] [] pos) (iRng1 ta) := by
  intro pins s σ H R I h
  refine Call_ (ld_blt I hg hm boot_range (PyProof.Rows.callWith_type1 (thn (ha pos pins s σ H _ I h) fun us s1 ⟨vs, H1, I1, r1, q1⟩ => ?_) hs rfl))
  obtain ⟨j, e, q1, q2, q⟩ := q1
  subst e
  cases r1 with
  | cons r rr =>
    cases rr
    obtain ⟨t, rfl⟩ := r
    exact call_range_1 (range_it I1 (by omega) (by omega) q1 q2 (by simpa using q))
theorem pi_range2 {a b : Expr} {ta : TA} {p pos : Pos} (hg : Gl X "range") (hm : X.mg "range" = none) (ha : PA X [a, b] ta) (hs : starEach [a, b] X.env = [(false, eval a X.env), (false, eval b X.env)] := by rfl) (hs2 : starEach [b] X.env = [(false, eval b X.env)] := by rfl) :
    PI X tg (.Call (.Name "range" p) [a, b] [] pos) (iRng2 ta) := by
  intro pins s σ H R I h
  refine Call_ (ld_blt I hg hm boot_range (PyProof.Rows.callWith_type1 (thn (ha pos pins s σ H _ I h) fun us s1 ⟨vs, H1, I1, r1, q1⟩ => ?_) (by rw [hs, hs2]) (by rw [hs2]; rfl)))
  obtain ⟨i, j, e, ⟨q1, q2, q3, q4⟩, q⟩ := q1
  subst e
  cases r1 with
  | cons r rr =>
    cases rr with
    | cons r' rr =>
      cases rr
      obtain ⟨t, rfl⟩ := r
      obtain ⟨t', rfl⟩ := r'
      exact call_range_2 (range_it I1 q1 q2 q3 q4 q)

/-! ### for -/
/-- W: the invariant by the turn and a measure; N: what the body is to reach -/
def tFor (wi : TI) (g : TG) (tb : TS) : TS := fun D σ H => wi σ H fun J H1 => ∃ W : Nat → Nat → St → Hp → Prop, (∃ m, W 0 m σ H1) ∧ ∀ i m σ H, W i m σ H →
  (J.stop i H ∧ D.nx σ H) ∨ (J.go i H ∧ ∃ N : St → Hp → Prop, (∀ σ' H', N σ' H' → ∃ m', m' < m ∧ W (i + 1) m' σ' H') ∧ ∀ x H', J.yld i H x H' → g x σ H' fun σ2 H2 => tb { D with nx := N, ct := N, bk := D.nx } σ2 H2)
/-- the records at fp as they stand -/
def pinsAt (fp : List Addr) (h : Heap) : List (Addr × Obj) := fp.filterMap fun b => (h.get? b).map fun o => (b, o)
theorem mem_pinsAt {fp : List Addr} {h : Heap} {b : Addr} {o : Obj} (hb : b ∈ fp) (e : h.get? b = some o) : (b, o) ∈ pinsAt fp h := List.mem_filterMap.mpr ⟨b, hb, by rw [e]; rfl⟩
theorem of_pinsAt {fp : List Addr} {h : Heap} {p : Addr × Obj} (hp : p ∈ pinsAt fp h) : p.1 ∈ fp ∧ h.get? p.1 = some p.2 := by
  obtain ⟨b, hb, e⟩ := List.mem_filterMap.mp hp
  cases q : h.get? b with
  | none => rw [q] at e; cases e
  | some o =>
    rw [q] at e
    have e' : (b, o) = p := Option.some.inj e
    subst e'
    exact ⟨hb, q⟩
theorem Inv.pinned {pins : List (Addr × Obj)} {σ : St} {H : Hp} {s : Shared} {fp : List Addr} (I : Inv X pins σ H s) (hf : ∀ b ∈ fp, FpOk X pins H b) (ho : ∀ b ∈ fp, ∃ o, s.heap.get? b = some o ∧ ∀ v, o.data ≠ .cell v) : Inv X (pins ++ pinsAt fp s.heap) σ H s :=
  I.pins_of fun p hp => (List.mem_append.mp hp).elim (fun z => I.pin p (List.mem_append_right _ z)) fun z => by
    obtain ⟨hb, e⟩ := of_pinsAt z
    obtain ⟨f0, f1, f2, _⟩ := hf p.1 hb
    obtain ⟨o, e', d⟩ := ho p.1 hb
    rw [e] at e'; cases e'
    exact ⟨e, f0, f1, f2, d⟩
theorem Inv.unpinned {pins pl : List (Addr × Obj)} {σ : St} {H : Hp} {s : Shared} (I : Inv X (pins ++ pl) σ H s) : Inv X pins σ H s := I.pins_of fun p hp => I.pin p (List.mem_append_right _ (List.mem_append_left _ hp))
theorem ps_for {iter : Expr} {body : List Stmt} {wi : TI} {g : TG} {tb : TS} {pos : Pos} (hp : PassesOwn (model X.prog X.w) X.A X.env X.xe) (hc : X.calm = true) (hi : PI X tg iter wi) (hg : PG X tg g) (hb : PSs X body tb)
    (hs : ∀ x, foldedSetIterable iter X.env x = pure x := by intro _; rfl) : PS X (.For tg iter body [] pos) (tFor wi g tb) := by
  intro pins s σ H D I h
  refine wpAny_For (thn (hi pins s σ H _ I h) fun v s1 h1 => thn h1 fun itv s2 h2 => ?_) hs
  obtain ⟨it, fp, tn, J, H2, e, I2, T, st2, f2, W, ⟨m0, w0⟩, turn⟩ := h2
  subst e
  -- what stays true of the iterator's objects through the loop
  have stat : ∀ {H' : Hp}, (∀ b ∈ fp, H' b = none) → ∀ b ∈ fp, FpOk X pins H' b := fun hn b hb => ⟨hn b hb, (f2 b hb).2⟩
  refine codeAny_forLoop_any (fun n s' => ∃ i σ' H', Inv X pins σ' H' s' ∧ tn i s'.heap ∧ (∀ b ∈ fp, H' b = none) ∧ W i n σ' H') ?_ m0 ⟨0, σ, H2, I2, st2, fun b hb => (f2 b hb).1, w0⟩
  rintro n s3 ⟨i, σ3, H3, I3, st3, fr3, w3⟩
  rcases turn i n σ3 H3 w3 with ⟨stop, qn⟩ | ⟨go, N, hN, step⟩
  · refine wpAny_passesOwn hp (thn (T.done X rfl rfl rfl hc i pins s3 σ3 H3 X.xe I3 (stat fr3) st3 stop) fun r s4 ⟨hr, I4⟩ => ?_)
    subst hr
    exact wpAny_execs_nil ⟨σ3, H3, I4, qn⟩
  · refine wpAny_passesOwn hp (thn (T.item X rfl rfl rfl hc i pins s3 σ3 H3 X.xe I3 (stat fr3) st3 go) fun r s4 ⟨u, hr, h4⟩ => ?_)
    subst hr
    refine wpAny_passesOwn hp (thn h4 fun _ s5 ⟨x, H5, I5, r5, y5, st5, fr5⟩ => ?_)
    have I5' := I5.pinned (stat fr5) (T.obj _ _ st5)
    refine wpAny_passesOwn hp (thn (hg _ s5 σ3 H5 x u _ I5' r5 (step x H5 y5)) fun _ s6 ⟨σ6, H6, I6, q6⟩ => ?_)
    refine wpAny_passesOwn hp (thn (hb _ s6 σ6 H6 _ I6 q6) fun f s7 q7 => ?_)
    have again : ∀ {σ7 : St} {H7 : Hp}, Inv X (pins ++ pinsAt fp s5.heap) σ7 H7 s7 → N σ7 H7 → ∃ m, m < n ∧ ∃ i σ' H', Inv X pins σ' H' s7 ∧ tn i s7.heap ∧ (∀ b ∈ fp, H' b = none) ∧ W i m σ' H' := fun {σ7 H7} I7 n7 => by
      obtain ⟨m', hm, w7⟩ := hN σ7 H7 n7
      refine ⟨m', hm, i + 1, σ7, H7, I7.unpinned, T.keep _ _ _ st5 fun b hb o e => (I7.pin (b, o) (List.mem_append_right _ (List.mem_append_right _ (mem_pinsAt hb e)))).1, fun b hb => ?_, w7⟩
      obtain ⟨o, e, d⟩ := T.obj _ _ st5 b hb
      exact (I7.pin (b, o) (List.mem_append_right _ (List.mem_append_right _ (mem_pinsAt hb e)))).2.1
    cases f with
    | next => obtain ⟨σ7, H7, I7, n7⟩ := q7; exact again I7 n7
    | cont => obtain ⟨σ7, H7, I7, n7⟩ := q7; exact again I7 n7
    | brk => obtain ⟨σ7, H7, I7, q7⟩ := q7; exact ⟨σ7, H7, I7.unpinned, q7⟩
    | ret v => obtain ⟨x7, σ7, H7, I7, r7, q7⟩ := q7; exact ⟨x7, σ7, H7, I7.unpinned, r7, q7⟩
end

/-! ### the forms one uses -/
/-- over a list that the body leaves as it is -/
theorem for_list {K : PySem.W.Frag} {a : Addr} {xs : List V} {g : TG} {tb : TS} {D : Ends} {σ : St} {H : Hp} (Pv : Nat → St → Hp → Prop) (h0 : Pv 0 σ H) (hl : ∀ i σ H, i ≤ xs.length → Pv i σ H → SqL K H a xs)
    (hs : ∀ i x σ H, xs[i]? = some x → Pv i σ H → g x σ H fun σ2 H2 => tb { D with nx := Pv (i + 1), ct := Pv (i + 1), bk := D.nx } σ2 H2) (hd : ∀ σ H, Pv xs.length σ H → D.nx σ H) :
    ∃ W : Nat → Nat → St → Hp → Prop, (∃ m, W 0 m σ H) ∧ ∀ i m σ H, W i m σ H →
      ((Itl K a).stop i H ∧ D.nx σ H) ∨ ((Itl K a).go i H ∧ ∃ N : St → Hp → Prop, (∀ σ' H', N σ' H' → ∃ m', m' < m ∧ W (i + 1) m' σ' H') ∧ ∀ x H', (Itl K a).yld i H x H' → g x σ H' fun σ2 H2 => tb { D with nx := N, ct := N, bk := D.nx } σ2 H2) := by
  refine ⟨fun i m σ H => m = xs.length - i ∧ i ≤ xs.length ∧ Pv i σ H, ⟨xs.length, by simp, Nat.zero_le _, h0⟩, ?_⟩
  rintro i m σ H ⟨rfl, hi, p⟩
  have q := hl i σ H hi p
  by_cases hlt : i < xs.length
  · refine .inr ⟨⟨xs, xs[i], q, by simp [hlt]⟩, Pv (i + 1), fun σ' H' p' => ⟨xs.length - (i + 1), by omega, rfl, hlt, p'⟩, fun x H' y => ?_⟩
    obtain ⟨e, y⟩ := y
    subst e
    exact hs i x σ _ (y xs q) p
  · have e : i = xs.length := by omega
    subst e
    exact .inl ⟨⟨xs, q, Nat.le_refl _⟩, hd σ H p⟩
theorem for_tup {K : PySem.W.Frag} {a : Addr} {xs : List V} {g : TG} {tb : TS} {D : Ends} {σ : St} {H : Hp} (Pv : Nat → St → Hp → Prop) (h0 : Pv 0 σ H) (hl : ∀ i σ H, i ≤ xs.length → Pv i σ H → SqT K H a xs)
    (hs : ∀ i x σ H, xs[i]? = some x → Pv i σ H → g x σ H fun σ2 H2 => tb { D with nx := Pv (i + 1), ct := Pv (i + 1), bk := D.nx } σ2 H2) (hd : ∀ σ H, Pv xs.length σ H → D.nx σ H) :
    ∃ W : Nat → Nat → St → Hp → Prop, (∃ m, W 0 m σ H) ∧ ∀ i m σ H, W i m σ H →
      ((Itt K a).stop i H ∧ D.nx σ H) ∨ ((Itt K a).go i H ∧ ∃ N : St → Hp → Prop, (∀ σ' H', N σ' H' → ∃ m', m' < m ∧ W (i + 1) m' σ' H') ∧ ∀ x H', (Itt K a).yld i H x H' → g x σ H' fun σ2 H2 => tb { D with nx := N, ct := N, bk := D.nx } σ2 H2) := by
  refine ⟨fun i m σ H => m = xs.length - i ∧ i ≤ xs.length ∧ Pv i σ H, ⟨xs.length, by simp, Nat.zero_le _, h0⟩, ?_⟩
  rintro i m σ H ⟨rfl, hi, p⟩
  have q := hl i σ H hi p
  by_cases hlt : i < xs.length
  · refine .inr ⟨⟨xs, xs[i], q, by simp [hlt]⟩, Pv (i + 1), fun σ' H' p' => ⟨xs.length - (i + 1), by omega, rfl, hlt, p'⟩, fun x H' y => ?_⟩
    obtain ⟨e, y⟩ := y
    subst e
    exact hs i x σ _ (y xs q) p
  · have e : i = xs.length := by omega
    subst e
    exact .inl ⟨⟨xs, q, Nat.le_refl _⟩, hd σ H p⟩
theorem for_range {lo : Int} {n : Nat} {g : TG} {tb : TS} {D : Ends} {σ : St} {H : Hp} (Pv : Nat → St → Hp → Prop) (h0 : Pv 0 σ H)
    (hs : ∀ i σ H, i < n → Pv i σ H → g (.int (lo + i)) σ H fun σ2 H2 => tb { D with nx := Pv (i + 1), ct := Pv (i + 1), bk := D.nx } σ2 H2) (hd : ∀ σ H, Pv n σ H → D.nx σ H) :
    ∃ W : Nat → Nat → St → Hp → Prop, (∃ m, W 0 m σ H) ∧ ∀ i m σ H, W i m σ H →
      ((Itr lo n).stop i H ∧ D.nx σ H) ∨ ((Itr lo n).go i H ∧ ∃ N : St → Hp → Prop, (∀ σ' H', N σ' H' → ∃ m', m' < m ∧ W (i + 1) m' σ' H') ∧ ∀ x H', (Itr lo n).yld i H x H' → g x σ H' fun σ2 H2 => tb { D with nx := N, ct := N, bk := D.nx } σ2 H2) := by
  refine ⟨fun i m σ H => m = n - i ∧ i ≤ n ∧ Pv i σ H, ⟨n, by simp, Nat.zero_le _, h0⟩, ?_⟩
  rintro i m σ H ⟨rfl, hi, p⟩
  by_cases hlt : i < n
  · refine .inr ⟨hlt, Pv (i + 1), fun σ' H' p' => ⟨n - (i + 1), by omega, rfl, hlt, p'⟩, fun x H' y => ?_⟩
    obtain ⟨e, y⟩ := y
    subst e y
    exact hs i σ _ hlt p
  · have e : i = n := by omega
    subst e
    exact .inl ⟨Nat.le_refl _, hd σ H p⟩
/-- while, by a word and a measure of the state -/
theorem while_by {c : TT} {tb : TS} {D : Ends} {σ : St} {H : Hp} (Pv : St → Hp → Prop) (μ : St → Hp → Nat) (h0 : Pv σ H)
    (hs : ∀ σ H, Pv σ H → c σ H fun b H1 => if b = true then tb { D with nx := fun σ' H' => Pv σ' H' ∧ μ σ' H' < μ σ H, ct := fun σ' H' => Pv σ' H' ∧ μ σ' H' < μ σ H, bk := D.nx } σ H1 else D.nx σ H1)
    (mono : ∀ σ H Q Q', (∀ b H1, Q b H1 → Q' b H1) → c σ H Q → c σ H Q') : tWhile c tb D σ H := by
  refine ⟨fun m σ H => m = μ σ H ∧ Pv σ H, ⟨_, rfl, h0⟩, ?_⟩
  rintro m σ H ⟨rfl, p⟩
  refine mono σ H _ _ (fun b H1 q => ?_) (hs σ H p)
  cases b with
  | true => exact ⟨_, fun σ' H' ⟨p', l⟩ => ⟨_, l, rfl, p'⟩, q⟩
  | false => exact q
end L2

namespace L2
open PySem PySem.Spec PyProof.Rows

abbrev R2 := V → V → Hp → VK → Prop
/-- a two-place operation on values: f is binaryOp op, inplaceOp op or compareOp op -/
def OpR (X : Cx) (f : Value → Value → Sem Value) (r : R2) : Prop :=
  ∀ (pins : List (Addr × Obj)) (s : Shared) (σ : St) (H : Hp) (x y : V) (v u : Value) (Q : VK), Inv X pins σ H s → RelV x v → RelV y u → r x y H Q →
    wpAny (model X.prog X.w) X.A (f v u) (EP X pins σ Q) X.xe s
/-- a one-place operation -/
def UnR (X : Cx) (f : Value → Sem Value) (r : V → Hp → VK → Prop) : Prop :=
  ∀ (pins : List (Addr × Obj)) (s : Shared) (σ : St) (H : Hp) (x : V) (v : Value) (Q : VK), Inv X pins σ H s → RelV x v → r x H Q →
    wpAny (model X.prog X.w) X.A (f v) (EP X pins σ Q) X.xe s
/-- a call of a value that is known (a builtin, a type) with values -/
def CallR (X : Cx) (f : Value) (r : List V → Hp → VK → Prop) : Prop :=
  ∀ (pins : List (Addr × Obj)) (s : Shared) (σ : St) (H : Hp) (xs : List V) (us : List Value) (Q : VK), Inv X pins σ H s → Vals xs us → r xs H Q →
    wpAny (model X.prog X.w) X.A (call f us) (EP X pins σ Q) X.xe s
/-- a value's truth -/
def TruR (X : Cx) (r : V → Hp → (Bool → Hp → Prop) → Prop) : Prop :=
  ∀ (pins : List (Addr × Obj)) (s : Shared) (σ : St) (H : Hp) (x : V) (v : Value) (Q : Bool → Hp → Prop), Inv X pins σ H s → RelV x v → r x H Q →
    wpAny (model X.prog X.w) X.A (truthy v) (TP X pins σ Q) X.xe s

def tOp (r : R2) (ta tb : TE) : TE := fun σ H Q => ta σ H fun x H1 => tb σ H1 fun y H2 => r x y H2 Q
def tUn (r : V → Hp → VK → Prop) (ta : TE) : TE := fun σ H Q => ta σ H fun x H1 => r x H1 Q
/-- ints in, under C, and a value out -/
def rI (C : Int → Int → Prop) (g : Int → Int → V) : R2 := fun x y H Q => ∃ i j, x = .int i ∧ y = .int j ∧ C i j ∧ Q (g i j) H
def rI0 (g : Int → Int → V) : R2 := fun x y H Q => ∃ i j, x = .int i ∧ y = .int j ∧ Q (g i j) H
def rU (g : Int → V) : V → Hp → VK → Prop := fun x H Q => ∃ i, x = .int i ∧ Q (g i) H

section
variable {X : Cx} {a b c : Expr} {ta tb tc : TE} {pos : Pos}

theorem binT (ha : PE X a ta) (hb : PE X b tb) {pins : List (Addr × Obj)} {s : Shared} {σ : St} {H : Hp} {R : V → V → Hp → Prop} (I : Inv X pins σ H s)
    (h : ta σ H fun x H1 => tb σ H1 fun y H2 => R x y H2) {Q : Value → Shared → Prop} {f : Value → Value → Sem Value}
    (hf : ∀ v u s2 x y H2, Inv X pins σ H2 s2 → RelV x v → RelV y u → R x y H2 → wpAny (model X.prog X.w) X.A (f v u) Q X.xe s2) :
    wpAny (model X.prog X.w) X.A (eval a X.env) (fun v s₁ => wpAny (model X.prog X.w) X.A (eval b X.env) (fun u s₂ => wpAny (model X.prog X.w) X.A (f v u) Q X.xe s₂) X.xe s₁) X.xe s := by
  refine thn (ha pins s σ H _ I h) fun v s1 ⟨x, H1, I1, r1, q1⟩ => ?_
  refine thn (hb pins s1 σ H1 _ I1 q1) fun u s2 ⟨y, H2, I2, r2, q2⟩ => ?_
  exact hf v u s2 x y H2 I2 r1 r2 q2

theorem pe_op {op : Operator} {r : R2} (ho : OpR X (binaryOp op) r) (ha : PE X a ta) (hb : PE X b tb) : PE X (.BinOp a op b pos) (tOp r ta tb) := by
  intro pins s σ H Q I h
  exact wpAny_BinOp (binT ha hb I h fun v u s2 x y H2 I2 rx ry q => ho pins s2 σ H2 x y v u Q I2 rx ry q)
theorem pe_un {op : UnaryOp} {r : V → Hp → VK → Prop} (ho : UnR X (unaryOp op) r) (ha : PE X a ta) : PE X (.UnaryOp op a pos) (tUn r ta) := by
  intro pins s σ H Q I h
  exact UnaryOp_ (thn (ha pins s σ H _ I h) fun v s1 ⟨x, H1, I1, r1, q1⟩ => ho pins s1 σ H1 x v Q I1 r1 q1)
/-- a op= e at a name: the name's slot i -/
theorem augR {op : Operator} {r : R2} (ho : OpR X (inplaceOp op) r) {pins : List (Addr × Obj)} {s : Shared} {σ : St} {H : Hp} {x y : V} {v u : Value} {Q : VK} (I : Inv X pins σ H s)
    (rx : RelV x v) (ry : RelV y u) (q : r x y H Q) : wpAny (model X.prog X.w) X.A (inplaceOp op v u) (EP X pins σ Q) X.xe s := ho pins s σ H x y v u Q I rx ry q

/-! ### ints -/
theorem opI {f : Value → Value → Sem Value} {C : Int → Int → Prop} {g : Int → Int → Int}
    (rule : ∀ (i j : Int) (t u : Tok) (s : Shared) (Q : Value → Shared → Prop) (E : Value → Shared → Prop), C i j → Q (.int (g i j) s.toks) { s with toks := s.toks + 1 } → wpAny (model X.prog X.w) X.A (f (.int i t) (.int j u)) Q E s) :
    OpR X f (rI C fun i j => .int (g i j)) := by
  intro pins s σ H x y v u Q I rx ry h
  obtain ⟨i, j, rfl, rfl, hc, q⟩ := h
  obtain ⟨t, rfl⟩ := rx
  obtain ⟨t', rfl⟩ := ry
  exact rule i j t t' s _ _ hc ⟨.int (g i j), H, I.tok _, ⟨_, rfl⟩, q⟩
theorem opI0 {f : Value → Value → Sem Value} {g : Int → Int → Int}
    (rule : ∀ (i j : Int) (t u : Tok) (s : Shared) (Q : Value → Shared → Prop) (E : Value → Shared → Prop), Q (.int (g i j) s.toks) { s with toks := s.toks + 1 } → wpAny (model X.prog X.w) X.A (f (.int i t) (.int j u)) Q E s) :
    OpR X f (rI0 fun i j => .int (g i j)) := by
  intro pins s σ H x y v u Q I rx ry h
  obtain ⟨i, j, rfl, rfl, q⟩ := h
  obtain ⟨t, rfl⟩ := rx
  obtain ⟨t', rfl⟩ := ry
  exact rule i j t t' s _ _ ⟨.int (g i j), H, I.tok _, ⟨_, rfl⟩, q⟩
theorem opB0 {f : Value → Value → Sem Value} {g : Int → Int → Bool}
    (rule : ∀ (i j : Int) (t u : Tok) (s : Shared) (Q : Value → Shared → Prop) (E : Value → Shared → Prop), Q (.bool (g i j)) s → wpAny (model X.prog X.w) X.A (f (.int i t) (.int j u)) Q E s) :
    OpR X f (rI0 fun i j => .bl (g i j)) := by
  intro pins s σ H x y v u Q I rx ry h
  obtain ⟨i, j, rfl, rfl, q⟩ := h
  obtain ⟨t, rfl⟩ := rx
  obtain ⟨t', rfl⟩ := ry
  exact rule i j t t' s _ _ ⟨.bl (g i j), H, I, rfl, q⟩

def CDiv (i j : Int) : Prop := 0 < j ∧ j < 1073741824
def CDivN (i j : Int) : Prop := j ≠ 0 ∧ j.natAbs < 1073741824
def CPow (i j : Int) : Prop := 0 ≤ j ∧ j ≤ 1000000 ∧ i.natAbs < 2 ^ 64
def CMul (i j : Int) : Prop := (-(2 ^ 64) < i ∧ i < 2 ^ 64) ∨ (-(2 ^ 64) < j ∧ j < 2 ^ 64)
theorem CMul.ok {i j : Int} (h : CMul i j) : IntMulOk i j := by
  rcases h with ⟨h1, h2⟩ | ⟨h1, h2⟩
  · exact .of_left (intBits_le_64 h1 h2)
  · exact .of_right (intBits_le_64 h1 h2)
theorem two_pow_nn (k : Nat) : (0 : Int) ≤ 2 ^ k := by
  rw [two_pow_cast]
  exact Int.natCast_nonneg _

theorem op_add : OpR X (binaryOp .Add) (rI0 fun i j => .int (i + j)) := opI0 fun _ _ _ _ _ _ _ q => add_int q
theorem op_sub : OpR X (binaryOp .Sub) (rI0 fun i j => .int (i - j)) := opI0 fun _ _ _ _ _ _ _ q => sub_int q
theorem op_mul : OpR X (binaryOp .Mult) (rI CMul fun i j => .int (i * j)) := opI fun _ _ _ _ _ _ _ hc q => mul_int q hc.ok
/-- // by a positive divisor -/
theorem op_fdiv : OpR X (binaryOp .FloorDiv) (rI CDiv fun i j => .int (i / j)) := opI fun i j _ _ _ _ _ hc q => by
  have h1 : (0 : Int) < j := hc.1
  have h2 : j < 1073741824 := hc.2
  exact floordiv_int (by omega) (by rw [Int.fdiv_eq_ediv_of_nonneg i (by omega)]; exact q) (.inl (PyProof.noPylong_small (by omega)))
theorem op_fdivN : OpR X (binaryOp .FloorDiv) (rI CDivN fun i j => .int (i.fdiv j)) := opI fun _ _ _ _ _ _ _ hc q => floordiv_int hc.1 q (.inl (PyProof.noPylong_small hc.2))
/-- % by a positive divisor of any size -/
theorem op_mod : OpR X (binaryOp .Mod) (rI (fun _ j => 0 < j) fun i j => .int (i % j)) := opI fun i j _ _ _ _ _ hc q => by
  have h1 : (0 : Int) < j := hc
  exact mod_int' (by omega) (by rw [Int.fmod_eq_emod_of_nonneg i (by omega)]; exact q)
theorem op_modN : OpR X (binaryOp .Mod) (rI (fun _ j => j ≠ 0) fun i j => .int (i.fmod j)) := opI fun _ _ _ _ _ _ _ hc q => mod_int' hc q
theorem op_pow : OpR X (binaryOp .Pow) (rI CPow fun i j => .int (i ^ j.toNat)) := opI fun _ _ _ _ _ _ _ hc q => pow_int_small hc.1 hc.2.1 hc.2.2 q
theorem op_shl : OpR X (binaryOp .LShift) (rI CPow fun i j => .int (i * 2 ^ j.toNat)) := opI fun _ _ _ _ _ _ _ hc q => lshift_int_small hc.1 hc.2.1 hc.2.2 q
theorem op_shr : OpR X (binaryOp .RShift) (rI (fun _ j => 0 ≤ j) fun i j => .int (i / 2 ^ j.toNat)) := opI fun i j _ _ _ _ _ hc q =>
  rshift_int hc (by rw [Int.fdiv_eq_ediv_of_nonneg i (two_pow_nn _)]; exact q)
theorem op_and : OpR X (binaryOp .BitAnd) (rI0 fun i j => .int (Builtin.bitAnd i j)) := opI0 fun _ _ _ _ _ _ _ q => and_int q
theorem op_or : OpR X (binaryOp .BitOr) (rI0 fun i j => .int (Builtin.bitOr i j)) := opI0 fun _ _ _ _ _ _ _ q => or_int q
theorem op_xor : OpR X (binaryOp .BitXor) (rI0 fun i j => .int (Builtin.bitXor i j)) := opI0 fun _ _ _ _ _ _ _ q => xor_int q

theorem iop_add : OpR X (inplaceOp .Add) (rI0 fun i j => .int (i + j)) := opI0 fun _ _ _ _ _ _ _ q => iadd_int q
theorem iop_sub : OpR X (inplaceOp .Sub) (rI0 fun i j => .int (i - j)) := opI0 fun _ _ _ _ _ _ _ q => isub_int q
theorem iop_mul : OpR X (inplaceOp .Mult) (rI CMul fun i j => .int (i * j)) := opI fun _ _ _ _ _ _ _ hc q => imul_int q hc.ok
theorem iop_fdiv : OpR X (inplaceOp .FloorDiv) (rI CDiv fun i j => .int (i / j)) := opI fun i j _ _ _ _ _ hc q => by
  have h1 : (0 : Int) < j := hc.1
  have h2 : j < 1073741824 := hc.2
  exact ifloordiv_int (by omega) (by rw [Int.fdiv_eq_ediv_of_nonneg i (by omega)]; exact q) (.inl (PyProof.noPylong_small (by omega)))
theorem iop_mod : OpR X (inplaceOp .Mod) (rI (fun _ j => 0 < j) fun i j => .int (i % j)) := opI fun i j _ _ _ _ _ hc q => by
  have h1 : (0 : Int) < j := hc
  exact imod_int (by omega) (by rw [Int.fmod_eq_emod_of_nonneg i (by omega)]; exact q)
theorem iop_shl : OpR X (inplaceOp .LShift) (rI CPow fun i j => .int (i * 2 ^ j.toNat)) := opI fun _ _ _ _ _ _ _ hc q => ilshift_int_small hc.1 hc.2.1 hc.2.2 q
theorem iop_shr : OpR X (inplaceOp .RShift) (rI (fun _ j => 0 ≤ j) fun i j => .int (i / 2 ^ j.toNat)) := opI fun i j _ _ _ _ _ hc q =>
  irshift_int hc (by rw [Int.fdiv_eq_ediv_of_nonneg i (two_pow_nn _)]; exact q)
theorem iop_and : OpR X (inplaceOp .BitAnd) (rI0 fun i j => .int (Builtin.bitAnd i j)) := opI0 fun _ _ _ _ _ _ _ q => iand_int q
theorem iop_or : OpR X (inplaceOp .BitOr) (rI0 fun i j => .int (Builtin.bitOr i j)) := opI0 fun _ _ _ _ _ _ _ q => ior_int q
theorem iop_xor : OpR X (inplaceOp .BitXor) (rI0 fun i j => .int (Builtin.bitXor i j)) := opI0 fun _ _ _ _ _ _ _ q => ixor_int q

theorem unI {f : Value → Sem Value} {g : Int → Int}
    (rule : ∀ (i : Int) (t : Tok) (s : Shared) (Q : Value → Shared → Prop) (E : Value → Shared → Prop), Q (.int (g i) s.toks) { s with toks := s.toks + 1 } → wpAny (model X.prog X.w) X.A (f (.int i t)) Q E s) :
    UnR X f (rU fun i => .int (g i)) := by
  intro pins s σ H x v Q I rx h
  obtain ⟨i, rfl, q⟩ := h
  obtain ⟨t, rfl⟩ := rx
  exact rule i t s _ _ ⟨.int (g i), H, I.tok _, ⟨_, rfl⟩, q⟩
theorem un_neg : UnR X (unaryOp .USub) (rU fun i => .int (-i)) := unI fun _ _ _ _ _ q => neg_int q
theorem un_inv : UnR X (unaryOp .Invert) (rU fun i => .int (Builtin.bitNot i)) := unI fun _ _ _ _ _ q => invert_int q

/-! ### bools among ints: n += (a < b) -/
theorem op_add_ib : OpR X (binaryOp .Add) (fun x y H Q => ∃ i k, x = .int i ∧ y = .bl k ∧ Q (.int (i + b2i k)) H) := by
  intro pins s σ H x y v u Q I rx ry h
  obtain ⟨i, k, rfl, rfl, q⟩ := h
  obtain ⟨t, rfl⟩ := rx
  cases ry
  exact add_int_bool ⟨.int (i + b2i k), H, I.tok _, ⟨_, rfl⟩, q⟩
end

/-! ### comparisons -/
/-- the scalars that == tells apart as data does -/
def scal : V → V → Bool
  | .non, .non => true | .non, .int _ => true | .int _, .non => true | .non, .bl _ => true | .bl _, .non => true | .non, .str _ => true | .str _, .non => true
  | .int _, .int _ => true | .bl _, .bl _ => true | .str _, .str _ => true | .byt _, .byt _ => true
  | .int _, .str _ => true | .str _, .int _ => true | .bl _, .str _ => true | .str _, .bl _ => true
  | _, _ => false
def rEq : R2 := fun x y H Q => scal x y = true ∧ Q (.bl (decide (x = y))) H
def rNe : R2 := fun x y H Q => scal x y = true ∧ Q (.bl (!decide (x = y))) H

theorem dec_int {i j : Int} : decide (V.int i = V.int j) = (i == j) := by
  rw [Bool.eq_iff_iff]
  simp
theorem dec_bl {i j : Bool} : decide (V.bl i = V.bl j) = (i == j) := by
  rw [Bool.eq_iff_iff]
  simp
theorem dec_str {i j : Str} : decide (V.str i = V.str j) = (i == j) := by
  rw [Bool.eq_iff_iff]
  simp
theorem dec_byt {i j : Array UInt8} : decide (V.byt i = V.byt j) = (i.toList == j.toList) := by
  rw [Bool.eq_iff_iff]
  cases i
  cases j
  simp

section
variable {X : Cx} {a b c : Expr} {ta tb tc : TE} {pos : Pos}
theorem fin_bl {pins : List (Addr × Obj)} {σ : St} {H : Hp} {s : Shared} {Q : VK} {k k' : Bool} (I : Inv X pins σ H s) (q : Q (.bl k) H) (e : k = k') : EP X pins σ Q (.bool k') s := by
  subst e
  exact ⟨.bl k, H, I, rfl, q⟩
theorem op_eq : OpR X (compareOp .Eq) rEq := by
  intro pins s σ H x y v u Q I rx ry h
  obtain ⟨hs, q⟩ := h
  cases x with
  | non =>
    cases rx
    cases y with
    | non => cases ry; exact PySem.EqNone.eq_none_none (fin_bl I q (by simp))
    | bl j => cases ry; exact PySem.EqNone.eq_none_bool (fin_bl I q (by simp))
    | int j => obtain ⟨t', rfl⟩ := ry; exact PySem.EqNone.eq_none_int (fin_bl I q (by simp))
    | str j => obtain ⟨t', rfl⟩ := ry; exact PySem.EqNone.eq_none_str (fin_bl I q (by simp))
    | _ => exact absurd (show false = true from hs) Bool.false_ne_true
  | bl i =>
    cases rx
    cases y with
    | non => cases ry; exact PySem.EqNone.eq_bool_none (fin_bl I q (by simp))
    | bl j => cases ry; exact eq_bool (fin_bl I q dec_bl)
    | str j => obtain ⟨t', rfl⟩ := ry; exact PySem.EqMixed.eq_bool_str (fin_bl I q (by simp))
    | _ => exact absurd (show false = true from hs) Bool.false_ne_true
  | int i =>
    obtain ⟨t, rfl⟩ := rx
    cases y with
    | non => cases ry; exact PySem.EqNone.eq_int_none (fin_bl I q (by simp))
    | int j => obtain ⟨t', rfl⟩ := ry; exact eq_int (fin_bl I q dec_int)
    | str j => obtain ⟨t', rfl⟩ := ry; exact PySem.EqMixed.eq_int_str (fin_bl I q (by simp))
    | _ => exact absurd (show false = true from hs) Bool.false_ne_true
  | str i =>
    obtain ⟨t, rfl⟩ := rx
    cases y with
    | non => cases ry; exact PySem.EqNone.eq_str_none (fin_bl I q (by simp))
    | bl j => cases ry; exact PySem.EqMixed.eq_str_bool (fin_bl I q (by simp))
    | int j => obtain ⟨t', rfl⟩ := ry; exact PySem.EqMixed.eq_str_int (fin_bl I q (by simp))
    | str j => obtain ⟨t', rfl⟩ := ry; exact eq_str (fin_bl I q dec_str)
    | _ => exact absurd (show false = true from hs) Bool.false_ne_true
  | byt i =>
    obtain ⟨t, rfl⟩ := rx
    cases y with
    | byt j => obtain ⟨t', rfl⟩ := ry; exact PySem.W.eq_bytes (fin_bl I q dec_byt)
    | _ => exact absurd (show false = true from hs) Bool.false_ne_true
  | _ => cases y <;> exact absurd (show false = true from hs) Bool.false_ne_true
theorem op_ne : OpR X (compareOp .NotEq) rNe := by
  intro pins s σ H x y v u Q I rx ry h
  obtain ⟨hs, q⟩ := h
  cases x with
  | non =>
    cases rx
    cases y with
    | non => cases ry; exact PySem.EqNone.ne_none_none (fin_bl I q (by simp))
    | bl j => cases ry; exact PySem.EqNone.ne_none_bool (fin_bl I q (by simp))
    | int j => obtain ⟨t', rfl⟩ := ry; exact PySem.EqNone.ne_none_int (fin_bl I q (by simp))
    | str j => obtain ⟨t', rfl⟩ := ry; exact PySem.EqNone.ne_none_str (fin_bl I q (by simp))
    | _ => exact absurd (show false = true from hs) Bool.false_ne_true
  | bl i =>
    cases rx
    cases y with
    | non => cases ry; exact PySem.EqNone.ne_bool_none (fin_bl I q (by simp))
    | bl j => cases ry; exact ne_bool (fin_bl I q (congrArg not dec_bl))
    | str j => obtain ⟨t', rfl⟩ := ry; exact PySem.EqMixed.ne_bool_str (fin_bl I q (by simp))
    | _ => exact absurd (show false = true from hs) Bool.false_ne_true
  | int i =>
    obtain ⟨t, rfl⟩ := rx
    cases y with
    | non => cases ry; exact PySem.EqNone.ne_int_none (fin_bl I q (by simp))
    | int j => obtain ⟨t', rfl⟩ := ry; exact ne_int (fin_bl I q (congrArg not dec_int))
    | str j => obtain ⟨t', rfl⟩ := ry; exact PySem.EqMixed.ne_int_str (fin_bl I q (by simp))
    | _ => exact absurd (show false = true from hs) Bool.false_ne_true
  | str i =>
    obtain ⟨t, rfl⟩ := rx
    cases y with
    | non => cases ry; exact PySem.EqNone.ne_str_none (fin_bl I q (by simp))
    | bl j => cases ry; exact PySem.EqMixed.ne_str_bool (fin_bl I q (by simp))
    | int j => obtain ⟨t', rfl⟩ := ry; exact PySem.EqMixed.ne_str_int (fin_bl I q (by simp))
    | str j => obtain ⟨t', rfl⟩ := ry; exact ne_str (fin_bl I q (congrArg not dec_str))
    | _ => exact absurd (show false = true from hs) Bool.false_ne_true
  | byt i =>
    obtain ⟨t, rfl⟩ := rx
    cases y with
    | byt j => obtain ⟨t', rfl⟩ := ry; exact PySem.W.ne_bytes (fin_bl I q (congrArg not dec_byt))
    | _ => exact absurd (show false = true from hs) Bool.false_ne_true
  | _ => cases y <;> exact absurd (show false = true from hs) Bool.false_ne_true

theorem op_lt : OpR X (compareOp .Lt) (rI0 fun i j => .bl (decide (i < j))) := opB0 fun _ _ _ _ _ _ _ q => lt_int q
theorem op_le : OpR X (compareOp .LtE) (rI0 fun i j => .bl (decide (i ≤ j))) := opB0 fun _ _ _ _ _ _ _ q => le_int q
theorem op_gt : OpR X (compareOp .Gt) (rI0 fun i j => .bl (decide (j < i))) := opB0 fun _ _ _ _ _ _ _ q => gt_int q
theorem op_ge : OpR X (compareOp .GtE) (rI0 fun i j => .bl (decide (j ≤ i))) := opB0 fun _ _ _ _ _ _ _ q => ge_int q
theorem op_lt_str : OpR X (compareOp .Lt) (fun x y H Q => ∃ i j, x = .str i ∧ y = .str j ∧ Q (.bl (decide (i.cps.toList < j.cps.toList))) H) := by
  intro pins s σ H x y v u Q I rx ry h
  obtain ⟨i, j, rfl, rfl, q⟩ := h
  obtain ⟨t, rfl⟩ := rx
  obtain ⟨t', rfl⟩ := ry
  exact lt_str (fin_bl I q rfl)
/-- the one string within the other -/
theorem op_in_str : OpR X (compareOp .In) (fun x y H Q => ∃ i j, x = .str i ∧ y = .str j ∧ Q (.bl (!(Builtin.Str.occurrences j i 0 j.length 1).isEmpty)) H) := by
  intro pins s σ H x y v u Q I rx ry h
  obtain ⟨i, j, rfl, rfl, q⟩ := h
  obtain ⟨t, rfl⟩ := rx
  obtain ⟨t', rfl⟩ := ry
  exact in_str (fin_bl I q rfl)

/-- is None, is not None: the right side a value none -/
theorem op_isN : OpR X (compareOp .Is) (fun x y H Q => y = .non ∧ Q (.bl (decide (x = .non))) H) := by
  intro pins s σ H x y v u Q I rx ry h
  obtain ⟨rfl, q⟩ := h
  cases ry
  refine is_none_gen (fin_bl I q ?_)
  cases x <;> first
    | (cases rx; rfl)
    | (obtain ⟨t, rfl⟩ := rx; rfl)
theorem op_notN : OpR X (compareOp .IsNot) (fun x y H Q => y = .non ∧ Q (.bl (!decide (x = .non))) H) := by
  intro pins s σ H x y v u Q I rx ry h
  obtain ⟨rfl, q⟩ := h
  cases ry
  refine isnot_none_gen (fin_bl I q ?_)
  cases x <;> first
    | (cases rx; rfl)
    | (obtain ⟨t, rfl⟩ := rx; rfl)

theorem op_notin_str : OpR X (compareOp .NotIn) (fun x y H Q => ∃ i j, x = .str i ∧ y = .str j ∧ Q (.bl (!(!(Builtin.Str.occurrences j i 0 j.length 1).isEmpty))) H) := by
  intro pins s σ H x y v u Q I rx ry h
  obtain ⟨i, j, rfl, rfl, q⟩ := h
  obtain ⟨t, rfl⟩ := rx
  obtain ⟨t', rfl⟩ := ry
  exact notIn_str (fin_bl I q rfl)
/-- is, is not of two objects that are tracked lists or instances -/
def isObj : HO → Bool
  | .lst _ => true
  | .ins _ _ _ => true
  | _ => false
theorem obj_there {pins : List (Addr × Obj)} {s : Shared} {σ : St} {H : Hp} {a : Addr} {o : HO} (I : Inv X pins σ H s) (h : H a = some o) (p : isObj o = true) : ∃ ob, s.heap.get? a = some ob ∧ ob.cls ≠ .type "tuple" := by
  cases o with
  | lst xs =>
    obtain ⟨_, its, n, _, e⟩ : xs.length ≤ sizeLine ∧ ∃ (its : List Value) (n : Nat), Vals xs its ∧ s.heap.get? a = some { cls := .type "list", data := .seq its.toArray n } := I.hok a _ h
    exact ⟨_, e, (by show Value.type "list" ≠ .type "tuple"; decide +kernel)⟩
  | ins C dx fs =>
    have x := I.hok a _ h
    obtain ⟨_, _, _, e, _⟩ := x
    exact ⟨_, e, (by show Value.ref C ≠ .type "tuple"; exact fun z => by cases z)⟩
  | _ => exact absurd (show false = true from p) Bool.false_ne_true
theorem op_is_ref : OpR X (compareOp .Is) (fun x y H Q => ∃ a b oa ob, x = .ref a ∧ y = .ref b ∧ H a = some oa ∧ isObj oa = true ∧ H b = some ob ∧ isObj ob = true ∧ Q (.bl (decide (a = b))) H) := by
  intro pins s σ H x y v u Q I rx ry h
  obtain ⟨a, b, oa, ob, rfl, rfl, ha, pa, hb, pb, q⟩ := h
  cases rx
  cases ry
  obtain ⟨o1, e1, n1⟩ := obj_there I ha pa
  obtain ⟨o2, e2, _⟩ := obj_there I hb pb
  by_cases z : a = b
  · subst z
    exact wpAny_is_ref_self (fin_bl I q (by simp))
  · exact wpAny_is_ref_other z e1 e2 n1 (fin_bl I q (by simp [z]))
theorem op_isnot_ref : OpR X (compareOp .IsNot) (fun x y H Q => ∃ a b oa ob, x = .ref a ∧ y = .ref b ∧ H a = some oa ∧ isObj oa = true ∧ H b = some ob ∧ isObj ob = true ∧ Q (.bl (!decide (a = b))) H) := by
  intro pins s σ H x y v u Q I rx ry h
  obtain ⟨a, b, oa, ob, rfl, rfl, ha, pa, hb, pb, q⟩ := h
  cases rx
  cases ry
  obtain ⟨o1, e1, n1⟩ := obj_there I ha pa
  obtain ⟨o2, e2, _⟩ := obj_there I hb pb
  by_cases z : a = b
  · subst z
    exact wpAny_isNot_ref_self (fin_bl I q (by simp))
  · exact wpAny_isNot_ref_other z e1 e2 n1 (fin_bl I q (by simp [z]))

/-- two rules for one operation: by cases -/
theorem OpR.or {f : Value → Value → Sem Value} {r r' : R2} (h : OpR X f r) (h' : OpR X f r') : OpR X f (fun x y H Q => r x y H Q ∨ r' x y H Q) := by
  intro pins s σ H x y v u Q I rx ry q
  rcases q with q | q
  · exact h pins s σ H x y v u Q I rx ry q
  · exact h' pins s σ H x y v u Q I rx ry q

theorem nomark (b : Expr) {op : CmpOp} (h : op ≠ .In := by decide) (h2 : op ≠ .NotIn := by decide) : behindInMarks op b = false := by
  have e1 : (op == CmpOp.In) = false := by cases op <;> first | rfl | exact absurd rfl h
  have e2 : (op == CmpOp.NotIn) = false := by cases op <;> first | rfl | exact absurd rfl h2
  cases b <;> simp [behindInMarks, e1, e2]
/-- a comparison as a value; hm: nomark b, or (for in, not in) by with_unfolding_all rfl -/
theorem pe_cmpR {op : CmpOp} {r : R2} (ho : OpR X (compareOp op) r) (ha : PE X a ta) (hb : PE X b tb) (hm : behindInMarks op b = false) : PE X (.Compare a [op] [b] pos) (tOp r ta tb) := by
  intro pins s σ H Q I h
  exact wpAny_Compare1 (binT ha hb I h fun v u s2 x y H2 I2 rx ry q => ho pins s2 σ H2 x y v u Q I2 rx ry q) hm
/-- a reading of a value as a test -/
def tTest (t : TE) : TT := fun σ H Q => t σ H fun x H' => ∃ k, x = .bl k ∧ Q k H'
theorem pt_cmpR {op : CmpOp} {r : R2} (ho : OpR X (compareOp op) r) (ha : PE X a ta) (hb : PE X b tb) (hm : behindInMarks op b = false) : PT X (.Compare a [op] [b] pos) (tTest (tOp r ta tb)) := by
  intro pins s σ H Q I h
  refine wpAny_isTrue_Compare1 (thn (ha pins s σ H _ I h) fun v s1 ⟨x, H1, I1, r1, q1⟩ => thn (hb pins s1 σ H1 _ I1 q1) fun u s2 ⟨y, H2, I2, r2, q2⟩ =>
    thn (ho pins s2 σ H2 x y v u _ I2 r1 r2 q2) fun c s3 ⟨z, H3, I3, r3, k, e, q3⟩ => ?_) hm
  subst e
  cases r3
  exact wpAny_truthy_bool ⟨H3, I3, q3⟩
/-- a op1 b op2 c -/
def tChain (r r' : R2) (ta tb tc : TE) : TE := fun σ H Q => ta σ H fun x H1 => tb σ H1 fun y H2 => r x y H2 fun z H3 => ∃ k, z = .bl k ∧
  (if k = true then tc σ H3 fun w' H4 => r' y w' H4 Q else Q (.bl false) H3)
theorem pe_chain {op op' : CmpOp} {r r' : R2} (ho : OpR X (compareOp op) r) (ho' : OpR X (compareOp op') r') (ha : PE X a ta) (hb : PE X b tb) (hc : PE X c tc)
    (hm : lastMarks [op, op'] [b, c] = false := by with_unfolding_all rfl) : PE X (.Compare a [op, op'] [b, c] pos) (tChain r r' ta tb tc) := by
  intro pins s σ H Q I h
  refine Compare_chain (thn (ha pins s σ H _ I h) fun v s1 ⟨x, H1, I1, r1, q1⟩ => chain_link (thn (hb pins s1 σ H1 _ I1 q1) fun u s2 ⟨y, H2, I2, r2, q2⟩ =>
    thn (ho pins s2 σ H2 x y v u _ I2 r1 r2 q2) fun d s3 ⟨z, H3, I3, r3, k, e, q3⟩ => ?_)) hm
  subst e
  cases r3
  refine wpAny_truthy_bool ?_
  cases k with
  | false => exact ite_ff ⟨.bl false, H3, I3, rfl, q3⟩
  | true => exact ite_tt (chain_last (thn (hc pins s3 σ H3 _ I3 q3) fun w' s4 ⟨z', H4, I4, r4, q4⟩ => ho' pins s4 σ H4 y z' u w' Q I4 r2 r4 q4))
theorem pt_chain {op op' : CmpOp} {r r' : R2} (ho : OpR X (compareOp op) r) (ho' : OpR X (compareOp op') r') (ha : PE X a ta) (hb : PE X b tb) (hc : PE X c tc)
    (hm : lastMarks [op, op'] [b, c] = false := by with_unfolding_all rfl) : PT X (.Compare a [op, op'] [b, c] pos) (tTest (tChain r r' ta tb tc)) := by
  intro pins s σ H Q I h
  refine isTrue_chain (thn (ha pins s σ H _ I h) fun v s1 ⟨x, H1, I1, r1, q1⟩ => test_link (thn (hb pins s1 σ H1 _ I1 q1) fun u s2 ⟨y, H2, I2, r2, q2⟩ =>
    thn (ho pins s2 σ H2 x y v u _ I2 r1 r2 q2) fun d s3 ⟨z, H3, I3, r3, k, e, q3⟩ => ?_)) hm
  subst e
  cases r3
  refine wpAny_truthy_bool ?_
  cases k with
  | false =>
    obtain ⟨k', e', q'⟩ := q3
    cases e'
    exact ite_ff ⟨H3, I3, q'⟩
  | true =>
    refine ite_tt (test_last (thn (hc pins s3 σ H3 _ I3 q3) fun w' s4 ⟨z', H4, I4, r4, q4⟩ => thn (ho' pins s4 σ H4 y z' u w' _ I4 r2 r4 q4) fun d' s5 ⟨z2, H5, I5, r5, k2, e2, q5⟩ => ?_))
    subst e2
    cases r5
    exact wpAny_truthy_bool ⟨H5, I5, q5⟩

/-! ### truth -/
/-- a value's truth by the abstract heap -/
def TruV (K : PySem.W.Frag) (x : V) (H : Hp) (k : Bool) : Prop :=
  match x with
  | .non => k = false
  | .bl b => k = b
  | .int i => k = (i != 0)
  | .str y => y.length ≤ sizeLine ∧ k = ((y.length : Int) != 0)
  | .byt y => y.size ≤ sizeLine ∧ k = ((y.size : Int) != 0)
  | .ref p => (∃ xs, SqL K H p xs ∧ k = !xs.isEmpty) ∨ (∃ xs, SqT K H p xs ∧ k = !xs.isEmpty) ∨ ∃ kvs, H p = some (.dK kvs) ∧ k = !kvs.isEmpty
  | _ => False
theorem isEmpty_kv {κ : Type} {kvs : List (κ × V)} {vs : List (κ × Value)} (r : KV kvs vs) : (!vs.isEmpty) = !kvs.isEmpty := by
  cases r <;> rfl
theorem isEmpty_of {xs : List V} {its : List Value} (r : Vals xs its) : (!its.toArray.isEmpty) = !xs.isEmpty := by
  cases r <;> simp
theorem line63 : (sizeLine : Nat) < 2 ^ 63 := by rw [sizeLine_eq]; decide
theorem tru_ok : TruR X (fun x H Q => ∃ k, TruV X.K x H k ∧ Q k H) := by
  intro pins s σ H x v Q I rx h
  obtain ⟨k, e, q⟩ := h
  have hl := line63
  have hs : sizeLine = 16777216 := sizeLine_eq
  cases x with
  | non =>
    cases rx
    have e' : k = false := e
    subst e'
    exact truthy_none ⟨H, I, q⟩
  | bl b =>
    cases rx
    have e' : k = b := e
    subst e'
    exact wpAny_truthy_bool ⟨H, I, q⟩
  | int i =>
    obtain ⟨t, rfl⟩ := rx
    have e' : k = (i != 0) := e
    subst e'
    exact PySem.P.truthy_int ⟨H, I, q⟩
  | str y =>
    obtain ⟨t, rfl⟩ := rx
    obtain ⟨hy, e'⟩ : y.length ≤ sizeLine ∧ k = ((y.length : Int) != 0) := e
    subst e'
    exact PySem.P.truthy_str (by omega) ⟨H, I.tok _, q⟩
  | byt y =>
    obtain ⟨t, rfl⟩ := rx
    obtain ⟨hy, e'⟩ : y.size ≤ sizeLine ∧ k = ((y.size : Int) != 0) := e
    subst e'
    exact PySem.W.truthy_bytes (by omega) ⟨H, I.tok _, q⟩
  | ref p =>
    cases rx
    have e' : (∃ xs, SqL X.K H p xs ∧ k = !xs.isEmpty) ∨ (∃ xs, SqT X.K H p xs ∧ k = !xs.isEmpty) ∨ ∃ kvs, H p = some (.dK kvs) ∧ k = !kvs.isEmpty := e
    rcases e' with ⟨xs, hx, e'⟩ | ⟨xs, hx, e'⟩ | ⟨kvs, hx, e'⟩
    · subst e'
      obtain ⟨its, r, pl, hz⟩ := I.list hx
      have hlen := r.length
      exact wpAny_truthy_list pl.isList (by simp only [List.size_toArray]; omega) ⟨H, I.tok _, by rw [isEmpty_of r]; exact q⟩
    · subst e'
      obtain ⟨its, r, pl, hz⟩ := I.tuple hx
      have hlen := r.length
      exact truthy_tuple pl (by simp only [List.size_toArray]; omega) ⟨H, I.tok _, by rw [isEmpty_of r]; exact q⟩
    · subst e'
      obtain ⟨hz, hS, vs, r, m⟩ : kvs.length ≤ sizeLine ∧ (p == sysModules) = false ∧ ∃ vs, KV kvs vs ∧ s.heap.DictOf (mixKind X.prog X.w) p vs := I.hok p _ hx
      have hlen : kvs.length = vs.length := Paired.length r
      exact wpAny_truthy_dict hS m (by omega) ⟨H, I.tok _, by rw [isEmpty_kv r]; exact q⟩
  | _ => exact (show False from e).elim
/-- any expression whose test is its value's truth (a name, a call, a subscript, a field ..: he by fun _ => rfl) -/
theorem pt_truth (ha : PE X a ta) (he : ∀ whole, isTrue a X.env whole = (do let v ← whole; standAt a.pos; holding [v] (truthy v))) :
    PT X a (fun σ H Q => ta σ H fun x H' => ∃ k, TruV X.K x H' k ∧ Q k H') := by
  intro pins s σ H Q I h
  exact isTrue_plain (thn (ha pins s σ H _ I h) fun v s1 ⟨x, H1, I1, r1, q1⟩ => tru_ok pins s1 σ H1 x v Q I1 r1 q1) (he _)

/-! ### strs and bytes -/
theorem pe_byt {x : List UInt8} {k : Nat} : PE X (.Constant (.bytes x) k pos) (fun _ H Q => Q (.byt x.toArray) H) := fun _ _ _ H _ I h => PySem.W.Constant_bytes ⟨.byt x.toArray, H, I.tok _, ⟨_, rfl⟩, h⟩
theorem op_add_str : OpR X (binaryOp .Add) (fun x y H Q => ∃ i j, x = .str i ∧ y = .str j ∧ i.length + j.length ≤ sizeLine ∧ Q (.str (i ++ j)) H) := by
  intro pins s σ H x y v u Q I rx ry h
  obtain ⟨i, j, rfl, rfl, hz, q⟩ := h
  obtain ⟨t, rfl⟩ := rx
  obtain ⟨t', rfl⟩ := ry
  exact add_str (fun t' tk => ⟨.str (i ++ j), H, I.tok _, ⟨_, rfl⟩, q⟩) hz
theorem iop_add_str : OpR X (inplaceOp .Add) (fun x y H Q => ∃ i j, x = .str i ∧ y = .str j ∧ i.length + j.length ≤ sizeLine ∧ Q (.str (i ++ j)) H) := by
  intro pins s σ H x y v u Q I rx ry h
  obtain ⟨i, j, rfl, rfl, hz, q⟩ := h
  obtain ⟨t, rfl⟩ := rx
  obtain ⟨t', rfl⟩ := ry
  exact iadd_str (fun t' tk => ⟨.str (i ++ j), H, I.tok _, ⟨_, rfl⟩, q⟩) hz
theorem op_add_byt : OpR X (binaryOp .Add) (fun x y H Q => ∃ i j, x = .byt i ∧ y = .byt j ∧ i.size + j.size ≤ 16777216 ∧ Q (.byt (i ++ j)) H) := by
  intro pins s σ H x y v u Q I rx ry h
  obtain ⟨i, j, rfl, rfl, hz, q⟩ := h
  obtain ⟨t, rfl⟩ := rx
  obtain ⟨t', rfl⟩ := ry
  exact PySem.W.KBy.add_bytes hz (fun t' tk => ⟨.byt (i ++ j), H, I.tok _, ⟨_, rfl⟩, q⟩)

def PlainIxT (b : Expr) : Prop := ∀ o i, subscripted b false o i = operate [o, i] (getItem o i)
/-- s[i], 0 ≤ i < len -/
theorem pe_item_str (ha : PE X a ta) (hb : PE X b tb) (hs : PlainIxT b) :
    PE X (.Subscript a b pos) (tOp (fun x y H Q => ∃ z i c, x = .str z ∧ y = .int i ∧ 0 ≤ i ∧ i < 2 ^ 63 ∧ i < z.length ∧ z.cps[i.toNat]? = some c ∧ Q (.str ⟨#[c]⟩) H) ta tb) := by
  intro pins s σ H Q I h
  refine Subscript_ (binT ha hb I h fun v u s2 x y H2 I2 rx ry q => ?_)
  obtain ⟨z, i, c, rfl, rfl, h0, h63, h1, hc, q⟩ := q
  obtain ⟨t, rfl⟩ := rx
  obtain ⟨t', rfl⟩ := ry
  have e : seqIndex? i z.length = some i.toNat := PySem.StrLaws.seqIndex_nonneg h0 h1
  exact tail_any (typeIs_str s2 z t) slot_str_getitem.lookup (getItem_str (c := c) (by
    have e1 : decide (i < -(2 ^ 63 : Int)) = false := decide_eq_false (by omega)
    have e2 : decide (i ≥ 2 ^ 63) = false := decide_eq_false (by omega)
    rw [e1, e2] <;> rfl) (by rw [e]; exact hc) ⟨.str ⟨#[c]⟩, H2, I2.tok _, ⟨_, rfl⟩, q⟩) (hs _ _)
/-- b[i], 0 ≤ i < len -/
theorem pe_item_byt (ha : PE X a ta) (hb : PE X b tb) (hs : PlainIxT b) :
    PE X (.Subscript a b pos) (tOp (fun x y H Q => ∃ (z : List UInt8) (i : Int), x = .byt z.toArray ∧ y = .int i ∧ z.length ≤ sizeLine ∧ 0 ≤ i ∧ i < z.length ∧ Q (.int ((z.getD i.toNat 0).toNat : Nat)) H) ta tb) := by
  intro pins s σ H Q I h
  refine Subscript_ (binT ha hb I h fun v u s2 x y H2 I2 rx ry q => ?_)
  obtain ⟨z, i, rfl, rfl, hz, h0, h1, q⟩ := q
  obtain ⟨t, rfl⟩ := rx
  obtain ⟨t', rfl⟩ := ry
  have hl : sizeLine = 16777216 := sizeLine_eq
  exact tail_any (PySem.W.typeIs_bytes s2 z.toArray t) PySem.W.FB.slot_bytes_getitem.lookup (PySem.W.getItem_bytes (by omega) h0 h1 ⟨.int ((z.getD i.toNat 0).toNat : Nat), H2, I2.tok _, ⟨_, rfl⟩, q⟩) (hs _ _)

/-! ### scalar builtins, by CallR -/
theorem vals1 {x : V} {us : List Value} (r : Vals [x] us) : ∃ u, us = [u] ∧ RelV x u := by
  cases r with
  | cons r1 r2 => cases r2; exact ⟨_, rfl, r1⟩
theorem vals2 {x y : V} {us : List Value} (r : Vals [x, y] us) : ∃ u w', us = [u, w'] ∧ RelV x u ∧ RelV y w' := by
  cases r with
  | cons r1 r2 =>
    cases r2 with
    | cons r3 r4 => cases r4; exact ⟨_, _, rfl, r1, r3⟩
theorem call_abs : CallR X (.builtin "abs") (fun xs H Q => ∃ i, xs = [.int i] ∧ Q (.int (if i < 0 then -i else i)) H) := by
  intro pins s σ H xs us Q I r h
  obtain ⟨i, rfl, q⟩ := h
  obtain ⟨u, rfl, t, rfl⟩ := vals1 r
  exact call_abs_int fun u tk => ⟨.int (if i < 0 then -i else i), H, I.tok _, ⟨_, rfl⟩, q⟩
theorem call_max2 (hc : X.calm = true) : CallR X (.builtin "max") (fun xs H Q => ∃ i j, xs = [.int i, .int j] ∧ Q (.int (if j > i then j else i)) H) := by
  intro pins s σ H xs us Q I r h
  obtain ⟨i, j, rfl, q⟩ := h
  obtain ⟨u, w', rfl, ⟨t, rfl⟩, ⟨t', rfl⟩⟩ := vals2 r
  refine max_two_ints (I.ok.hd hc) fun h' tk k => ⟨_, H, I.kept k, ?_, q⟩
  by_cases hj : j > i
  · rw [if_pos hj, if_pos hj]; exact ⟨_, rfl⟩
  · rw [if_neg hj, if_neg hj]; exact ⟨_, rfl⟩
theorem call_min2 (hc : X.calm = true) : CallR X (.builtin "min") (fun xs H Q => ∃ i j, xs = [.int i, .int j] ∧ Q (.int (if j < i then j else i)) H) := by
  intro pins s σ H xs us Q I r h
  obtain ⟨i, j, rfl, q⟩ := h
  obtain ⟨u, w', rfl, ⟨t, rfl⟩, ⟨t', rfl⟩⟩ := vals2 r
  refine min_two_ints (I.ok.hd hc) fun h' tk k => ⟨_, H, I.kept k, ?_, q⟩
  by_cases hj : j < i
  · rw [if_pos hj, if_pos hj]; exact ⟨_, rfl⟩
  · rw [if_neg hj, if_neg hj]; exact ⟨_, rfl⟩
theorem call_int1 : CallR X (.type "int") (fun xs H Q => (∃ i, xs = [.int i] ∧ Q (.int i) H) ∨ ∃ k, xs = [.bl k] ∧ Q (.int (if k then 1 else 0)) H) := by
  intro pins s σ H xs us Q I r h
  rcases h with ⟨i, rfl, q⟩ | ⟨k, rfl, q⟩
  · obtain ⟨u, rfl, t, rfl⟩ := vals1 r
    exact call_int_int ⟨.int i, H, I, ⟨_, rfl⟩, q⟩
  · obtain ⟨u, rfl, r1⟩ := vals1 r
    cases r1
    exact call_int_bool ⟨.int (if k then 1 else 0), H, I.tok _, ⟨_, rfl⟩, q⟩
theorem call_bool1 : CallR X (.type "bool") (fun xs H Q => (∃ i, xs = [.int i] ∧ Q (.bl (i != 0)) H) ∨ ∃ k, xs = [.bl k] ∧ Q (.bl k) H) := by
  intro pins s σ H xs us Q I r h
  rcases h with ⟨i, rfl, q⟩ | ⟨k, rfl, q⟩
  · obtain ⟨u, rfl, t, rfl⟩ := vals1 r
    exact call_bool_int ⟨.bl (i != 0), H, I, rfl, q⟩
  · obtain ⟨u, rfl, r1⟩ := vals1 r
    cases r1
    exact call_bool_bool ⟨.bl k, H, I, rfl, q⟩
theorem call_str_int : CallR X (.type "str") (fun xs H Q => ∃ i, xs = [.int i] ∧ i.natAbs.log2 < 1920 ∧ Q (.str (toString i)) H) := by
  intro pins s σ H xs us Q I r h
  obtain ⟨i, rfl, hz, q⟩ := h
  obtain ⟨u, rfl, t, rfl⟩ := vals1 r
  exact PySem.P.str_of_int hz ⟨.str _, H, I.tok _, ⟨_, rfl⟩, q⟩
theorem call_ord : CallR X (.builtin "ord") (fun xs H Q => ∃ x, xs = [.str x] ∧ x.length = 1 ∧ Q (.int (x.cps.getD 0 0 : Nat)) H) := by
  intro pins s σ H xs us Q I r h
  obtain ⟨x, rfl, hz, q⟩ := h
  obtain ⟨u, rfl, t, rfl⟩ := vals1 r
  exact ord_of_one hz ⟨.int _, H, I.tok _, ⟨_, rfl⟩, q⟩
theorem call_chr : CallR X (.builtin "chr") (fun xs H Q => ∃ i, xs = [.int i] ∧ 0 ≤ i ∧ i ≤ 1114111 ∧ Q (.str ⟨#[i.toNat]⟩) H) := by
  intro pins s σ H xs us Q I r h
  obtain ⟨i, rfl, h0, h1, q⟩ := h
  obtain ⟨u, rfl, t, rfl⟩ := vals1 r
  exact chr_of_range h0 h1 ⟨.str _, H, I.tok _, ⟨_, rfl⟩, q⟩
/-- len of a str, a bytes, a list, a tuple -/
def LenV (K : PySem.W.Frag) (x : V) (H : Hp) (n : Nat) : Prop :=
  match x with
  | .str y => y.length ≤ sizeLine ∧ n = y.length
  | .byt y => y.size ≤ sizeLine ∧ n = y.size
  | .ref p => (∃ xs, SqL K H p xs ∧ n = xs.length) ∨ ∃ xs, SqT K H p xs ∧ n = xs.length
  | _ => False
theorem call_len : CallR X (.builtin "len") (fun xs H Q => ∃ x n, xs = [x] ∧ LenV X.K x H n ∧ Q (.int n) H) := by
  intro pins s σ H xs us Q I r h
  obtain ⟨x, n, rfl, e, q⟩ := h
  obtain ⟨u, rfl, rx⟩ := vals1 r
  have hl := line63
  have hs : sizeLine = 16777216 := sizeLine_eq
  cases x with
  | str y =>
    obtain ⟨t, rfl⟩ := rx
    obtain ⟨hy, e'⟩ : y.length ≤ sizeLine ∧ n = y.length := e
    subst e'
    exact len_str (by omega) ⟨.int _, H, I.tok _, ⟨_, rfl⟩, q⟩
  | byt y =>
    obtain ⟨t, rfl⟩ := rx
    obtain ⟨hy, e'⟩ : y.size ≤ sizeLine ∧ n = y.size := e
    subst e'
    exact PySem.W.len_bytes (by omega) ⟨.int _, H, I.tok _, ⟨_, rfl⟩, q⟩
  | ref p =>
    cases rx
    have e' : (∃ xs, SqL X.K H p xs ∧ n = xs.length) ∨ ∃ xs, SqT X.K H p xs ∧ n = xs.length := e
    rcases e' with ⟨xs, hx, e'⟩ | ⟨xs, hx, e'⟩
    · subst e'
      obtain ⟨its, r', pl, hz⟩ := I.list hx
      have hlen := r'.length
      exact Calls.call_len_list pl.isList (by simp only [List.size_toArray]; omega) ⟨.int xs.length, H, I.tok _, ⟨_, by simp only [List.size_toArray]; rw [hlen]⟩, q⟩
    · subst e'
      obtain ⟨its, r', pl, hz⟩ := I.tuple hx
      have hlen := r'.length
      exact len_tuple pl (by simp only [List.size_toArray]; omega) ⟨.int xs.length, H, I.tok _, ⟨_, by simp only [List.size_toArray]; rw [hlen]⟩, q⟩
  | _ => exact (show False from e).elim
/-- divmod: a new tuple -/
theorem call_divmod : CallR X (.builtin "divmod") (fun xs H Q => ∃ i j, xs = [.int i, .int j] ∧ CDiv i j ∧ ∀ p, H p = none → Q (.ref p) (upd H p (.tup [.int (i / j), .int (i % j)]))) := by
  intro pins s σ H xs us Q I r h
  obtain ⟨i, j, rfl, ⟨h1, h2⟩, q⟩ := h
  obtain ⟨u, w', rfl, ⟨t, rfl⟩, ⟨t', rfl⟩⟩ := vals2 r
  refine divmod_int (by omega) ?_ (.inl (PyProof.noPylong_small (by omega)))
  rw [Int.fdiv_eq_ediv_of_nonneg i (by omega), Int.fmod_eq_emod_of_nonneg i (by omega)]
  have hn : H s.heap.objs.size = none := I.hok.fresh (Nat.le_refl _)
  refine ⟨.ref s.heap.objs.size, _, ?_, rfl, q _ hn⟩
  refine I.laid (fun b o e => Heap.get?_push_of_some _ e) (Nat.le_refl _) ⟨by simp only [List.length_cons, List.length_nil]; rw [sizeLine_eq]; decide, [.int (i / j) s.toks, .int (i % j) (s.toks + 1)], .cons ⟨_, rfl⟩ (.cons ⟨_, rfl⟩ .nil), ?_⟩
  exact ⟨_, Heap.get?_push_size s.heap rfl, rfl, 0, rfl⟩
end
end L2

namespace L2
open PySem PySem.Spec PyProof.Rows

/-! ### an instance, its attributes a map -/
structure ObjM (h : Heap) (x dx C : Addr) (mA : Str → Option Value) : Prop where
  obj : h.get? x = some (PySem.W.instObj C dx)
  ns : h.Ns1 dx mA
  ne : dx ≠ x

theorem lookIn_ns {h : Heap} {dx : Addr} {mA : Str → Option Value} (n : h.Ns1 dx mA) : ∃ od, h.get? dx = some od ∧ ∀ name, PySem.W.lookIn name od = some (mA name) := by
  obtain ⟨o, es, ep, ho, hd, hk, _, hm⟩ := n
  refine ⟨o, ho, fun name => ?_⟩
  have e := hm name
  unfold nsFind findBy at e
  rw [← Array.find?_toList] at e
  unfold PySem.W.lookIn
  rw [hd]
  dsimp only
  split
  · rename_i y q
    rw [q] at e
    exact congrArg some e
  · rename_i q
    rw [q] at e
    have a : es.toList.any (·.refKey) = false := by
      rw [List.any_eq_false]
      intro y hy
      obtain ⟨z, t, hkey⟩ := hk y (Array.mem_toList_iff.mp hy)
      simp [DictEntry.refKey, hkey]
    have a' : ¬ es.toList.any (·.refKey) = true := by rw [a]; exact Bool.false_ne_true
    rw [if_neg a']
    exact congrArg some e

theorem ObjM.look {h : Heap} {x dx C : Addr} {mA : Str → Option Value} (I : ObjM h x dx C mA) : ∃ od, PySem.W.InstAt h x (PySem.W.instObj C dx) C (some od) ∧ ∀ name, PySem.W.lookIn name od = some (mA name) :=
  let ⟨od, ho, hl⟩ := lookIn_ns I.ns
  ⟨od, ⟨I.obj, rfl, rfl, ho⟩, hl⟩

section
variable {prog : Program} {w : World} {A : Around} {E : Value → Shared → Prop} {s : Shared} {K : PySem.W.Frag} {x dx C f : Addr} {mA : Str → Option Value} {name : Str} {v : Value}

theorem get_map {expr : Bool} {Q : Value → Shared → Prop} (X : K.In s.heap) (I : ObjM s.heap x dx C mA) (hg : PySem.W.plainGet K C name = true) (hh : PySem.W.hasDictIn K C = true)
    (ha : PySem.W.findIn K (.ref C) name = some none) (hv : mA name = some v) (hv' : PySem.W.handedIn v = true) (h : Q v { s with toks := s.toks + 1 }) :
    wpAny (model prog w) A (getAttr (.ref x) name expr) Q E s := by
  obtain ⟨od, J, hl⟩ := I.look
  exact PySem.W.get_value X J (PySem.W.plainGet_of hg).1 (PySem.W.findObj_own hh ha rfl (by rw [hl, hv])) hv' h

theorem get_const {expr : Bool} {a : Value} {Q : Value → Shared → Prop} (X : K.In s.heap) (I : ObjM s.heap x dx C mA) (hg : PySem.W.plainGet K C name = true) (hh : PySem.W.hasDictIn K C = true)
    (ha : PySem.W.findIn K (.ref C) name = some (some a)) (hn : PySem.W.specialIn K a "__get__" = some none) (hc : PySem.W.copiedNames.contains name = false) (hv : mA name = none) (hv' : PySem.W.handedIn a = true)
    (h : Q a { s with toks := s.toks + 1 }) : wpAny (model prog w) A (getAttr (.ref x) name expr) Q E s := by
  obtain ⟨od, J, hl⟩ := I.look
  exact PySem.W.get_value X J (PySem.W.plainGet_of hg).1 (PySem.W.findObj_cls hh ha hn hv' hc (by rw [hl, hv])) hv' h

theorem get_meth {pl : Sem Bool} {Q : Value × List Value → Shared → Prop} (X : K.In s.heap) (I : ObjM s.heap x dx C mA) (hg : PySem.W.plainGet K C name = true)
    (hf : PySem.W.findIn K (.ref C) name = some (some (.ref f))) (ht : PySem.W.isFn K (.ref f) = true) (hv : mA name = none) (h : Q (.ref f, [.ref x]) s) :
    wpAny (model prog w) A (getMethod (.ref x) name pl) Q E s := by
  obtain ⟨od, J, hl⟩ := I.look
  exact PySem.W.method_fn X J (PySem.W.plainGet_of hg).1 (PySem.W.plainGet_of hg).2 hf (beq_iff_eq.mp ht) (by show (PySem.W.lookIn name od).map (·.isSome) = some false; rw [hl, hv]; rfl) h

theorem set_map {ns : List Str} {Q : Unit → Shared → Prop} (X : K.In s.heap) (I : ObjM s.heap x dx C mA)
    (hs : PySem.W.findIn K (.ref C) "__setattr__" = some (some (.builtin "object.__setattr__"))) (hp : PySem.W.plainOver K C = true) (ht : PySem.W.takerIn K C name = some none) (hh : PySem.W.hasDictIn K C = true)
    (hw : PySem.Within mA ns) (hsz : ns.length ≤ sizeLine)
    (h : ∀ h', ObjM h' x dx C (fun y => if y = name then some v else mA y) → Heap.SameBut dx s.heap h' → Q () { s with heap := h', toks := s.toks + 2 }) :
    wpAny (model prog w) A (setAttr (.ref x) name v) Q E s := by
  obtain ⟨od, J, hl⟩ := I.look
  refine PySem.W.set_plain X J hs (PySem.W.osa_open (s := { s with toks := s.toks + 1 }) (r := none) X J hp ht fun b => ?_)
  obtain ⟨cd, hc, hd'⟩ := PySem.W.any_some hh
  have hx : s.heap.get? x = some ⟨.ref C, some dx, .plain, #[]⟩ := I.obj
  refine wpAny_bind (wpAny_pure (wpAny_bind (wpAny_bind (wpAny_loadPart hx (wpAny_bind (PySem.W.Looks.here (s := { s with toks := s.toks + 1 }) (PySem.W.looks_clsIn X hc) ?_))))))
  rw [hd']
  refine wpAny_pure (a := some dx) (wpAny_bind (wpAny_pure (wpAny_bind ?_)))
  refine wpAny_nsSet1 (s := { s with toks := s.toks + 1 }) I.ns fun h' hn2 hs2 => ?_
  obtain ⟨oD, esD, epD, hoD, hdD, hcD⟩ := hn2.count (PySem.Within.cons name v hw)
  refine wpAny_bind (wpAny_lookBehind hoD (by rw [hdD]; exact pastItsLine_dict (Nat.le_trans hcD (by rw [List.length_cons]; omega))) ?_)
  exact wpAny_pure (h _ ⟨(hs2.2 _ (Ne.symm I.ne)).trans I.obj, hn2, I.ne⟩ hs2)

/-- C(..): the dict at the heap's end, the instance behind it; then its __init__ -/
theorem make_map {R : Result → Shared → Prop} {vs : List Value} {kw : List (Str × Value)} (X : K.In s.heap) (hm : PySem.W.makesIn K C = true)
    (hi : PySem.W.findIn K (.ref C) "__init__" = some (some (.ref f))) (hf : PySem.W.typeIn K (.ref f) = some (.type "function"))
    (h : codeAny (model prog w) (A.under (.builtin "type.__call__" ⟨.ref C :: vs, kw⟩)) (.call (.ref f) ⟨.ref (s.heap.objs.size + 1) :: vs, kw⟩) (PySem.W.InitBack (s.heap.objs.size + 1) R)
      { s with heap := (s.heap.push PySem.W.emptyDict).push (PySem.W.instObj C s.heap.objs.size) }) :
    codeAny (model prog w) A (.call (.ref C) ⟨vs, kw⟩) R s := by
  obtain ⟨hh, g, d, t, os⟩ := s
  exact PySem.W.make_core (PySem.W.makes_of X hm) (PySem.W.looks_findIn X hi) (fun self => PySem.W.bind_fn X self hf) (.inl rfl) h
/-- C() where there is no __init__ but object's -/
theorem make_map0 {R : Result → Shared → Prop} (X : K.In s.heap) (hm : PySem.W.makesIn K C = true)
    (hi : PySem.W.findIn K (.ref C) "__init__" = some (some (.builtin "object.__init__")))
    (hb : ∀ self, PySem.W.Looks (model prog w) s.heap (bindSpecial (.builtin "object.__init__") self) (.builtin "object.__init__", [self]))
    (h : codeAny (model prog w) (A.under (.builtin "type.__call__" ⟨[.ref C], []⟩)) (.call (.builtin "object.__init__") ⟨[.ref (s.heap.objs.size + 1)], []⟩) (PySem.W.InitBack (s.heap.objs.size + 1) R)
      { s with heap := (s.heap.push PySem.W.emptyDict).push (PySem.W.instObj C s.heap.objs.size) }) :
    codeAny (model prog w) A (.call (.ref C) ⟨[], []⟩) R s := by
  obtain ⟨hh, g, d, t, os⟩ := s
  exact PySem.W.make_core (PySem.W.makes_of X hm) (PySem.W.looks_findIn X hi) hb (.inr ⟨rfl, rfl⟩) h
end

/-! ### the attributes as a list of pairs -/
def putF (f : Str) (v : V) : List (Str × V) → List (Str × V)
  | [] => [(f, v)]
  | (g, x) :: r => if g = f then (g, v) :: r else (g, x) :: putF f v r
theorem lookup_putF (f g : Str) (v : V) : ∀ fs : List (Str × V), (putF f v fs).lookup g = if g = f then some v else fs.lookup g
  | [] => by
    show List.lookup g [(f, v)] = _
    by_cases h : g = f
    · have hb : (g == f) = true := beq_iff_eq.mpr h
      simp only [List.lookup, hb, if_pos h]
    · have hb : (g == f) = false := beq_eq_false_iff_ne.mpr h
      simp only [List.lookup, hb, if_neg h]
  | (k, x) :: r => by
    have ih := lookup_putF f g v r
    rw [show putF f v ((k, x) :: r) = (if k = f then (k, v) :: r else (k, x) :: putF f v r) from rfl]
    by_cases hk : k = f
    · rw [if_pos hk]
      by_cases h : g = k
      · have hb : (g == k) = true := beq_iff_eq.mpr h
        simp only [List.lookup, hb, if_pos (h.trans hk)]
      · have hb : (g == k) = false := beq_eq_false_iff_ne.mpr h
        simp only [List.lookup, hb, if_neg (fun e : g = f => h (e.trans hk.symm))]
    · rw [if_neg hk]
      by_cases h : g = k
      · have hb : (g == k) = true := beq_iff_eq.mpr h
        simp only [List.lookup, hb, if_neg (fun e : g = f => hk (h.symm.trans e))]
      · have hb : (g == k) = false := beq_eq_false_iff_ne.mpr h
        simp only [List.lookup, hb]
        exact ih
theorem keys_putF (f : Str) (v : V) : ∀ fs : List (Str × V), f ∈ (putF f v fs).map (·.1) ∧ ∀ g, g ∈ fs.map (·.1) → g ∈ (putF f v fs).map (·.1)
  | [] => ⟨by simp [putF], fun g h => by simp at h⟩
  | (k, x) :: r => by
    obtain ⟨i1, i2⟩ := keys_putF f v r
    rw [show putF f v ((k, x) :: r) = (if k = f then (k, v) :: r else (k, x) :: putF f v r) from rfl]
    by_cases hk : k = f
    · rw [if_pos hk]
      subst hk
      exact ⟨by simp, fun g h => by simpa using h⟩
    · rw [if_neg hk]
      refine ⟨?_, fun g h => ?_⟩
      · rw [List.map_cons]
        exact List.mem_cons_of_mem _ i1
      · rw [List.map_cons] at h ⊢
        rcases List.mem_cons.mp h with e | e
        · exact List.mem_cons.mpr (.inl e)
        · exact List.mem_cons_of_mem _ (i2 g e)
theorem length_putF (f : Str) (v : V) : ∀ fs : List (Str × V), (putF f v fs).length ≤ fs.length + 1
  | [] => by simp [putF]
  | (k, x) :: r => by
    have ih := length_putF f v r
    rw [show putF f v ((k, x) :: r) = (if k = f then (k, v) :: r else (k, x) :: putF f v r) from rfl]
    by_cases hk : k = f
    · rw [if_pos hk, List.length_cons, List.length_cons]; omega
    · rw [if_neg hk, List.length_cons, List.length_cons]; omega

theorem RelO.some_of {v : V} {o : Option Value} (r : RelO (some v) o) : ∃ u, o = some u ∧ RelV v u := by
  cases o with
  | none => exact (show False from r).elim
  | some u => exact ⟨u, rfl, r⟩
theorem RelO.none_of {o : Option Value} (r : RelO none o) : o = none := by
  cases o with
  | none => rfl
  | some u => exact (show False from r).elim
theorem handed_of {v : V} {u : Value} (r : RelV v u) : PySem.W.handedIn u = true := by
  cases v with
  | non => cases (show u = Value.none from r); rfl
  | bl b => cases (show u = Value.bool b from r); rfl
  | int i => obtain ⟨t, e⟩ := (show ∃ t, u = Value.int i t from r); cases e; rfl
  | str x => obtain ⟨t, e⟩ := (show ∃ t, u = Value.str x t from r); cases e; rfl
  | byt b => obtain ⟨t, e⟩ := (show ∃ t, u = Value.bytes b t from r); cases e; rfl
  | flt b => obtain ⟨t, e⟩ := (show ∃ t, u = Value.float b t from r); cases e; rfl
  | ref a => cases (show u = Value.ref a from r); rfl
  | ty n => cases (show u = Value.type n from r); rfl

section
variable {P : Program} {w : World} {H H' : Hp} {h h' : Heap} {a C dx : Addr} {fs fs' : List (Str × V)}
theorem ins_get (hok : HOk P w H h) (e : H a = some (.ins C dx fs)) : ∃ mA, ObjM h a dx C mA ∧ (∀ f, RelO (fs.lookup f) (mA f)) ∧ PySem.Within mA (fs.map (·.1)) ∧ fs.length ≤ 1000 ∧ H dx = some (.own a) := by
  obtain ⟨d, z, ne, ob, mA, n, r, q⟩ := (show ObjOk P w H h a (.ins C dx fs) from hok a _ e)
  exact ⟨mA, ⟨ob, n, ne⟩, r, q, z, d⟩
end

/-! ### what of the text a class must have -/
structure Cls (K : PySem.W.Frag) (C : Addr) : Prop where
  pg : PySem.W.plainGet K C Str.empty = true
  hd : PySem.W.hasDictIn K C = true
  po : PySem.W.plainOver K C = true
  sa : PySem.W.findIn K (.ref C) "__setattr__" = some (some (.builtin "object.__setattr__"))
theorem Cls.get {K : PySem.W.Frag} {C : Addr} (c : Cls K C) (f : Str) : PySem.W.plainGet K C f = true := c.pg
/-- no class of it has the name -/
def NoAttr (K : PySem.W.Frag) (C : Addr) (f : Str) : Prop := PySem.W.findIn K (.ref C) f = some none
theorem NoAttr.taker {K : PySem.W.Frag} {C : Addr} {f : Str} (n : NoAttr K C f) : PySem.W.takerIn K C f = some none := by
  unfold PySem.W.takerIn
  rw [show PySem.W.findIn K (.ref C) f = some none from n]
  rfl
/-- a constant of the class -/
structure Con (K : PySem.W.Frag) (C : Addr) (f : Str) (v : V) (u : Value) : Prop where
  at_ : PySem.W.findIn K (.ref C) f = some (some u)
  rel : RelV v u
  get : PySem.W.specialIn K u "__get__" = some none
  cp : PySem.W.copiedNames.contains f = false
/-- a method: a plain def of the class or of one above it -/
structure Meth (K : PySem.W.Frag) (C : Addr) (m : Str) (f : Addr) : Prop where
  at_ : PySem.W.findIn K (.ref C) m = some (some (.ref f))
  fn : PySem.W.isFn K (.ref f) = true
  kp : PySem.W.keepIn K (.ref f) = true

section
variable {X : Cx} {pins : List (Addr × Obj)} {σ : St} {H : Hp} {s : Shared} {a C dx : Addr} {fs : List (Str × V)} {f : Str} {v : V} {A : Around} {E : Value → Shared → Prop}

theorem getattr_ok {b : Bool} {Q : Value → Shared → Prop} (I : Inv X pins σ H s) (e : H a = some (.ins C dx fs)) (c : Cls X.K C) (n : NoAttr X.K C f) (l : fs.lookup f = some v)
    (h : ∀ u s', Inv X pins σ H s' → RelV v u → Q u s') : wpAny (model X.prog X.w) A (getAttr (.ref a) f b) Q E s := by
  obtain ⟨mA, O, r, _, _, _⟩ := ins_get I.hok e
  obtain ⟨u, hu, ru⟩ := RelO.some_of (v := v) (o := mA f) (by rw [← l]; exact r f)
  exact get_map I.kIn O (c.get f) c.hd n hu (handed_of ru) (h u _ (I.tok _) ru)

theorem getcon_ok {b : Bool} {u : Value} {Q : Value → Shared → Prop} (I : Inv X pins σ H s) (e : H a = some (.ins C dx fs)) (c : Cls X.K C) (k : Con X.K C f v u) (l : fs.lookup f = none)
    (h : ∀ s', Inv X pins σ H s' → Q u s') : wpAny (model X.prog X.w) A (getAttr (.ref a) f b) Q E s := by
  obtain ⟨mA, O, r, _, _, _⟩ := ins_get I.hok e
  have hn : mA f = none := RelO.none_of (by rw [← l]; exact r f)
  exact get_const I.kIn O (c.get f) c.hd k.at_ k.get k.cp hn (handed_of k.rel) (h _ (I.tok _))

theorem getmeth_ok {m : Str} {g : Addr} {pl : Sem Bool} {Q : Value × List Value → Shared → Prop} (I : Inv X pins σ H s) (e : H a = some (.ins C dx fs)) (c : Cls X.K C) (k : Meth X.K C m g) (l : fs.lookup m = none)
    (h : Q (.ref g, [.ref a]) s) : wpAny (model X.prog X.w) A (getMethod (.ref a) m pl) Q E s := by
  obtain ⟨mA, O, r, _, _, _⟩ := ins_get I.hok e
  have hn : mA m = none := RelO.none_of (by rw [← l]; exact r m)
  exact get_meth I.kIn O (c.get m) k.at_ k.fn hn h

theorem setattr_ok {y : V} {u : Value} {Q : Unit → Shared → Prop} (I : Inv X pins σ H s) (e : H a = some (.ins C dx fs)) (c : Cls X.K C) (n : NoAttr X.K C f) (hl : fs.length < 1000) (ry : RelV y u)
    (h : ∀ s', Inv X pins σ (upd H a (.ins C dx (putF f y fs))) s' → Q () s') : wpAny (model X.prog X.w) A (setAttr (.ref a) f u) Q E s := by
  obtain ⟨mA, O, r, wi, _, ho⟩ := ins_get I.hok e
  have hz : (fs.map (·.1)).length ≤ sizeLine := by rw [List.length_map, sizeLine_eq]; omega
  refine set_map I.kIn O c.sa c.po n.taker c.hd wi hz fun h' O' sb => h _ ?_
  have hd : ∃ o, h'.get? dx = some o := let ⟨o, _, _, e', _⟩ := O'.ns; ⟨o, e'⟩
  refine I.write (x := a) (e := dx) (by rw [e]; exact True.intro) (.inr ho) (fun b q hb z => (sb.2 b hb).trans z) hd ?_
  refine ⟨by rw [upd_ne O.ne]; exact ho, ?_, O.ne, O'.obj, _, O'.ns, fun g => ?_, fun g hg => ?_⟩
  · have := length_putF f y fs; omega
  · show RelO ((putF f y fs).lookup g) (if g = f then some u else mA g)
    rw [lookup_putF]
    by_cases q : g = f
    · rw [if_pos q, if_pos q]; exact ry
    · rw [if_neg q, if_neg q]; exact r g
  · by_cases q : g = f
    · rw [q]; exact (keys_putF f y fs).1
    · refine (keys_putF f y fs).2 g (wi g fun z => hg ?_)
      show (if g = f then some u else mA g) = none
      rw [if_neg q]; exact z

/-- a new instance, tracked, without attributes -/
theorem Inv.made (I : Inv X pins σ H s) : Inv X pins σ (upd (upd H s.heap.objs.size (.own (s.heap.objs.size + 1))) (s.heap.objs.size + 1) (.ins C s.heap.objs.size []))
    { s with heap := (s.heap.push PySem.W.emptyDict).push (PySem.W.instObj C s.heap.objs.size) } := by
  have e1 : (s.heap.push PySem.W.emptyDict).get? s.heap.objs.size = some PySem.W.emptyDict := Heap.get?_push_size s.heap rfl
  have e2 : ((s.heap.push PySem.W.emptyDict).push (PySem.W.instObj C s.heap.objs.size)).get? (s.heap.objs.size + 1) = some (PySem.W.instObj C s.heap.objs.size) := by
    have := Heap.get?_push_size (s.heap.push PySem.W.emptyDict) (o := PySem.W.instObj C s.heap.objs.size) rfl
    rwa [Heap.size_push] at this
  have e3 : (s.heap.push PySem.W.emptyDict).Ns s.heap.objs.size (fun _ => none) := ⟨PySem.W.emptyDict, #[], _, e1, rfl, (fun e he => absurd he (by simp)), fun _ => rfl⟩
  have I1 := I.laid (a := s.heap.objs.size) (o := .own (s.heap.objs.size + 1)) (h' := s.heap.push PySem.W.emptyDict) (t' := s.toks) (fun b u q => Heap.get?_push_of_some _ q) (Nat.le_refl _) ⟨_, e1⟩
  refine I1.laid (a := s.heap.objs.size + 1) (o := .ins C s.heap.objs.size []) (t' := s.toks) (fun b u q => Heap.get?_push_of_some _ q) (Nat.le_of_eq (Heap.size_push _ _)) ?_
  have ne : s.heap.objs.size ≠ s.heap.objs.size + 1 := Nat.ne_of_lt (Nat.lt_succ_self _)
  refine ⟨by rw [upd_ne ne, upd_same], Nat.zero_le _, ne, e2, fun _ => none, (Heap.Ns1.of_empty e3).at fun o q => Heap.get?_push_of_some _ q, fun _ => True.intro, fun y hy => absurd rfl hy⟩

/-- e.f where nothing but the object is asked: through attributeBase (super) and the last hold -/
theorem attr_of {prog : Program} {w : World} {env : Env} {e : Expr} {f : Str} {pos : Pos} {s : Shared} {Q : Value → Shared → Prop} (hb : attributeBase e f env (eval e env) = eval e env)
    (h : wpAny (model prog w) A (eval e env) (fun o s₁ => wpAny (model prog w) A (getAttr o f true) Q E s₁) E s) : wpAny (model prog w) A (eval (.Attribute e f pos) env) Q E s :=
  Attribute_any_ h (by rw [arm_eval_Attribute, hb])
end

/-! ### readings and rules -/
/-- e.f, an attribute of the instance -/
def tFld (K : PySem.W.Frag) (ta : TE) (f : Str) : TE := fun σ H Q => ta σ H fun x H1 => ∃ a C dx fs v, x = .ref a ∧ H1 a = some (.ins C dx fs) ∧ Cls K C ∧ NoAttr K C f ∧ fs.lookup f = some v ∧ Q v H1
/-- e.f, a constant of the class -/
def tCon (K : PySem.W.Frag) (ta : TE) (f : Str) : TE := fun σ H Q => ta σ H fun x H1 => ∃ a C dx fs v u, x = .ref a ∧ H1 a = some (.ins C dx fs) ∧ Cls K C ∧ Con K C f v u ∧ fs.lookup f = none ∧ Q v H1
/-- e.f = value -/
def sFld (K : PySem.W.Frag) (ta tv : TE) (f : Str) : TS := fun D σ H => tv σ H fun y H1 => ta σ H1 fun x H2 => ∃ a C dx fs, x = .ref a ∧ H2 a = some (.ins C dx fs) ∧ Cls K C ∧ NoAttr K C f ∧ fs.length < 1000 ∧
  D.nx σ (upd H2 a (.ins C dx (putF f y fs)))
/-- an augmented operator on two values -/
def InOp (X : Cx) (op : Operator) (rd : V → V → Hp → VK → Prop) : Prop :=
  ∀ (pins : List (Addr × Obj)) (s : Shared) (σ : St) (H : Hp) (x y : V) (u v : Value) (Q : VK), Inv X pins σ H s → RelV x u → RelV y v → rd x y H Q → wpAny (model X.prog X.w) X.A (inplaceOp op u v) (EP X pins σ Q) X.xe s
/-- e.f op= value -/
def sFldAug (K : PySem.W.Frag) (ta tv : TE) (rd : V → V → Hp → VK → Prop) (f : Str) : TS := fun D σ H => ta σ H fun x H1 => ∃ a C dx fs v, x = .ref a ∧ H1 a = some (.ins C dx fs) ∧ Cls K C ∧ NoAttr K C f ∧ fs.lookup f = some v ∧
  tv σ H1 fun y H2 => rd v y H2 fun z H3 => ∃ dx' fs', H3 a = some (.ins C dx' fs') ∧ fs'.length < 1000 ∧ D.nx σ (upd H3 a (.ins C dx' (putF f z fs')))

section
variable {X : Cx} {o e value : Expr} {f : Str} {pos pos' tpos : Pos} {ta tv : TE}
theorem pe_fld (he : PE X e ta) (hb : attributeBase e f X.env (eval e X.env) = eval e X.env) : PE X (.Attribute e f pos) (tFld X.K ta f) := by
  intro pins s σ H Q I h
  refine attr_of hb (thn (he pins s σ H _ I h) fun u s1 ⟨x, H1, I1, rx, a, C, dx, fs, v, ex, ea, c, n, l, q⟩ => ?_)
  subst ex
  obtain rfl : u = Value.ref a := rx
  exact getattr_ok I1 ea c n l fun u' s2 I2 ru => ⟨v, H1, I2, ru, q⟩
theorem pe_con (he : PE X e ta) (hb : attributeBase e f X.env (eval e X.env) = eval e X.env) : PE X (.Attribute e f pos) (tCon X.K ta f) := by
  intro pins s σ H Q I h
  refine attr_of hb (thn (he pins s σ H _ I h) fun u s1 ⟨x, H1, I1, rx, a, C, dx, fs, v, u0, ex, ea, c, k, l, q⟩ => ?_)
  subst ex
  obtain rfl : u = Value.ref a := rx
  exact getcon_ok I1 ea c k l fun s2 I2 => ⟨v, H1, I2, k.rel, q⟩
theorem ps_fld (ha : PE X o ta) (hv : PE X value tv) (hs : swapsWith value (some (.Attribute o f pos')) pos.line X.env = pure false) : PS X (.Assign [.Attribute o f pos'] value pos) (sFld X.K ta tv f) := by
  intro pins s σ H D I h
  refine plainObj_wpAny_Assign_Attribute (thn (hv pins s σ H _ I h) fun u s1 ⟨y, H1, I1, ry, q⟩ => thn (ha pins s1 σ H1 _ I1 q) fun ov s2 ⟨x, H2, I2, rx, a, C, dx, fs, ex, ea, c, n, l, q2⟩ => ?_) hs
  subst ex
  obtain rfl : ov = Value.ref a := rx
  exact setattr_ok I2 ea c n l ry fun s3 I3 => ⟨σ, _, I3, q2⟩
theorem ps_fldaug {op : Operator} {rd : V → V → Hp → VK → Prop} (ha : PE X o ta) (hv : PE X value tv) (hop : InOp X op rd) : PS X (.AugAssign (.Attribute o f tpos) op value pos) (sFldAug X.K ta tv rd f) := by
  intro pins s σ H D I h
  refine wpAny_AugAssign_AttributeAny (thn (ha pins s σ H _ I h) fun ov s1 ⟨x, H1, I1, rx, a, C, dx, fs, v, ex, ea, c, n, l, q⟩ => ?_)
  subst ex
  obtain rfl : ov = Value.ref a := rx
  refine getattr_ok I1 ea c n l fun u s2 I2 ru => thn (hv pins s2 σ H1 _ I2 q) fun w3 s3 ⟨y, H2, I3, ry, q3⟩ => thn (hop pins s3 σ H2 v y u w3 _ I3 ru ry q3) fun w4 s4 ⟨z, H3, I4, rz, dx', fs', ea', l', q4⟩ => ?_
  exact setattr_ok I4 ea' c n l' rz fun s5 I5 => ⟨σ, _, I5, q4⟩
def rAdd : V → V → Hp → VK → Prop := fun x y H Q => ∃ i j, x = .int i ∧ y = .int j ∧ Q (.int (i + j)) H
def rSub : V → V → Hp → VK → Prop := fun x y H Q => ∃ i j, x = .int i ∧ y = .int j ∧ Q (.int (i - j)) H
theorem in_add : InOp X .Add rAdd := by
  rintro pins s σ H x y u v Q I rx ry ⟨i, j, rfl, rfl, q⟩
  obtain ⟨t, rfl⟩ := (show ∃ t, u = Value.int i t from rx)
  obtain ⟨t', rfl⟩ := (show ∃ t', v = Value.int j t' from ry)
  exact PyProof.Rows.iadd_int ⟨.int (i + j), H, I.tok _, ⟨_, rfl⟩, q⟩
theorem in_sub : InOp X .Sub rSub := by
  rintro pins s σ H x y u v Q I rx ry ⟨i, j, rfl, rfl, q⟩
  obtain ⟨t, rfl⟩ := (show ∃ t, u = Value.int i t from rx)
  obtain ⟨t', rfl⟩ := (show ∃ t', v = Value.int j t' from ry)
  exact PyProof.Rows.isub_int ⟨.int (i - j), H, I.tok _, ⟨_, rfl⟩, q⟩

/-- what is between an instance and its method: the tree of a method call -/
theorem methcall_of {pl : Sem Bool} {m : Str} {apos : Pos} {args : List Expr} {pins : List (Addr × Obj)} {s : Shared} {σ : St} {H : Hp} {Q : Value → Shared → Prop} {te : TE} (he : PE X e te) (I : Inv X pins σ H s)
    (h : te σ H fun x H1 => ∃ a C dx fs g, x = .ref a ∧ H1 a = some (.ins C dx fs) ∧ Cls X.K C ∧ Meth X.K C m g ∧ fs.lookup m = none ∧
      ∀ s1, Inv X pins σ H1 s1 → wpAny (model X.prog X.w) X.A (callWith pos (.ref g) [.ref a] (backTo pos (starEach args X.env)) (backToKw pos (keywordEach [] X.env))) Q X.xe s1)
    (ht : eval (.Call (.Attribute e m apos) args [] pos) X.env = (do
      let ov ← eval e X.env
      standAt apos.atName
      let (f, first) ← holding [ov] (getMethod ov m pl)
      callWith pos f first (backTo pos (starEach args X.env)) (backToKw pos (keywordEach [] X.env)))) :
    wpAny (model X.prog X.w) X.A (eval (.Call (.Attribute e m apos) args [] pos) X.env) Q X.xe s := by
  refine PySem.W.methodCall_KW (pl := pl) (thn (he pins s σ H _ I h) fun u s1 ⟨x, H1, I1, rx, a, C, dx, fs, g, ex, ea, c, k, l, q⟩ => ?_) ht
  subst ex
  obtain rfl : u = Value.ref a := rx
  exact getmeth_ok I1 ea c k l (q s1 I1)
end

/-! ### isinstance -/
section
variable {X : Cx} {pins : List (Addr × Obj)} {σ : St} {H : Hp} {s : Shared} {A : Around} {E : Value → Shared → Prop} {Q : Value → Shared → Prop} {c : Value} {b : Bool}
/-- the type of a value, as the fragment's deciders take it; for an instance its class -/
inductive TyOf (K : PySem.W.Frag) (H : Hp) : V → Value → Prop where
  | non : TyOf K H .non (.type "NoneType")
  | bl (x : Bool) : TyOf K H (.bl x) (.type "bool")
  | int (i : Int) : TyOf K H (.int i) (.type "int")
  | str (x : Str) : TyOf K H (.str x) (.type "str")
  | flt (x : UInt64) : TyOf K H (.flt x) (.type "float")
  | lst {a : Addr} {xs : List V} (e : H a = some (.lst xs)) : TyOf K H (.ref a) (.type "list")
  | frz {a : Addr} {o : Obj} {xs : List V} (e : H a = some (.frz o (.lst xs))) : TyOf K H (.ref a) (.type "list")
  | tup {a : Addr} {xs : List V} (e : H a = some (.tup xs)) : TyOf K H (.ref a) (.type "tuple")
  | dK {a : Addr} {kvs : List (Key × V)} (e : H a = some (.dK kvs)) : TyOf K H (.ref a) (.type "dict")
  | dT {a : Addr} {kvs : List (List Key × V)} (e : H a = some (.dT kvs)) : TyOf K H (.ref a) (.type "dict")
  | ins {a C dx : Addr} {fs : List (Str × V)} (e : H a = some (.ins C dx fs)) (cl : Cls K C) (ha : PySem.W.findIn K (.ref C) "__class__" = some (some (.builtin "object.__class__")))
      (hn : PySem.W.specialIn K (.builtin "object.__class__") "__get__" = some (some (.builtin "getset_descriptor.__get__"))) (htk : PySem.W.takesIn K (.builtin "object.__class__") = some true)
      (hm : PySem.W.mroIn K C (.type "object") = some true) : TyOf K H (.ref a) (.ref C)
/-- isinstance(x, c) for one class c, a built-in or an own one: kitOne's answer -/
theorem isinst_ok {x : V} {u t : Value} (I : Inv X pins σ H s) (rx : RelV x u) (ty : TyOf X.K H x t) (e : PySem.W.kitOne X.K t c = some b) (h : ∀ tk, Q (.bool b) { s with toks := tk }) :
    wpAny (model X.prog X.w) A (call (.builtin "isinstance") [u, c]) Q E s := by
  cases ty with
  | non => cases (show u = Value.none from rx); exact PySem.W.kia_one PySem.W.kitx_none I.kIn True.intro e (fun z => nomatch z) h
  | bl y => cases (show u = Value.bool y from rx); exact PySem.W.kia_one PySem.W.kitx_bool I.kIn True.intro e (fun z => nomatch z) h
  | int i => obtain ⟨t, q⟩ := (show ∃ t, u = Value.int i t from rx); cases q; exact PySem.W.kia_one PySem.W.kitx_int I.kIn True.intro e (fun z => nomatch z) h
  | str y => obtain ⟨t, q⟩ := (show ∃ t, u = Value.str y t from rx); cases q; exact PySem.W.kia_one PySem.W.kitx_str I.kIn True.intro e (fun z => nomatch z) h
  | flt y => obtain ⟨t, q⟩ := (show ∃ t, u = Value.float y t from rx); cases q; exact PySem.W.kia_one PySem.W.kitx_float I.kIn True.intro e (fun z => nomatch z) h
  | @lst a xs ea =>
    cases (show u = Value.ref a from rx)
    obtain ⟨_, _, n, _, h1⟩ := (show ObjOk X.prog X.w H s.heap a (.lst xs) from I.hok a _ ea)
    exact PySem.W.kia_one PySem.W.kitx_list I.kIn ⟨_, h1, rfl⟩ e (fun z => nomatch z) h
  | @frz a ob xs ea =>
    cases (show u = Value.ref a from rx)
    obtain ⟨_, _, _, n, _, h1⟩ := (show ObjOk X.prog X.w H s.heap a (.frz ob (.lst xs)) from I.hok a _ ea)
    exact PySem.W.kia_one PySem.W.kitx_list I.kIn ⟨_, h1, rfl⟩ e (fun z => nomatch z) h
  | @tup a xs ea =>
    cases (show u = Value.ref a from rx)
    obtain ⟨_, _, _, p⟩ := (show ObjOk X.prog X.w H s.heap a (.tup xs) from I.hok a _ ea)
    obtain ⟨o, h1, h2, _⟩ := p
    exact PySem.W.kia_one PySem.W.kitx_tuple I.kIn ⟨o, h1, h2⟩ e (fun z => nomatch z) h
  | @dK a kvs ea =>
    cases (show u = Value.ref a from rx)
    obtain ⟨_, _, vs, _, p⟩ := (show ObjOk X.prog X.w H s.heap a (.dK kvs) from I.hok a _ ea)
    obtain ⟨o, es, ep, h1, h2, _⟩ := p
    exact PySem.W.kia_one PySem.W.kitx_dict I.kIn ⟨o, h1, h2.1⟩ e (fun z => nomatch z) h
  | @dT a kvs ea =>
    cases (show u = Value.ref a from rx)
    obtain ⟨_, _, xs, _, o, es, ep, h1, h2, _⟩ := (show ObjOk X.prog X.w H s.heap a (.dT kvs) from I.hok a _ ea)
    exact PySem.W.kia_one PySem.W.kitx_dict I.kIn ⟨o, h1, h2.1⟩ e (fun z => nomatch z) h
  | @ins a C dx fs ea cl ha hn htk hm =>
    cases (show u = Value.ref a from rx)
    obtain ⟨mA, O, _⟩ := ins_get I.hok ea
    obtain ⟨od, J, _⟩ := O.look
    exact PySem.W.kia_one (PySem.W.kitx_own (cl.get _) cl.hd ha hn htk hm) I.kIn J e (fun z => nomatch z) h
end
end L2

namespace L2
open PySem PySem.Spec PyProof.Rows

/-! ### room -/
structure Room (k : Nat) (A : Around) : Prop where
  hd : A.handled = none
  dp : A.depth + 3 * k + 5 < recursionLimit
  un : A.units + 16 * k + 200 < cLine
theorem Room.mono {j k : Nat} {A : Around} (r : Room k A) (h : j ≤ k) : Room j A := ⟨r.hd, by have := r.dp; omega, by have := r.un; omega⟩
theorem Room.deeper {k : Nat} {A : Around} (r : Room (k + 1) A) (env : Env) : Room k (A.deeper env) :=
  ⟨r.hd, by have := r.dp; show A.depth + 1 + 3 * k + 5 < _; omega, by have := r.un; show A.units + 3 + 16 * k + 200 < _; omega⟩
theorem Room.in1 {k : Nat} {A : Around} (r : Room (k + 1) A) : Room k A.in1 :=
  ⟨r.hd, by have := r.dp; show A.depth + 3 * k + 5 < _; omega, by have := r.un; show A.units + 1 + 16 * k + 200 < _; omega⟩
theorem make_depth {A : Around} {C : Addr} {us : List Value} {kw : List (Str × Value)} : (A.under (.builtin "type.__call__" ⟨.ref C :: us, kw⟩)).depth = A.depth + 1 := by
  first | rfl | simp [Around.under, Code.weight, Code.isCreation, Code.isGuard, Code.isCaller, Code.frames, Code.isFrame, guardIds]
theorem make_units {A : Around} {C : Addr} {us : List Value} {kw : List (Str × Value)} : (A.under (.builtin "type.__call__" ⟨.ref C :: us, kw⟩)).units = A.units + 1 := by
  first | rfl | simp [Around.under, Code.cUnits, Code.frames, Code.isFrame]
theorem Room.make {k : Nat} {A : Around} (r : Room (k + 1) A) (C : Addr) (us : List Value) (kw : List (Str × Value)) : Room k (A.under (.builtin "type.__call__" ⟨.ref C :: us, kw⟩)) :=
  ⟨r.hd, by have := r.dp; rw [make_depth]; omega, by have := r.un; rw [make_units]; omega⟩
theorem Room.depth {k : Nat} {A : Around} (r : Room k A) : A.depth < recursionLimit := by have := r.dp; omega
theorem Room.units {k : Nat} {A : Around} (r : Room k A) : A.units + 64 < cLine := by have := r.un; omega
theorem Room.units0 {k : Nat} {A : Around} (r : Room k A) : A.units < cLine := by have := r.un; omega

/-! ### argument lists and displays -/
def tNil : TA := fun _ H Q => Q [] H
def tCons (ta : TE) (tr : TA) : TA := fun σ H Q => ta σ H fun x H1 => tr σ H1 fun xs H2 => Q (x :: xs) H2
section
variable {X : Cx} {e : Expr} {es : List Expr} {te : TE} {t : TA} {pos : Pos}
theorem pa_nil : PA X [] tNil := fun _ _ _ _ H Q I h => Calls.spliced_nil ⟨[], H, I, .nil, h⟩
theorem pa_cons (ha : PE X e te) (hr : PA X es t) (hs : starEach (e :: es) X.env = (false, eval e X.env) :: starEach es X.env := by rfl) : PA X (e :: es) (tCons te t) := by
  intro pos pins s σ H Q I h
  rw [hs]
  show wpAny _ _ (spliced ((false, eval e X.env) :: backTo pos (starEach es X.env))) _ _ s
  refine Calls.spliced_cons (thn (ha pins s σ H _ I h) fun u s1 ⟨x, H1, I1, r1, q1⟩ => ?_)
  exact thn (hr pos pins s1 σ H1 _ I1 q1) fun us s2 ⟨xs, H2, I2, r2, q2⟩ => ⟨x :: xs, H2, I2, .cons r1 r2, q2⟩

/-- a tuple, a list of written items -/
def tTup (t : TA) : TE := fun σ H Q => t σ H fun xs H1 => xs.length ≤ sizeLine ∧ ∀ p, H1 p = none → Q (.ref p) (upd H1 p (.tup xs))
def tLst (t : TA) : TE := fun σ H Q => t σ H fun xs H1 => xs.length ≤ sizeLine ∧ ∀ p, H1 p = none → Q (.ref p) (upd H1 p (.lst xs))
theorem pe_tup {x1} (h : PA X es t) : PE X (.Tuple es x1 pos) (tTup t) := by
  intro pins s σ H Q I hq
  refine wpAny_Tuple_spliced (thn (h pos pins s σ H _ I hq) fun us s1 ⟨xs, H1, I1, r, z, q⟩ => ⟨by rw [← r.length]; exact z, ?_⟩)
  have hf : H1 s1.heap.objs.size = none := I1.hok.fresh (Nat.le_refl _)
  refine ⟨.ref s1.heap.objs.size, upd H1 s1.heap.objs.size (.tup xs), I1.laid (t' := s1.toks) (fun b u e => Heap.get?_push_of_some _ e) (Nat.le_refl _) ?_, rfl, q _ hf⟩
  exact ⟨z, us, r, ⟨_, Heap.get?_push_size _ rfl, rfl, _, rfl⟩⟩
theorem pe_lst (h : PA X es t) : PE X (.List es pos) (tLst t) := by
  intro pins s σ H Q I hq
  refine wpAny_List_spliced (thn (h pos pins s σ H _ I hq) fun us s1 ⟨xs, H1, I1, r, z, q⟩ => ⟨by rw [← r.length]; exact z, ?_⟩)
  have hf : H1 s1.heap.objs.size = none := I1.hok.fresh (Nat.le_refl _)
  refine ⟨.ref s1.heap.objs.size, upd H1 s1.heap.objs.size (.lst xs), I1.laid (t' := s1.toks) (fun b u e => Heap.get?_push_of_some _ e) (Nat.le_refl _) ?_, rfl, q _ hf⟩
  exact ⟨z, us, 0, r, Heap.get?_push_size _ rfl⟩
end

/-! ### what a def promises -/
/-- a def's promise: the bound arguments in the parameters' order, the heap, the wanted end, the wanted exception -/
abbrev Sp := List V → Hp → VK → XK → Prop
/-- how an exception lies behind a call (file 08 gives it): the callers' frames, abstract heap and state ahead of the call, the wish, the exception, the state -/
abbrev CXT := List Env → Hp → Shared → XK → Value → Shared → Prop

/-- the state at a call -/
structure Env0 (P : Program) (w : World) (K : PySem.W.Frag) (mg : Str → Option Value) (base : Heap) (A : Around) (outer : List Env) (s : Shared) (H : Hp) : Prop where
  frames : A.frames = some outer
  mod : Mod K mg base
  bs : ∀ b o, base.get? b = some o → s.heap.get? b = some o ∧ H b = none
  bsz : base.objs.size ≤ s.heap.objs.size
  funs : s.heap.FunFrames base outer
  frf : ∀ b ∈ frs outer, H b = none
  hok : HOk P w H s.heap
  bare : AllBare s.gens
/-- a call's end -/
def CE (outer : List Env) (P : Program) (w : World) (H : Hp) (s : Shared) (Q : VK) (u : Value) (s' : Shared) : Prop :=
  ∃ v H', s'.os = s.os ∧ AllBare s'.gens ∧ Un (frs outer) [] H H' s.heap s'.heap ∧ HOk P w H' s'.heap ∧ RelV v u ∧ Q v H'
def CR (CX : CXT) (outer : List Env) (P : Program) (w : World) (H : Hp) (s : Shared) (Q : VK) (E : XK) (r : Result) (s' : Shared) : Prop :=
  match r with
  | .ok (.ret u) => CE outer P w H s Q u s'
  | .ok _ => False
  | .error e => CX outer H s E e s'
structure FnOk (P : Program) (w : World) (K : PySem.W.Frag) (mg : Str → Option Value) (base : Heap) (CX : CXT) (k : Nat) (f : Addr) (fd : FuncData) (ps : List Str) (sp : Sp) : Prop where
  len : ∀ vs H Q E, sp vs H Q E → vs.length = ps.length
  run : ∀ (A : Around) (outer : List Env) (s : Shared) (H : Hp) (args : Args) (us : List Value) (vs : List V) (Q : VK) (E : XK), Room k A → Env0 P w K mg base A outer s H → BindsTo s fd args (ps.zip us) → Vals vs us → sp vs H Q E →
    codeAny (model P w) A (.call (.ref f) args) (CR CX outer P w H s Q E) s
theorem FnOk.mono {P : Program} {w : World} {K : PySem.W.Frag} {mg : Str → Option Value} {base : Heap} {CX : CXT} {j k : Nat} {f : Addr} {fd : FuncData} {ps : List Str} {sp : Sp} (F : FnOk P w K mg base CX j f fd ps sp) (h : j ≤ k) :
    FnOk P w K mg base CX k f fd ps sp := ⟨F.len, fun A outer s H args us vs Q E hr => F.run A outer s H args us vs Q E (hr.mono h)⟩
/-- a weaker promise -/
theorem FnOk.imp {P : Program} {w : World} {K : PySem.W.Frag} {mg : Str → Option Value} {base : Heap} {CX : CXT} {k : Nat} {f : Addr} {fd : FuncData} {ps : List Str} {sp sp' : Sp} (F : FnOk P w K mg base CX k f fd ps sp)
    (h : ∀ vs H Q E, sp' vs H Q E → sp vs H Q E) : FnOk P w K mg base CX k f fd ps sp' :=
  ⟨fun vs H Q E q => F.len vs H Q E (h _ _ _ _ q), fun A outer s H args us vs Q E hr he hb hv hs => F.run A outer s H args us vs Q E hr he hb hv (h _ _ _ _ hs)⟩

theorem Env0.make {P : Program} {w : World} {K : PySem.W.Frag} {mg : Str → Option Value} {base : Heap} {A : Around} {outer : List Env} {s : Shared} {H : Hp} (e : Env0 P w K mg base A outer s H) (C : Addr) (us : List Value) (kw : List (Str × Value)) :
    Env0 P w K mg base (A.under (.builtin "type.__call__" ⟨.ref C :: us, kw⟩)) outer s H := ⟨by first | exact e.frames | (simpa [Around.under, Code.envs, Code.isFrame, pushEnvs] using e.frames), e.mod, e.bs, e.bsz, e.funs, e.frf, e.hok, e.bare⟩
theorem Env0.in1 {P : Program} {w : World} {K : PySem.W.Frag} {mg : Str → Option Value} {base : Heap} {A : Around} {outer : List Env} {s : Shared} {H : Hp} (e : Env0 P w K mg base A outer s H) :
    Env0 P w K mg base A.in1 outer s H := ⟨e.frames, e.mod, e.bs, e.bsz, e.funs, e.frf, e.hok, e.bare⟩

section
variable {X : Cx} {pins : List (Addr × Obj)} {σ : St} {H : Hp} {s s' : Shared}
/-- from a body: what a callee wants -/
theorem Inv.env0 (I : Inv X pins σ H s) : Env0 X.prog X.w X.K X.mg X.base X.A X.stack s H :=
  ⟨I.ok.frames, I.ok.mod, I.bs, Nat.le_trans I.ok.bsz I.sz, I.stack, I.stkFree, I.hok, I.bare⟩
/-- behind a call -/
theorem Inv.after {Q : VK} {u : Value} (I : Inv X pins σ H s) (h : CE X.stack X.prog X.w H s Q u s') : EP X pins σ Q u s' := by
  obtain ⟨v, H', os, bare, un, hok, r, q⟩ := h
  obtain ⟨hh, g, d, t, os'⟩ := s'
  obtain rfl : os' = s.os := os
  exact ⟨v, H', I.call (h' := hh) (g' := g) (d' := d) (t' := t) (ch := []) un hok bare (fun b z => absurd z (by simp)), r, q⟩
end

/-! ### calls -/
/-- f(..): the written arguments, then the defaults dvs; E: what is wanted of an exception -/
def tCall (sp : Sp) (dvs : List V) (E : XK) (t : TA) : TE := fun σ H Q => t σ H fun vs H1 => sp (vs ++ dvs) H1 Q E
/-- o.m(..) of an instance of the class at C -/
def tMeth (C : Addr) (m : Str) (sp : Sp) (dvs : List V) (E : XK) (ta : TE) (t : TA) : TE := fun σ H Q => ta σ H fun x H1 => ∃ a dx fs, x = .ref a ∧ H1 a = some (.ins C dx fs) ∧ fs.lookup m = none ∧
  t σ H1 fun vs H2 => sp (x :: (vs ++ dvs)) H2 Q E
/-- C(..): a new instance and its dict, then __init__ -/
def tMake (C : Addr) (sp : Sp) (dvs : List V) (E : XK) (t : TA) : TE := fun σ H Q => t σ H fun vs H1 => ∀ x dx, H1 x = none → H1 dx = none → dx ≠ x →
  sp (.ref x :: (vs ++ dvs)) (upd (upd H1 dx (.own x)) x (.ins C dx [])) (fun v H2 => v = .non ∧ Q (.ref x) H2) E

/-- how the parameters are bound: us the positional arguments, kw the keywords' values by name, ds the defaults that fill up -/
def Binds (K : PySem.W.Frag) (fd : FuncData) (ps : List Str) (ds : List Value) : Prop :=
  ∀ (s : Shared) (us : List Value), K.In s.heap → (us ++ ds).length = ps.length → BindsTo s fd ⟨us, []⟩ (ps.zip (us ++ ds))
/-- every parameter is given -/
theorem Binds.all {K : PySem.W.Frag} {fd : FuncData} {ps : List Str} (h : ∀ us : List Value, us.length = ps.length → bindArgs fd ⟨us, []⟩ = pure (ps.zip us)) : Binds K fd ps [] := fun s us _ hl => by
  rw [List.append_nil] at hl ⊢
  exact .of_eq (h us hl)

/-- an exception of a callee reaches what this body wants of exceptions -/
def Passes (CX : CXT) (X : Cx) (E : XK) : Prop := ∀ (pins : List (Addr × Obj)) (σ : St) (H : Hp) (s : Shared) (e : Value) (s' : Shared), Inv X pins σ H s → CX X.stack H s E e s' → X.xe e s'

section
variable {X : Cx} {CX : CXT} {k : Nat} {f C : Addr} {fd : FuncData} {ps : List Str} {sp : Sp} {dvs : List V} {ds : List Value} {E : XK} {x m : Str} {p pos apos : Pos} {e o : Expr} {es : List Expr} {ta : TE} {t : TA}

/-- the callee runs -/
theorem run_fn {pins : List (Addr × Obj)} {σ : St} {H : Hp} {s : Shared} {Q : VK} {us : List Value} {vs : List V} (F : FnOk X.prog X.w X.K X.mg X.base CX k f fd ps sp) (hr : Room k X.A) (hb : Binds X.K fd ps ds) (hd : Vals dvs ds) (hx : Passes CX X E)
    (I : Inv X pins σ H s) (r : Vals vs us) (h : sp (vs ++ dvs) H Q E) : wpAny (model X.prog X.w) X.A (call (.ref f) us) (EP X pins σ Q) X.xe s := by
  have r2 : Vals (vs ++ dvs) (us ++ ds) := r.append hd
  have hl : (us ++ ds).length = ps.length := by rw [← r2.length]; exact F.len _ _ _ _ h
  refine wpAny_call (codeAny_mono (F.run X.A X.stack s H ⟨us, []⟩ (us ++ ds) (vs ++ dvs) Q E hr I.env0 (hb s us I.kIn hl) r2 h) fun r s' hq => ?_)
  cases r with
  | error e => exact hx pins σ H s e s' I hq
  | ok fl =>
    cases fl with
    | ret u => exact I.after hq
    | next => exact False.elim hq
    | brk => exact False.elim hq
    | cont => exact False.elim hq

theorem pe_call (F : FnOk X.prog X.w X.K X.mg X.base CX k f fd ps sp) (hr : Room k X.A) (hg : Gl X x) (hm : X.mg x = some (.ref f)) (hk : PySem.W.keepIn X.K (.ref f) = true) (hb : Binds X.K fd ps ds) (hd : Vals dvs ds) (hx : Passes CX X E)
    (ha : PA X (e :: es) t) (hdb : (x == ("__debug__" : Str)) = false := by decide) (he : starEach (e :: es) X.env = (false, eval e X.env) :: starEach es X.env := by rfl) (hpl : (backTo pos (starEach es X.env)).any (·.1) = false := by rfl) :
    PE X (.Call (.Name x p) (e :: es) [] pos) (tCall sp dvs E t) := by
  intro pins s σ H Q I h
  refine wpAny_Call_Name_kw (ld_glob I hg hm ?_ hdb)
  refine PySem.W.callWith_K (h₀ := X.base) I.ok.mod.kin hk (thn (ha pos pins s σ H _ I h) fun us s1 ⟨vs, H1, I1, r, q⟩ => ⟨I1.kIn, ?_⟩) he hpl
  exact run_fn F hr hb hd hx I1 r q
theorem pe_call0 (F : FnOk X.prog X.w X.K X.mg X.base CX k f fd ps sp) (hr : Room k X.A) (hg : Gl X x) (hm : X.mg x = some (.ref f)) (hk : PySem.W.keepIn X.K (.ref f) = true) (hb : Binds X.K fd ps ds) (hd : Vals dvs ds) (hx : Passes CX X E)
    (hdb : (x == ("__debug__" : Str)) = false := by decide) : PE X (.Call (.Name x p) [] [] pos) (tCall sp dvs E tNil) := by
  intro pins s σ H Q I h
  refine wpAny_Call_Name_kw (ld_glob I hg hm ?_ hdb)
  exact PySem.W.callWith_K0 I.kIn hk (run_fn (us := []) F hr hb hd hx I .nil h)

/-- o.m(e, ..) -/
theorem pe_meth {pl : Sem Bool} (he : PE X o ta) (c : Cls X.K C) (hm : Meth X.K C m f) (F : FnOk X.prog X.w X.K X.mg X.base CX k f fd ps sp) (hr : Room k X.A) (hb : Binds X.K fd ps ds) (hd : Vals dvs ds) (hx : Passes CX X E) (ha : PA X (e :: es) t)
    (hst : starEach (e :: es) X.env = (false, eval e X.env) :: starEach es X.env := by rfl) (hpl : (backTo pos (starEach es X.env)).any (·.1) = false := by rfl)
    (ht : eval (.Call (.Attribute o m apos) (e :: es) [] pos) X.env = (do
      let ov ← eval o X.env
      standAt apos.atName
      let (f, first) ← holding [ov] (getMethod ov m pl)
      callWith pos f first (backTo pos (starEach (e :: es) X.env)) (backToKw pos (keywordEach [] X.env))) := by rfl) :
    PE X (.Call (.Attribute o m apos) (e :: es) [] pos) (tMeth C m sp dvs E ta t) := by
  intro pins s σ H Q I h
  refine PySem.W.methodCall_KW (pl := pl) (thn (he pins s σ H _ I h) fun u s1 ⟨x, H1, I1, rx, a, dx, fs, ex, ea, l, q⟩ => ?_) ht
  subst ex
  obtain rfl : u = Value.ref a := rx
  refine getmeth_ok I1 ea c hm l ?_
  refine PySem.W.callWith_K (first := [.ref a]) (h₀ := X.base) I.ok.mod.kin hm.kp (thn (ha pos pins s1 σ H1 _ I1 q) fun us s2 ⟨vs, H2, I2, r, q2⟩ => ⟨I2.kIn, ?_⟩) hst hpl
  exact run_fn (us := .ref a :: us) (vs := .ref a :: vs) F hr hb hd hx I2 (.cons rfl r) q2
/-- o.m() -/
theorem pe_meth0 {pl : Sem Bool} (he : PE X o ta) (c : Cls X.K C) (hm : Meth X.K C m f) (F : FnOk X.prog X.w X.K X.mg X.base CX k f fd ps sp) (hr : Room k X.A) (hb : Binds X.K fd ps ds) (hd : Vals dvs ds) (hx : Passes CX X E)
    (ht : eval (.Call (.Attribute o m apos) [] [] pos) X.env = (do
      let ov ← eval o X.env
      standAt apos.atName
      let (f, first) ← holding [ov] (getMethod ov m pl)
      callWith pos f first (backTo pos (starEach [] X.env)) (backToKw pos (keywordEach [] X.env))) := by rfl) :
    PE X (.Call (.Attribute o m apos) [] [] pos) (tMeth C m sp dvs E ta tNil) := by
  intro pins s σ H Q I h
  refine PySem.W.methodCall_KW (pl := pl) (thn (he pins s σ H _ I h) fun u s1 ⟨x, H1, I1, rx, a, dx, fs, ex, ea, l, q⟩ => ?_) ht
  subst ex
  obtain rfl : u = Value.ref a := rx
  refine getmeth_ok I1 ea c hm l ?_
  exact PySem.W.callWith_K0 (first := [.ref a]) I1.kIn hm.kp (run_fn (us := [.ref a]) (vs := [.ref a]) F hr hb hd hx I1 (.cons rfl .nil) q)

/-- what a class must have to be made -/
structure Mk (K : PySem.W.Frag) (C f : Addr) : Prop where
  makes : PySem.W.makesIn K C = true
  init : PySem.W.findIn K (.ref C) "__init__" = some (some (.ref f))
  fn : PySem.W.isFn K (.ref f) = true
  kp : PySem.W.keepIn K (.ref C) = true

theorem run_make {pins : List (Addr × Obj)} {σ : St} {H : Hp} {s : Shared} {Q : VK} {us : List Value} {vs : List V} (M : Mk X.K C f) (F : FnOk X.prog X.w X.K X.mg X.base CX k f fd ps sp) (hr : Room (k + 1) X.A) (hb : Binds X.K fd ps ds) (hd : Vals dvs ds)
    (hx : Passes CX X E) (I : Inv X pins σ H s) (r : Vals vs us)
    (h : ∀ x dx, H x = none → H dx = none → dx ≠ x → sp (.ref x :: (vs ++ dvs)) (upd (upd H dx (.own x)) x (.ins C dx [])) (fun v H2 => v = .non ∧ Q (.ref x) H2) E) :
    wpAny (model X.prog X.w) X.A (call (.ref C) us) (EP X pins σ Q) X.xe s := by
  have hq := h (s.heap.objs.size + 1) s.heap.objs.size (I.hok.fresh (Nat.le_succ _)) (I.hok.fresh (Nat.le_refl _)) (Nat.ne_of_lt (Nat.lt_succ_self _))
  have I2 := Inv.made (C := C) I
  have r2 : Vals (V.ref (s.heap.objs.size + 1) :: (vs ++ dvs)) (Value.ref (s.heap.objs.size + 1) :: (us ++ ds)) := .cons rfl (r.append hd)
  have hl : (Value.ref (s.heap.objs.size + 1) :: us ++ ds).length = ps.length := by
    have e := r2.length
    rw [F.len _ _ _ _ hq] at e
    exact e.symm
  refine wpAny_call (make_map (f := f) I.kIn M.makes M.init (beq_iff_eq.mp M.fn) (codeAny_mono (F.run _ X.stack _ _ ⟨Value.ref (s.heap.objs.size + 1) :: us, []⟩ (Value.ref (s.heap.objs.size + 1) :: (us ++ ds)) _ _ E (hr.make C us [])
    (I2.env0.make C us []) (hb _ (Value.ref (s.heap.objs.size + 1) :: us) I2.kIn hl) r2 hq) fun r s' hq' => ?_))
  cases r with
  | error e => exact hx pins σ _ _ e s' I2 hq'
  | ok fl =>
    cases fl with
    | ret u =>
      obtain ⟨v, H', I3, rv, ev, q3⟩ := I2.after hq'
      subst ev
      exact ⟨rv, ⟨V.ref (s.heap.objs.size + 1), H', I3, rfl, q3⟩⟩
    | next => exact False.elim hq'
    | brk => exact False.elim hq'
    | cont => exact False.elim hq'
theorem pe_make (M : Mk X.K C f) (F : FnOk X.prog X.w X.K X.mg X.base CX k f fd ps sp) (hr : Room (k + 1) X.A) (hg : Gl X x) (hm : X.mg x = some (.ref C)) (hb : Binds X.K fd ps ds) (hd : Vals dvs ds) (hx : Passes CX X E)
    (ha : PA X (e :: es) t) (hdb : (x == ("__debug__" : Str)) = false := by decide) (he : starEach (e :: es) X.env = (false, eval e X.env) :: starEach es X.env := by rfl) (hpl : (backTo pos (starEach es X.env)).any (·.1) = false := by rfl) :
    PE X (.Call (.Name x p) (e :: es) [] pos) (tMake C sp dvs E t) := by
  intro pins s σ H Q I h
  refine wpAny_Call_Name_kw (ld_glob I hg hm ?_ hdb)
  refine PySem.W.callWith_K (h₀ := X.base) I.ok.mod.kin M.kp (thn (ha pos pins s σ H _ I h) fun us s1 ⟨vs, H1, I1, r, q⟩ => ⟨I1.kIn, ?_⟩) he hpl
  exact run_make M F hr hb hd hx I1 r q
theorem pe_make0 (M : Mk X.K C f) (F : FnOk X.prog X.w X.K X.mg X.base CX k f fd ps sp) (hr : Room (k + 1) X.A) (hg : Gl X x) (hm : X.mg x = some (.ref C)) (hb : Binds X.K fd ps ds) (hd : Vals dvs ds) (hx : Passes CX X E)
    (hdb : (x == ("__debug__" : Str)) = false := by decide) : PE X (.Call (.Name x p) [] [] pos) (tMake C sp dvs E tNil) := by
  intro pins s σ H Q I h
  refine wpAny_Call_Name_kw (ld_glob I hg hm ?_ hdb)
  exact PySem.W.callWith_K0 I.kIn M.kp (run_make (us := []) M F hr hb hd hx I .nil h)
end

/-! ### keywords -/
/-- the values of the keywords, from the left -/
def PK (X : Cx) (kws : List Keyword) (t : TA) : Prop :=
  ∀ (pos : Pos) (pins : List (Addr × Obj)) (s : Shared) (σ : St) (H : Hp) (Q : List V → Hp → Prop), Inv X pins σ H s → t σ H Q → wpAny (model X.prog X.w) X.A (evalAll ((backToKw pos (keywordEach kws X.env)).map (·.2))) (AP X pins σ Q) X.xe s
section
variable {X : Cx} {CX : CXT} {k : Nat} {f C : Addr} {fd : FuncData} {ps ks : List Str} {sp : Sp} {E : XK} {x m : Str} {p pos apos kpos : Pos} {e o : Expr} {es : List Expr} {kws : List Keyword} {te ta : TE} {t tk : TA} {nm : Option Str}
theorem pk_nil : PK X [] tNil := fun _ _ _ _ H Q I h => wpAny_evalAll_nil ⟨[], H, I, .nil, h⟩
theorem pk_cons (ha : PE X e te) (hr : PK X kws t) : PK X (⟨nm, e, kpos⟩ :: kws) (tCons te t) := by
  intro pos pins s σ H Q I h
  show wpAny _ _ (evalAll ((do let v ← eval e X.env; standAt pos; pure v) :: (backToKw pos (keywordEach kws X.env)).map (·.2))) _ _ s
  refine wpAny_evalAll_cons (wpAny_bind (thn (ha pins s σ H _ I h) fun u s1 ⟨x, H1, I1, r1, q1⟩ => wpAny_bind (wpAny_standAt (wpAny_pure ?_))))
  exact thn (hr pos pins s1 σ H1 _ I1 q1) fun us s2 ⟨xs, H2, I2, r2, q2⟩ => ⟨x :: xs, H2, I2, .cons r1 r2, q2⟩

/-- how a call with keywords binds: g puts the positional values us and the keywords' values ws (names ks) in the parameters' order, defaults among them -/
structure KBinds (K : PySem.W.Frag) (fd : FuncData) (ps ks : List Str) (g : List Value → List Value → List Value) (gV : List V → List V → List V) : Prop where
  to : ∀ (s : Shared) (us ws : List Value), K.In s.heap → (g us ws).length = ps.length → BindsTo s fd ⟨us, ks.zip ws⟩ (ps.zip (g us ws))
  rel : ∀ {vs : List V} {us : List Value} {zs : List V} {ws : List Value}, Vals vs us → Vals zs ws → Vals (gV vs zs) (g us ws)
def tCallK (sp : Sp) (gV : List V → List V → List V) (E : XK) (t tk : TA) : TE := fun σ H Q => t σ H fun vs H1 => tk σ H1 fun zs H2 => sp (gV vs zs) H2 Q E
variable {g : List Value → List Value → List Value} {gV : List V → List V → List V}
theorem run_fnk {pins : List (Addr × Obj)} {σ : St} {H : Hp} {s : Shared} {Q : VK} {us ws : List Value} {vs zs : List V} (F : FnOk X.prog X.w X.K X.mg X.base CX k f fd ps sp) (hr : Room k X.A) (hb : KBinds X.K fd ps ks g gV) (hx : Passes CX X E)
    (I : Inv X pins σ H s) (r : Vals vs us) (rz : Vals zs ws) (h : sp (gV vs zs) H Q E) : wpAny (model X.prog X.w) X.A (call (.ref f) us (ks.zip ws)) (EP X pins σ Q) X.xe s := by
  have r2 := hb.rel r rz
  have hl : (g us ws).length = ps.length := by rw [← r2.length]; exact F.len _ _ _ _ h
  refine wpAny_call (codeAny_mono (F.run X.A X.stack s H ⟨us, ks.zip ws⟩ (g us ws) (gV vs zs) Q E hr I.env0 (hb.to s us ws I.kIn hl) r2 h) fun r s' hq => ?_)
  cases r with
  | error e => exact hx pins σ H s e s' I hq
  | ok fl =>
    cases fl with
    | ret u => exact I.after hq
    | next => exact False.elim hq
    | brk => exact False.elim hq
    | cont => exact False.elim hq
/-- f(e, .., k = v, ..) -/
theorem pe_callK (F : FnOk X.prog X.w X.K X.mg X.base CX k f fd ps sp) (hr : Room k X.A) (hg : Gl X x) (hm : X.mg x = some (.ref f)) (hk : PySem.W.keepIn X.K (.ref f) = true) (hb : KBinds X.K fd ps ks g gV) (hx : Passes CX X E)
    (ha : PA X (e :: es) t) (hkw : PK X kws tk) (hall : (backToKw pos (keywordEach kws X.env)).all (·.1.isSome) = true := by rfl) (hks : (backToKw pos (keywordEach kws X.env)).filterMap (·.1) = ks := by rfl)
    (hdb : (x == ("__debug__" : Str)) = false := by decide) (he : starEach (e :: es) X.env = (false, eval e X.env) :: starEach es X.env := by rfl)
    (hpl : ((backTo pos (starEach (e :: es) X.env)).any (·.1) || (backToKw pos (keywordEach kws X.env)).any (·.1.isNone)) = false := by rfl) :
    PE X (.Call (.Name x p) (e :: es) kws pos) (tCallK sp gV E t tk) := by
  intro pins s σ H Q I h
  refine wpAny_Call_Name_kw (ld_glob I hg hm ?_ hdb)
  refine PySem.W.callWith_KW (h₀ := X.base) I.ok.mod.kin hk hall (thn (ha pos pins s σ H _ I h) fun us s1 ⟨vs, H1, I1, r, q⟩ => ?_) hpl he
  refine thn (hkw pos pins s1 σ H1 _ I1 q) fun ws s2 ⟨zs, H2, I2, rz, q2⟩ => ⟨I2.kIn, ?_⟩
  rw [hks]
  exact run_fnk F hr hb hx I2 r rz q2
end

/-! ### a def's body keeps its promise -/
/-- names: the parameters first -/
structure FnScope (N P : List Str) (sc : Scope) : Prop where
  kind : sc.kind = .function
  co : sc.isCoroutine = false
  gen : sc.isGenerator = false
  nd : N.Nodup
  pre : N.take P.length = P
  par : ∀ x ∈ P, sc.names.lookup x = some .local ∨ sc.names.lookup x = some .cell
  nofree : ∀ y ∈ sc.names, y.2 ≠ .free

theorem bindL_out {kindOf : Str → Option NameKind} {x : Str} : ∀ {binds : List (Str × Value)} {m : Str → Option Value}, (∀ v, (x, v) ∉ binds) → bindL kindOf binds m x = m x
  | [], _, _ => rfl
  | (n, v) :: r, m, h => by
    unfold bindL
    rw [bindL_out fun w hw => h w (List.mem_cons_of_mem _ hw)]
    split
    · have : x ≠ n := by rintro rfl; exact h v List.mem_cons_self
      simp [this]
    · rfl
theorem bindC_out {kindOf : Str → Option NameKind} {x : Str} : ∀ {binds : List (Str × Value)} {m : Str → Option Value}, (∀ v, (x, v) ∉ binds) → bindC kindOf binds m x = m x
  | [], _, _ => rfl
  | (n, v) :: r, m, h => by
    unfold bindC
    rw [bindC_out fun w hw => h w (List.mem_cons_of_mem _ hw)]
    split
    · rfl
    · have : x ≠ n := by rintro rfl; exact h v List.mem_cons_self
      simp [this]
theorem bindL_get {kindOf : Str → Option NameKind} {x : Str} {v : Value} : ∀ {P : List Str} {vs : List Value} {i : Nat} {m : Str → Option Value}, P.Nodup → P[i]? = some x → vs[i]? = some v → kindOf x = some .local →
    bindL kindOf (P.zip vs) m x = some v
  | [], _, _, _, _, h, _, _ => by simp at h
  | _ :: _, [], _, _, _, _, h, _ => by simp at h
  | p :: P, w :: vs, 0, m, nd, h1, h2, hk => by
    simp at h1 h2; subst h1; subst h2
    show bindL kindOf ((p, w) :: P.zip vs) m p = _
    unfold bindL
    rw [bindL_out fun v hv => (List.nodup_cons.mp nd).1 (List.of_mem_zip hv).1, if_pos hk]
    simp
  | p :: P, w :: vs, i + 1, m, nd, h1, h2, hk => by
    show bindL kindOf ((p, w) :: P.zip vs) m x = _
    unfold bindL
    exact bindL_get (i := i) (List.nodup_cons.mp nd).2 (by simpa using h1) (by simpa using h2) hk
theorem bindC_get {kindOf : Str → Option NameKind} {x : Str} {v : Value} : ∀ {P : List Str} {vs : List Value} {i : Nat} {m : Str → Option Value}, P.Nodup → P[i]? = some x → vs[i]? = some v → kindOf x ≠ some .local →
    bindC kindOf (P.zip vs) m x = some v
  | [], _, _, _, _, h, _, _ => by simp at h
  | _ :: _, [], _, _, _, _, h, _ => by simp at h
  | p :: P, w :: vs, 0, m, nd, h1, h2, hk => by
    simp at h1 h2; subst h1; subst h2
    show bindC kindOf ((p, w) :: P.zip vs) m p = _
    unfold bindC
    rw [bindC_out fun v hv => (List.nodup_cons.mp nd).1 (List.of_mem_zip hv).1, if_neg hk]
    simp
  | p :: P, w :: vs, i + 1, m, nd, h1, h2, hk => by
    show bindC kindOf ((p, w) :: P.zip vs) m x = _
    unfold bindC
    exact bindC_get (i := i) (List.nodup_cons.mp nd).2 (by simpa using h1) (by simpa using h2) hk

/-- the names' values at the entry -/
def start (N : List Str) (vs : List V) : St := vs.map some ++ List.replicate (N.length - vs.length) none

/-- the context of a def's body, at its entry; an exception leaves the frame, then lies as CX says -/
def cxOf (CX : CXT) (P : Program) (w : World) (K : PySem.W.Frag) (mg : Str → Option Value) (base : Heap) (N : List Str) (qual : Str) (scope : Scope) (f : Addr) (cd : Value) (A : Around) (outer : List Env) (s : Shared) (H : Hp) (E : XK) : Cx where
  prog := P
  w := w
  K := K
  mg := mg
  base := base
  A := A.deeper (envOfC qual scope s.heap.objs.size f cd)
  N := N
  s₀ := s
  H₀ := H
  env := envOfC qual scope s.heap.objs.size f cd
  outer := outer
  stack := envOfC qual scope s.heap.objs.size f cd :: outer
  ex := []
  calm := true
  fn := fun _ => true
  pn := []
  xe := fun e s' => wpAny (model P w) (A.deeper (envOfC qual scope s.heap.objs.size f cd)) (leaving (envOfC qual scope s.heap.objs.size f cd) e) (fun _ s'' => CX outer H s E e s'') (fun e' s'' => CX outer H s E e' s'') s'

theorem cell_has {sc : Scope} {n : Nat} {x : Str} (h : sc.names.lookup x = some .cell) : ∃ c, (cellsFrom n sc.names []).lookup x = some c := by
  have q := PySem.W.cellsFrom_some sc.names n [] (.inl h)
  exact Option.isSome_iff_exists.mp q

theorem inv_start {CX : CXT} {P : Program} {w : World} {K : PySem.W.Frag} {mg : Str → Option Value} {base : Heap} {N ps : List Str} {qual : Str} {scope : Scope} {f : Addr} {cd : Value} {A : Around} {outer : List Env} {s s1 : Shared} {H : Hp} {E : XK} {us : List Value} {vs : List V}
    (S : FnScope N ps scope) (hd : A.handled = none) (e0 : Env0 P w K mg base A outer s H) (hl : vs.length = ps.length) (r : Vals vs us)
    (x : InCallC s s.heap.objs.size (bindL (envOfC qual scope s.heap.objs.size f cd).kindOf (ps.zip us) fun _ => none) (cellsFrom (s.heap.objs.size + 1) scope.names []) (bindC (envOfC qual scope s.heap.objs.size f cd).kindOf (ps.zip us) fun _ => none) s1) :
    Inv (cxOf CX P w K mg base N qual scope f cd A outer s H E) [] (start N vs) H s1 := by
  have hpl : ps.length ≤ N.length := by have := congrArg List.length S.pre; rw [List.length_take] at this; omega
  obtain ⟨h1, tk, rfl, hk⟩ := x.done
  have noA : ∀ b : Addr, b ∉ (cxOf CX P w K mg base N qual scope f cd A outer s H E).ex := fun b z => absurd (show b ∈ ([] : List Addr) from z) (by simp)
  refine ⟨⟨e0.mod, S.kind, rfl, rfl, Nat.le_refl _, fun y z c h1 h2 => ?_, fun y hy => ?_, fun y c _ h => ?_, fun _ => hd, Around.frames_deeper e0.frames, .inr ⟨rfl, rfl⟩, fun b z => absurd z (noA b), e0.bs, e0.bsz, fun b _ _ => noA b, fun b z => absurd z (noA b), e0.funs, e0.frf⟩,
    rfl, e0.bare, Un.kept hk, ⟨_, x.toInCall.ns, fun i y v h1 h2 h3 => ?_⟩, fun y c h => ⟨_, x.cell y c h⟩, e0.hok.fresh (Nat.le_refl _), fun y c h => ?_, fun p hp => absurd (show p ∈ ([] : List (Addr × Obj)) from hp) (by simp), e0.hok.kept hk, ?_⟩
  · exact name_of_addr x.apart (PySem.mem_of_lookup h1) (PySem.mem_of_lookup h2)
  · have hy : scope.names.lookup y = some .cell ∨ scope.names.lookup y = some .free := hy
    rcases hy with hy | hy
    · exact cell_has hy
    · exact absurd rfl (S.nofree _ (PySem.mem_of_lookup hy))
  · exact Nat.le_of_lt (x.above y c (PySem.mem_of_lookup h))
  · have hi : i < vs.length := by
      unfold start at h2
      by_cases hi : i < vs.length
      · exact hi
      · rw [List.getElem?_append_right (by simpa using hi)] at h2
        rw [List.getElem?_replicate] at h2
        split at h2 <;> cases h2
    have ha : vs[i]? = some v := by
      unfold start at h2
      rw [List.getElem?_append_left (by simpa using hi), List.getElem?_map] at h2
      cases e : vs[i]? with
      | none => rw [e] at h2; cases h2
      | some a => rw [e] at h2; cases h2; rfl
    obtain ⟨u, hu, rv⟩ := r.get ha
    have hp : ps[i]? = some y := by
      rw [← S.pre, List.getElem?_take_of_lt (by omega)]; exact h1
    have ndP : ps.Nodup := by rw [← S.pre]; exact S.nd.sublist (List.take_sublist _ _)
    refine ⟨u, rv, ?_⟩
    rcases S.par y (List.mem_of_getElem? hp) with k | k
    · exact .inl ⟨k, bindL_get ndP hp hu k⟩
    · obtain ⟨c, e⟩ := cell_has (n := s.heap.objs.size + 1) k
      refine .inr ⟨.inl k, c, e, ?_⟩
      have q := x.cell y c e
      rw [bindC_get ndP hp hu (by show scope.names.lookup y ≠ _; rw [k]; decide)] at q
      exact q
  · exact e0.hok.fresh (Nat.le_of_lt (x.above y c (PySem.mem_of_lookup h)))
  · unfold start
    show _ = N.length
    rw [List.length_append, List.length_map, List.length_replicate]
    omega

/-- THE RULE: a def (or a method) of the text, by its body. The body's reading t is chosen for each entry; it is run at the parameters' values -/
theorem fn_of {CX : CXT} {P : Program} {w : World} {K : PySem.W.Frag} {mg : Str → Option Value} {base : Heap} {k : Nat} {f : Addr} {name qual : Str} {params : Arguments} {body : List Stmt} {scope : Scope} {dV kV doc pm cdv ct oc : Value} {an od : Option Addr}
    {osl : Array (Option Value)} {N ps : List Str} {sp : Sp} (lk : K.lookup f = some ⟨oc, od, .func (PySem.W.fnOf name qual params body scope dV kV doc pm an cdv ct), osl⟩) (hcd : PySem.W.codeIn K cdv qual = true) (S : FnScope N ps scope)
    (len : ∀ vs H Q E, sp vs H Q E → vs.length = ps.length)
    (hbody : ∀ (A : Around) (outer : List Env) (s : Shared) (H : Hp) (vs : List V) (Q : VK) (E : XK), Room k (A.deeper (envOfC qual scope s.heap.objs.size f cdv)) → sp vs H Q E →
      ∃ t, PSs (cxOf CX P w K mg base N qual scope f cdv A outer s H E) body t ∧ t { nx := fun _ H' => Q .non H', rt := Q } (start N vs) H) :
    FnOk P w K mg base CX (k + 1) f (PySem.W.fnOf name qual params body scope dV kV doc pm an cdv ct) ps sp := by
  refine ⟨len, fun A outer s H args us vs Q E hr e0 hb r hsp => ?_⟩
  have hl := len _ _ _ _ hsp
  have KX : K.In s.heap := e0.mod.kin.keeps fun b o e => (e0.bs b o e).1
  have lim : s.heap.NoLimit := e0.mod.nolimit.keeps fun b o e => (e0.bs b o e).1
  have hkind : ∀ y ∈ ps.zip us, scope.names.lookup y.1 = some .local ∨ (scope.names.lookup y.1 = some .cell ∧ ((cellsFrom (s.heap.objs.size + 1) scope.names []).lookup y.1).isSome = true) := fun ⟨n, v⟩ hy => by
    rcases S.par n (List.of_mem_zip hy).1 with q | q
    · exact .inl q
    · exact .inr ⟨q, PySem.W.cellsFrom_some _ _ _ (.inl q)⟩
  refine codeAny_call_function hr.depth (KX _ _ lk) rfl S.co S.gen rfl (PySem.W.codeRec_of KX hcd) (hb _ _ _ _ ?_)
  refine wpAny_newFunctionEnv_cells S.kind hkind fun env he s1 x => ?_
  subst he
  refine ⟨lim.keeps x.toInCall.keep, codeAny_func ?_⟩
  obtain ⟨t, ht, hq⟩ := hbody A outer s H vs Q E (hr.deeper _) hsp
  have I : Inv (cxOf CX P w K mg base N qual scope f cdv A outer s H E) [] (start N vs) H s1 := inv_start S hr.hd e0 hl r x
  refine wpAny_mono (ht [] s1 (start N vs) H _ I hq) (fun fl s' hs => ?_) fun e s' hs => hs
  have fin : ∀ {σ' : St} {H' : Hp} {v : V} {u : Value}, Inv (cxOf CX P w K mg base N qual scope f cdv A outer s H E) [] σ' H' s' → RelV v u → Q v H' → CE outer P w H s Q u s' :=
    fun {σ' H' v u} J rv q => ⟨v, H', J.os, J.bare, J.base, J.hok, rv, q⟩
  cases fl with
  | ret u =>
    obtain ⟨v, σ', H', J, rv, q⟩ := hs
    exact fin J rv q
  | next =>
    obtain ⟨σ', H', J, q⟩ := hs
    exact fin (v := V.non) (u := Value.none) J rfl q
  | brk =>
    obtain ⟨_, _, _, q⟩ := hs
    exact False.elim q
  | cont =>
    obtain ⟨_, _, _, q⟩ := hs
    exact False.elim q
end L2

namespace L2
open PySem PySem.Spec PyProof.Rows
section
variable {X : Cx} {x : Str} {p pos : Pos} {e : Expr} {es : List Expr} {t : TA} {id T : String} {r : List V → Hp → VK → Prop}

def tCB (r : List V → Hp → VK → Prop) (t : TA) : TE := fun σ H Q => t σ H fun vs H1 => r vs H1 Q
/-- f(e, ..), f a built-in function -/
theorem pe_callB (hc : CallR X (.builtin id) r) (hg : Gl X x) (hm : X.mg x = none) (hv : bootBuiltins x = some (.builtin id)) (ha : PA X (e :: es) t) (hn : x ≠ "__name__" := by decide) (hdb : (x == ("__debug__" : Str)) = false := by decide)
    (he : starEach (e :: es) X.env = (false, eval e X.env) :: starEach es X.env := by rfl) (hpl : (backTo pos (starEach es X.env)).any (·.1) = false := by rfl) : PE X (.Call (.Name x p) (e :: es) [] pos) (tCB r t) := by
  intro pins s σ H Q I h
  refine wpAny_Call_Name_kw (ld_blt I hg hm hv ?_ hn hdb)
  exact PyProof.Rows.callWith_builtin1 (thn (ha pos pins s σ H _ I h) fun us s1 ⟨vs, H1, I1, r1, q1⟩ => hc pins s1 σ H1 vs us Q I1 r1 q1) he hpl
/-- T(e, ..), T a built-in type -/
theorem pe_callTy (hc : CallR X (.type T) r) (hg : Gl X x) (hm : X.mg x = none) (hv : bootBuiltins x = some (.type T)) (ha : PA X (e :: es) t) (hn : x ≠ "__name__" := by decide) (hdb : (x == ("__debug__" : Str)) = false := by decide)
    (he : starEach (e :: es) X.env = (false, eval e X.env) :: starEach es X.env := by rfl) (hpl : (backTo pos (starEach es X.env)).any (·.1) = false := by rfl) : PE X (.Call (.Name x p) (e :: es) [] pos) (tCB r t) := by
  intro pins s σ H Q I h
  refine wpAny_Call_Name_kw (ld_blt I hg hm hv ?_ hn hdb)
  exact PyProof.Rows.callWith_type1 (thn (ha pos pins s σ H _ I h) fun us s1 ⟨vs, H1, I1, r1, q1⟩ => hc pins s1 σ H1 vs us Q I1 r1 q1) he hpl
/-- T() -/
theorem pe_callTy0 (hc : CallR X (.type T) r) (hg : Gl X x) (hm : X.mg x = none) (hv : bootBuiltins x = some (.type T)) (hn : x ≠ "__name__" := by decide) (hdb : (x == ("__debug__" : Str)) = false := by decide) :
    PE X (.Call (.Name x p) [] [] pos) (tCB r tNil) := by
  intro pins s σ H Q I h
  refine wpAny_Call_Name_kw (ld_blt I hg hm hv ?_ hn hdb)
  exact PyProof.Rows.callWith_type0 (hc pins s σ H [] [] Q I .nil h)
end
end L2

namespace HT
open PySem PyProof.Rows

/-- t < u of tuples of ints -/
def lexLt : List Int → List Int → Bool
  | [], [] => false
  | [], _ :: _ => true
  | _ :: _, [] => false
  | x :: xs, y :: ys => if x = y then lexLt xs ys else decide (x < y)
theorem lexLt_cons (x y : Int) (xs ys : List Int) : lexLt (x :: xs) (y :: ys) = if x = y then lexLt xs ys else decide (x < y) := rfl
theorem lexLt_nil_nil : lexLt [] [] = false := rfl
theorem lexLt_nil_cons (y : Int) (ys : List Int) : lexLt [] (y :: ys) = true := rfl
theorem lexLt_cons_nil (x : Int) (xs : List Int) : lexLt (x :: xs) [] = false := rfl

theorem eqAt_int (A : Around) (s : Shared) (a : Int) (t : Tok) (c : Int) (u : Tok) : ∃ e, SeqAt.EqAt A s (.int a t) (.int c u) e ∧ (e = true ↔ a = c) :=
  ⟨(a == c), SeqAt.EqAt.int_int a t c u, by simp⟩
theorem rcLt_int (A : Around) (s : Shared) (a : Int) (t : Tok) (c : Int) (u : Tok) (prog : Program) (w : World) (E : Value → Shared → Prop) (Q : Value → Shared → Prop) (h : Q (.bool (decide (a < c))) s) :
    wpAny (model prog w) A (richCompare .Lt (.int a t) (.int c u)) Q E s :=
  (PyProof.Rows.lt_int h : wpAny (model prog w) A (compareOp .Lt (.int a t) (.int c u)) Q E s)

section
open PySem.SeqAt
open PySem.AutoSeq1 (wpAny_loadPart')
open PySem.MeetsSeq PySem.MeetsSeq2 PySem.MeetsSeq3

theorem tuple_lt_ints (l b : Addr) (items items2 : Array Value) (n n2 : Nat) (dd dd2 : Option Addr) (sl sl2 : Array (Option Value)) (ns ms : List Int) (hi : IntsAre items.toList ns) (hj : IntsAre items2.toList ms) :
    Meets (Builtin.«tuple.__lt__» ⟨[.ref l, .ref b], []⟩)
      (fun _ R s => s.heap.get? l = some { cls := .type "tuple", dict := dd, data := .seq items n, slots := sl } ∧ s.heap.get? b = some { cls := .type "tuple", dict := dd2, data := .seq items2 n2, slots := sl2 } ∧
        R (.ok (.ret (.bool (lexLt ns ms)))) s) :=
  .of_wp fun prog w A R s h => by
    obtain ⟨hp, g, d, tk, os⟩ := s; obtain ⟨hl, hb, h⟩ := h
    have f2 := AutoSeq1.sub_tuple_tuple
    have z1 : items.size = ns.length := by rw [← hi.length]; simp
    have z2 : items2.size = ms.length := by rw [← hj.length]; simp
    wp_walk using wpAny_loadPart' hl, wpAny_loadPart' hb, wpAny_forIn_list _ (fun rest b s' => b.1 = none ∧ s' = ⟨hp, g, d, tk, os⟩ ∧ ∃ (vs ws : List Value) (ns' ms' : List Int), rest = vs.zip ws ∧
      IntsAre vs ns' ∧ IntsAre ws ms' ∧ ns'.length + items2.size = ms'.length + items.size ∧ R (.ok (.ret (.bool (lexLt ns' ms')))) ⟨hp, g, d, tk, os⟩) _
    case turn =>
      rintro ⟨y, x⟩ rest b s' ⟨hb', rfl, vs, ws, ns', ms', hz, hvi, hwi, hlen, hR⟩
      cases hvi with
      | nil => rw [List.zip_nil_left] at hz; cases hz
      | cons a t hvi' =>
        cases hwi with
        | nil => rw [List.zip_nil_right] at hz; cases hz
        | cons c u hwi' =>
          rw [List.zip_cons_cons] at hz
          injection hz with hyx hrest
          injection hyx with hy hx
          subst hy hx
          rw [lexLt_cons] at hR
          simp only [List.length_cons] at hlen
          obtain ⟨e, he, hiff⟩ := eqAt_int A.in1 ⟨hp, g, d, tk, os⟩ a t c u
          refine wpAny_bind (he prog w _ _ ?_)
          cases e with
          | true =>
            rw [if_pos (hiff.mp rfl)] at hR
            wp_walk
            exact ⟨rfl, rfl, _, _, _, _, hrest, hvi', hwi', by omega, hR⟩
          | false =>
            rw [if_neg (fun q => absurd (hiff.mpr q) Bool.false_ne_true)] at hR
            have hri := rcLt_int A.in1 ⟨hp, g, d, tk, os⟩ a t c u prog w
            wp_walk using hri
            exact ⟨_, rfl, by simpa using hR⟩
    case fin =>
      rintro ⟨b1, b2⟩ s' ⟨hb', rfl, vs, ws, ns', ms', hz, hvi, hwi, hlen, hR⟩
      simp only at hb'
      subst hb'
      have hv : lexLt ns' ms' = decide (items.size < items2.size) := by
        cases hvi with
        | nil =>
          cases hwi with
          | nil =>
            simp only [List.length_nil] at hlen
            rw [lexLt_nil_nil]
            exact (decide_eq_false (by omega)).symm
          | cons c u hw =>
            simp only [List.length_nil, List.length_cons] at hlen
            rw [lexLt_nil_cons]
            exact (decide_eq_true (by omega)).symm
        | cons a t hv =>
          cases hwi with
          | nil =>
            simp only [List.length_nil, List.length_cons] at hlen
            rw [lexLt_cons_nil]
            exact (decide_eq_false (by omega)).symm
          | cons c u hw =>
            rw [List.zip_cons_cons] at hz
            cases hz
      rw [hv] at hR
      wp_walk
      exact ⟨_, rfl, by simpa [Builtin.Tuple.tupleCompareSizes] using hR⟩
    case h =>
      exact ⟨rfl, rfl, items.toList, items2.toList, ns, ms, rfl, hi, hj, by omega, h⟩
end

section
variable {prog : Program} {w : World} {A : Around} {E : Value → Shared → Prop} {s : Shared}

theorem lt_tupInts {l b : Addr} {items items2 : Array Value} {ns ms : List Int} {Q : Value → Shared → Prop} (hl : IsTup s.heap l items) (hb : IsTup s.heap b items2) (hi : IntsAre items.toList ns) (hj : IntsAre items2.toList ms)
    (hu : A.units < cLine) (h : Q (.bool (lexLt ns ms)) s) : wpAny (model prog w) A (compareOp .Lt (.ref l) (.ref b)) Q E s := by
  obtain ⟨⟨cls, dd, data, sl⟩, ho, hc, n, hd⟩ := id hl
  obtain ⟨⟨cls2, dd2, data2, sl2⟩, ho2, hc2, n2, hd2⟩ := id hb
  simp only at hc hd hc2 hd2
  subst hc hd hc2 hd2
  exact richCompare_meets_room (op := .Lt) ⟨_, ho, rfl⟩ ⟨_, ho2, rfl⟩ PySem.F.slot_tuple_lt PySem.F.entry_tuple_lt (PySem.F.args_tuple_lt_2 _ _) (tuple_lt_ints l b items items2 n n2 dd dd2 sl sl2 ns ms hi hj)
    ⟨ho, ho2, show Value.bool (lexLt ns ms) ≠ Value.notImplemented ∧ Q (.bool (lexLt ns ms)) s from ⟨(fun x => nomatch x), h⟩⟩ hu

/-- t + u, t not empty -/
theorem cat_tup {t b : Addr} {vs ws : List Value} {Q : Value → Shared → Prop} (ht : IsTup s.heap t vs.toArray) (hb : IsTup s.heap b ws.toArray) (hv : vs ≠ [])
    (h1 : ws = [] → Q (.ref t) s) (h2 : ws ≠ [] → Q (.ref s.heap.objs.size) { s with heap := s.heap.push { cls := .type "tuple", data := .seq (vs ++ ws).toArray } })
    (hsz : vs.length + ws.length ≤ sizeLine) : wpAny (model prog w) A (binaryOp .Add (.ref t) (.ref b)) Q E s := by
  obtain ⟨⟨cls, dd, data, sl⟩, ho, hc, n, hd⟩ := id ht
  obtain ⟨⟨cls2, dd2, data2, sl2⟩, ho2, hc2, n2, hd2⟩ := id hb
  simp only at hc hd hc2 hd2
  subst hc hd hc2 hd2
  have e : vs.toArray ++ ws.toArray = (vs ++ ws).toArray := by simp
  by_cases hw : ws = []
  · exact concat_meets ⟨_, ho, rfl⟩ ⟨_, ho2, rfl⟩ noFill_tuple_add seq_tuple_add PySem.F.slot_tuple_add PySem.F.entry_tuple_add (PySem.F.args_tuple_add_2 _ _)
      (tuple_addW1 t b vs.toArray ws.toArray n n2 dd dd2 sl sl2 (by simpa using hv) (by simp [hw])) ⟨ho, ho2, h1 hw⟩
  · refine concat_meets ⟨_, ho, rfl⟩ ⟨_, ho2, rfl⟩ noFill_tuple_add seq_tuple_add PySem.F.slot_tuple_add PySem.F.entry_tuple_add (PySem.F.args_tuple_add_2 _ _)
      (tuple_addW2 t b vs.toArray ws.toArray n n2 dd dd2 sl sl2 (by simpa using hv) (by simpa using hw) (by rw [List.size_toArray, List.size_toArray]; exact hsz)) ⟨ho, ho2, ?_⟩
    rw [e]
    exact h2 hw

/-! ### t[a:b], not the whole -/
/-- a slice's bound as a place among n (d where it is left out) -/
def sIx (n d : Nat) : Option Int → Nat
  | none => d
  | some v => if v < 0 then (v + (n : Int)).toNat else min v.toNat n
theorem sIx_none (n d : Nat) : sIx n d none = d := rfl
theorem sIx_nat (n d k : Nat) : sIx n d (some (k : Int)) = min k n := by
  show (if (k : Int) < 0 then ((k : Int) + (n : Int)).toNat else min (k : Int).toNat n) = min k n
  rw [if_neg (by omega), Int.toNat_natCast]
theorem sIx_le (n d : Nat) (hd : d ≤ n) (o : Option Int) : sIx n d o ≤ n := by
  cases o with
  | none => exact hd
  | some v =>
    show (if v < 0 then (v + (n : Int)).toNat else min v.toNat n) ≤ n
    by_cases hv : v < 0
    · rw [if_pos hv]; omega
    · rw [if_neg hv]; exact Nat.min_le_right _ _
theorem clip_eq (v : Int) (n d : Nat) : (if v < 0 then max (v + (n : Int)) 0 else min v (n : Int)) = ((sIx n d (some v) : Nat) : Int) := by
  show (if v < 0 then max (v + (n : Int)) 0 else min v (n : Int)) = (((if v < 0 then (v + (n : Int)).toNat else min v.toNat n) : Nat) : Int)
  by_cases hv : v < 0
  · simp only [if_pos hv]; omega
  · simp only [if_neg hv]; omega
theorem adjust_gen (lo hi : Option Int) (n : Nat) : Builtin.Slice.sliceAdjust lo hi 1 (n : Int) = (((sIx n 0 lo : Nat) : Int), ((sIx n n hi : Nat) : Int)) := by
  have h1 : ¬ ((1 : Int) < 0) := by omega
  unfold Builtin.Slice.sliceAdjust
  simp only [h1, if_false]
  refine Prod.ext ?_ ?_
  · cases lo with
    | none => rfl
    | some v => exact clip_eq v n 0
  · cases hi with
    | none => rfl
    | some v => exact clip_eq v n n
theorem places_gen (i j : Nat) : Builtin.Slice.slicePlaces (i : Int) (j : Int) 1 = j - i := by
  unfold Builtin.Slice.slicePlaces
  have h1 : (1 : Int) > 0 := by omega
  simp only [h1, if_true, Int.ediv_one]
  split <;> omega
theorem slicePart_ {v : Value} {o : Option Int} {Q : Option Int → Shared → Prop} (p : IsPart v o) (h : Q o s) : wpAny (model prog w) A (Builtin.Slice.slicePartIndex v) Q E s := by
  cases p with
  | none => exact slicePart_none h
  | int i t => exact slicePart_int h
theorem sliceApplied_gen {sl : Addr} {vl vu : Value} {lo hi : Option Int} {n : Nat} {Q : Int × Int × Nat → Shared → Prop} (hs : s.heap.IsSliceOf sl vl vu .none) (pl : IsPart vl lo) (pu : IsPart vu hi)
    (h : Q (((sIx n 0 lo : Nat) : Int), 1, sIx n n hi - sIx n 0 lo) s) : wpAny (model prog w) A (Builtin.Slice.sliceApplied (.ref sl) (pure (n : Int))) Q E s := by
  obtain ⟨os, hos, hcs, hds⟩ := id hs
  unfold Builtin.Slice.sliceApplied Builtin.Slice.sliceFields
  refine wpAny_bind (wpAny_bind (wpAny_field hos hds (x := vl) rfl (wpAny_bind (wpAny_field hos hds (x := vu) rfl (wpAny_bind (wpAny_field hos hds (x := .none) rfl (wpAny_pure ?_)))))))
  refine wpAny_bind (slicePart_none ?_)
  show wpAny _ _ (if ((1 : Int) == 0) = true then _ else _) _ _ s
  rw [if_neg (by decide)]
  refine wpAny_bind (slicePart_ pl (wpAny_bind (slicePart_ pu (wpAny_bind (wpAny_pure ?_)))))
  show wpAny _ _ (match Builtin.Slice.sliceAdjust lo hi 1 (n : Int) with | (lo, hi) => pure (lo, (1 : Int), Builtin.Slice.slicePlaces lo hi 1)) _ _ s
  rw [adjust_gen lo hi n]
  show wpAny _ _ (pure (((sIx n 0 lo : Nat) : Int), (1 : Int), Builtin.Slice.slicePlaces ((sIx n 0 lo : Nat) : Int) ((sIx n n hi : Nat) : Int) 1)) _ _ s
  rw [places_gen]
  exact wpAny_pure h
theorem pick_gen (xs : Array Value) (i k : Nat) : ((List.range k).filterMap fun (m : Nat) => xs[((i : Int) + (m : Int) * 1).toNat]?).toArray = ((xs.toList.drop i).take k).toArray := by
  have e : (fun (m : Nat) => xs[((i : Int) + (m : Int) * 1).toNat]?) = fun m => xs[i + m]? := by
    funext m
    have : ((i : Int) + (m : Int) * 1).toNat = i + m := by omega
    rw [this]
  rw [e]
  have := pick_run xs i k
  rw [List.filterMap_map] at this
  have e2 : ((fun x => xs[x]?) ∘ fun x => i + x) = fun m => xs[i + m]? := rfl
  rw [e2] at this
  rw [this]

theorem getItem_tuple_cut {t sl : Addr} {items : Array Value} {vl vu : Value} {lo hi : Option Int} {Q : Value → Shared → Prop} (ht : IsTup s.heap t items) (hs : s.heap.IsSliceOf sl vl vu .none) (pl : IsPart vl lo) (pu : IsPart vu hi)
    (hw : ¬ (sIx items.size 0 lo = 0 ∧ sIx items.size items.size hi = items.size))
    (h : Q (.ref s.heap.objs.size) { s with heap := s.heap.push { cls := .type "tuple", data := .seq ((items.toList.drop (sIx items.size 0 lo)).take (sIx items.size items.size hi - sIx items.size 0 lo)).toArray } })
    (hsz : items.size ≤ sizeLine) : wpAny (model prog w) A (getItem (.ref t) (.ref sl)) Q E s := by
  have htake : sizeOk (.seq ((items.toList.drop (sIx items.size 0 lo)).take (sIx items.size items.size hi - sIx items.size 0 lo)).toArray) := by
    show ((items.toList.drop (sIx items.size 0 lo)).take (sIx items.size items.size hi - sIx items.size 0 lo)).toArray.size ≤ sizeLine
    rw [List.size_toArray, List.length_take, List.length_drop, Array.length_toList]
    omega
  have hj : sIx items.size items.size hi ≤ items.size := sIx_le _ _ (Nat.le_refl _) hi
  obtain ⟨os, hos, hcs, hds⟩ := id hs
  have hTs : s.TypeIs (.ref sl) "slice" := ⟨os, hos, hcs⟩
  unfold getItem
  try with_reducible refine wpAny_holding ?_
  first | refine wpAny_bind (wpAny_pure ?_) | skip
  refine wpAny_bind (wpAny_sequenceKey ht.typeIs (by decide) ?_)
  refine wpAny_bind (wpAny_callSpecial?_slot (name := Str.ofString "__getitem__") ht.typeIs PyProof.Rows.slot_tuple_getitem
    (wpAny_call_entry PyProof.Rows.slot_tuple_getitem ht.typeIs entry_tuple_getitem ?_ (args_tuple_getitem _ _)))
  show wpAny _ _ (Builtin.Tuple.tupleItemsOf (.ref t) >>= _) _ _ s
  refine wpAny_bind (tupleItemsOf_ ht ?_)
  refine wpAny_bind (wpAny_typeOf hTs ?_)
  rw [if_pos (by decide)]
  refine wpAny_bind (sliceApplied_gen hs pl pu ?_)
  have hno : ¬ ((((sIx items.size 0 lo : Nat) : Int) == 0 && (1 : Int) == 1 && (sIx items.size items.size hi - sIx items.size 0 lo) == items.size) = true) := by
    intro q
    rw [Bool.and_eq_true, Bool.and_eq_true] at q
    have q1 : ((sIx items.size 0 lo : Nat) : Int) = 0 := eq_of_beq q.1.1
    have q2 : sIx items.size items.size hi - sIx items.size 0 lo = items.size := eq_of_beq q.2
    exact hw ⟨by omega, by omega⟩
  show wpAny _ _ (if (((sIx items.size 0 lo : Nat) : Int) == 0 && (1 : Int) == 1 && (sIx items.size items.size hi - sIx items.size 0 lo) == items.size) = true then _ else _) _ _ s
  rw [if_neg hno, pick_gen]
  first
    | exact wpAny_bind (m := Builtin.Tuple.tupleExact _) (wpAny_newObj_type (wpAny_pure ⟨_, rfl, wpAny_pure h⟩) htake)
    | exact wpAny_bind (m := Builtin.Tuple.tupleExact _) (wpAny_newObj_type (wpAny_bind (wpAny_pure (wpAny_pure ⟨_, rfl, wpAny_pure h⟩))) htake)
    | exact wpAny_bind (wpAny_bind (m := Builtin.Tuple.tupleExact _) (wpAny_newObj_type (wpAny_pure (wpAny_pure ⟨_, rfl, wpAny_pure h⟩)) htake))
    | exact wpAny_bind (wpAny_bind (m := Builtin.Tuple.tupleExact _) (wpAny_newObj_type (wpAny_pure ⟨_, rfl, wpAny_pure h⟩) htake))
end
end HT

namespace L2
open PySem PySem.Spec PyProof.Rows

/-! ### the parts of a slice -/
abbrev TO := St → Hp → (Option Int → Hp → Prop) → Prop
/-- a slice's part (left out, or an int) -/
def PO (X : Cx) (e : Option Expr) (t : TO) : Prop :=
  ∀ (pins : List (Addr × Obj)) (s : Shared) (σ : St) (H : Hp) (Q : Option Int → Hp → Prop), Inv X pins σ H s → t σ H Q →
    wpAny (model X.prog X.w) X.A (evalPart e X.env) (fun u s' => ∃ o H', Inv X pins σ H' s' ∧ IsPart u o ∧ Q o H') X.xe s
def tNoPart : TO := fun _ H Q => Q none H
def tPart (t : TE) : TO := fun σ H Q => t σ H fun x H1 => ∃ i, x = .int i ∧ Q (some i) H1

theorem intsAre_of {ns : List Int} : ∀ {us : List Value}, Vals (ns.map V.int) us → IntsAre us ns := by
  induction ns with
  | nil => intro us r; rw [List.map_nil] at r; cases r; exact .nil
  | cons n ns ih =>
    intro us r
    rw [List.map_cons] at r
    cases r with
    | cons r1 r2 =>
      obtain ⟨t, e⟩ := r1
      subst e
      exact .cons n t (ih r2)

section
variable {X : Cx} {e : Expr} {te : TE} {lo hi : Option Expr} {tl th : TO} {pos p2 : Pos}

theorem po_none : PO X none tNoPart := by
  intro pins s σ H Q I h
  rw [evalPart_none]
  exact wpAny_pure ⟨none, H, I, .none, h⟩
theorem po_some (h : PE X e te) : PO X (some e) (tPart te) := by
  intro pins s σ H Q I hw
  rw [evalPart_some]
  refine thn (h pins s σ H _ I hw) fun u s1 ⟨x, H1, I1, r1, q1⟩ => ?_
  obtain ⟨i, rfl, q⟩ := q1
  obtain ⟨t, rfl⟩ := r1
  exact ⟨some i, H1, I1, .int i t, q⟩

/-- what a slice of a value is, by values: the slice object stands at sl -/
def SlR (X : Cx) (r : V → Option Int → Option Int → Hp → VK → Prop) : Prop :=
  ∀ (pins : List (Addr × Obj)) (s : Shared) (σ : St) (H : Hp) (x : V) (v vl vu : Value) (lo hi : Option Int) (sl : Addr) (Q : VK), Inv X pins σ H s → RelV x v → s.heap.IsSliceOf sl vl vu .none → IsPart vl lo → IsPart vu hi → r x lo hi H Q →
    ∃ T id, typeLookup (.type T) "__getitem__" = pure (some (.builtin id)) ∧ s.TypeIs v T ∧ wpAny (model X.prog X.w) X.A (getItem v (.ref sl)) (EP X pins σ Q) X.xe s
theorem SlR.or {r r' : V → Option Int → Option Int → Hp → VK → Prop} (h : SlR X r) (h' : SlR X r') : SlR X (fun x lo hi H Q => r x lo hi H Q ∨ r' x lo hi H Q) := by
  intro pins s σ H x v vl vu lo hi sl Q I rx hs pl pu q
  rcases q with q | q
  · exact h pins s σ H x v vl vu lo hi sl Q I rx hs pl pu q
  · exact h' pins s σ H x v vl vu lo hi sl Q I rx hs pl pu q
def tSl (r : V → Option Int → Option Int → Hp → VK → Prop) (te : TE) (tl th : TO) : TE := fun σ H Q => te σ H fun x H1 => tl σ H1 fun l H2 => th σ H2 fun u H3 => r x l u H3 Q
/-- a[lo:hi], any a -/
theorem pe_slice {r : V → Option Int → Option Int → Hp → VK → Prop} (hr : SlR X r) (he : PE X e te) (hl : PO X lo tl) (hu : PO X hi th) : PE X (.Subscript e (.Slice lo hi none p2) pos) (tSl r te tl th) := by
  intro pins s σ H Q I h
  refine Subscript_ (thn (he pins s σ H _ I h) fun v s1 ⟨x, H1, I1, r1, q1⟩ => ?_)
  refine wpAny_Slice (thn (hl pins s1 σ H1 _ I1 q1) fun vl s2 ⟨l, H2, I2, pl, q2⟩ => thn (hu pins s2 σ H2 _ I2 q2) fun vu s3 ⟨u, H3, I3, pu, q3⟩ => ?_)
  rw [evalPart_none]
  refine wpAny_pure ?_
  have I4 : Inv X pins σ H3 { s3 with heap := s3.heap.push { cls := .type "slice", data := .fields #[vl, vu, .none] } } := I3.kept (t' := s3.toks) fun b ob q => Heap.get?_push_of_some _ q
  obtain ⟨T, id, hT, ht, hg⟩ := hr pins { s3 with heap := s3.heap.push { cls := .type "slice", data := .fields #[vl, vu, .none] } } σ H3 x v vl vu l u s3.heap.objs.size Q I4 r1 (Heap.IsSliceOf.new ..) pl pu q3
  show wpAny (model X.prog X.w) X.A (subscriptTail e (.Slice lo hi none p2) v (.ref s3.heap.objs.size)) (EP X pins σ Q) X.xe { s3 with heap := s3.heap.push { cls := .type "slice", data := .fields #[vl, vu, .none] } }
  exact tail_any (ops := [.ref s3.heap.objs.size, v]) ht hT hg (by with_unfolding_all rfl)

/-- the items of xs[lo:hi] -/
def cutV (xs : List V) (lo hi : Option Int) : List V := (xs.drop (HT.sIx xs.length 0 lo)).take (HT.sIx xs.length xs.length hi - HT.sIx xs.length 0 lo)
theorem cutV_length (xs : List V) (lo hi : Option Int) : (cutV xs lo hi).length ≤ xs.length := by
  unfold cutV
  rw [List.length_take, List.length_drop]
  omega
/-- t[lo:hi], not the whole of it (the whole would be t itself) -/
def rSlT (K : PySem.W.Frag) : V → Option Int → Option Int → Hp → VK → Prop := fun x lo hi H Q => ∃ a xs, x = .ref a ∧ SqT K H a xs ∧
  ¬ (HT.sIx xs.length 0 lo = 0 ∧ HT.sIx xs.length xs.length hi = xs.length) ∧ ∀ p, H p = none → Q (.ref p) (upd H p (.tup (cutV xs lo hi)))
theorem sl_tup : SlR X (rSlT X.K) := by
  intro pins s σ H x v vl vu lo hi sl Q I rx hs pl pu h
  obtain ⟨a, xs, rfl, hx, hw, q⟩ := h
  cases rx
  obtain ⟨its, r, ht, hz⟩ := I.tuple hx
  have hlen : its.toArray.size = xs.length := by rw [List.size_toArray]; exact r.length.symm
  refine ⟨"tuple", _, PyProof.Rows.slot_tuple_getitem.lookup, ht.typeIs, ?_⟩
  refine HT.getItem_tuple_cut ht hs pl pu (by rw [hlen]; exact hw) ?_ (by rw [hlen]; exact hz)
  rw [hlen]
  refine ⟨.ref s.heap.objs.size, _, I.laid (t' := s.toks) (o := .tup (cutV xs lo hi)) (fun b ob q => Heap.get?_push_of_some _ q) (Nat.le_refl _) ?_, rfl, q _ (I.hok.fresh (Nat.le_refl _))⟩
  exact ⟨Nat.le_trans (cutV_length xs lo hi) hz, _, (r.drop (HT.sIx xs.length 0 lo)).take (HT.sIx xs.length xs.length hi - HT.sIx xs.length 0 lo), IsTup.new _ _⟩

/-! ### t < u, t + u -/
def rLtT (K : PySem.W.Frag) : R2 := fun x y H Q => ∃ a b ns ms, x = .ref a ∧ y = .ref b ∧ SqT K H a (ns.map V.int) ∧ SqT K H b (ms.map V.int) ∧ Q (.bl (HT.lexLt ns ms)) H
theorem op_ltT (hu : X.A.units < cLine) : OpR X (compareOp .Lt) (rLtT X.K) := by
  intro pins s σ H x y v u Q I rx ry h
  obtain ⟨a, b, ns, ms, rfl, rfl, ha, hb, q⟩ := h
  cases rx
  cases ry
  obtain ⟨its, r1, p1, _⟩ := I.tuple ha
  obtain ⟨its2, r2, p2, _⟩ := I.tuple hb
  have i1 : IntsAre its.toArray.toList ns := intsAre_of r1
  have i2 : IntsAre its2.toArray.toList ms := intsAre_of r2
  exact HT.lt_tupInts p1 p2 i1 i2 hu ⟨.bl (HT.lexLt ns ms), H, I, rfl, q⟩
/-- t + u, t not empty: u empty gives t itself -/
def rCatT (K : PySem.W.Frag) : R2 := fun x y H Q => ∃ a b xs ys, x = .ref a ∧ y = .ref b ∧ SqT K H a xs ∧ SqT K H b ys ∧ xs ≠ [] ∧ xs.length + ys.length ≤ sizeLine ∧
  (ys = [] → Q (.ref a) H) ∧ (ys ≠ [] → ∀ p, H p = none → Q (.ref p) (upd H p (.tup (xs ++ ys))))
theorem Vals.nil_iff {xs : List V} {us : List Value} (r : Vals xs us) : us = [] ↔ xs = [] := by
  cases r with
  | nil => simp
  | cons _ _ => simp
theorem op_catT : OpR X (binaryOp .Add) (rCatT X.K) := by
  intro pins s σ H x y v u Q I rx ry h
  obtain ⟨a, b, xs, ys, rfl, rfl, ha, hb, hx, hz, q1, q2⟩ := h
  cases rx
  cases ry
  obtain ⟨its, r1, p1, _⟩ := I.tuple ha
  obtain ⟨its2, r2, p2, _⟩ := I.tuple hb
  refine HT.cat_tup p1 p2 (fun z => hx (r1.nil_iff.mp z)) (fun z => ⟨.ref a, H, I, rfl, q1 (r2.nil_iff.mp z)⟩) (fun z => ?_) (by rw [← r1.length, ← r2.length]; exact hz)
  refine ⟨.ref s.heap.objs.size, _, I.laid (t' := s.toks) (o := .tup (xs ++ ys)) (fun b ob q => Heap.get?_push_of_some _ q) (Nat.le_refl _) ?_, rfl, q2 (fun w => z (r2.nil_iff.mpr w)) _ (I.hok.fresh (Nat.le_refl _))⟩
  exact ⟨by rw [List.length_append]; exact hz, _, r1.append r2, IsTup.new _ _⟩
/-- tuple(t) -/
theorem call_tupleT : CallR X (.type "tuple") (fun xs H Q => ∃ a ys, xs = [.ref a] ∧ SqT X.K H a ys ∧ Q (.ref a) H) := by
  intro pins s σ H xs us Q I r h
  obtain ⟨a, ys, rfl, ha, q⟩ := h
  obtain ⟨u, rfl, ru⟩ := vals1 r
  cases ru
  obtain ⟨its, _, p1, _⟩ := I.tuple ha
  exact call_tuple_same (items := its.toArray) p1 ⟨.ref a, H, I, rfl, q⟩
end
end L2

namespace L2
open PySem PySem.Spec PyProof.Rows

/-! ### places -/
/-- the place that an index of any sign means -/
def ixN (n : Nat) (i : Int) : Option Nat := if 0 ≤ i then (if i < n then some i.toNat else none) else if -(n : Int) ≤ i then some (i + n).toNat else none
def atI {α : Type} (xs : List α) (i : Int) : Option α := (ixN xs.length i).bind fun j => xs[j]?
theorem ixN_seq {n : Nat} {i : Int} {j : Nat} (h : ixN n i = some j) : seqIndex? i n = some j ∧ j < n ∧ -(n : Int) ≤ i ∧ i < n := by
  unfold ixN at h
  by_cases h0 : 0 ≤ i
  · rw [if_pos h0] at h
    by_cases h1 : i < n
    · rw [if_pos h1] at h
      have e : i.toNat = j := Option.some.inj h
      exact ⟨by rw [seqIndex_of h0 h1, e], by omega, by omega, h1⟩
    · rw [if_neg h1] at h; cases h
  · rw [if_neg h0] at h
    by_cases h1 : -(n : Int) ≤ i
    · rw [if_pos h1] at h
      have e : (i + n).toNat = j := Option.some.inj h
      exact ⟨by rw [seqIndex_neg (by omega) h1, e], by omega, h1, by omega⟩
    · rw [if_neg h1] at h; cases h
theorem atI_get {α : Type} {xs : List α} {i : Int} {v : α} (h : atI xs i = some v) : ∃ j, seqIndex? i xs.length = some j ∧ xs[j]? = some v ∧ j < xs.length ∧ -(xs.length : Int) ≤ i ∧ i < xs.length := by
  unfold atI at h
  cases e : ixN xs.length i with
  | none => rw [e] at h; cases h
  | some j =>
    rw [e] at h
    obtain ⟨h1, h2, h3, h4⟩ := ixN_seq e
    exact ⟨j, h1, h, h2, h3, h4⟩
theorem atI_nat {α : Type} {xs : List α} {j : Nat} {v : α} (h : xs[j]? = some v) : atI xs (j : Int) = some v := by
  have hj : j < xs.length := (List.getElem?_eq_some_iff.mp h).1
  have e : ixN xs.length (j : Int) = some j := by
    unfold ixN
    rw [if_pos (by omega), if_pos (by omega)]; simp
  unfold atI; rw [e]; exact h
theorem atI_last {α : Type} (xs : List α) (v : α) : atI (xs ++ [v]) (-1) = some v := by
  have hl : (xs ++ [v]).length = xs.length + 1 := by simp
  have e : ixN (xs ++ [v]).length (-1) = some xs.length := by
    unfold ixN
    rw [hl, if_neg (by decide), if_pos (by omega)]
    congr 1
    omega
  unfold atI
  rw [e]
  show (xs ++ [v])[xs.length]? = some v
  simp

/-! ### what may be subscripted -/
/-- what stands as an index of a plain subscript -/
def PlainIx (b : Expr) : Prop := ∀ o i, subscripted b false o i = operate [o, i] (getItem o i)
/-- a subscript by values -/
def IxR (X : Cx) (r : R2) : Prop :=
  ∀ (value slice : Expr) (pins : List (Addr × Obj)) (s : Shared) (σ : St) (H : Hp) (x y : V) (v u : Value) (Q : VK), Inv X pins σ H s → RelV x v → RelV y u → r x y H Q →
    subscripted slice false v u = operate [v, u] (getItem v u) → wpAny (model X.prog X.w) X.A (subscriptTail value slice v u) (EP X pins σ Q) X.xe s
/-- a call of a builtin's method by values: the receiver, the arguments -/
def MtR (X : Cx) (id : String) (r : V → List V → Hp → VK → Prop) : Prop :=
  ∀ (pins : List (Addr × Obj)) (s : Shared) (σ : St) (H : Hp) (x : V) (xs : List V) (v : Value) (us : List Value) (Q : VK), Inv X pins σ H s → RelV x v → Vals xs us → r x xs H Q →
    wpAny (model X.prog X.w) X.A (call (.builtin id) (v :: us)) (EP X pins σ Q) X.xe s
section
variable {X : Cx} {a b : Expr} {ta tb : TE} {pos : Pos}
theorem IxR.or {r r' : R2} (h : IxR X r) (h' : IxR X r') : IxR X (fun x y H Q => r x y H Q ∨ r' x y H Q) := by
  intro value slice pins s σ H x y v u Q I rx ry q hs
  rcases q with q | q
  · exact h value slice pins s σ H x y v u Q I rx ry q hs
  · exact h' value slice pins s σ H x y v u Q I rx ry q hs
theorem MtR.or {id : String} {r r' : V → List V → Hp → VK → Prop} (h : MtR X id r) (h' : MtR X id r') : MtR X id (fun x xs H Q => r x xs H Q ∨ r' x xs H Q) := by
  intro pins s σ H x xs v us Q I rx rs q
  rcases q with q | q
  · exact h pins s σ H x xs v us Q I rx rs q
  · exact h' pins s σ H x xs v us Q I rx rs q
/-- a[b] -/
theorem pe_ix {r : R2} (hr : IxR X r) (ha : PE X a ta) (hb : PE X b tb) (hs : PlainIx b) : PE X (.Subscript a b pos) (tOp r ta tb) := by
  intro pins s σ H Q I h
  exact Subscript_ (binT ha hb I h fun v u s2 x y H2 I2 rx ry q => hr a b pins s2 σ H2 x y v u Q I2 rx ry q (hs _ _))

def rIxL (K : PySem.W.Frag) : R2 := fun x y H Q => ∃ p xs i v, x = .ref p ∧ y = .int i ∧ SqL K H p xs ∧ atI xs i = some v ∧ Q v H
def rIxT (K : PySem.W.Frag) : R2 := fun x y H Q => ∃ p xs i v, x = .ref p ∧ y = .int i ∧ SqT K H p xs ∧ atI xs i = some v ∧ Q v H
def rIxS : R2 := fun x y H Q => ∃ z i c, x = .str z ∧ y = .int i ∧ z.length ≤ sizeLine ∧ atI z.cps.toList i = some c ∧ Q (.str ⟨#[c]⟩) H
theorem ix_list : IxR X (rIxL X.K) := by
  intro value slice pins s σ H x y v u Q I rx ry h hs
  obtain ⟨p, xs, i, z, rfl, rfl, hq, he, q⟩ := h
  cases rx
  obtain ⟨t, rfl⟩ := ry
  obtain ⟨its, r, pl, hz⟩ := I.list hq
  obtain ⟨j, h1, h2, h3, h4, h5⟩ := atI_get he
  obtain ⟨w, ew, rw'⟩ := r.get h2
  have hl := r.length
  have hn := line63
  have fin : EP X pins σ Q w s := ⟨z, H, I, rw', q⟩
  by_cases h0 : 0 ≤ i
  · have hj : i.toNat = j := by
      rw [seqIndex_of h0 h5] at h1
      exact Option.some.inj h1
    exact item_listR pl.isList h0 (by omega) (by rw [hj]; simpa using ew) fin hs
  · have hj : (i + (its.toArray.size : Int)).toNat = j := by
      rw [seqIndex_neg (by omega) h4] at h1
      rw [List.size_toArray, ← hl]
      exact Option.some.inj h1
    exact subscriptTail_builtinR (x := w) pl.isList.typeIs slot_list_getitem.lookup
      (wpAny_getItem_list_neg (Q := fun r s' => r = w ∧ EP X pins σ Q r s') pl.isList (by omega) (by rw [List.size_toArray] <;> omega) (by omega) (by rw [hj]; simpa using ew) ⟨rfl, fin⟩) hs
theorem ix_tup : IxR X (rIxT X.K) := by
  intro value slice pins s σ H x y v u Q I rx ry h hs
  obtain ⟨p, xs, i, z, rfl, rfl, hq, he, q⟩ := h
  cases rx
  obtain ⟨t, rfl⟩ := ry
  obtain ⟨its, r, pl, hz⟩ := I.tuple hq
  obtain ⟨j, h1, h2, h3, h4, h5⟩ := atI_get he
  obtain ⟨w, ew, rw'⟩ := r.get h2
  have hl := r.length
  have hn := line63
  have fin : EP X pins σ Q w s := ⟨z, H, I, rw', q⟩
  exact subscriptTail_builtinR (x := w) pl.typeIs slot_tuple_getitem.lookup
    (getItem_tuple (j := j) (Q := fun r s' => r = w ∧ EP X pins σ Q r s') pl (by omega) (by omega) (by rw [List.size_toArray, ← hl]; exact h1) (by simpa using ew) ⟨rfl, fin⟩) hs
theorem ix_str : IxR X rIxS := by
  intro value slice pins s σ H x y v u Q I rx ry h hs
  obtain ⟨z, i, c, rfl, rfl, hz, he, q⟩ := h
  obtain ⟨t, rfl⟩ := rx
  obtain ⟨t', rfl⟩ := ry
  obtain ⟨j, h1, h2, h3, h4, h5⟩ := atI_get he
  have hl : z.cps.toList.length = z.length := by simp [Str.length]
  rw [hl] at h1 h4 h5
  have hn := line63
  exact tail_any (typeIs_str s z t) slot_str_getitem.lookup (getItem_str (c := c) (by
    have e1 : decide (i < -(2 ^ 63 : Int)) = false := decide_eq_false (by omega)
    have e2 : decide (i ≥ 2 ^ 63) = false := decide_eq_false (by omega)
    rw [e1, e2, Bool.or_false]) (by rw [h1]; simpa using h2) ⟨.str ⟨#[c]⟩, H, I.tok _, ⟨_, rfl⟩, q⟩) hs
/-- list, tuple or str -/
def rIx (K : PySem.W.Frag) : R2 := fun x y H Q => rIxL K x y H Q ∨ rIxT K x y H Q ∨ rIxS x y H Q
theorem ix_seq : IxR X (rIx X.K) := ix_list.or (ix_tup.or ix_str)

/-! ### xs[i] = v, any sign -/
/-- the list's object behind a store -/
theorem mapSeq_set (its : List Value) (n j : Nat) (u : Value) : Obj.mapSeq (·.setIfInBounds j u) { cls := .type "list", data := .seq its.toArray n } = { cls := .type "list", data := .seq (its.set j u).toArray n } := by
  simp [Obj.mapSeq]
theorem Inv.lst {pins : List (Addr × Obj)} {σ : St} {H : Hp} {s : Shared} {p : Addr} {xs : List V} (I : Inv X pins σ H s) (h : H p = some (.lst xs)) :
    ∃ (its : List Value) (n : Nat), Vals xs its ∧ s.heap.get? p = some { cls := .type "list", data := .seq its.toArray n } ∧ xs.length ≤ sizeLine := by
  obtain ⟨z, its, n, r, e⟩ := I.hok p _ h
  exact ⟨its, n, r, e, z⟩
/-- the list at p is written by an update of its object -/
theorem Inv.lstUpd {pins : List (Addr × Obj)} {σ : St} {H : Hp} {s : Shared} {p : Addr} {xs ys : List V} {its its' : List Value} {n n' : Nat} {f : Obj → Obj} (I : Inv X pins σ H s) (h : H p = some (.lst xs))
    (ho : s.heap.get? p = some { cls := .type "list", data := .seq its.toArray n }) (hf : f { cls := .type "list", data := .seq its.toArray n } = { cls := .type "list", data := .seq its'.toArray n' }) (r : Vals ys its') (hz : ys.length ≤ sizeLine) (t : Nat) :
    Inv X pins σ (upd H p (.lst ys)) { s with heap := s.heap.update p f, toks := t } := by
  have e : (s.heap.update p f).get? p = some { cls := .type "list", data := .seq its'.toArray n' } := by
    rw [Heap.get?_update_self f ho (by rw [hf] <;> rfl), hf]
  refine I.write (x := p) (e := p) (by rw [h]; trivial) (.inl rfl) (fun b u hb q => (Heap.get?_update_other _ _ (Ne.symm hb)).trans q) ⟨_, e⟩ ?_
  exact ⟨hz, its', n', r, e⟩
def rSetL : V → V → V → Hp → (Hp → Prop) → Prop := fun o i v H Q => ∃ p xs k j, o = .ref p ∧ i = .int k ∧ H p = some (.lst xs) ∧ ixN xs.length k = some j ∧ Q (upd H p (.lst (xs.set j v)))
theorem set_list : PSet X rSetL := by
  intro pins s σ H o i v ov iv u Q I ro ri rv h
  obtain ⟨p, xs, k, j, rfl, rfl, hp, hj, q⟩ := h
  cases ro
  obtain ⟨t, rfl⟩ := ri
  obtain ⟨its, n, r, ho, hz⟩ := I.lst hp
  obtain ⟨h1, h2, h3, h4⟩ := ixN_seq hj
  have hl := r.length
  have hn := line63
  have I' : Inv X pins σ (upd H p (.lst (xs.set j v))) { s with heap := s.heap.update p (Obj.mapSeq (·.setIfInBounds j u)) } :=
    I.lstUpd hp ho (mapSeq_set its n j u) (r.set rv j) (by rw [List.length_set]; exact hz) s.toks
  by_cases h0 : 0 ≤ k
  · have hk : k.toNat = j := by
      rw [seqIndex_of h0 h4] at h1
      exact Option.some.inj h1
    exact PySem.W.ki_setAt ho h0 (by omega) (by rw [List.size_toArray, ← hl]; exact h4) (by rw [hk]; exact ⟨_, I', q⟩)
  · have hk : (k + (its.toArray.size : Int)).toNat = j := by
      rw [seqIndex_neg (by omega) h3] at h1
      rw [List.size_toArray, ← hl]
      exact Option.some.inj h1
    exact PySem.W.ki_setBack ho (by omega) (by rw [List.size_toArray, ← hl]; exact h3) (by omega) (by rw [hk]; exact ⟨_, I', q⟩)

/-! ### slices -/
theorem slice_bounds (lo hi : Option Int) (n : Nat) : (sliceBounds lo hi none n).1 = ((HT.sIx n 0 lo : Nat) : Int) ∧ (sliceBounds lo hi none n).2.1 = ((HT.sIx n n hi : Nat) : Int) ∧ (sliceBounds lo hi none n).2.2 = 1 := by
  refine ⟨?_, ?_, rfl⟩
  · cases lo with
    | none => simp [sliceBounds, HT.sIx]
    | some i =>
      simp only [sliceBounds, HT.sIx, Option.getD_none, show (1 : Int) > 0 by decide, if_true]
      by_cases h : i < 0
      · simp only [h, if_true] <;> omega
      · simp only [h, if_false] <;> omega
  · cases hi with
    | none => simp [sliceBounds, HT.sIx]
    | some i =>
      simp only [sliceBounds, HT.sIx, Option.getD_none, show (1 : Int) > 0 by decide, if_true]
      by_cases h : i < 0
      · simp only [h, if_true] <;> omega
      · simp only [h, if_false] <;> omega
theorem slicePick_cut (its : List Value) (lo hi : Option Int) : slicePick its.toArray lo hi none = ((its.drop (HT.sIx its.length 0 lo)).take (HT.sIx its.length its.length hi - HT.sIx its.length 0 lo)).toArray := by
  obtain ⟨h1, h2, h3⟩ := slice_bounds lo hi its.toArray.size
  unfold slicePick
  rw [h1, h2, h3]
  simp only [sliceRange_one, pick_run, List.size_toArray] <;> rfl
/-- xs[lo:hi] of a list: a new list -/
def rSlL (K : PySem.W.Frag) : V → Option Int → Option Int → Hp → VK → Prop := fun x lo hi H Q => ∃ a xs, x = .ref a ∧ SqL K H a xs ∧ ∀ p, H p = none → Q (.ref p) (upd H p (.lst (cutV xs lo hi)))
theorem sl_list : SlR X (rSlL X.K) := by
  intro pins s σ H x v vl vu lo hi sl Q I rx hs pl pu h
  obtain ⟨a, xs, rfl, hx, q⟩ := h
  cases rx
  obtain ⟨its, r, ht, hz⟩ := I.list hx
  have hlen := r.length
  refine ⟨"list", _, slot_list_getitem.lookup, ht.isList.typeIs, ?_⟩
  refine wpAny_getItem_list_slice ht.isList hs pl pu .none (by simp) ?_ (by rw [List.size_toArray] <;> omega)
  rw [slicePick_cut, ← hlen]
  refine ⟨.ref s.heap.objs.size, _, I.laid (t' := s.toks) (o := .lst (cutV xs lo hi)) (fun b ob q => Heap.get?_push_of_some _ q) (Nat.le_refl _) ?_, rfl, q _ (I.hok.fresh (Nat.le_refl _))⟩
  exact ⟨Nat.le_trans (cutV_length xs lo hi) hz, _, 0, (r.drop (HT.sIx xs.length 0 lo)).take (HT.sIx xs.length xs.length hi - HT.sIx xs.length 0 lo), Heap.get?_push_size _ rfl⟩

/-! ### in, not in: flat items -/
def flatV : V → Bool
  | .non => true
  | .bl _ => true
  | .int _ => true
  | .str _ => true
  | _ => false
/-- == of flat values -/
def eqV : V → V → Bool
  | .non, .non => true
  | .bl a, .bl b => a == b
  | .bl a, .int b => (if a then 1 else 0) == b
  | .int a, .bl b => a == (if b then 1 else 0)
  | .int a, .int b => a == b
  | .str a, .str b => a == b
  | _, _ => false
theorem eqAt_V {A : Around} {s : Shared} {y x : V} {u v : Value} (ry : RelV y u) (rx : RelV x v) (fy : flatV y = true) (fx : flatV x = true) : SeqAt.EqAt A s u v (eqV y x) := by
  cases y with
  | non =>
    cases ry
    cases x with
    | non => cases rx; exact SeqAt.EqAt.same _
    | bl b => cases rx; exact SeqAt.EqAt.none_bool b
    | int b => obtain ⟨t, rfl⟩ := rx; exact SeqAt.EqAt.none_int b t
    | str b => obtain ⟨t, rfl⟩ := rx; exact SeqAt.EqAt.none_str b t
    | _ => exact absurd (show false = true from fx) Bool.false_ne_true
  | bl a =>
    cases ry
    cases x with
    | non => cases rx; exact SeqAt.EqAt.bool_none a
    | bl b => cases rx; exact SeqAt.EqAt.bool_bool a b
    | int b => obtain ⟨t, rfl⟩ := rx; exact SeqAt.EqAt.bool_int a b t
    | str b => obtain ⟨t, rfl⟩ := rx; exact SeqAt.EqAt.bool_str a b t
    | _ => exact absurd (show false = true from fx) Bool.false_ne_true
  | int a =>
    obtain ⟨t', rfl⟩ := ry
    cases x with
    | non => cases rx; exact SeqAt.EqAt.int_none a t'
    | bl b => cases rx; exact SeqAt.EqAt.int_bool a t' b
    | int b => obtain ⟨t, rfl⟩ := rx; exact SeqAt.EqAt.int_int a t' b t
    | str b => obtain ⟨t, rfl⟩ := rx; exact SeqAt.EqAt.int_str a t' b t
    | _ => exact absurd (show false = true from fx) Bool.false_ne_true
  | str a =>
    obtain ⟨t', rfl⟩ := ry
    cases x with
    | non => cases rx; exact SeqAt.EqAt.str_none a t'
    | bl b => cases rx; exact SeqAt.EqAt.str_bool a t' b
    | int b => obtain ⟨t, rfl⟩ := rx; exact SeqAt.EqAt.str_int a t' b t
    | str b => obtain ⟨t, rfl⟩ := rx; exact SeqAt.EqAt.str_str a t' b t
    | _ => exact absurd (show false = true from fx) Bool.false_ne_true
  | _ => exact absurd (show false = true from fy) Bool.false_ne_true
/-- the items' answers, read off the values (a value's own answer does not lean on its token) -/
def eqU (x : V) (u : Value) : Bool := match u with
  | .none => eqV .non x
  | .bool b => eqV (.bl b) x
  | .int i _ => eqV (.int i) x
  | .str z _ => eqV (.str z) x
  | _ => false
theorem eqU_of {x y : V} {u : Value} (r : RelV y u) (f : flatV y = true) : eqU x u = eqV y x := by
  cases y with
  | non => cases r; rfl
  | bl b => cases r; rfl
  | int i => obtain ⟨t, rfl⟩ := r; rfl
  | str z => obtain ⟨t, rfl⟩ := r; rfl
  | _ => exact absurd (show false = true from f) Bool.false_ne_true
theorem any_eqU {x : V} : ∀ {xs : List V} {us : List Value}, Vals xs us → xs.all flatV = true → us.any (eqU x) = xs.any fun y => eqV y x
  | _, _, .nil, _ => rfl
  | y :: xs, u :: us, .cons r t, f => by
    rw [List.all_cons, Bool.and_eq_true] at f
    rw [List.any_cons, List.any_cons, eqU_of r f.1, any_eqU t f.2]
theorem mem_eqAt {A : Around} {s : Shared} {x : V} {v : Value} (rx : RelV x v) (fx : flatV x = true) : ∀ {xs : List V} {us : List Value}, Vals xs us → xs.all flatV = true → ∀ u ∈ us, SeqAt.EqAt A s u v (eqU x u)
  | _, _, .nil, _ => fun u hu => by cases hu
  | y :: xs, u :: us, .cons r t, f => fun u' hu => by
    rw [List.all_cons, Bool.and_eq_true] at f
    rcases List.mem_cons.mp hu with rfl | hu
    · rw [eqU_of r f.1]; exact eqAt_V r rx f.1 fx
    · exact mem_eqAt rx fx t f.2 u' hu
def inV (x : V) (xs : List V) : Bool := xs.any fun y => eqV y x
/-- x in a list or tuple of flat items -/
def rIn (K : PySem.W.Frag) (neg : Bool) : R2 := fun x y H Q => ∃ p xs, y = .ref p ∧ (SqL K H p xs ∨ SqT K H p xs) ∧ flatV x = true ∧ xs.all flatV = true ∧ Q (.bl (if neg then !inV x xs else inV x xs)) H
theorem op_in_seq : OpR X (compareOp .In) (rIn X.K false) := by
  intro pins s σ H x y v u Q I rx ry h
  obtain ⟨p, xs, rfl, hq, fx, fs, q⟩ := h
  cases ry
  rcases hq with hq | hq
  · obtain ⟨its, r, pl, hz⟩ := I.list hq
    refine SeqAt.in_listAt (eqU x) pl.isList (fun w hw => mem_eqAt rx fx r fs w (by simpa using hw)) ⟨.bl _, H, I, rfl, ?_⟩
    rw [show its.toArray.any (eqU x) = its.any (eqU x) by simp, any_eqU r fs]
    exact q
  · obtain ⟨its, r, pl, hz⟩ := I.tuple hq
    refine SeqAt.in_tupleAt (eqU x) pl (fun w hw => mem_eqAt rx fx r fs w (by simpa using hw)) ⟨.bl _, H, I, rfl, ?_⟩
    rw [show its.toArray.any (eqU x) = its.any (eqU x) by simp, any_eqU r fs]
    exact q
theorem op_notIn_seq : OpR X (compareOp .NotIn) (rIn X.K true) := by
  intro pins s σ H x y v u Q I rx ry h
  obtain ⟨p, xs, rfl, hq, fx, fs, q⟩ := h
  cases ry
  rcases hq with hq | hq
  · obtain ⟨its, r, pl, hz⟩ := I.list hq
    refine SeqAt.notIn_listAt (eqU x) pl.isList (fun w hw => mem_eqAt rx fx r fs w (by simpa using hw)) ⟨.bl _, H, I, rfl, ?_⟩
    rw [show its.toArray.any (eqU x) = its.any (eqU x) by simp, any_eqU r fs]
    exact q
  · obtain ⟨its, r, pl, hz⟩ := I.tuple hq
    refine SeqAt.notIn_tupleAt (eqU x) pl (fun w hw => mem_eqAt rx fx r fs w (by simpa using hw)) ⟨.bl _, H, I, rfl, ?_⟩
    rw [show its.toArray.any (eqU x) = its.any (eqU x) by simp, any_eqU r fs]
    exact q
theorem op_notIn_str : OpR X (compareOp .NotIn) (fun x y H Q => ∃ i j, x = .str i ∧ y = .str j ∧ Q (.bl (!(!(Builtin.Str.occurrences j i 0 j.length 1).isEmpty))) H) := by
  intro pins s σ H x y v u Q I rx ry h
  obtain ⟨i, j, rfl, rfl, q⟩ := h
  obtain ⟨t, rfl⟩ := rx
  obtain ⟨t', rfl⟩ := ry
  exact notIn_str ⟨.bl _, H, I, rfl, q⟩

/-! ### len, list(x), tuple(x) of any list or tuple that is read -/
theorem call_len_seq : CallR X (.builtin "len") (fun xs H Q => ∃ p ys, xs = [.ref p] ∧ (SqL X.K H p ys ∨ SqT X.K H p ys) ∧ Q (.int ys.length) H) := by
  intro pins s σ H xs us Q I r h
  obtain ⟨p, ys, rfl, hq, q⟩ := h
  obtain ⟨u, rfl, rx⟩ := vals1 r
  cases rx
  have hn := line63
  rcases hq with hq | hq
  · obtain ⟨its, r', pl, hz⟩ := I.list hq
    have hlen := r'.length
    exact Calls.call_len_list pl.isList (by simp only [List.size_toArray] <;> omega) ⟨.int ys.length, H, I.tok _, ⟨s.toks + 1, by rw [List.size_toArray, hlen]⟩, q⟩
  · obtain ⟨its, r', pl, hz⟩ := I.tuple hq
    have hlen := r'.length
    exact len_tuple pl (by simp only [List.size_toArray] <;> omega) ⟨.int ys.length, H, I.tok _, ⟨s.toks + 1, by rw [List.size_toArray, hlen]⟩, q⟩
theorem call_len_str : CallR X (.builtin "len") (fun xs H Q => ∃ z, xs = [.str z] ∧ z.length ≤ sizeLine ∧ Q (.int z.length) H) := by
  intro pins s σ H xs us Q I r h
  obtain ⟨z, rfl, hz, q⟩ := h
  obtain ⟨u, rfl, t, rfl⟩ := vals1 r
  have hn := line63
  exact len_str (by omega) ⟨.int z.length, H, I.tok _, ⟨_, rfl⟩, q⟩
theorem CallR.or {f : Value} {r r' : List V → Hp → VK → Prop} (h : CallR X f r) (h' : CallR X f r') : CallR X f (fun xs H Q => r xs H Q ∨ r' xs H Q) := by
  intro pins s σ H xs us Q I rs q
  rcases q with q | q
  · exact h pins s σ H xs us Q I rs q
  · exact h' pins s σ H xs us Q I rs q
theorem call_list_of : CallR X (.type "list") (fun xs H Q => ∃ p ys, xs = [.ref p] ∧ (SqL X.K H p ys ∨ SqT X.K H p ys) ∧ ∀ l, H l = none → Q (.ref l) (upd H l (.lst ys))) := by
  intro pins s σ H xs us Q I r h
  obtain ⟨p, ys, rfl, hq, q⟩ := h
  obtain ⟨u, rfl, rx⟩ := vals1 r
  cases rx
  have fin : ∀ (its : List Value), Vals ys its → ys.length ≤ sizeLine → ∀ (h' : Heap) (c' : Nat), (∀ b o', s.heap.get? b = some o' → h'.get? b = some o') →
      h'.get? s.heap.objs.size = some { cls := .type "list", dict := none, data := .seq its.toArray c', slots := #[] } → EP X pins σ Q (.ref s.heap.objs.size) { s with heap := h' } := fun its r' hz h' c' kp e =>
    ⟨.ref s.heap.objs.size, _, I.laid (t' := s.toks) kp (Nat.le_refl _) (show ObjOk X.prog X.w _ h' _ (.lst ys) from ⟨hz, its, c', r', e⟩), rfl, q _ (I.hok.fresh (Nat.le_refl _))⟩
  rcases hq with hq | hq
  · obtain ⟨its, r', pl, hz⟩ := I.list hq
    have hlen := r'.length
    obtain ⟨o, ho, hc, n, hd⟩ := pl.isList
    exact call_list_seq p (.inl rfl) ho hc hd (fun h' c' kp e => fin its r' hz h' c' kp e) (by simp only [List.size_toArray] <;> omega)
  · obtain ⟨its, r', pl, hz⟩ := I.tuple hq
    have hlen := r'.length
    obtain ⟨o, ho, hc, n, hd⟩ := pl
    exact call_list_seq p (.inr rfl) ho hc hd (fun h' c' kp e => fin its r' hz h' c' kp e) (by simp only [List.size_toArray] <;> omega)
theorem call_tuple_of : CallR X (.type "tuple") (fun xs H Q => ∃ p ys, xs = [.ref p] ∧ ((SqL X.K H p ys ∧ ∀ l, H l = none → Q (.ref l) (upd H l (.tup ys))) ∨ (SqT X.K H p ys ∧ Q (.ref p) H))) := by
  intro pins s σ H xs us Q I r h
  obtain ⟨p, ys, rfl, h⟩ := h
  obtain ⟨u, rfl, rx⟩ := vals1 r
  cases rx
  rcases h with ⟨hq, q⟩ | ⟨hq, q⟩
  · obtain ⟨its, r', pl, hz⟩ := I.list hq
    have hlen := r'.length
    refine call_tuple_list pl.isList (fun h' kp => ?_) (by simp only [List.size_toArray] <;> omega)
    have I1 : Inv X pins σ H { s with heap := h' } := I.kept (t' := s.toks) kp
    have I2 : Inv X pins σ (upd H h'.objs.size (.tup ys)) { s with heap := h'.push { cls := .type "tuple", data := .seq its.toArray } } :=
      I1.laid (t' := s.toks) (fun b o e => Heap.get?_push_of_some _ e) (Nat.le_refl _) (show ObjOk X.prog X.w _ _ _ (.tup ys) from ⟨hz, its, r', IsTup.new _ _⟩)
    exact ⟨.ref h'.objs.size, _, I2, rfl, q _ (I1.hok.fresh (Nat.le_refl _))⟩
  · obtain ⟨its, r', pl, hz⟩ := I.tuple hq
    exact call_tuple_same pl ⟨.ref p, H, I, rfl, q⟩

/-! ### the call of a builtin's method: o.m(..) -/
/-- the value is of that builtin type -/
def tyV (K : PySem.W.Frag) (T : String) (x : V) (H : Hp) : Prop := match x with
  | .str _ => T = "str"
  | .int _ => T = "int"
  | .ref p => (T = "list" ∧ ∃ xs, SqL K H p xs) ∨ (T = "tuple" ∧ ∃ o, K.lookup p = some o ∧ o.cls = .type "tuple" ∧ o.dict = none) ∨
      (T = "dict" ∧ ((∃ kvs, H p = some (.dK kvs)) ∨ ∃ kvs, H p = some (.dT kvs))) ∨ (T = "set" ∧ ∃ S n, H p = some (.set S n))
  | _ => False
theorem tyV_is {pins : List (Addr × Obj)} {σ : St} {H : Hp} {s : Shared} {T : String} {x : V} {v : Value} (I : Inv X pins σ H s) (r : RelV x v) (ty : tyV X.K T x H) :
    s.TypeIs v T ∧ ∀ a, v = .ref a → ∃ ob, s.heap.get? a = some ob ∧ ob.dict = none := by
  cases x with
  | str z =>
    obtain ⟨t, rfl⟩ := r
    cases (show T = "str" from ty)
    exact ⟨typeIs_str s z t, fun _ e => nomatch e⟩
  | int i =>
    obtain ⟨t, rfl⟩ := r
    cases (show T = "int" from ty)
    exact ⟨typeIs_int s i t, fun _ e => nomatch e⟩
  | ref p =>
    cases r
    rcases ty with ⟨rfl, xs, hq⟩ | ⟨rfl, o, hk, hc, hd⟩ | ⟨rfl, hk⟩ | ⟨rfl, S, n, hk⟩
    · obtain ⟨its, _, pl, _⟩ := I.list hq
      refine ⟨pl.isList.typeIs, fun a e => ?_⟩
      cases e
      obtain ⟨o, n, e, c, hd, _⟩ := pl
      exact ⟨o, e, hd⟩
    · refine ⟨⟨o, I.kIn p o hk, hc⟩, fun a e => ?_⟩
      cases e
      exact ⟨o, I.kIn _ o hk, hd⟩
    · have z : ∃ o, s.heap.get? p = some o ∧ o.ExactDict := by
        rcases hk with ⟨kvs, hk⟩ | ⟨kvs, hk⟩
        · obtain ⟨_, _, _, _, o, _, _, e, ex, _⟩ := I.hok p _ hk
          exact ⟨o, e, ex⟩
        · obtain ⟨_, _, _, _, o, _, _, e, ex, _⟩ := I.hok p _ hk
          exact ⟨o, e, ex⟩
      obtain ⟨o, e, ex⟩ := z
      refine ⟨⟨o, e, ex.1⟩, fun a e2 => ?_⟩
      cases e2
      exact ⟨o, e, ex.2.1⟩
    · obtain ⟨o, _, _, _, e, ex, _⟩ := I.hok p _ hk
      refine ⟨⟨o, e, ex.1⟩, fun a e2 => ?_⟩
      cases e2
      exact ⟨o, e, ex.2.1⟩
  | _ => exact False.elim ty
def tBM0 (K : PySem.W.Frag) (T : String) (r : V → List V → Hp → VK → Prop) (to : TE) : TE := fun σ H Q => to σ H fun x H1 => tyV K T x H1 ∧ r x [] H1 Q
def tBM (K : PySem.W.Frag) (T : String) (r : V → List V → Hp → VK → Prop) (to : TE) (t : TA) : TE := fun σ H Q => to σ H fun x H1 => tyV K T x H1 ∧ t σ H1 fun xs H2 => r x xs H2 Q
variable {o e : Expr} {es : List Expr} {to : TE} {t : TA} {name : Str} {apos cpos : Pos} {T id : String} {r : V → List V → Hp → VK → Prop}
theorem pe_bm0 (pa : PlainAttrs T) (slot : Slot T name id) (hty : typeOf (.builtin id) = pure (.type "method_descriptor")) (hm : MtR X id r) (ho : PE X o to)
    (hbase : attributeBase o name X.env (eval o X.env) = eval o X.env := by rfl) (hline : (apos.endLine == cpos.line) = true := by rfl) : PE X (.Call (.Attribute o name apos) [] [] cpos) (tBM0 X.K T r to) := by
  intro pins s σ H Q I h
  refine wpAny_Call_method0_late hbase hline (thn (ho pins s σ H _ I h) fun v s1 ⟨x, H1, I1, r1, ty, q1⟩ => ?_)
  obtain ⟨h1, h2⟩ := tyV_is I1 r1 ty
  exact ⟨T, id, pa, slot, hty, h1, h2, Calls.callWith_builtin rfl (PySem.evalArgs_none (hm pins s1 σ H1 x [] v [] Q I1 r1 .nil q1))⟩
theorem pe_bm (pa : PlainAttrs T) (slot : Slot T name id) (hty : typeOf (.builtin id) = pure (.type "method_descriptor")) (hm : MtR X id r) (ho : PE X o to) (ha : PA X (e :: es) t)
    (hbase : attributeBase o name X.env (eval o X.env) = eval o X.env := by rfl)
    (hfew : ((backTo cpos (starEach (e :: es) X.env)).all (fun x => !x.1) && (backToKw cpos (keywordEach [] X.env)).all (fun x => x.1.isSome)
      && decide ((e :: es).length + ([] : List Keyword).length + (if ([] : List Keyword).isEmpty then 0 else 1) < 30)) = true := by rfl)
    (hline : (apos.endLine == cpos.line) = true := by rfl) (hs : starEach (e :: es) X.env = (false, eval e X.env) :: starEach es X.env := by rfl) (hplain : (backTo cpos (starEach es X.env)).any (·.1) = false := by rfl) :
    PE X (.Call (.Attribute o name apos) (e :: es) [] cpos) (tBM X.K T r to t) := by
  intro pins s σ H Q I h
  refine wpAny_Call_method_late hbase hfew hline rfl (thn (ho pins s σ H _ I h) fun v s1 ⟨x, H1, I1, r1, ty, q1⟩ => ?_)
  obtain ⟨h1, h2⟩ := tyV_is I1 r1 ty
  refine ⟨T, id, pa, slot, hty, h1, h2, ?_⟩
  have hA := ha cpos pins s1 σ H1 _ I1 q1
  rw [hs] at hA ⊢
  refine Calls.callWith_builtin (by show (false || (backTo cpos (starEach es X.env)).any (·.1)) = false; rw [hplain] <;> rfl) (Calls.evalArgs_plain ?_)
  exact thn hA fun us s2 ⟨vs, H2, I2, r2, q2⟩ => hm pins s2 σ H2 x vs v us Q I2 r1 r2 q2
/- xs.append(e), list.index on a module's tuple .. are MtR facts of 06m -/
end
end L2

namespace L2
open PySem PySem.Spec PyProof.Rows

def MtM (X : Cx) (id : String) (r : V → List V → Hp → VK → Prop) : Prop :=
  ∀ (pins : List (Addr × Obj)) (s : Shared) (σ : St) (H : Hp) (x : V) (xs : List V) (v : Value) (us : List Value) (Q : VK), Inv X pins σ H s → RelV x v → Vals xs us → r x xs H Q →
    wpAny (model X.prog X.w) X.A (call (.builtin id) (v :: us)) (EP X pins σ Q) X.xe s

/-! ### lists of values -/
theorem Vals.one : ∀ {x : V} {us : List Value}, Vals [x] us → ∃ u, us = [u] ∧ RelV x u
  | _, _, .cons r .nil => ⟨_, rfl, r⟩
theorem Vals.two : ∀ {x y : V} {us : List Value}, Vals [x, y] us → ∃ u v, us = [u, v] ∧ RelV x u ∧ RelV y v
  | _, _, _, .cons r (.cons q .nil) => ⟨_, _, rfl, r, q⟩
theorem Vals.zero : ∀ {us : List Value}, Vals [] us → us = []
  | _, .nil => rfl
theorem Vals.dropLast {xs : List V} {us : List Value} (h : Vals xs us) : Vals xs.dropLast us.dropLast := by
  induction h with
  | nil => exact .nil
  | cons r t ih =>
    cases t with
    | nil => exact .nil
    | cons q t' => exact .cons r ih
theorem Vals.eraseIdx : ∀ {xs : List V} {us : List Value} (i : Nat), Vals xs us → Vals (xs.eraseIdx i) (us.eraseIdx i)
  | _, _, _, .nil => .nil
  | _, _, 0, .cons _ t => t
  | _, _, i + 1, .cons r t => .cons r (Vals.eraseIdx i t)
theorem Vals.reverse {xs : List V} {us : List Value} (h : Vals xs us) : Vals xs.reverse us.reverse := by
  induction h with
  | nil => exact .nil
  | cons r t ih => rw [List.reverse_cons, List.reverse_cons]; exact Vals.append ih (.cons r .nil)
theorem Vals.rep {xs : List V} {us : List Value} (h : Vals xs us) : ∀ k : Nat, Vals (List.replicate k xs).flatten (List.replicate k us).flatten
  | 0 => .nil
  | k + 1 => by
    rw [List.replicate_succ, List.replicate_succ, List.flatten_cons, List.flatten_cons]
    exact Vals.append h (Vals.rep h k)
theorem erase_last {α : Type} (l : List α) : l.eraseIdx (l.length - 1) = l.dropLast := by
  induction l with
  | nil => rfl
  | cons a r ih =>
    cases r with
    | nil => rfl
    | cons b r =>
      have e : (a :: b :: r).length - 1 = ((b :: r).length - 1) + 1 := by
        have h1 : (a :: b :: r).length = r.length + 2 := rfl
        have h2 : (b :: r).length = r.length + 1 := rfl
        omega
      rw [e, List.eraseIdx_cons_succ, ih]
      all_goals rfl
theorem len_erase {α : Type} : ∀ (l : List α) (i : Nat), (l.eraseIdx i).length ≤ l.length
  | [], _ => Nat.le_refl _
  | _ :: _, 0 => Nat.le_succ _
  | _ :: r, i + 1 => Nat.succ_le_succ (len_erase r i)
theorem foldl_rep (its : List Value) : ∀ (k : Nat) (acc : List Value),
    List.foldl (fun x1 x2 => x1 ++ x2) acc.toArray (List.replicate k its.toArray) = (acc ++ (List.replicate k its).flatten).toArray
  | 0, acc => by simp
  | k + 1, acc => by
    have e : acc.toArray ++ its.toArray = (acc ++ its).toArray := by simp
    have e2 : (acc ++ its) ++ (List.replicate k its).flatten = acc ++ (List.replicate (k + 1) its).flatten := by
      rw [List.replicate_succ, List.flatten_cons, List.append_assoc]
    rw [← e2, ← foldl_rep its k (acc ++ its), ← e, List.replicate_succ, List.foldl_cons]

section
variable {X : Cx} {pins : List (Addr × Obj)} {σ : St} {H : Hp} {s : Shared} {l b : Addr} {xs ys zs : List V}

/-! ### the two steps: a tracked list is rewritten, a new list is laid -/
theorem Inv.lset {its its' : List Value} {n : Nat} {f : Array Value → Array Value} {t' : Nat} (I : Inv X pins σ H s) (hH : H l = some (.lst xs))
    (e : s.heap.get? l = some { cls := .type "list", data := .seq its.toArray n }) (hf : f its.toArray = its'.toArray) (hv : Vals ys its') (hz : ys.length ≤ sizeLine) :
    Inv X pins σ (upd H l (.lst ys)) { s with heap := s.heap.update l (Obj.mapSeq f), toks := t' } := by
  have q := PySem.IsL.update e f
  rw [hf] at q
  refine I.write (x := l) (e := l) (by rw [hH]; exact trivial) (.inl rfl) (fun b' u hb hu => (Heap.get?_update_other s.heap (Obj.mapSeq f) (Ne.symm hb)).trans hu) ⟨_, q⟩ ?_
  exact ⟨hz, its', _, hv, q⟩
theorem Inv.lnew {its : List Value} {t' : Nat} (I : Inv X pins σ H s) (hv : Vals ys its) (hz : ys.length ≤ sizeLine) :
    Inv X pins σ (upd H s.heap.objs.size (.lst ys)) { s with heap := s.heap.push { cls := .type "list", data := .seq its.toArray }, toks := t' } :=
  I.laid (fun _ _ q => Heap.get?_push_of_some _ q) (Nat.le_refl _) ⟨hz, its, 0, hv, Heap.get?_push_size _ rfl⟩
theorem Inv.fresh (I : Inv X pins σ H s) : H s.heap.objs.size = none := I.hok.fresh (Nat.le_refl _)
theorem Inv.lstM (I : Inv X pins σ H s) (hH : H l = some (.lst xs)) : xs.length ≤ sizeLine ∧ ∃ (its : List Value) (n : Nat), Vals xs its ∧ xs.length = its.length ∧ s.heap.get? l = some { cls := .type "list", data := .seq its.toArray n } := by
  obtain ⟨z, its, n, r, e⟩ := I.hok l _ hH
  exact ⟨z, its, n, r, r.length, e⟩

theorem notLongL {n : Nat} (h : n ≤ sizeLine) : Builtin.List.listTooLong n = false := by
  unfold Builtin.List.listTooLong
  exact decide_eq_false (by omega)
end

section
variable {X : Cx}

/-! ### methods -/
def rAppend : V → List V → Hp → VK → Prop := fun x vs H Q => ∃ l xs y, x = .ref l ∧ vs = [y] ∧ H l = some (.lst xs) ∧ xs.length < sizeLine ∧ Q .non (upd H l (.lst (xs ++ [y])))
theorem mt_append : MtM X "list.append" rAppend := by
  intro pins s σ H x vs v us Q I rx rv h
  obtain ⟨l, xs, y, rfl, rfl, hH, hz, q⟩ := h
  cases rx
  obtain ⟨u, rfl, ru⟩ := rv.one
  obtain ⟨z, its, n, r, hl, e⟩ := I.lstM hH
  refine call_meets F.slot_list_append ⟨_, e, rfl⟩ F.entry_list_append (F.args_list_append_2 _ _) (PySem.list_append l its.toArray n u (by rw [List.size_toArray]; omega)) ⟨e, ?_⟩
  refine ⟨.non, _, I.lset (its' := its ++ [u]) hH e (by simp) (r.append (.cons ru .nil)) ?_, rfl, q⟩
  rw [List.length_append, List.length_singleton]
  omega

def rExtend : V → List V → Hp → VK → Prop := fun x vs H Q => ∃ l b xs zs, x = .ref l ∧ vs = [.ref b] ∧ H l = some (.lst xs) ∧ H b = some (.lst zs) ∧ xs.length + zs.length ≤ sizeLine ∧ Q .non (upd H l (.lst (xs ++ zs)))
theorem mt_extend : MtM X "list.extend" rExtend := by
  intro pins s σ H x vs v us Q I rx rv h
  obtain ⟨l, b, xs, zs, rfl, rfl, hH, hB, hz, q⟩ := h
  cases rx
  obtain ⟨u, rfl, ru⟩ := rv.one
  cases ru
  obtain ⟨z, its, n, r, hl, e⟩ := I.lstM hH
  obtain ⟨z2, its2, n2, r2, hl2, e2⟩ := I.lstM hB
  have hsz : its.toArray.size + its2.toArray.size ≤ sizeLine := by rw [List.size_toArray, List.size_toArray]; omega
  have hlong : ¬ (!its.toArray.isEmpty && Builtin.List.listTooLong (its.toArray.size + its2.toArray.size)) = true := by
    rw [notLongL hsz, Bool.and_false]
    exact Bool.false_ne_true
  refine call_meets F.slot_list_extend ⟨_, e, rfl⟩ F.entry_list_extend (F.args_list_extend_2 _ _)
    (AutoSeq1.list_extend_list_list_0 l its.toArray n b its2.toArray n2 hlong (by rw [List.size_toArray]; omega) (by omega)) ⟨e, e2, ?_⟩
  refine ⟨.non, _, I.lset (its' := its ++ its2) hH e (by simp) (r.append r2) ?_, rfl, q⟩
  rw [List.length_append]
  omega

def rPop : V → List V → Hp → VK → Prop := fun x vs H Q => ∃ l xs y, x = .ref l ∧ vs = [] ∧ H l = some (.lst xs) ∧ xs[xs.length - 1]? = some y ∧ Q y (upd H l (.lst xs.dropLast))
theorem mt_pop : MtM X "list.pop" rPop := by
  intro pins s σ H x vs v us Q I rx rv h
  obtain ⟨l, xs, y, rfl, rfl, hH, hy, q⟩ := h
  cases rx
  have hus := rv.zero
  subst hus
  obtain ⟨z, its, n, r, hl, e⟩ := I.lstM hH
  obtain ⟨u, hu, ru⟩ := r.get hy
  have hy' : its.toArray[its.toArray.size - 1]? = some u := by
    show its.toArray[its.length - 1]? = some u
    rw [← Array.getElem?_toList, ← hl]
    exact hu
  refine call_meets F.slot_list_pop ⟨_, e, rfl⟩ F.entry_list_pop (F.args_list_pop_1 _) (MeetsSeq.list_pop_last l its.toArray n u hy' (by rw [List.size_toArray]; omega)) ⟨e, ?_⟩
  refine ⟨y, _, I.lset (its' := its.dropLast) hH e ?_ r.dropLast ?_, ru, q⟩
  · show its.toArray.eraseIdxIfInBounds (its.toArray.size - 1) = its.dropLast.toArray
    rw [List.size_toArray, List.eraseIdxIfInBounds_toArray, erase_last]
  · rw [List.length_dropLast]
    omega

def rPopAt : V → List V → Hp → VK → Prop := fun x vs H Q => ∃ l xs i k y, x = .ref l ∧ vs = [.int i] ∧ H l = some (.lst xs) ∧ -(2 ^ 63) ≤ i ∧ i < 2 ^ 63 ∧ seqIndex? i xs.length = some k ∧ xs[k]? = some y ∧ Q y (upd H l (.lst (xs.eraseIdx k)))
theorem mt_popAt : MtM X "list.pop" rPopAt := by
  intro pins s σ H x vs v us Q I rx rv h
  obtain ⟨l, xs, i, k, y, rfl, rfl, hH, h1, h2, hk, hy, q⟩ := h
  cases rx
  obtain ⟨u, rfl, ru⟩ := rv.one
  obtain ⟨t, rfl⟩ := ru
  obtain ⟨z, its, n, r, hl, e⟩ := I.lstM hH
  obtain ⟨w, hw, rw'⟩ := r.get hy
  refine call_meets F.slot_list_pop ⟨_, e, rfl⟩ F.entry_list_pop (F.args_list_pop_2 _ _)
    (MeetsSeq.list_pop_at l its.toArray n i t k w (fitsIndex_both h1 h2) (by rw [List.size_toArray, ← hl]; exact hk) (by rw [← Array.getElem?_toList]; exact hw) (by rw [List.size_toArray]; omega)) ⟨e, ?_⟩
  refine ⟨y, _, I.lset (its' := its.eraseIdx k) hH e ?_ (r.eraseIdx k) ?_, rw', q⟩
  · show its.toArray.eraseIdxIfInBounds k = (its.eraseIdx k).toArray
    rw [List.eraseIdxIfInBounds_toArray]
  · have := len_erase xs k
    omega

def rReverse : V → List V → Hp → VK → Prop := fun x vs H Q => ∃ l xs, x = .ref l ∧ vs = [] ∧ H l = some (.lst xs) ∧ Q .non (upd H l (.lst xs.reverse))
theorem mt_reverse : MtM X "list.reverse" rReverse := by
  intro pins s σ H x vs v us Q I rx rv h
  obtain ⟨l, xs, rfl, rfl, hH, q⟩ := h
  cases rx
  have hus := rv.zero
  subst hus
  obtain ⟨z, its, n, r, hl, e⟩ := I.lstM hH
  refine call_meets F.slot_list_reverse ⟨_, e, rfl⟩ F.entry_list_reverse (F.args_list_reverse_1 _) (AutoSeq1.list_reverse_list_0 l its.toArray n (by rw [List.size_toArray]; omega)) ⟨e, ?_⟩
  refine ⟨.non, _, I.lset (its' := its.reverse) hH e (by simp) r.reverse ?_, rfl, q⟩
  rw [List.length_reverse]
  omega

def rClear : V → List V → Hp → VK → Prop := fun x vs H Q => ∃ l xs, x = .ref l ∧ vs = [] ∧ H l = some (.lst xs) ∧ Q .non (upd H l (.lst []))
theorem mt_clear : MtM X "list.clear" rClear := by
  intro pins s σ H x vs v us Q I rx rv h
  obtain ⟨l, xs, rfl, rfl, hH, q⟩ := h
  cases rx
  have hus := rv.zero
  subst hus
  obtain ⟨z, its, n, r, hl, e⟩ := I.lstM hH
  refine call_meets F.slot_list_clear ⟨_, e, rfl⟩ F.entry_list_clear (F.args_list_clear_1 _) (AutoSeq1.list_clear_list_0 l its.toArray n (by rw [List.size_toArray]; omega)) ⟨e, ?_⟩
  exact ⟨.non, _, I.lset (its' := []) (ys := []) hH e rfl .nil (Nat.zero_le _), rfl, q⟩

/-! ### list + list, list += list, list * int -/
def rCat : R2 := fun x y H Q => ∃ l b xs zs, x = .ref l ∧ y = .ref b ∧ H l = some (.lst xs) ∧ H b = some (.lst zs) ∧ xs.length + zs.length ≤ sizeLine ∧ ∀ p, H p = none → Q (.ref p) (upd H p (.lst (xs ++ zs)))
theorem op_cat : OpR X (binaryOp .Add) rCat := by
  intro pins s σ H x y v u Q I rx ry h
  obtain ⟨l, b, xs, zs, rfl, rfl, hH, hB, hz, q⟩ := h
  cases rx
  cases ry
  obtain ⟨z, its, n, r, hl, e⟩ := I.lstM hH
  obtain ⟨z2, its2, n2, r2, hl2, e2⟩ := I.lstM hB
  refine PySem.P.add_list e e2 ?_ (by rw [List.size_toArray, List.size_toArray]; omega)
  have ea : its.toArray ++ its2.toArray = (its ++ its2).toArray := by simp
  rw [ea]
  exact ⟨.ref _, _, I.lnew (t' := s.toks) (r.append r2) (by rw [List.length_append]; omega), rfl, q _ I.fresh⟩
/-- a list times an int (a negative one is nothing) -/
def rRep : R2 := fun x y H Q => ∃ l k xs, x = .ref l ∧ y = .int k ∧ H l = some (.lst xs) ∧ -(2 ^ 63) ≤ k ∧ k < 2 ^ 63 ∧ xs.length * k.toNat ≤ sizeLine ∧
  ∀ p, H p = none → Q (.ref p) (upd H p (.lst (List.replicate k.toNat xs).flatten))
theorem len_rep {α : Type} (xs : List α) (k : Nat) : (List.replicate k xs).flatten.length = k * xs.length := by
  induction k with
  | zero => simp
  | succ k ih => rw [List.replicate_succ, List.flatten_cons, List.length_append, ih, Nat.succ_mul, Nat.add_comm]
theorem op_rep : OpR X (binaryOp .Mult) rRep := by
  intro pins s σ H x y v u Q I rx ry h
  obtain ⟨l, k, xs, rfl, rfl, hH, h1, h2, hz, q⟩ := h
  cases rx
  obtain ⟨t, rfl⟩ := ry
  obtain ⟨z, its, n, r, hl, e⟩ := I.lstM hH
  have hlen : its.toArray.size * k.toNat ≤ sizeLine := by rw [List.size_toArray, ← hl]; exact hz
  have hcap : ¬ its.toArray.size * k.toNat > (2 ^ 63 - 1) / 8 := by
    have : (sizeLine : Nat) ≤ (2 ^ 63 - 1) / 8 := by decide
    omega
  have hfit : ¬ (!Builtin.List.listFitsIndex k) = true := by
    rw [fitsIndex_both h1 h2]
    exact Bool.false_ne_true
  have hlong : ¬ Builtin.List.listTooLong (its.toArray.size * k.toNat) = true := by
    rw [notLongL hlen]
    exact Bool.false_ne_true
  have hnew : List.foldl (fun x1 x2 => x1 ++ x2) #[] (List.replicate (if its.toArray.isEmpty = true then 0 else k.toNat) its.toArray) = (List.replicate k.toNat its).flatten.toArray := by
    have f0 : ∀ m : Nat, List.foldl (fun x1 x2 => x1 ++ x2) #[] (List.replicate m its.toArray) = (List.replicate m its).flatten.toArray := fun m => by
      have := foldl_rep its m []
      rw [List.nil_append] at this
      exact this
    rw [f0]
    cases its with
    | nil => simp
    | cons a r' => rw [if_neg (by simp)]
  refine wpAny_binaryOp_repeat_ref (T := "list") (U := "int") (by decide) ⟨_, e, rfl⟩ (fun s' => typeIs_int s' k t) noFill_list_mul F.fills_int_mul F.slot_int_rmul repeat_list F.slot_int_index.lookup
    (call_meets F.slot_int_rmul (typeIs_int s k t) F.entry_int_rmul (F.args_int_rmul_2 _ _) (int___rmul___int_list k t l its.toArray n)
      ⟨e, rfl, ⟨_, e, rfl⟩, call_meets F.slot_list_mul ⟨_, e, rfl⟩ F.entry_list_mul (F.args_list_mul_2 _ _) (AutoListH.list___mul___list_int_3 l its.toArray n k t hfit hcap hlong) ⟨e, ?_⟩⟩)
  rw [hnew]
  exact ⟨.ref _, _, I.lnew (t' := s.toks) (r.rep k.toNat) (by rw [len_rep, Nat.mul_comm]; exact hz), rfl, q _ I.fresh⟩

/-! ### del xs[i] -/
theorem del_list {pins : List (Addr × Obj)} {s : Shared} {σ : St} {H : Hp} {l : Addr} {xs : List V} {i : Int} {t : Tok} {k : Nat} {Q : Unit → Shared → Prop} (I : Inv X pins σ H s) (hH : H l = some (.lst xs))
    (h1 : -(2 ^ 63) ≤ i) (h2 : i < 2 ^ 63) (hk : seqIndex? i xs.length = some k) (h : ∀ s', Inv X pins σ (upd H l (.lst (xs.eraseIdx k))) s' → Q () s') :
    wpAny (model X.prog X.w) X.A (delItem (.ref l) (.int i t)) Q X.xe s := by
  obtain ⟨z, its, n, r, hl, e⟩ := I.lstM hH
  refine PySem.P.delItem_list (k := k) e (fitsIndex_both h1 h2) (by rw [List.size_toArray, ← hl]; exact hk) (h _ ?_) (by rw [List.size_toArray]; omega)
  refine I.lset (its' := its.eraseIdx k) (t' := s.toks) hH e ?_ (r.eraseIdx k) ?_
  · show its.toArray.eraseIdxIfInBounds k = (its.eraseIdx k).toArray
    rw [List.eraseIdxIfInBounds_toArray]
  · have := len_erase xs k
    omega
end

/-! ### xs[a:b] = ys -/
section
variable {prog : Program} {w : World} {A : Around} {E : Value → Shared → Prop} {s : Shared}
theorem splice_eq (its its2 : List Value) (a c : Nat) : its.toArray.extract 0 a ++ its2.toArray ++ its.toArray.extract c its.toArray.size = (its.take a ++ its2 ++ its.drop c).toArray := by
  apply Array.toList_inj.mp
  first
    | (simp
       exact List.take_of_length_le (by simp))
    | simp [List.take_of_length_le]
    | simp
theorem bounds_run {a c n : Nat} (hac : a ≤ c) (hc : c ≤ n) : sliceBounds (some (a : Int)) (some (c : Int)) none n = ((a : Int), (c : Int), 1) := by
  simp only [sliceBounds, Option.getD_none]
  have h1 : ¬ ((a : Int) < 0) := by omega
  have h2 : ¬ ((c : Int) < 0) := by omega
  simp only [h1, h2, if_false, show (1 : Int) > 0 by decide, if_true]
  congr 1
  · omega
  · congr 1; omega
set_option maxRecDepth 100000 in
/-- list.__setitem__ with a slice of step one and another list -/
theorem setItem_slice {l b sl : Addr} {items new : Array Value} {n n2 : Nat} {vl vu : Value} {a c : Nat} {Q : Unit → Shared → Prop}
    (e : s.heap.get? l = some { cls := .type "list", data := .seq items n }) (e2 : s.heap.get? b = some { cls := .type "list", data := .seq new n2 }) (hne : l ≠ b)
    (hs : s.heap.IsSliceOf sl vl vu .none) (pl : IsPart vl (some (a : Int))) (pu : IsPart vu (some (c : Int))) (hac : a ≤ c) (hc : c ≤ items.size)
    (hsz : items.size + new.size ≤ sizeLine) (h : Q () { s with heap := s.heap.update l (Obj.mapSeq fun xs => xs.extract 0 a ++ new ++ xs.extract c xs.size) }) :
    wpAny (model prog w) A (setItem (.ref l) (.ref sl) (.ref b)) Q E s := by
  have hl : s.heap.IsList l items := PySem.IsL.isList e
  have hb : s.heap.IsList b new := PySem.IsL.isList e2
  obtain ⟨os, hos, hcs, hds⟩ := id hs
  have hTs : s.TypeIs (.ref sl) "slice" := ⟨os, hos, hcs⟩
  have hstep : ¬ ((rawPart none == rawInt 0) = true) := Bool.false_ne_true
  have hsame : Builtin.List.listSameRef (.ref l) (.ref b) = false := by
    unfold Builtin.List.listSameRef
    exact beq_eq_false_iff_ne.mpr hne
  have hmax : (max (a : Int) (c : Int)).toNat = c := by omega
  have hz' : ((fun xs : Array Value => xs.extract 0 a ++ new ++ xs.extract c xs.size) items).size ≤ sizeLine + 1 := by
    simp only [Array.size_append, Array.size_extract]
    omega
  unfold setItem
  try with_reducible refine wpAny_holding ?_
  first | refine wpAny_bind (wpAny_pure ?_) | skip
  refine wpAny_bind (wpAny_sequenceKey hl.typeIs (by decide) ?_)
  refine wpAny_bind (wpAny_callSpecial?_slot (name := Str.ofString "__setitem__") hl.typeIs slot_list_setitem
    (wpAny_call_entry slot_list_setitem hl.typeIs entry_list_setitem ?_ (args_list_setitem _ _ _)))
  show wpAny _ _ (Builtin.List.listSubscript? (.ref sl) >>= _) _ _ s
  refine wpAny_bind ?_
  unfold Builtin.List.listSubscript?
  refine wpAny_bind (wpAny_specialOf hTs slice_no_index ?_)
  simp only [Option.isNone_none, if_true]
  refine wpAny_pure ?_
  show wpAny _ _ (typeOf (.ref sl) >>= _) _ _ s
  refine wpAny_bind (wpAny_typeOf hTs ?_)
  first
    | rw [if_neg (by decide)]
    | refine PySem.W.KFB.if_not (by decide) ?_
  rw [listSliceParts_eq]
  refine wpAny_bind (wpAny_bind (wpAny_field hos hds (x := .none) rfl (wpAny_bind (wpAny_listPart .none ?_))))
  rw [if_neg hstep]
  refine wpAny_bind (wpAny_field hos hds (x := vl) rfl (wpAny_bind (wpAny_listPart pl ?_)))
  refine wpAny_bind (wpAny_field hos hds (x := vu) rfl (wpAny_bind (wpAny_listPart pu (wpAny_pure ?_))))
  first
    | simp only [hsame, Bool.false_eq_true, if_false]
    | refine PySem.W.KFB.if_not hsame ?_
    | (dsimp only
       rw [if_neg (by rw [hsame]; exact Bool.false_ne_true)])
  refine wpAny_bind (m := Builtin.List.listAllItems (.ref b) "must assign iterable to extended slice") ?_
  unfold Builtin.List.listAllItems
  refine wpAny_bind (wpAny_typeOf hb.typeIs ?_)
  first
    | refine PySem.W.KFB.if_so (by decide) ?_
    | rw [if_pos (by decide)]
    | simp only [beq_self_eq_true, Bool.true_or, if_true]
  unfold Builtin.List.listItems
  refine wpAny_bind (wpAny_seqItems e2 rfl (wpAny_pure ?_))
  refine wpAny_bind (wpAny_bind (wpAny_seqItems e rfl (wpAny_pure ?_)))
  refine wpAny_bind (wpAny_of_eq ((sliceIndices_raw (some (a : Int)) (some (c : Int)) none items.size (by simp)).trans (congrArg (pure : Int × Int × Int → Sem (Int × Int × Int)) (bounds_run hac hc))) ?_)
  show wpAny _ _ (if ((1 : Int) == 1) = true then _ else _) _ _ s
  rw [if_pos (by decide)]
  refine wpAny_bind (wpAny_rule ?_)
  first
    | simp only [notLongL hsz, Bool.false_eq_true, if_false]
    | refine PySem.W.KFB.if_not (notLongL hsz) ?_
  first | refine wpAny_bind (wpAny_pure ?_) | skip
  show wpAny _ _ (updateSeq l (fun xs => xs.extract 0 ((a : Int)).toNat ++ new ++ xs.extract (max (a : Int) (c : Int)).toNat xs.size) >>= _) _ _ s
  rw [hmax, Int.toNat_natCast]
  refine wpAny_bind (wpAny_updateSeq (hz := Nat.le_trans (Nat.le_add_right _ _) hsz) (_hz' := hz') e rfl ?_)
  refine wpAny_bind (wpAny_letGo ?_)
  first
    | exact wpAny_bind (wpAny_pure (wpAny_pure ⟨.none, rfl, wpAny_pure h⟩))
    | exact wpAny_pure ⟨.none, rfl, wpAny_pure h⟩
end

section
variable {X : Cx}
/-- xs[a:c] = ys of another list, at the value level: sl is the slice object that was just made -/
theorem set_slice {pins : List (Addr × Obj)} {s : Shared} {σ : St} {H : Hp} {l b sl : Addr} {xs ys : List V} {a c : Int} {vl vu : Value} {Q : Unit → Shared → Prop} (I : Inv X pins σ H s)
    (hH : H l = some (.lst xs)) (hB : H b = some (.lst ys)) (hne : l ≠ b) (hs : s.heap.IsSliceOf sl vl vu .none) (ra : RelV (.int a) vl) (rc : RelV (.int c) vu) (h0 : 0 ≤ a) (hac : a ≤ c) (hc : c ≤ xs.length)
    (hz : xs.length + ys.length ≤ sizeLine) (h : ∀ s', Inv X pins σ (upd H l (.lst (xs.take a.toNat ++ ys ++ xs.drop c.toNat))) s' → Q () s') :
    wpAny (model X.prog X.w) X.A (setItem (.ref l) (.ref sl) (.ref b)) Q X.xe s := by
  obtain ⟨ta, rfl⟩ := ra
  obtain ⟨tc, rfl⟩ := rc
  obtain ⟨z, its, n, r, hl, e⟩ := I.lstM hH
  obtain ⟨z2, its2, n2, r2, hl2, e2⟩ := I.lstM hB
  obtain ⟨a', rfl⟩ := Int.eq_ofNat_of_zero_le h0
  obtain ⟨c', rfl⟩ := Int.eq_ofNat_of_zero_le (Int.le_trans h0 hac)
  simp only [Int.toNat_natCast] at h
  refine setItem_slice (a := a') (c := c') e e2 hne hs (.int _ _) (.int _ _) (by omega) (by rw [List.size_toArray]; omega) (by rw [List.size_toArray, List.size_toArray]; omega) (h _ ?_)
  refine I.lset (its' := its.take a' ++ its2 ++ its.drop c') (t' := s.toks) hH e ?_ (Vals.append (Vals.append (r.take _) r2) (r.drop _)) ?_
  · exact splice_eq its its2 a' c'
  · rw [List.length_append, List.length_append, List.length_take, List.length_drop]
    omega
end
end L2

namespace Att
open PySem PySem.W PySem.Calls PyProof.Rows

/-! ### the script -/
theorem ints_of_wellAll {P : Params} {h : Heap} : ∀ (ns : List Int) (vs : List Value), WellAll P h vs (ns.map WData.int) → IntsAre vs ns := by
  intro ns
  induction ns with
  | nil =>
    intro vs w
    rw [List.map_nil] at w
    cases w
    exact .nil
  | cons n ns ih =>
    intro vs w
    rw [List.map_cons] at w
    cases w with
    | cons a b =>
      cases a
      exact .cons _ _ (ih _ b)

theorem script_of {l : OpenLaw} {n : Nat} (hn : l.most = some n) {P : Params} {h : Heap} {args : List WData} {vals : List Value}
    (hpre : l.row.toRowW.claim.pre args = true) (hwl : WellAll P h vals args) :
    ∃ a vs ns, vals = [Value.ref a] ∧ args = [WData.list (ns.map WData.int)] ∧ h.get? a = some { cls := .type "list", data := .seq vs.toArray } ∧ IntsAre vs ns ∧ ns.length ≤ n := by
  have hsh : WShape.hasAll [] args [.list .int] = true := (pre_splitW hpre).1
  have hc : l.pre.holds [] { args := args } = true := (pre_splitW hpre).2
  obtain ⟨d, r, rfl, h1, h2⟩ := hasAllW_cons hsh
  obtain rfl := hasAllW_nil h2
  obtain ⟨xs, rfl, h3⟩ := hasW_list h1
  obtain ⟨ns, rfl⟩ := items_int h3
  have hlen : ns.length ≤ n := by
    unfold OpenLaw.pre at hc
    have h4 : (WTm.not (.lt (.lit (.int (n : Int))) (.len (.arg 0)))).holds [] { args := [.list (ns.map .int)] } = true := by
      have h4 := (holds_andW hc).1
      rw [hn] at h4
      exact h4
    have h5 := condW_of h4 (w_not (w_lt w_lit (w_len_list (w_arg rfl))))
    rw [List.length_map] at h5
    refine Nat.le_of_not_lt fun q => ?_
    have q' : (n : Int) < ((ns.length : Nat) : Int) := by omega
    first
      | (rw [decide_eq_true q'] at h5; exact absurd h5 (by decide))
      | (simp at h5; omega)
  cases hwl with
  | cons w1 w2 =>
    cases w2
    cases w1 with
    | list ho hall => exact ⟨_, _, ns, rfl, rfl, ho, ints_of_wellAll ns _ hall, hlen⟩

theorem post_true (l : OpenLaw) (args : List WData) : l.row.toRowW.claim.post args (.bool true) args = true :=
  postW_of (r := l.row.toRowW) (X := (true == true))
    (show WShape.has [] (.bool true) .bool = true by first | rfl | decide | simp [WShape.has, WShape.arms, WShape.armsAll])
    (show (WTm.eq .res (.lit (.bool true))).value [] { args := args, res := some (.bool true), after := args } = some (.bool (true == true)) from w_eq_bool (w_res rfl) w_lit) rfl

/-! ### the attachment: holds_open's last premise (the goal 'hc' behind k_head) from a wpAny of the law's body -/
theorem attach {l : OpenLaw} {n : Nat} {q : Program} {loose : List Str} {XP : (Str → Option Value) → Heap → Prop} {YP : World → Heap → Prop} {d : DefRec} {x : Str}
    (hn : l.most = some n) (hdf : d.params.defaults = [])
    (hbind : ∀ pm cd doc v : Value, bindArgs (docDef d.name d.params d.body d.scope pm cd doc) ⟨[v], []⟩ = pure [(x, v)])
    (hx : d.scope.names.lookup x = some .local ∨ d.scope.names.lookup x = some .cell)
    (hk : d.scope.kind = .function) (hco : d.scope.isCoroutine = false) (hgen : d.scope.isGenerator = false)
    (body : ∀ (w : World) (s₀ s₁ s : Shared) (mg mb : Str → Option Value) (fa : Addr) (o : Obj) (pm cd doc : Value) (a : Addr) (vs : List Value) (ns : List Int),
      Ground q loose [] XP w s₀ mg mb s₁.heap → YP w s₁.heap →
      s₁.heap.get? fa = some o → o.data = .func (docDef d.name d.params d.body d.scope pm cd doc) → s₁.heap.CodeRec cd d.name → mg d.name = some (.ref fa) →
      s₁.heap.get? a = some { cls := .type "list", data := .seq vs.toArray } → IntsAre vs ns → ns.length ≤ n →
      s.gens = #[] → s.os = s₁.os →
      Fr s₁.heap s₁.heap.objs.size s.heap (bindL (envOfC d.name d.scope s₁.heap.objs.size fa cd).kindOf [(x, .ref a)] fun _ => none) →
      Cl s₁.heap.objs.size (cellsFrom (s₁.heap.objs.size + 1) d.scope.names []) s.heap (bindC (envOfC d.name d.scope s₁.heap.objs.size fa cd).kindOf [(x, .ref a)] fun _ => none) →
      wpAny (model l.prog w) (callerA.deeper (envOfC d.name d.scope s₁.heap.objs.size fa cd)) (execs d.body (envOfC d.name d.scope s₁.heap.objs.size fa cd))
        (fun f s' => f = .ret (.bool true) ∧ OldK s₁.heap s'.heap ∧ s'.os = s₁.os ∧ AllBare s'.gens) (fun _ _ => False) s) :
    WalkO q loose XP YP l.row.toRowW d [] (fun f vs => PySem.call f vs) := by
  intro w s₀ s₁ mg mb G Y fa o pm cd doc dV kV ho hd hcd hD hmg hg args vals as hpre hlay hrd hwl hlo
  obtain rfl : dV = .none := Dflts.none hD hdf
  obtain rfl : kV = .none := Dflts.noKw hD
  obtain ⟨a, vs, ns, rfl, rfl, hobj, hints, hlen⟩ := script_of hn hpre hwl
  refine enter_call ?_
  refine call_cells_ret (o := o) (by rw [depth_caller]; decide) ho (fd_plain hd) G.T.nolimit hcd (hbind pm cd doc (.ref a)) (fun y hy => ?_) (fun h₁ tk F X => ?_) hco hgen hk
  · obtain rfl : y = (x, Value.ref a) := List.mem_singleton.mp hy
    rcases hx with e | e
    · exact .inl e
    · exact .inr ⟨e, cellsFrom_some _ _ _ (.inl e)⟩
  · refine wpAny_mono (body w s₀ s₁ { s₁ with heap := h₁, toks := tk } mg mb fa o pm cd doc a vs ns G Y ho (fd_plain hd) hcd hmg hobj hints hlen hg rfl F X) (fun f s' hq => ?_) (fun _ _ hq => hq)
    obtain ⟨rfl, h2, h3, h4⟩ := hq
    exact ⟨.inl ⟨.bool true, .bool true, [], rfl, fun _ => rfl, .bool true, post_true l _, fun _ => ⟨List.Pairwise.nil, fun _ hm => (nomatch hm)⟩⟩, h2, h3, h4⟩

/-- the same from a codeAny of the CALL (for a layer whose function contracts speak of calls) -/
theorem attach_call {l : OpenLaw} {n : Nat} {q : Program} {loose : List Str} {XP : (Str → Option Value) → Heap → Prop} {YP : World → Heap → Prop} {d : DefRec}
    (hn : l.most = some n) (hdf : d.params.defaults = [])
    (call : ∀ (w : World) (s₀ s₁ : Shared) (mg mb : Str → Option Value) (fa : Addr) (o : Obj) (pm cd doc : Value) (a : Addr) (vs : List Value) (ns : List Int),
      Ground q loose [] XP w s₀ mg mb s₁.heap → YP w s₁.heap →
      s₁.heap.get? fa = some o → o.data = .func (docDef d.name d.params d.body d.scope pm cd doc) → s₁.heap.CodeRec cd d.name → mg d.name = some (.ref fa) →
      s₁.heap.get? a = some { cls := .type "list", data := .seq vs.toArray } → IntsAre vs ns → ns.length ≤ n → s₁.gens = #[] →
      codeAny (model l.prog w) callerA (.call (.ref fa) ⟨[.ref a], []⟩) (fun r s' => r = .ok (.ret (.bool true)) ∧ OldK s₁.heap s'.heap ∧ s'.os = s₁.os ∧ AllBare s'.gens) s₁) :
    WalkO q loose XP YP l.row.toRowW d [] (fun f vs => PySem.call f vs) := by
  intro w s₀ s₁ mg mb G Y fa o pm cd doc dV kV ho hd hcd hD hmg hg args vals as hpre hlay hrd hwl hlo
  obtain rfl : dV = .none := Dflts.none hD hdf
  obtain rfl : kV = .none := Dflts.noKw hD
  obtain ⟨a, vs, ns, rfl, rfl, hobj, hints, hlen⟩ := script_of hn hpre hwl
  refine enter_call (codeAny_mono (call w s₀ s₁ mg mb fa o pm cd doc a vs ns G Y ho (fd_plain hd) hcd hmg hobj hints hlen hg) fun r s' hq => ?_)
  obtain ⟨rfl, h2, h3, h4⟩ := hq
  exact ⟨.inl ⟨.bool true, .bool true, [], rfl, fun _ => rfl, .bool true, post_true l _, fun _ => ⟨List.Pairwise.nil, fun _ hm => (nomatch hm)⟩⟩, h2, h3, h4⟩

/-- the same where the top left finished generators (o_head chose holds_openN): nothing may have changed at all and no generator may be left -/
theorem attachN {l : OpenLaw} {n : Nat} {q : Program} {loose : List Str} {XP : (Str → Option Value) → Heap → Prop} {YP : World → Heap → Prop} {d : DefRec} {x : Str}
    (hn : l.most = some n) (hdf : d.params.defaults = [])
    (hbind : ∀ pm cd doc v : Value, bindArgs (docDef d.name d.params d.body d.scope pm cd doc) ⟨[v], []⟩ = pure [(x, v)])
    (hx : d.scope.names.lookup x = some .local ∨ d.scope.names.lookup x = some .cell)
    (hk : d.scope.kind = .function) (hco : d.scope.isCoroutine = false) (hgen : d.scope.isGenerator = false)
    (body : ∀ (w : World) (s₀ s₁ s : Shared) (mg mb : Str → Option Value) (fa : Addr) (o : Obj) (pm cd doc : Value) (a : Addr) (vs : List Value) (ns : List Int),
      Ground q loose [] XP w s₀ mg mb s₁.heap → YP w s₁.heap →
      s₁.heap.get? fa = some o → o.data = .func (docDef d.name d.params d.body d.scope pm cd doc) → s₁.heap.CodeRec cd d.name → mg d.name = some (.ref fa) →
      s₁.heap.get? a = some { cls := .type "list", data := .seq vs.toArray } → IntsAre vs ns → ns.length ≤ n →
      s.gens = #[] → s.os = s₁.os →
      Fr s₁.heap s₁.heap.objs.size s.heap (bindL (envOfC d.name d.scope s₁.heap.objs.size fa cd).kindOf [(x, .ref a)] fun _ => none) →
      Cl s₁.heap.objs.size (cellsFrom (s₁.heap.objs.size + 1) d.scope.names []) s.heap (bindC (envOfC d.name d.scope s₁.heap.objs.size fa cd).kindOf [(x, .ref a)] fun _ => none) →
      wpAny (model l.prog w) (callerA.deeper (envOfC d.name d.scope s₁.heap.objs.size fa cd)) (execs d.body (envOfC d.name d.scope s₁.heap.objs.size fa cd))
        (fun f s' => f = .ret (.bool true) ∧ (∀ b o, s₁.heap.get? b = some o → s'.heap.get? b = some o) ∧ s'.os = s₁.os ∧ s'.gens = #[]) (fun _ _ => False) s) :
    WalkN q loose XP YP l.row.toRowW d [] (fun f vs => PySem.call f vs) := by
  intro w s₀ s₁ mg mb G Y fa o pm cd doc dV kV ho hd hcd hD hmg hg args vals as hpre hlay hrd hwl hlo
  obtain rfl : dV = .none := Dflts.none hD hdf
  obtain rfl : kV = .none := Dflts.noKw hD
  obtain ⟨a, vs, ns, rfl, rfl, hobj, hints, hlen⟩ := script_of hn hpre hwl
  refine enter_callW ?_
  refine call_cells_ret (o := o) (by rw [depth_caller]; decide) ho (fd_plain hd) G.T.nolimit hcd (hbind pm cd doc (.ref a)) (fun y hy => ?_) (fun h₁ tk F X => ?_) hco hgen hk
  · obtain rfl : y = (x, Value.ref a) := List.mem_singleton.mp hy
    rcases hx with e | e
    · exact .inl e
    · exact .inr ⟨e, cellsFrom_some _ _ _ (.inl e)⟩
  · refine wpAny_mono (body w s₀ s₁ { s₁ with heap := h₁, toks := tk } mg mb fa o pm cd doc a vs ns G Y ho (fd_plain hd) hcd hmg hobj hints hlen hg rfl F X) (fun f s' hq => ?_) (fun _ _ hq => hq)
    obtain ⟨rfl, h2, h3, h4⟩ := hq
    exact ⟨.inl ⟨.bool true, .bool true, [], rfl, fun _ => rfl, .bool true, post_true l _, fun _ => ⟨List.Pairwise.nil, fun _ hm => (nomatch hm)⟩⟩, h2, h3, h4⟩

/-! ### rules over ANY heap (no ledger) from facts about the written part K: the library's own take a ledger (News) for what they write -/
section
variable {prog : Program} {w : World} {A : Around} {E : Value → Shared → Prop} {s : Shared} {K : Frag}

/-- a def of the module, or a method (qual 'C.m'), entered: the frame is the next address; cells behind it -/
theorem call_fn {R : Result → Shared → Prop} {name qual : Str} {params : Arguments} {body : List Stmt} {scope : Scope} {dV kV doc pm cdv ct oc : Value} {an od : Option Addr} {osl : Array (Option Value)} {f : Addr} {args : Args} {binds : List (Str × Value)}
    (X : K.In s.heap) (hlim : s.heap.NoLimit) (ho : K.lookup f = some ⟨oc, od, .func (fnOf name qual params body scope dV kV doc pm an cdv ct), osl⟩) (hcd : codeIn K cdv qual = true) (hroom : A.depth < recursionLimit)
    (hbind : BindsTo s (fnOf name qual params body scope dV kV doc pm an cdv ct) args binds)
    (hkind : (binds.all fun y => scope.names.lookup y.1 == some .local || scope.names.lookup y.1 == some .cell) = true)
    (h : ∀ s₁, InCallC s s.heap.objs.size (bindL (envOfC qual scope s.heap.objs.size f cdv).kindOf binds fun _ => none) (cellsFrom (s.heap.objs.size + 1) scope.names [])
        (bindC (envOfC qual scope s.heap.objs.size f cdv).kindOf binds fun _ => none) s₁ →
      wpAny (model prog w) (A.deeper (envOfC qual scope s.heap.objs.size f cdv)) (execs body (envOfC qual scope s.heap.objs.size f cdv))
        (fun fl s' => R (.ok (.ret (match fl with | .ret v => v | _ => .none))) s')
        (fun e s' => wpAny (model prog w) (A.deeper (envOfC qual scope s.heap.objs.size f cdv)) (leaving (envOfC qual scope s.heap.objs.size f cdv) e) (fun _ s'' => R (.error e) s'') (fun e' s'' => R (.error e') s'') s') s₁)
    (hco : scope.isCoroutine = false) (hgen : scope.isGenerator = false) (hk : scope.kind = .function) : codeAny (model prog w) A (.call (.ref f) args) R s := by
  refine codeAny_call_function hroom (X _ _ ho) rfl hco hgen rfl (codeRec_of X hcd) (hbind _ _ _ _ ?_)
  refine wpAny_newFunctionEnv_cells hk (kindsX hkind _) fun env he s₁ x => ?_
  subst he
  exact ⟨hlim.keeps x.toInCall.keep, codeAny_func (h s₁ x)⟩

/-- C(..): dict at size, instance at size + 1, then __init__ -/
theorem make_obj {R : Result → Shared → Prop} {C fI : Addr} {rest : List Value} {kw : List (Str × Value)}
    (X : K.In s.heap) (hm : makesIn K C = true) (hi : findIn K (.ref C) "__init__" = some (some (.ref fI))) (hf : isFn K (.ref fI) = true)
    (h : codeAny (model prog w) (A.under (.builtin "type.__call__" ⟨.ref C :: rest, kw⟩)) (.call (.ref fI) ⟨.ref (s.heap.objs.size + 1) :: rest, kw⟩) (InitBack (s.heap.objs.size + 1) R)
      { s with heap := (s.heap.push emptyDict).push (instObj C s.heap.objs.size) }) : codeAny (model prog w) A (.call (.ref C) ⟨rest, kw⟩) R s := by
  obtain ⟨hh, g, d, t, os⟩ := s
  exact make_core (makes_of X hm) (looks_findIn X hi) (fun self => bind_fn X self (beq_iff_eq.mp hf)) (.inl rfl) h

/-- x.name where the instance's dict holds the name and the class does not -/
theorem get_field {x C : Addr} {ox : Obj} {es : List DictEntry} {n : Nat} {name : Str} {expr : Bool} {v : Value} {Q : Value → Shared → Prop}
    (X : K.In s.heap) (I : PySem.W.InstAt s.heap x ox C (some (dictOf es n))) (hg : plainGet K C name = true) (hh : hasDictIn K C = true) (ha : findIn K (.ref C) name = some none)
    (hl : getL name es = some (some v)) (hv : handedIn v = true) (h : Q v { s with toks := s.toks + 1 }) : wpAny (model prog w) A (getAttr (.ref x) name expr) Q E s :=
  get_value X I (plainGet_of hg).1 (findObj_own hh ha rfl hl) hv h

/-- x.m(..): the method found in the class -/
theorem get_method {x C f : Addr} {ox : Obj} {es : List DictEntry} {n : Nat} {name : Str} {pl : Sem Bool} {Q : Value × List Value → Shared → Prop}
    (X : K.In s.heap) (I : PySem.W.InstAt s.heap x ox C (some (dictOf es n))) (hg : plainGet K C name = true) (hf : findIn K (.ref C) name = some (some (.ref f))) (ht : isFn K (.ref f) = true)
    (hl : getL name es = some none) (h : Q (.ref f, [.ref x]) s) : wpAny (model prog w) A (getMethod (.ref x) name pl) Q E s :=
  method_fn X I (plainGet_of hg).1 (plainGet_of hg).2 hf (beq_iff_eq.mp ht) (by show (lookIn name (dictOf es n)).map _ = _; rw [lookIn_dict, hl]; rfl) h

/-! the whole heap as the ledger: makes every rule that writes through a ledger a rule over any heap -/
def noObjs (h : Heap) : Heap := { h with objs := #[] }
theorem noObjs_get (h : Heap) (b : Addr) : (noObjs h).get? b = none := by
  cases e : (noObjs h).get? b with
  | none => rfl
  | some o => exact absurd (Heap.lt_size e) (Nat.not_lt_zero _)
def ledger (h : Heap) (L d : Addr) : List (Addr × Obj) := (List.range h.objs.size).filterMap fun a => if a = L ∨ a = d then none else (h.get? a).map fun o => (a, o)
theorem mem_ledger {h : Heap} {L d a : Addr} {o : Obj} : (a, o) ∈ ledger h L d ↔ a ≠ L ∧ a ≠ d ∧ h.get? a = some o := by
  unfold ledger
  rw [List.mem_filterMap]
  constructor
  · rintro ⟨b, _, e⟩
    split at e
    · cases e
    · rename_i hb
      obtain ⟨o', ho, e'⟩ := Option.map_eq_some_iff.mp e
      cases e'
      exact ⟨fun q => hb (.inl q), fun q => hb (.inr q), ho⟩
  · rintro ⟨n1, n2, ho⟩
    refine ⟨a, List.mem_range.mpr (Heap.lt_size ho), ?_⟩
    rw [if_neg (show ¬ (a = L ∨ a = d) from fun q => q.elim n1 n2), ho] <;> rfl
theorem news_ledger {h : Heap} {L d : Addr} {od : Obj} (hne : d ≠ L) (ho : h.get? d = some od) : News (noObjs h) L h ([] ++ (d, od) :: ledger h L d) := by
  rintro ⟨a, o⟩ hp
  rcases List.mem_cons.mp hp with e | hp
  · cases e
    exact ⟨ho, hne, noObjs_get _ _⟩
  · obtain ⟨n1, n2, e⟩ := mem_ledger.mp hp
    exact ⟨e, n1, noObjs_get _ _⟩
theorem fr_all {h : Heap} {L : Addr} {m : Str → Option Value} (n : h.Ns L m) : Fr (noObjs h) L h m :=
  ⟨n, fun b o e => (by rw [noObjs_get] at e; cases e), Nat.zero_le _⟩
/-- Upd of the head entry (for append_K, setItem_K ..) -/
theorem upd_ledger {h : Heap} {L d : Addr} {o o' : Obj} : Upd d o o' ((d, o) :: ledger h L d) ((d, o') :: ledger h L d) :=
  .head fun ⟨_, _⟩ hp => (mem_ledger.mp hp).2.1

/-- x.name = v over any heap: L is any namespace of the heap (the frame's, say): its map stays, its object is not told; all else but the dict stays -/
theorem set_field {x C dx L : Addr} {ox : Obj} {m : Str → Option Value} {es es' : List DictEntry} {n n' : Nat} {name : Str} {v : Value} {Q : Unit → Shared → Prop}
    (X : K.In s.heap) (I : PySem.W.InstAt s.heap x ox C (some (dictOf es n))) (hd : ox.dict = some dx) (hL : s.heap.Ns L m) (hne : dx ≠ L)
    (hs : findIn K (.ref C) "__setattr__" = some (some (.builtin "object.__setattr__"))) (hp : plainOver K C = true) (ht : takerIn K C name = some none) (hh : hasDictIn K C = true) (hl : (getL name es).isSome = true)
    (e : (putL name (PyData.keyHash w.params name) (.str name (s.toks + 1)) v es, putN name es n) = (es', n')) (hz : es'.length ≤ 1000)
    (h : ∀ h' : Heap, h'.Ns L m → h'.get? dx = some (dictOf es' n') → (∀ b o, b ≠ dx → b ≠ L → s.heap.get? b = some o → h'.get? b = some o) → Q () { s with heap := h', toks := s.toks + 2 }) :
    wpAny (model prog w) A (setAttr (.ref x) name v) Q E s := by
  obtain ⟨e1, e2⟩ := Prod.mk.inj e
  have hdx : s.heap.get? dx = some (dictOf es n) := by
    have := I.dict
    rw [hd] at this
    exact this
  refine set_plain X I hs (osa_dict (s := { s with toks := s.toks + 1 }) (h₀ := noObjs s.heap) (L := L) (m := m) (od := dictOf es n) (od' := dictOf es' n') (es := es') (n := n') (pre := []) (post := ledger s.heap L dx)
    (fr_all hL) (news_ledger hne hdx) X I hd hp ht hh hl (fun _ q => nomatch q) (fun ⟨_, _⟩ q => (mem_ledger.mp q).2.1) (by rw [putName_dict, e1, e2]) rfl hz fun h' F' N' => ?_)
  exact h h' F'.ns (N'.get (List.Mem.head _)) fun b o n1 n2 ho => N'.get (List.Mem.tail _ (mem_ledger.mpr ⟨n2, n1, ho⟩))
end
end Att

namespace L2
open PySem PySem.Spec PyProof.Rows

theorem vals_ints : ∀ {vs : List Value} {ns : List Int}, IntsAre vs ns → Vals (ns.map V.int) vs
  | _, _, .nil => .nil
  | _, _, .cons n t h => .cons ⟨t, rfl⟩ (vals_ints h)

/-- nothing is tracked but the script, known to the object (or it is an object of the module) -/
def Only (H : Hp) : Prop := ∀ b, H b = none ∨ ∃ o xs, H b = some (.frz o (.lst xs))

/-- THE HEAD: the law's promise, at the heap behind the top. F, the promise of the law's def, may use that base is part of the heap (so K.In base, base.Ns mainGlobals mg stand in Mod) -/
theorem law_call {P : Program} {w : World} {K : PySem.W.Frag} {mg mb : Str → Option Value} {CX : CXT} {k : Nat} {fa a : Addr} {fd : FuncData} {x : Str} {sp : Sp} {s₁ : Shared} {vs : List Value} {ns : List Int}
    (KX : K.In s₁.heap) (hns : s₁.heap.Ns mainGlobals mg) (hb : s₁.heap.Ns builtinsNs mb) (hbb : ∀ x : Str, x ≠ "__name__" → mb x = bootBuiltins x) (hlim : s₁.heap.NoLimit) (hg : s₁.gens = #[])
    (ha : s₁.heap.get? a = some { cls := .type "list", data := .seq vs.toArray }) (hi : IntsAre vs ns) (hl : ns.length ≤ sizeLine) (hr : Room k callerA)
    (F : ∀ base : Heap, K.In base → base.Ns mainGlobals mg → FnOk P w K mg base CX k fa fd [x] sp) (hbind : ∀ (s : Shared) (u : Value), BindsTo s fd ⟨[u], []⟩ [(x, u)])
    (hsp : ∀ H : Hp, Only H → SqL K H a (ns.map V.int) → sp [.ref a] H (fun v _ => v = .bl true) fun _ _ _ => False)
    (hCX : ∀ H e s', CX [] H s₁ (fun _ _ _ => False) e s' → False) :
    codeAny (model P w) callerA (.call (.ref fa) ⟨[.ref a], []⟩) (fun r s' => r = .ok (.ret (.bool true)) ∧ OldK s₁.heap s'.heap ∧ s'.os = s₁.os ∧ AllBare s'.gens) s₁ := by
  have rv := vals_ints hi
  have lenV := hi.length
  -- from an abstract heap in which nothing but the script may be tracked
  have core : ∀ H : Hp, Only H → SqL K H a (ns.map V.int) → HOk P w H s₁.heap → (∀ b, H b ≠ none → b = a) → (H a ≠ none → K.lookup a = none) →
      codeAny (model P w) callerA (.call (.ref fa) ⟨[.ref a], []⟩) (fun r s' => r = .ok (.ret (.bool true)) ∧ OldK s₁.heap s'.heap ∧ s'.os = s₁.os ∧ AllBare s'.gens) s₁ := by
    intro H hO hS hok hA hK
    have base_of : ∀ {b : Addr} {o : Obj}, s₁.heap.get? b = some o → H b = none → (hidT s₁.heap H).get? b = some o := fun e n => hidT_get e n
    have noA : ∀ {b : Addr} {o : Obj} {es : Array DictEntry} {ep : Nat}, s₁.heap.get? b = some o → o.data = .dict es ep → H b = none := fun {b o es ep} e d => by
      cases q : H b with
      | none => rfl
      | some u =>
        have e' : b = a := hA b (by rw [q]; simp)
        subst e'
        rw [ha] at e; cases e
        have d' : Data.seq vs.toArray _ = Data.dict es ep := d
        cases d'
    have nsK : ∀ {b : Addr} {m : Str → Option Value}, s₁.heap.Ns b m → (hidT s₁.heap H).Ns b m := fun {b m} ⟨o, es, ep, e, d, r⟩ => ⟨o, es, ep, base_of e (noA e d), d, r⟩
    have hKb : K.In (hidT s₁.heap H) := fun b o e => base_of (KX b o e) (by
      cases q : H b with
      | none => rfl
      | some u =>
        have e' : b = a := hA b (by rw [q]; simp)
        subst e'
        rw [hK (by rw [q]; simp)] at e; cases e)
    have hM : Mod K mg (hidT s₁.heap H) := ⟨hKb, nsK hns, ⟨mb, nsK hb, hbb⟩, let ⟨mc, h1, h2⟩ := hlim; ⟨mc, nsK h1, h2⟩⟩
    have e0 : Env0 P w K mg (hidT s₁.heap H) callerA [] s₁ H := ⟨rfl, hM, fun b o e => of_hidT e, Nat.le_of_eq (hidT_size _ _), trivial, fun b hb => absurd (show b ∈ ([] : List Addr) from hb) (by simp), hok, .of_eq hg⟩
    refine codeAny_mono ((F _ hKb (nsK hns)).run callerA [] s₁ H ⟨[.ref a], []⟩ [.ref a] [.ref a] _ _ hr e0 (hbind s₁ (.ref a)) (.cons rfl .nil) (hsp H hO hS)) fun r s' h => ?_
    cases r with
    | error e => exact (hCX H e s' h).elim
    | ok fl =>
      cases fl with
      | next => exact False.elim h
      | brk => exact False.elim h
      | cont => exact False.elim h
      | ret u =>
        obtain ⟨v, H', os, bare, un, hok', r', q⟩ := h
        have q' : v = .bl true := q
        subst q'
        obtain rfl : u = Value.bool true := r'
        refine ⟨rfl, OldK.of_keep fun b o e => ?_, os, bare⟩
        cases q : H b with
        | none => exact un.keep b o e q (by intro z; exact absurd (show b ∈ ([] : List Addr) from z) (by simp)) (by simp)
        | some u =>
          rcases hO b with z | ⟨ob, xs, z⟩
          · rw [q] at z; cases z
          · have z2 := un.frzs b ob _ z
            obtain ⟨e1, _⟩ := hok b _ z
            obtain ⟨e2, _⟩ := hok' b _ z2
            rw [e] at e1; cases e1
            exact e2
  cases hk : K.lookup a with
  | some o =>
    -- the script is one of the module's own objects
    have e := KX a o hk
    rw [ha] at e
    cases e
    refine core (fun _ => none) (fun _ => .inl rfl) (.inr ⟨_, vs.toArray, _, hk, rfl, rfl, rfl, by rw [List.size_toArray, lenV]; exact hl, by simpa using rv⟩) (fun b u z => by have z' : (none : Option HO) = some u := z; cases z') (fun b z => absurd rfl z) fun z => absurd rfl z
  | none =>
    refine core (fun b => if b = a then some (.frz { cls := .type "list", data := .seq vs.toArray } (.lst (ns.map V.int))) else none) (fun b => ?_) (.inl (.inr ⟨{ cls := .type "list", data := .seq vs.toArray }, if_pos rfl⟩)) (fun b u z => ?_) (fun b z => ?_) fun _ => hk
    · by_cases hb : b = a
      · exact .inr ⟨_, _, if_pos hb⟩
      · exact .inl (if_neg hb)
    · by_cases hb : b = a
      · have z' := (if_pos hb).symm.trans z
        cases z'
        subst hb
        exact ⟨ha, by rw [List.length_map]; exact hl, vs, _, rv, ha⟩
      · have z' := (if_neg hb).symm.trans z
        cases z'
    · by_cases hb : b = a
      · exact hb
      · exact absurd (if_neg hb) z
end L2

namespace L2
open PySem PySem.Spec PyProof.Rows

abbrev KOf {K : PySem.W.Frag} {h : Heap} (_ : K.In h) : PySem.W.Frag := K

/-- the goal that k_head leaves (case hc), from the law's promise. F gives the function object fd (K's own) once, then the promise over every base -/
theorem walk_of {l : PySem.W.OpenLaw} {n k : Nat} {q : Program} {loose : List Str} {XP : (Str → Option Value) → Heap → Prop} {YP : World → Heap → Prop} {d : DefRec} {K : Params → PySem.W.Frag} {CX : World → CXT} {sp : World → Sp} {x : Str}
    (hn : l.most = some n) (hn2 : n ≤ sizeLine) (hdf : d.params.defaults = []) (hr : Room k callerA)
    (hY : ∀ (w : World) (h : Heap), YP w h → (K w.params).In h)
    (F : ∀ (w : World) (mg : Str → Option Value) (fa : Addr) (h : Heap), (K w.params).In h → h.Ns mainGlobals mg → mg d.name = some (.ref fa) →
      ∃ fd : FuncData, (∀ (s : Shared) (u : Value), BindsTo s fd ⟨[u], []⟩ [(x, u)]) ∧
        ∀ base : Heap, (K w.params).In base → base.Ns mainGlobals mg → FnOk l.prog w (K w.params) mg base (CX w) k fa fd [x] (sp w))
    (hsp : ∀ (w : World) (H : Hp) (a : Addr) (ns : List Int), ns.length ≤ n → Only H → SqL (K w.params) H a (ns.map V.int) → sp w [.ref a] H (fun v _ => v = .bl true) fun _ _ _ => False)
    (hCX : ∀ (w : World) (H : Hp) (s : Shared) (e : Value) (s' : Shared), CX w [] H s (fun _ _ _ => False) e s' → False) :
    PySem.W.WalkO q loose XP YP l.row.toRowW d [] (fun f vs => PySem.call f vs) := by
  refine Att.attach_call hn hdf fun w s₀ s₁ mg mb fa o pm cd doc a vs ns G Y ho hd hcd hmg hobj hints hlen hg => ?_
  have KX := hY w _ Y
  obtain ⟨fd, hb, hF⟩ := F w mg fa _ KX G.T.g hmg
  exact law_call KX G.T.g G.T.b G.T.builtins G.T.nolimit hg hobj hints (Nat.le_trans hlen hn2) hr hF hb (fun H hO hS => hsp w H a ns hlen hO hS) fun H e s' => hCX w H s₁ e s'
/-- the same where the promise hangs on the written part alone: (sp := My.sp_law), no hole under a binder -/
theorem walk_ofK {l : PySem.W.OpenLaw} {n k : Nat} {q : Program} {loose : List Str} {XP : (Str → Option Value) → Heap → Prop} {YP : World → Heap → Prop} {d : DefRec} {K : Params → PySem.W.Frag} {CX : CXT} {sp : PySem.W.Frag → Sp} {x : Str}
    (hn : l.most = some n) (hn2 : n ≤ sizeLine) (hdf : d.params.defaults = []) (hr : Room k callerA)
    (hY : ∀ (w : World) (h : Heap), YP w h → (K w.params).In h)
    (F : ∀ (w : World) (mg : Str → Option Value) (fa : Addr) (h : Heap), (K w.params).In h → h.Ns mainGlobals mg → mg d.name = some (.ref fa) →
      ∃ fd : FuncData, (∀ (s : Shared) (u : Value), BindsTo s fd ⟨[u], []⟩ [(x, u)]) ∧
        ∀ base : Heap, (K w.params).In base → base.Ns mainGlobals mg → FnOk l.prog w (K w.params) mg base CX k fa fd [x] (sp (K w.params)))
    (hsp : ∀ (K : PySem.W.Frag) (H : Hp) (a : Addr) (ns : List Int), ns.length ≤ n → Only H → SqL K H a (ns.map V.int) → sp K [.ref a] H (fun v _ => v = .bl true) fun _ _ _ => False)
    (hCX : ∀ (H : Hp) (s : Shared) (e : Value) (s' : Shared), CX [] H s (fun _ _ _ => False) e s' → False) :
    PySem.W.WalkO q loose XP YP l.row.toRowW d [] (fun f vs => PySem.call f vs) :=
  walk_of (K := K) (CX := fun _ => CX) (sp := fun w => sp (K w.params)) hn hn2 hdf hr hY F (fun w H a ns h1 h2 h3 => hsp (K w.params) H a ns h1 h2 h3) fun _ H s e s' => hCX H s e s'
end L2

/- THE LAST THEOREM (shape; LID, My.* are yours):
   My.Adr: a structure of the addresses that your layer names (classes, functions); My.Txt K t: a structure (Prop) of the equations over K;
   My.txt_mk : {K} {implicit addresses ..} (e1 : nsIn K mainGlobals "law" = some (some (.ref f))) (e2 : K.lookup f = some ⟨oc, od, .func (fnOf "law" "law" params body scope dV kV doc pm an cdv ct), sl⟩) (e3 : codeIn K cdv "law" = true) .. : ∃ t, My.Txt K t

set_option maxRecDepth 100000 in
set_option maxHeartbeats 0 in
theorem PySem.Challenge.cw_LID_holds : PySem.Challenge.rw_LID.Holds := by
  w_on; o_law; k_head; (case hw => w_witness2)
  k_fill
  refine L2.walk_of (l := PySem.Challenge.rw_LID) (n := 63) (k := 40) (x := "script") (CX := fun w => ..) (sp := fun _ => My.sp_law) rfl (by decide) rfl ⟨rfl, by decide, by decide⟩ (fun w h Y => PySem.W.kIn_of Y) ?F ?S ?C
  case F =>
    intro w mg fa h KX G hmg
    have T : ∃ t, My.Txt (L2.KOf KX) t := by
      dsimp only [L2.KOf]                          -- K must stand as «<heap const> w.params» for k_is
      refine' My.txt_mk ?e1 ?e2 ?e3 ..
      (case e1 => PySem.W.k_is)                    -- in the order: a name -> its address -> its object -> its parts
      (case e2 => PySem.W.k_is)
      ..
    obtain ⟨t, T⟩ := T
    have e0 := hmg.symm.trans (PySem.W.mg_of KX G T.law)
    cases e0                                       -- fa is the law's own address
    exact ⟨_, fun s u => .of_eq rfl, fun base kb nb => My.law_fn T kb nb⟩     -- if «.of_eq rfl» comes too early: refine' ⟨_, ?b, fun base kb nb => My.law_fn T kb nb⟩; exact fun s u => .of_eq rfl
  case S => exact fun w H a ns hl hO hS => ..
  case C => exact ..
(the tactic k_is has no namespace: write k_is) -/

/-! SHORT WORDS over the layer: a def of the text, its body, what a loop and a test want. -/
namespace L2
open PySem PySem.Spec PyProof.Rows

/-! ### the text by places -/
/-- the j-th statement of a class's body -/
def inClass (s : Stmt) (j : Nat) : Stmt := match s with
  | .ClassDef _ _ _ body _ _ _ _ _ _ _ => body.getD j (.Pass ⟨0, 0, 0, 0⟩)
  | _ => .Pass ⟨0, 0, 0, 0⟩
def defArgs (s : Stmt) : Arguments := match s with
  | .FunctionDef _ a _ _ _ _ _ _ _ _ => a
  | _ => { posonlyargs := [], args := [], vararg := none, kwonlyargs := [], kw_defaults := [], kwarg := none, defaults := [] }
def defBody (s : Stmt) : List Stmt := match s with
  | .FunctionDef _ _ b _ _ _ _ _ _ _ => b
  | _ => []
def defScope (s : Stmt) : Scope := match s with
  | .FunctionDef _ _ _ _ _ _ sc _ _ _ => sc
  | _ => { kind := .function, names := [], isGenerator := false, isCoroutine := false }

/-! ### no exception leaves a def -/
abbrev CX0 : CXT := fun _ _ _ _ _ _ => False
abbrev E0 : XK := fun _ _ _ => False
theorem pass0 {X : Cx} : Passes CX0 X E0 := fun _ _ _ _ _ _ _ h => h.elim

/-! ### a def (or method) of the text as it stands behind the top -/
structure Fun (K : PySem.W.Frag) (x qual : Str) (st : Stmt) (f : Addr) (fd : FuncData) : Prop where
  ex : ∃ (oc : Value) (od : Option Addr) (kV doc pm : Value) (an : Option Addr) (cdv ct : Value) (osl : Array (Option Value)),
    fd = PySem.W.fnOf x qual (defArgs st) (defBody st) (defScope st) .none kV doc pm an cdv ct ∧ K.lookup f = some ⟨oc, od, .func fd, osl⟩ ∧ PySem.W.codeIn K cdv qual = true
  kp : PySem.W.keepIn K (.ref f) = true
section
variable {P : Program} {w : World} {K : PySem.W.Frag} {mg : Str → Option Value} {base : Heap}
/-- THE RULE for a def: its body as a term of rules, and the reading of that term -/
theorem Fun.ok {x qual : Str} {st : Stmt} {f : Addr} {fd : FuncData} {N ps : List Str} {k : Nat} {sp : Sp} (F : Fun K x qual st f fd) (S : FnScope N ps (defScope st)) (len : ∀ vs H Q E, sp vs H Q E → vs.length = ps.length)
    (hbody : ∀ (cdv : Value) (A : Around) (outer : List Env) (s : Shared) (H : Hp) (vs : List V) (Q : VK) (E : XK), Room k (A.deeper (envOfC qual (defScope st) s.heap.objs.size f cdv)) → sp vs H Q E →
      ∃ t, PSs (cxOf CX0 P w K mg base N qual (defScope st) f cdv A outer s H E).nox (defBody st) t ∧ t { nx := fun _ H' => Q .non H', rt := Q } (start N vs) H) : FnOk P w K mg base CX0 (k + 1) f fd ps sp := by
  obtain ⟨oc, od, kV, doc, pm, an, cdv, ct, osl, rfl, lk, hcd⟩ := F.ex
  refine fn_of lk hcd S len fun A outer s H vs Q E hr hsp => ?_
  obtain ⟨t, h, q⟩ := hbody cdv A outer s H vs Q E hr hsp
  exact ⟨t, h.nox, q⟩
/-- how its arguments bind (no defaults): h is «fun _ _ _ _ _ _ us hl => match us, hl with | [_, _], _ => rfl», one _ a parameter -/
theorem Fun.binds {x qual : Str} {st : Stmt} {f : Addr} {fd : FuncData} {ps : List Str} (F : Fun K x qual st f fd)
    (h : ∀ (kV doc pm : Value) (an : Option Addr) (cdv ct : Value) (us : List Value), us.length = ps.length → bindArgs (PySem.W.fnOf x qual (defArgs st) (defBody st) (defScope st) .none kV doc pm an cdv ct) ⟨us, []⟩ = pure (ps.zip us)) : Binds K fd ps [] := by
  obtain ⟨oc, od, kV, doc, pm, an, cdv, ct, osl, rfl, lk, hcd⟩ := F.ex
  exact .all (h kV doc pm an cdv ct)
theorem fun_mk {x qual : Str} {st : Stmt} {f : Addr} {oc : Value} {od an : Option Addr} {osl : Array (Option Value)} {kV doc pm cdv ct : Value} (l : K.lookup f = some ⟨oc, od, .func (PySem.W.fnOf x qual (defArgs st) (defBody st) (defScope st) .none kV doc pm an cdv ct), osl⟩)
    (c : PySem.W.codeIn K cdv qual = true) (k : PySem.W.keepIn K (.ref f) = true) : Fun K x qual st f (PySem.W.fnOf x qual (defArgs st) (defBody st) (defScope st) .none kV doc pm an cdv ct) := ⟨⟨oc, od, kV, doc, pm, an, cdv, ct, osl, rfl, l, c⟩, k⟩
end
theorem hu_of {A : Around} {k : Nat} (hr : Room k A) : A.units + 1 < cLine := Nat.lt_of_le_of_lt (Nat.add_le_add_left (by decide : 1 ≤ 64) _) hr.units
theorem small1000 {n : Nat} (h : n ≤ 1000) : n < sizeLine := Nat.lt_of_le_of_lt h (by decide)

/-! ### expressions in short: the name that stands in the i-th slot -/
section
variable {X : Cx}
theorem pv (i : Nat) {x : Str} {pos : Pos} (hN : X.N[i]? = some x := by rfl) (hv : Vis X.env.scope x := by first | exact Or.inl rfl | exact Or.inr (Or.inl rfl) | exact Or.inr (Or.inr rfl)) (hd : (x == ("__debug__" : Str)) = false := by decide)
    (hcd : (x == ("__classdict__" : Str)) = false := by decide) : PE X (.Name x pos) (tVar i) := pe_var hN hv hd hcd
end

/-! ### tests -/
theorem iteF {A B : Prop} (h : B) : if false = true then A else B := by
  rw [if_neg Bool.false_ne_true]
  exact h
theorem iteT {A B : Prop} (h : A) : if true = true then A else B := by
  rw [if_pos rfl]
  exact h
theorem ite2 {c A B : Prop} [Decidable c] (h1 : c → A) (h2 : ¬ c → B) : if c then A else B := by
  by_cases h : c
  · rw [if_pos h]
    exact h1 h
  · rw [if_neg h]
    exact h2 h
theorem iteNS {c A B : Prop} [Decidable c] (hc : c) (h : B) : if (!decide c) = true then A else B := by
  rw [decide_eq_true hc]
  exact iteF h

/-! ### heaps -/
/-- all that was tracked is as it was -/
def Same (H H' : Hp) : Prop := ∀ b o, H b = some o → H' b = some o
theorem Same.refl (H : Hp) : Same H H := fun _ _ h => h
theorem Same.trans {H H1 H2 : Hp} (a : Same H H1) (b : Same H1 H2) : Same H H2 := fun c o h => b c o (a c o h)
theorem Same.free {H H' : Hp} (e : Same H H') {l : Addr} (h : H' l = Option.none) : H l = Option.none := by
  cases q : H l with
  | none => rfl
  | some o =>
    rw [e l o q] at h
    cases h
theorem Same.seq {K : PySem.W.Frag} {H H' : Hp} {a : Addr} {xs : List V} (e : Same H H') (h : SqL K H a xs) : SqL K H' a xs := by
  rcases h with (h | ⟨o, h⟩) | h
  · exact .inl (.inl (e _ _ h))
  · exact .inl (.inr ⟨o, e _ _ h⟩)
  · exact .inr h

end L2

namespace L2
open PySem PySem.Spec PyProof.Rows
/-! ### a comprehension's block -/
def clOf (env : Env) : List (Str × NameKind) → List (Str × Addr) → List (Str × Addr)
  | [], acc => acc
  | (n, k) :: r, acc => clOf env r (if k == .free then (n, (env.cells.lookup n).getD 0) :: acc else acc)
theorem closure_go {env : Env} : ∀ (names : List (Str × NameKind)) (acc : List (Str × Addr)), (∀ x ∈ names, x.2 = .free → ∃ c, env.cells.lookup x.1 = some c) →
    (forIn names acc (fun (x : Str × NameKind) (cs : List (Str × Addr)) => (if (x.2 == NameKind.free) = true then do let a ← cellOf env x.1; pure (ForInStep.yield ((x.1, a) :: cs)) else pure (ForInStep.yield cs) : Sem (ForInStep (List (Str × Addr))))) : Sem (List (Str × Addr))) = pure (clOf env names acc)
  | [], acc, _ => by simp [clOf]
  | (n, k) :: r, acc, h => by
    rw [List.forIn_cons]
    cases hk : (k == NameKind.free) with
    | false =>
      simp only [hk, Bool.false_eq_true, if_false, pure_bind]
      rw [closure_go r acc fun x hx => h x (List.mem_cons_of_mem _ hx)]
      show _ = pure (clOf env r (if (k == NameKind.free) = true then _ else acc))
      rw [hk]; rfl
    | true =>
      obtain ⟨c, hc⟩ := h (n, k) List.mem_cons_self (by simpa using hk)
      have hc' : env.cells.lookup n = some c := hc
      have e : cellOf env n = pure c := by unfold cellOf; rw [hc']
      simp only [hk, if_true, e, pure_bind]
      rw [closure_go r _ fun x hx => h x (List.mem_cons_of_mem _ hx)]
      show _ = pure (clOf env r (if (k == NameKind.free) = true then (n, (env.cells.lookup n).getD 0) :: acc else acc))
      rw [hk, hc']; rfl
theorem closure_of {env : Env} {scope : Scope} (h : ∀ x ∈ scope.names, x.2 = .free → ∃ c, env.cells.lookup x.1 = some c) : closureFor scope env = pure (clOf env scope.names []) := by
  rw [← closure_go scope.names [] h]
  unfold closureFor
  first
  | rfl
  | simp
theorem clOf_sub {env : Env} : ∀ (names : List (Str × NameKind)) (acc : List (Str × Addr)), (∀ x ∈ names, x.2 = .free → ∃ c, env.cells.lookup x.1 = some c) → (∀ x c, acc.lookup x = some c → env.cells.lookup x = some c) →
    ∀ x c, (clOf env names acc).lookup x = some c → env.cells.lookup x = some c
  | [], acc, _, ha => ha
  | (n, k) :: r, acc, h, ha => by
    unfold clOf
    refine clOf_sub r _ (fun x hx => h x (List.mem_cons_of_mem _ hx)) ?_
    intro x c
    cases hk : (k == NameKind.free) with
    | false => simp only [Bool.false_eq_true, if_false]; exact ha x c
    | true =>
      simp only [if_true]
      obtain ⟨c', hc⟩ := h (n, k) List.mem_cons_self (by simpa using hk)
      have hc' : env.cells.lookup n = some c' := hc
      rw [List.lookup_cons]
      cases hx : x == n with
      | true => intro e; simp only [hc', Option.getD_some] at e; cases e; rw [eq_of_beq hx]; exact hc'
      | false => intro e; exact ha x c e
theorem clOf_keep {env : Env} {x : Str} : ∀ (names : List (Str × NameKind)) (acc : List (Str × Addr)), (∃ c, acc.lookup x = some c) → ∃ c, (clOf env names acc).lookup x = some c
  | [], acc, h => h
  | (n, k) :: r, acc, ⟨c, h⟩ => by
    unfold clOf
    refine clOf_keep r _ ?_
    cases hk : (k == NameKind.free) with
    | false => simp only [Bool.false_eq_true, if_false]; exact ⟨c, h⟩
    | true =>
      simp only [if_true]
      rw [List.lookup_cons]
      cases hx : x == n with
      | true => exact ⟨_, rfl⟩
      | false => exact ⟨c, h⟩
theorem clOf_has {env : Env} {x : Str} : ∀ (names : List (Str × NameKind)) (acc : List (Str × Addr)), names.lookup x = some .free → ∃ c, (clOf env names acc).lookup x = some c
  | [], acc, h => by simp at h
  | (n, k) :: r, acc, h => by
    unfold clOf
    rw [List.lookup_cons] at h
    cases hx : x == n with
    | true =>
      rw [hx] at h
      cases h
      refine clOf_keep r _ ?_
      simp only [beq_self_eq_true, if_true]
      rw [List.lookup_cons, hx]
      exact ⟨_, rfl⟩
    | false =>
      rw [hx] at h
      exact clOf_has r _ h
theorem lookup_relabel {env : Env} (b : Bool) (y : Str) : ∀ (names : List (Str × NameKind)),
    (names.map fun (n, k) => if (k == NameKind.free && b && env.kindOf n == some .cell) then (n, NameKind.cell) else (n, k)).lookup y = (names.lookup y).map fun k => if (k == NameKind.free && b && env.kindOf y == some .cell) then NameKind.cell else k
  | [] => rfl
  | (n, k) :: r => by
    have ih := lookup_relabel (env := env) b y r
    show List.lookup y ((if (k == NameKind.free && b && env.kindOf n == some .cell) = true then (n, NameKind.cell) else (n, k)) :: (r.map fun (n, k) => if (k == NameKind.free && b && env.kindOf n == some .cell) then (n, NameKind.cell) else (n, k))) = _
    cases hx : y == n with
    | true =>
      have e := eq_of_beq hx
      subst e
      have er : List.lookup y ((y, k) :: r) = some k := by rw [List.lookup_cons, hx]
      rw [er]
      show _ = some (if (k == NameKind.free && b && env.kindOf y == some .cell) = true then NameKind.cell else k)
      by_cases hc : (k == NameKind.free && b && env.kindOf y == some .cell) = true
      · rw [if_pos hc, if_pos hc, List.lookup_cons, hx]
      · rw [if_neg hc, if_neg hc, List.lookup_cons, hx]
    | false =>
      have er : List.lookup y ((n, k) :: r) = List.lookup y r := by rw [List.lookup_cons, hx]
      rw [er, ← ih]
      by_cases hc : (k == NameKind.free && b && env.kindOf n == some .cell) = true
      · rw [if_pos hc, List.lookup_cons, hx]
      · rw [if_neg hc, List.lookup_cons, hx]
theorem relabel_lookup (scope : Scope) (env : Env) (y : Str) : (relabel scope env).names.lookup y = (scope.names.lookup y).map fun k => if (k == NameKind.free && env.scope.kind == .function && env.kindOf y == some .cell) then NameKind.cell else k :=
  lookup_relabel _ y scope.names
/-- the block's context -/
def compCx (X : Cx) (N : List Str) (scope : Scope) (C : Addr) (s : Shared) (H : Hp) (fp : List Addr) : Cx where
  prog := X.prog
  w := X.w
  K := X.K
  mg := X.mg
  base := X.base
  A := X.A
  N := N
  s₀ := s
  H₀ := H
  env := compEnvC scope (clOf X.env scope.names []) C X.env
  outer := X.stack
  stack := X.stack
  ex := fp
  fn := fun _ => false
  calm := X.calm
  pn := []
  xe := fun _ _ => False
def capN (N tn : List Str) (cap : List Nat) : List Str := tn ++ cap.map fun j => N.getD j ""
def capS (σ : St) (k : Nat) (cap : List Nat) : St := List.replicate k none ++ cap.map fun j => (σ[j]?).join
def Ext (a b : St) : Prop := b.length = a.length ∧ ∀ (i : Nat) (v : V), a[i]? = some (some v) → b[i]? = some (some v)
/-- the tests of a clause -/
def PF (X : Cx) (ifs : List Expr) (t : TT) : Prop :=
  ∀ (pins : List (Addr × Obj)) (s : Shared) (σ : St) (H : Hp) (Q : Bool → Hp → Prop), Inv X pins σ H s → t σ H Q →
    wpAny (model X.prog X.w) X.A (forIn ifs true fun c r => if r = true then do let ok ← isTrue c X.env (eval c X.env); pure (ForInStep.yield ok) else pure (ForInStep.yield r)) (TP X pins σ Q) X.xe s
def tAlw : TT := fun _ H Q => Q true H
theorem pf_nil {X : Cx} : PF X [] tAlw := fun _ _ _ H _ I h => wpAny_tests_nil ⟨H, I, h⟩
theorem pf_one {X : Cx} {c : Expr} {t : TT} (h : PT X c t) : PF X [c] t := fun pins s σ H Q I hw => wpAny_tests_one (h pins s σ H Q I hw)
/-- [e for t in i if ..]: W by turn, heap and what is gathered; D the new list -/
abbrev Fam (α : Type) := Addr → Shared → Hp → List Addr → α
def LcGoal (J : It) (σ0 : St) (g : Fam TG) (tc : Fam TT) (te : Fam TE) (D : Addr) (H1 : Hp) (Q : VK) : Prop :=
  ∃ (n : Nat) (W : Nat → Hp → List V → Prop), W 0 (upd H1 D (.lst [])) [] ∧ ∀ i H2 ys, W i H2 ys → i ≤ n ∧ H2 D = some (.lst ys) ∧
    ((J.stop i H2 ∧ Q (.ref D) H2) ∨ (i < n ∧ J.go i H2 ∧ ∀ C s H0 fp x H3, J.yld i H2 x H3 → g C s H0 fp x σ0 H3 fun σ4 H4 => Ext σ0 σ4 ∧
      tc C s H0 fp σ4 H4 fun b H5 => if b = true then te C s H0 fp σ4 H5 fun y H6 => H6 D = some (.lst ys) ∧ ys.length < sizeLine ∧ W (i + 1) (upd H6 D (.lst (ys ++ [y]))) (ys ++ [y]) else W (i + 1) H5 ys))
def tLc (wi : TI) (k : Nat) (cap : List Nat) (g : Fam TG) (tc : Fam TT) (te : Fam TE) : TE := fun σ H Q => wi σ H fun J H1 => ∀ D, H1 D = none → LcGoal J (capS σ k cap) g tc te D H1 Q
/-- what the block asks of its scope -/
structure CompOk (X : Cx) (scope : Scope) (cap : List Nat) : Prop where
  nocell : ∀ y ∈ scope.names, y.2 ≠ .cell
  kind : scope.kind = .function
  free : ∀ y ∈ scope.names, y.2 = .free → X.env.scope.names.lookup y.1 = some .cell ∨ X.env.scope.names.lookup y.1 = some .free
  names : ∀ y ∈ scope.names, y.2 = .local → scope.names.lookup y.1 = some .local
  cap : ∀ j ∈ cap, j < X.N.length ∧ scope.names.lookup (X.N.getD j "") = some .free
section
variable {X : Cx} {pins : List (Addr × Obj)} {σ : St} {H : Hp} {s : Shared} {scope : Scope} {cap : List Nat} {tn : List Str}
theorem mem_of_lookup {α : Type} {x : Str} {a : α} : ∀ {l : List (Str × α)}, l.lookup x = some a → (x, a) ∈ l
  | [], h => by simp at h
  | (n, b) :: r, h => by
    rw [List.lookup_cons] at h
    cases hx : x == n with
    | true => rw [hx] at h; cases h; rw [eq_of_beq hx]; exact List.mem_cons_self
    | false => rw [hx] at h; exact List.mem_cons_of_mem _ (mem_of_lookup h)
theorem CompOk.cells (c : CompOk X scope cap) (I : Inv X pins σ H s) : ∀ x ∈ scope.names, x.2 = .free → ∃ c, X.env.cells.lookup x.1 = some c := fun x hx e => I.ok.has x.1 (c.free x hx e)
theorem CompOk.sub (c : CompOk X scope cap) (I : Inv X pins σ H s) : ∀ x a, (clOf X.env scope.names []).lookup x = some a → X.env.cells.lookup x = some a :=
  clOf_sub scope.names [] (c.cells I) (fun _ _ e => by simp at e)
theorem CompOk.has (c : CompOk X scope cap) {y : Str} (h : (relabel scope X.env).names.lookup y = some .cell ∨ (relabel scope X.env).names.lookup y = some .free) : scope.names.lookup y = some .free := by
  rw [relabel_lookup] at h
  cases e : scope.names.lookup y with
  | none => rw [e] at h; simp at h
  | some k =>
    cases k with
    | free => rfl
    | cell => exact absurd rfl (c.nocell _ (mem_of_lookup e))
    | _ => rw [e] at h; simp at h
theorem CompOk.look (c : CompOk X scope cap) {y : Str} (h : scope.names.lookup y = some .free) : (relabel scope X.env).names.lookup y = some .cell ∨ (relabel scope X.env).names.lookup y = some .free := by
  rw [relabel_lookup, h]
  simp only [Option.map_some]
  split
  · exact .inl rfl
  · exact .inr rfl
/-- the block's entry -/
theorem comp_start {fp : List Addr} {h' : Heap} {m : Str → Option Value} (c : CompOk X scope cap) (I : Inv X pins σ H s) (hf : ∀ b ∈ fp, FpOk X pins H b) (hlt : ∀ b ∈ fp, b < s.heap.objs.size)
    (hn : h'.Ns s.heap.objs.size m) (hk : ∀ b o, s.heap.get? b = some o → h'.get? b = some o) (tk : Nat) :
    Inv (compCx X (capN X.N tn cap) scope s.heap.objs.size s H fp) [] (capS σ tn.length cap) H { s with heap := h', toks := tk } := by
  have sub := c.sub I
  have cltt : ∀ x a, X.env.cells.lookup x = some a → a < s.heap.objs.size := fun x a e => by obtain ⟨v, z⟩ := I.cell x a e; exact z.lt
  have stkS := I.stkSub
  have ok : (compCx X (capN X.N tn cap) scope s.heap.objs.size s H fp).Ok := by
    refine ⟨I.ok.mod, c.kind, I.ok.glob, I.ok.blt, Nat.le_refl _, ?_, ?_, ?_, I.ok.hd, I.ok.frames, .inl rfl, ?_, I.bs, ?_, ?_, ?_, I.stack, I.stkFree⟩
    · exact fun x y a e1 e2 => I.ok.inj x y a (sub x a e1) (sub y a e2)
    · exact fun x e => clOf_has scope.names [] (c.has e)
    · intro x a e; cases e
    · exact fun b hb => ⟨Nat.ne_of_lt (hlt b hb), fun x a e => (hf b hb).2.2.2.2.1 x a (sub x a e)⟩
    · exact Nat.le_trans I.ok.bsz I.sz
    · intro b o e hb
      rcases (hf b hb).2.2.2.1 with z | z
      · exact I.ok.noex b o e z
      · exact absurd (Nat.lt_of_lt_of_le (Heap.lt_size e) (Nat.le_trans I.ok.bsz z)) (Nat.lt_irrefl _)
    · intro b hb z
      rcases List.mem_cons.mp (stkS b z) with e | e
      · exact (hf b hb).2.1 e
      · exact (hf b hb).2.2.1 e
  refine ⟨ok, rfl, I.bare, Un.kept hk, ⟨m, hn, ?_⟩, ?_, I.fresh, ?_, ?_, I.hok.kept hk, ?_⟩
  · intro i x v e1 e2 e3
    by_cases hi : i < tn.length
    · have : (capS σ tn.length cap)[i]? = some none := by
        unfold capS
        rw [List.getElem?_append_left (by simpa using hi)]
        simp [hi]
      rw [this] at e2; cases e2
    · have hi' : tn.length ≤ i := Nat.le_of_not_lt hi
      have e1' : (cap.map fun j => X.N.getD j "")[i - tn.length]? = some x := by
        rw [← List.getElem?_append_right (l₁ := tn) hi']; exact e1
      have e2' : (cap.map fun j => (σ[j]?).join)[i - tn.length]? = some (some v) := by
        have := e2
        unfold capS at this
        rw [List.getElem?_append_right (by simpa using hi')] at this
        simpa using this
      rw [List.getElem?_map] at e1' e2'
      cases hj : cap[i - tn.length]? with
      | none => rw [hj] at e1'; cases e1'
      | some j =>
        rw [hj] at e1' e2'
        have e1'' : X.N.getD j "" = x := Option.some.inj e1'
        have e2'' : (σ[j]?).join = some v := Option.some.inj e2'
        have hjc : j ∈ cap := List.mem_of_getElem? hj
        obtain ⟨hjl, hfr⟩ := c.cap j hjc
        rw [e1''] at hfr
        have hs : σ[j]? = some (some v) := by
          cases q : σ[j]? with
          | none => rw [q] at e2''; cases e2''
          | some z => rw [q] at e2''; cases z with
            | none => cases e2''
            | some z => have : z = v := Option.some.inj e2''; rw [this]
        have hN : X.N[j]? = some x := by
          rw [List.getD_eq_getElem?_getD, List.getElem?_eq_getElem hjl] at e1''
          rw [List.getElem?_eq_getElem hjl]; simpa using e1''
        have hfree := c.free _ (mem_of_lookup hfr) rfl
        obtain ⟨mo, _, hl⟩ := I.loc
        obtain ⟨u, r, l⟩ := hl j x v hN hs (hfree.elim (fun z => .inr (.inl z)) fun z => .inr (.inr z))
        refine ⟨u, r, .inr ⟨c.look hfr, ?_⟩⟩
        obtain ⟨a, ha⟩ := clOf_has (env := X.env) (x := x) scope.names [] hfr
        refine ⟨a, ha, ?_⟩
        rcases l with ⟨k, _⟩ | ⟨k, a', e, z⟩
        · have k' : X.env.scope.names.lookup x = some .local := k
          rcases hfree with q | q
          · rw [k'] at q; cases q
          · rw [k'] at q; cases q
        · have : a = a' := Option.some.inj ((sub x a ha).symm.trans e)
          rw [this]
          exact z.keeps hk
  · intro x a e
    obtain ⟨v, z⟩ := I.cell x a (sub x a e)
    exact ⟨v, z.keeps hk⟩
  · exact fun x a e => I.freeC x a (sub x a e)
  · intro p hp; cases hp
  · show (capS σ tn.length cap).length = (capN X.N tn cap).length
    simp [capS, capN]
end
end L2

namespace L2
open PySem PySem.Spec PyProof.Rows
section
variable {X : Cx} {pins : List (Addr × Obj)} {σ : St} {H : Hp} {s : Shared} {scope : Scope} {cap : List Nat} {tn : List Str}
theorem Inv.strip {X : Cx} {pins : List (Addr × Obj)} {σ : St} {H : Hp} {s : Shared} (I : Inv X pins σ H s) : Inv X [] σ H s := I.pins_of fun _ h => nomatch h
/-- the block's loop, from an iterator's start -/
theorem comp_loop {elt tg iter : Expr} {ifs : List Expr} {pos : Pos} {g : Fam TG} {tc : Fam TT} {te : Fam TE} {it D : Addr} {fp : List Addr} {tnn : Nat → Heap → Prop} {J : It} {h' : Heap} {m : Str → Option Value} {tk : Nat} {Q : VK} {R : Result → Shared → Prop}
    (hc : X.calm = true) (c : CompOk X scope cap)
    (hg : ∀ C s H fp, PG (compCx X (capN X.N tn cap) scope C s H fp) tg (g C s H fp)) (ht : ∀ C s H fp, PF (compCx X (capN X.N tn cap) scope C s H fp) ifs (tc C s H fp)) (he : ∀ C s H fp, PE (compCx X (capN X.N tn cap) scope C s H fp) elt (te C s H fp))
    (I : Inv X pins σ H s) (T : Turn X.prog X.w X.K tg J fp it tnn) (st : tnn 0 s.heap) (hf : ∀ b ∈ fp, FpOk X pins H b)
    (hn : h'.Ns s.heap.objs.size m) (hk : ∀ b o, s.heap.get? b = some o → h'.get? b = some o)
    (n : Nat) (W : Nat → Hp → List V → Prop) (w0 : W 0 H [])
    (turn : ∀ i H2 ys, W i H2 ys → i ≤ n ∧ H2 D = some (.lst ys) ∧
      ((J.stop i H2 ∧ Q (.ref D) H2) ∨ (i < n ∧ J.go i H2 ∧ ∀ C s H0 fp x H3, J.yld i H2 x H3 → g C s H0 fp x (capS σ tn.length cap) H3 fun σ4 H4 => Ext (capS σ tn.length cap) σ4 ∧
        tc C s H0 fp σ4 H4 fun b H5 => if b = true then te C s H0 fp σ4 H5 fun y H6 => H6 D = some (.lst ys) ∧ ys.length < sizeLine ∧ W (i + 1) (upd H6 D (.lst (ys ++ [y]))) (ys ++ [y]) else W (i + 1) H5 ys)))
    (hR : ∀ H2 s2, Inv X pins σ H2 s2 → (∃ m, s2.heap.Ns s.heap.objs.size m) → H2 s.heap.objs.size = none → Q (.ref D) H2 → R (.ok .next) s2) :
    codeAny (model X.prog X.w) X.A (.compStart (.ListComp elt [⟨tg, iter, ifs, 0⟩] scope pos) 0 (.ref it) (.ref D) (compEnvC scope (clOf X.env scope.names []) s.heap.objs.size X.env)) R { s with heap := h', toks := tk } := by
  have hlt : ∀ b ∈ fp, b < s.heap.objs.size := fun b hb => by obtain ⟨o, e, _⟩ := T.obj _ _ st b hb; exact Heap.lt_size e
  have I0 := comp_start (tn := tn) (m := m) c I hf hlt hn hk tk
  have st0 : tnn 0 h' := T.keep _ _ _ st fun b _ o e => hk b o e
  have sub := c.sub I
  have stat : ∀ {H' : Hp}, (∀ b ∈ fp, H' b = none) → ∀ b ∈ fp, FpOk (compCx X (capN X.N tn cap) scope s.heap.objs.size s H fp) [] H' b := fun hn b hb => by
    refine ⟨hn b hb, Nat.ne_of_lt (hlt b hb), fun z => ?_, .inl hb, fun x a e => (hf b hb).2.2.2.2.1 x a (sub x a e), fun p hp => nomatch hp⟩
    rcases List.mem_cons.mp (I.stkSub b z) with e | e
    · exact (hf b hb).2.1 e
    · exact (hf b hb).2.2.1 e
  have loop : codeAny (model X.prog X.w) X.A (.compLoop (.ListComp elt [⟨tg, iter, ifs, 0⟩] scope pos) 0 (.ref it) (.ref D) (compEnvC scope (clOf X.env scope.names []) s.heap.objs.size X.env)) R { s with heap := h', toks := tk } := by
    refine codeAny_loop rfl (fun k s' => ∃ i H2 ys, k = n - i ∧ Inv (compCx X (capN X.N tn cap) scope s.heap.objs.size s H fp) [] (capS σ tn.length cap) H2 s' ∧ tnn i s'.heap ∧ (∀ b ∈ fp, H2 b = none) ∧ W i H2 ys) ?_ (n - 0) ⟨0, H, [], rfl, I0, st0, fun b hb => (hf b hb).1, w0⟩
    rintro k s3 ⟨i, H3, ys, rfl, I3, st3, fr3, w3⟩
    show wpAny _ X.A ((compTurn (.ListComp elt [⟨tg, iter, ifs, 0⟩] scope pos) 0 (.ref it) (.ref D) (compEnvC scope (clOf X.env scope.names []) s.heap.objs.size X.env)).onRaise (fun x => do noteFrame x _; theTreesLotGoes x)) _ _ s3
    refine wpAny_noted ?_
    rw [compTurn_list]
    refine wpAny_bind (wpAny_standAt (wpAny_bind ?_))
    obtain ⟨hi, hD, alt⟩ := turn i H3 ys w3
    rcases alt with ⟨stop, q⟩ | ⟨hlti, go, step⟩
    · refine thn (T.done (compCx X (capN X.N tn cap) scope s.heap.objs.size s H fp) rfl rfl rfl hc i [] s3 _ H3 _ I3 (stat fr3) st3 stop) fun r s4 ⟨hr, I4⟩ => ?_
      subst hr
      refine wpAny_pure ?_
      have hch : ∀ b ∈ fp, (b ∈ X.ex ∨ X.s₀.heap.objs.size ≤ b) ∧ b ≠ X.env.locals ∧ (∀ x c, X.env.cells.lookup x = some c → c ≠ b) ∧ ∀ p ∈ X.pn ++ pins, p.1 ≠ b := fun b hb => ⟨(hf b hb).2.2.2.1, (hf b hb).2.1, (hf b hb).2.2.2.2.1, (hf b hb).2.2.2.2.2⟩
      have Io : Inv X pins σ H3 s4 := I.call' (ch := fp) I4.os I4.base I4.hok I4.bare hch
      obtain ⟨m4, hm4, _⟩ := I4.loc
      exact hR H3 s4 Io ⟨m4, hm4⟩ I4.free q
    · refine thn (T.item (compCx X (capN X.N tn cap) scope s.heap.objs.size s H fp) rfl rfl rfl hc i [] s3 _ H3 _ I3 (stat fr3) st3 go) fun r s4 ⟨u, hr, h4⟩ => ?_
      subst hr
      refine wpAny_bind (thn h4 fun _ s5 ⟨x, H5, I5, r5, y5, st5, fr5⟩ => ?_)
      have I5' := I5.pinned (stat fr5) (T.obj _ _ st5)
      refine wpAny_bind (wpAny_mono (hg s.heap.objs.size s H fp _ s5 _ H5 x u _ I5' r5 (step s.heap.objs.size s H fp x H5 y5)) (fun _ s6 h6 => ?_) fun _ _ f => f.elim)
      obtain ⟨σ6, H6, I6, ⟨el, ev⟩, q6⟩ := h6
      refine wpAny_bind (wpAny_mono (ht s.heap.objs.size s H fp _ s6 σ6 H6 _ I6 q6) (fun ok s7 h7 => ?_) fun _ _ f => f.elim)
      obtain ⟨H7, I7, q7⟩ := h7
      have again : ∀ {s9 : Shared} {H9 : Hp} {zs : List V}, Inv (compCx X (capN X.N tn cap) scope s.heap.objs.size s H fp) ([] ++ pinsAt fp s5.heap) σ6 H9 s9 → W (i + 1) H9 zs →
          ∃ m, m < n - i ∧ ∃ i H2 ys, m = n - i ∧ Inv (compCx X (capN X.N tn cap) scope s.heap.objs.size s H fp) [] (capS σ tn.length cap) H2 s9 ∧ tnn i s9.heap ∧ (∀ b ∈ fp, H2 b = none) ∧ W i H2 ys := fun {s9 H9 zs} I9 w9 => by
        refine ⟨n - (i + 1), by omega, i + 1, H9, zs, rfl, I9.strip.weak el.symm ev, T.keep _ _ _ st5 fun b hb o e => (I9.pin (b, o) (List.mem_append_right _ (List.mem_append_right _ (mem_pinsAt hb e)))).1, fun b hb => ?_, w9⟩
        obtain ⟨o, e, _⟩ := T.obj _ _ st5 b hb
        exact (I9.pin (b, o) (List.mem_append_right _ (List.mem_append_right _ (mem_pinsAt hb e)))).2.1
      cases ok with
      | false =>
        rw [if_neg Bool.false_ne_true] at q7
        exact wpAny_pure ⟨rfl, again I7 q7⟩
      | true =>
        rw [if_pos rfl] at q7
        refine wpAny_bind (wpAny_bind (wpAny_mono (he s.heap.objs.size s H fp _ s7 σ6 H7 _ I7 q7) (fun v s8 h8 => ?_) fun _ _ f => f.elim))
        obtain ⟨y, H8, I8, r8, hD8, hz8, w8⟩ := h8
        refine wpAny_bind (wpAny_mono (mt_append (X := compCx X (capN X.N tn cap) scope s.heap.objs.size s H fp) _ s8 σ6 H8 (.ref D) [y] (.ref D) [v] (fun _ H9 => H9 = upd H8 D (.lst (ys ++ [y]))) I8 rfl (.cons r8 .nil) ⟨D, ys, y, rfl, rfl, hD8, hz8, rfl⟩) (fun _ s9 h9 => ?_) fun _ _ f => f.elim)
        obtain ⟨_, H9, I9, _, e9⟩ := h9
        subst e9
        exact wpAny_pure (wpAny_pure ⟨rfl, again I9 w8⟩)
  exact codeAny_compStart_list loop (T.self _ 0 _ _ _ st0 loop)
end
section
variable {X : Cx} {elt tg iter : Expr} {ifs : List Expr} {scope : Scope} {pos : Pos} {wi : TI} {g : Fam TG} {tc : Fam TT} {te : Fam TE} {cap : List Nat}
/-- [elt for tg in iter] as a value -/
theorem pe_lc (tn : List Str) (hc : X.calm = true) (c : CompOk X scope cap) (hi : PI X tg iter wi)
    (hg : ∀ C s H fp, PG (compCx X (capN X.N tn cap) scope C s H fp) tg (g C s H fp)) (ht : ∀ C s H fp, PF (compCx X (capN X.N tn cap) scope C s H fp) ifs (tc C s H fp)) (he : ∀ C s H fp, PE (compCx X (capN X.N tn cap) scope C s H fp) elt (te C s H fp))
    (hs : ∀ x, foldedSetIterable iter X.env x = pure x := by intro _; rfl) : PE X (.ListComp elt [⟨tg, iter, ifs, 0⟩] scope pos) (tLc wi tn.length cap g tc te) := by
  intro pins s σ H Q I h
  rw [eval_ListComp]
  refine wpAny_comprehension_free (use := none) rfl hs (closure_of (c.cells I)) c.kind c.names (thn (hi pins s σ H _ I h) fun xv s1 h1 => thn h1 fun itv s2 h2 => ?_)
  obtain ⟨it, fp, tnn, J, H2, e, I2, T, st2, f2, q2⟩ := h2
  subst e
  refine wpAny_newList (wpAny_newFunctionEnv c.nocell (by intro y hy; simp at hy) (fun h₁ hn₁ hs₁ => ?_) c.kind)
  have hfr := I2.fresh
  obtain ⟨n, W, w0, turn⟩ := q2 _ hfr
  have I3 : Inv X pins σ (upd H2 s2.heap.objs.size (.lst [])) { s2 with heap := s2.heap.push { cls := .type "list", data := .seq ([] : List Value).toArray } } := I2.lnew (t' := s2.toks) .nil (Nat.zero_le _)
  have hlt : ∀ b ∈ fp, b < s2.heap.objs.size := fun b hb => by obtain ⟨o, e, _⟩ := T.obj _ _ st2 b hb; exact Heap.lt_size e
  refine comp_loop (X := X) (s := { s2 with heap := s2.heap.push { cls := .type "list", data := .seq ([] : List Value).toArray } }) (Q := Q) hc c hg ht he I3 T (T.keep _ _ _ st2 fun b hb o e => Heap.get?_push_of_some _ e) ?_ hn₁ ?_ n W w0 turn ?_
  · intro b hb
    exact ⟨by rw [upd_ne (Nat.ne_of_lt (hlt b hb))]; exact (f2 b hb).1, (f2 b hb).2⟩
  · intro b o e
    exact hs₁.extBut b o (Nat.ne_of_lt (Heap.lt_size e)) (Heap.get?_push_of_some _ e)
  · intro H4 s4 I4 hm4 fr4 q4
    obtain ⟨m4, hm4⟩ := hm4
    refine ⟨m4, hm4, fun h5 hs5 => ?_⟩
    have hsz : s2.heap.objs.size < (s2.heap.push { cls := .type "list", data := .seq ([] : List Value).toArray }).objs.size := by rw [Heap.size_push]; exact Nat.lt_succ_self _
    refine ⟨.ref s2.heap.objs.size, H4, I4.turned (t' := s4.toks) (it := (s2.heap.push { cls := .type "list", data := .seq ([] : List Value).toArray }).objs.size) (fun b o hb e => (hs5.2 b hb).trans e) fr4 ?_ (.inr ?_) ?_ ?_, rfl, q4⟩
    · exact Nat.ne_of_gt (Nat.lt_trans I2.lt hsz)
    · exact Nat.le_trans I2.sz (Nat.le_of_lt hsz)
    · intro x a e z
      obtain ⟨v, q⟩ := I2.cell x a e
      exact absurd (z ▸ q.lt) (Nat.not_lt.mpr (Nat.le_of_lt hsz))
    · intro p hp z
      obtain ⟨e, _⟩ := I2.pin p hp
      exact absurd (z ▸ Heap.lt_size e) (Nat.not_lt.mpr (Nat.le_of_lt hsz))
/-- x = [elt for tg in iter], on one row -/
theorem ps_lc {i : Nat} {x : Str} {pos' spos : Pos} (tn : List Str) (hc : X.calm = true) (c : CompOk X scope cap) (hN : X.N.Nodup) (hx : X.N[i]? = some x) (hl : Loc X.env.scope x) (hi : PI X tg iter wi)
    (hg : ∀ C s H fp, PG (compCx X (capN X.N tn cap) scope C s H fp) tg (g C s H fp)) (ht : ∀ C s H fp, PF (compCx X (capN X.N tn cap) scope C s H fp) ifs (tc C s H fp)) (he : ∀ C s H fp, PE (compCx X (capN X.N tn cap) scope C s H fp) elt (te C s H fp))
    (hsw : swapsWith (.ListComp elt [⟨tg, iter, ifs, 0⟩] scope pos) (some (.Name x pos')) spos.line X.env = pure true)
    (hs : ∀ x, foldedSetIterable iter X.env x = pure x := by intro _; rfl) (hf : X.fn x = true ∨ X.env.scope.names.lookup x = some .local := by first | exact .inl rfl | exact .inr rfl | assumption) :
    PS X (.Assign [.Name x pos'] (.ListComp elt [⟨tg, iter, ifs, 0⟩] scope pos) spos) (tAsg (tLc wi tn.length cap g tc te) (gName i)) := by
  intro pins s σ H D I h
  rw [exec_Assign_Name_used _ _ _ _ hsw]
  refine wpAny_bind (wpAny_standAt (wpAny_bind ?_))
  show wpAny _ X.A (do let _ ← comprehension (.ListComp elt [⟨tg, iter, ifs, 0⟩] scope pos) scope X.env _ (newList []) false (eval iter X.env) (some (assign (.Name x pos') X.env))) _ _ s
  refine wpAny_bind (wpAny_mono (wpAny_comprehension_free (use := some (assign (.Name x pos') X.env)) (Q := fun _ s' => SP X pins D .next s') rfl hs (closure_of (c.cells I)) c.kind c.names
    (thn (hi pins s σ H _ I h) fun xv s1 h1 => thn h1 fun itv s2 h2 => ?_)) (fun _ s' hq => wpAny_pure (wpAny_pure hq)) fun _ _ e => e)
  obtain ⟨it, fp, tnn, J, H2, e, I2, T, st2, f2, q2⟩ := h2
  subst e
  refine wpAny_newList (wpAny_newFunctionEnv c.nocell (by intro y hy; simp at hy) (fun h₁ hn₁ hs₁ => ?_) c.kind)
  have hfr := I2.fresh
  obtain ⟨n, W, w0, turn⟩ := q2 _ hfr
  have I3 : Inv X pins σ (upd H2 s2.heap.objs.size (.lst [])) { s2 with heap := s2.heap.push { cls := .type "list", data := .seq ([] : List Value).toArray } } := I2.lnew (t' := s2.toks) .nil (Nat.zero_le _)
  have hlt : ∀ b ∈ fp, b < s2.heap.objs.size := fun b hb => by obtain ⟨o, e, _⟩ := T.obj _ _ st2 b hb; exact Heap.lt_size e
  refine comp_loop (X := X) (s := { s2 with heap := s2.heap.push { cls := .type "list", data := .seq ([] : List Value).toArray } }) (Q := fun v H1 => gName i v σ H1 D.nx) hc c hg ht he I3 T (T.keep _ _ _ st2 fun b hb o e => Heap.get?_push_of_some _ e) ?_ hn₁ ?_ n W w0 turn ?_
  · intro b hb
    exact ⟨by rw [upd_ne (Nat.ne_of_lt (hlt b hb))]; exact (f2 b hb).1, (f2 b hb).2⟩
  · intro b o e
    exact hs₁.extBut b o (Nat.ne_of_lt (Heap.lt_size e)) (Heap.get?_push_of_some _ e)
  · intro H4 s4 I4 hm4 fr4 q4
    obtain ⟨m4, hm4⟩ := hm4
    have hsz : s2.heap.objs.size < (s2.heap.push { cls := .type "list", data := .seq ([] : List Value).toArray }).objs.size := by rw [Heap.size_push]; exact Nat.lt_succ_self _
    have neL : (s2.heap.push { cls := .type "list", data := .seq ([] : List Value).toArray }).objs.size ≠ X.env.locals := Nat.ne_of_gt (Nat.lt_trans I2.lt hsz)
    have neC : ∀ x a, X.env.cells.lookup x = some a → a ≠ (s2.heap.push { cls := .type "list", data := .seq ([] : List Value).toArray }).objs.size := fun x a e z => by
      obtain ⟨v, q⟩ := I2.cell x a e
      exact absurd (z ▸ q.lt) (Nat.not_lt.mpr (Nat.le_of_lt hsz))
    show wpAny _ X.A (assign (.Name x pos') X.env (.ref s2.heap.objs.size)) _ _ s4
    refine wpAny_assign_Name (store_ok2 I4 hN hx hl (v := .ref s2.heap.objs.size) rfl (fun s5 I5 ⟨a, hsb, ha⟩ => ?_) hf)
    have hne : (s2.heap.push { cls := .type "list", data := .seq ([] : List Value).toArray }).objs.size ≠ a := by
      rcases ha with ha | ha
      · rw [ha]; exact neL
      · exact (neC _ _ ha).symm
    refine ⟨m4, hm4.sameBut hsb hne, fun h6 hs6 => ?_⟩
    refine ⟨_, H4, I5.turned (t' := s5.toks) (it := (s2.heap.push { cls := .type "list", data := .seq ([] : List Value).toArray }).objs.size) (fun b o hb e => (hs6.2 b hb).trans e) fr4 neL (.inr (Nat.le_trans I2.sz (Nat.le_of_lt hsz))) neC ?_, q4⟩
    intro p hp z
    obtain ⟨e, _⟩ := I2.pin p hp
    exact absurd (z ▸ Heap.lt_size e) (Nat.not_lt.mpr (Nat.le_of_lt hsz))
end
end L2

namespace L2
open PySem PySem.Spec PyProof.Rows
section
variable {X : Cx}
/-! ### lists of ints compared -/
def rEqI (K : PySem.W.Frag) (neg : Bool) : R2 := fun x y H Q => ∃ (a b : Addr) (ns ms : List Int), x = .ref a ∧ y = .ref b ∧ SqL K H a (ns.map V.int) ∧ SqL K H b (ms.map V.int) ∧ Q (.bl (if neg then !decide (ns = ms) else decide (ns = ms))) H
theorem op_eqI (hu : X.A.units + 64 < cLine) : OpR X (compareOp .Eq) (rEqI X.K false) := by
  intro pins s σ H x y v u Q I rx ry h
  obtain ⟨a, b, ns, ms, rfl, rfl, ha, hb, q⟩ := h
  cases rx; cases ry
  obtain ⟨its, r, p, _⟩ := I.list ha
  obtain ⟨its', r', p', _⟩ := I.list hb
  exact PySem.W.ke_eq_ints p.isList p'.isList (intsAre_of r) (intsAre_of r') hu ⟨.bl (decide (ns = ms)), H, I, rfl, q⟩
theorem op_neI (hu : X.A.units + 64 < cLine) : OpR X (compareOp .NotEq) (rEqI X.K true) := by
  intro pins s σ H x y v u Q I rx ry h
  obtain ⟨a, b, ns, ms, rfl, rfl, ha, hb, q⟩ := h
  cases rx; cases ry
  obtain ⟨its, r, p, _⟩ := I.list ha
  obtain ⟨its', r', p', _⟩ := I.list hb
  exact PySem.W.ke_ne_ints p.isList p'.isList (intsAre_of r) (intsAre_of r') hu ⟨.bl (!decide (ns = ms)), H, I, rfl, q⟩
/-! ### sum, all, any, sorted, max, min of a list -/
theorem call_sum (hc : X.calm = true) : CallR X (.builtin "sum") (fun xs H Q => ∃ (p : Addr) (ns : List Int), xs = [.ref p] ∧ SqL X.K H p (ns.map V.int) ∧ Q (.int ns.sum) H) := by
  intro pins s σ H xs us Q I r h
  obtain ⟨p, ns, rfl, hq, q⟩ := h
  obtain ⟨u, rfl, rx⟩ := vals1 r
  cases rx
  obtain ⟨its, r', pl, hz⟩ := I.list hq
  have hi := intsAre_of r'
  obtain ⟨xs, hx⟩ := hi.allInts.items
  have hl' : s.heap.IsList p (intItems xs) := hx ▸ pl.isList
  refine sum_intListG (I.ok.hd hc) hl' fun h' tk t' hk => ?_
  have e1 : ns = xs.toList.map (·.1) := by
    rw [← nums_intItems, ← hx]
    exact (show numsOf its.toArray.toList = ns from hi.numsOf).symm
  have e2 : preSum (numAt xs) xs.size = ns.sum := by
    rw [preSum_eq, List.take_of_length_le (by simp), e1]
  rw [e2]
  exact ⟨.int ns.sum, H, I.kept hk, ⟨_, rfl⟩, q⟩
theorem boolsAre_of {bs : List Bool} : ∀ {us : List Value}, Vals (bs.map V.bl) us → us = bs.map Value.bool := by
  induction bs with
  | nil => intro us r; cases r; rfl
  | cons b bs ih =>
    intro us r
    cases r with
    | cons r t => rw [show _ = Value.bool b from r, ih t]; rfl
theorem call_all (hc : X.calm = true) : CallR X (.builtin "all") (fun xs H Q => ∃ (p : Addr) (bs : List Bool), xs = [.ref p] ∧ SqL X.K H p (bs.map V.bl) ∧ Q (.bl (bs.all id)) H) := by
  intro pins s σ H xs us Q I r h
  obtain ⟨p, bs, rfl, hq, q⟩ := h
  obtain ⟨u, rfl, rx⟩ := vals1 r
  cases rx
  obtain ⟨its, r', pl, hz⟩ := I.list hq
  have e := boolsAre_of r'
  subst e
  have hl := pl.isList
  have hlt : p < s.heap.objs.size := by obtain ⟨_, e, _⟩ := hl; exact Heap.lt_size e
  refine call_all_walk (wpAny_pyIter_list hl ?_)
  refine ⟨s.heap.objs.size, [s.heap.objs.size, p], [s.heap.objs.size], (bs.map Value.bool).toArray.size, _, _, fun i => (bs[i]?).getD true, rfl, Walks.list (A := X.A.in1) (I.ok.hd hc) _ p (Nat.ne_of_lt hlt) (bs.map Value.bool).toArray,
    ⟨⟨_, Heap.get?_push_size _ rfl, rfl, rfl⟩, hl.push _⟩, fun i v s' Q' E' hP hQ => ?_, fun h' tk hk => ?_⟩
  · have hP' : (bs.map Value.bool)[i]? = some v := by simpa using hP
    rw [List.getElem?_map] at hP'
    cases e : bs[i]? with
    | none => rw [e] at hP'; cases hP'
    | some b =>
      rw [e] at hP'
      cases Option.some.inj hP'
      simp only [e, Option.getD_some] at hQ
      exact wpAny_truthy_bool hQ
  · have e : ((List.range (bs.map Value.bool).toArray.size).all fun i => (bs[i]?).getD true) = bs.all id := by
      rw [List.size_toArray, List.length_map]; exact LSm.range_all bs
    rw [e]
    exact ⟨.bl (bs.all id), H, I.kept (LSm.kept_iter hk), rfl, q⟩
theorem call_any (hc : X.calm = true) : CallR X (.builtin "any") (fun xs H Q => ∃ (p : Addr) (bs : List Bool), xs = [.ref p] ∧ SqL X.K H p (bs.map V.bl) ∧ Q (.bl (bs.any id)) H) := by
  intro pins s σ H xs us Q I r h
  obtain ⟨p, bs, rfl, hq, q⟩ := h
  obtain ⟨u, rfl, rx⟩ := vals1 r
  cases rx
  obtain ⟨its, r', pl, hz⟩ := I.list hq
  have e := boolsAre_of r'
  subst e
  have hl := pl.isList
  have hlt : p < s.heap.objs.size := by obtain ⟨_, e, _⟩ := hl; exact Heap.lt_size e
  refine call_any_walk (wpAny_pyIter_list hl ?_)
  refine ⟨s.heap.objs.size, [s.heap.objs.size, p], [s.heap.objs.size], (bs.map Value.bool).toArray.size, _, _, fun i => (bs[i]?).getD false, rfl, Walks.list (A := X.A.in1) (I.ok.hd hc) _ p (Nat.ne_of_lt hlt) (bs.map Value.bool).toArray,
    ⟨⟨_, Heap.get?_push_size _ rfl, rfl, rfl⟩, hl.push _⟩, fun i v s' Q' E' hP hQ => ?_, fun h' tk hk => ?_⟩
  · have hP' : (bs.map Value.bool)[i]? = some v := by simpa using hP
    rw [List.getElem?_map] at hP'
    cases e : bs[i]? with
    | none => rw [e] at hP'; cases hP'
    | some b =>
      rw [e] at hP'
      cases Option.some.inj hP'
      simp only [e, Option.getD_some] at hQ
      exact wpAny_truthy_bool hQ
  · have e : ((List.range (bs.map Value.bool).toArray.size).any fun i => (bs[i]?).getD false) = bs.any id := by
      rw [List.size_toArray, List.length_map]; exact LSm.range_any bs
    rw [e]
    exact ⟨.bl (bs.any id), H, I.kept (LSm.kept_iter hk), rfl, q⟩
theorem vals_of_ints : ∀ {vs : List Value} {ns : List Int}, IntsAre vs ns → Vals (ns.map V.int) vs := fun h => vals_ints h
theorem call_sorted : CallR X (.builtin "sorted") (fun xs H Q => ∃ (p : Addr) (ns : List Int), xs = [.ref p] ∧ SqL X.K H p (ns.map V.int) ∧ ns.length < 64 ∧ ∀ (l : Addr) (ns' : List Int), H l = none → ns'.Perm ns → ns'.Pairwise (· ≤ ·) → Q (.ref l) (upd H l (.lst (ns'.map V.int)))) := by
  intro pins s σ H xs us Q I r h
  obtain ⟨p, ns, rfl, hq, h64, q⟩ := h
  obtain ⟨u, rfl, rx⟩ := vals1 r
  cases rx
  obtain ⟨its, r', pl, hz⟩ := I.list hq
  have hi := intsAre_of r'
  have hl : its.length = ns.length := by have := r'.length; simpa using this.symm
  refine sorted_ints pl.isList hi (by rw [hl]; exact h64) fun out ns' a1 a2 a3 => ?_
  obtain ⟨e, he⟩ := sortedAll_at s.heap its out
  refine ⟨.ref (s.heap.objs.size + 1), _, I.laid (t' := s.toks) (a := s.heap.objs.size + 1) (o := .lst (ns'.map V.int)) (fun b o q => sortedAll_old q) (Nat.le_succ _) ?_, rfl, q _ ns' (I.hok.fresh (Nat.le_succ _)) a2 a3⟩
  refine ⟨?_, out.toList, e, vals_of_ints a1, ?_⟩
  · rw [List.length_map, a2.length_eq]; rw [List.length_map] at hz; exact hz
  · simpa [seqObj] using he
/-! ### isinstance -/
def clsV : V → Option Value
  | .ty n => some (.type n)
  | .ref a => some (.ref a)
  | _ => none
theorem clsV_rel {x : V} {u c : Value} (r : RelV x u) (h : clsV x = some c) : u = c := by
  cases x <;> simp [clsV] at h <;> subst h <;> exact r
theorem call_isinst : CallR X (.builtin "isinstance") (fun xs H Q => ∃ x c t cv b, xs = [x, c] ∧ TyOf X.K H x t ∧ clsV c = some cv ∧ PySem.W.kitOne X.K t cv = some b ∧ Q (.bl b) H) := by
  intro pins s σ H xs us Q I r h
  obtain ⟨x, c, t, cv, b, rfl, ty, hc, e, q⟩ := h
  obtain ⟨u, w', rfl, r1, r2⟩ := vals2 r
  have := clsV_rel r2 hc
  subst this
  exact isinst_ok I r1 ty e fun tk => ⟨.bl b, H, I.tok _, rfl, q⟩
/-! ### xs[::-1] -/
def tRev (K : PySem.W.Frag) (te : TE) : TE := fun σ H Q => te σ H fun x H1 => ∃ a xs, x = .ref a ∧ SqL K H1 a xs ∧ ∀ p, H1 p = none → Q (.ref p) (upd H1 p (.lst xs.reverse))
theorem pe_rev {e : Expr} {te : TE} {k1 : Nat} {p1 p3 p2 pos : Pos} (he : PE X e te) : PE X (.Subscript e (.Slice none none (some (.UnaryOp .USub (.Constant (.int 1) k1 p1) p3)) p2) pos) (tRev X.K te) := by
  intro pins s σ H Q I h
  refine Subscript_ (thn (he pins s σ H _ I h) fun v s1 ⟨x, H1, I1, r1, q1⟩ => ?_)
  obtain ⟨a, xs, e1, hx, q⟩ := q1
  subst e1
  cases r1
  refine wpAny_Slice ?_
  rw [evalPart_none]
  refine wpAny_pure ?_
  refine wpAny_pure ?_
  refine thn (po_some (X := X) (pe_un un_neg pe_int) pins s1 σ H1 (fun o H2 => o = some (-1) ∧ H2 = H1) I1 ⟨1, rfl, -1, rfl, rfl, rfl⟩) fun vk s3 ⟨o, H3, I3, pk, e3, e4⟩ => ?_
  subst e3 e4
  obtain ⟨its, r, ht, hz⟩ := I3.list hx
  have hlen := r.length
  have I4 : Inv X pins σ H3 { s3 with heap := s3.heap.push { cls := .type "slice", data := .fields #[.none, .none, vk] } } := I3.kept (t' := s3.toks) fun b ob q => Heap.get?_push_of_some _ q
  have hl4 : (s3.heap.push { cls := .type "slice", data := .fields #[.none, .none, vk] }).IsList a its.toArray := ht.isList.push _
  show wpAny (model X.prog X.w) X.A (subscriptTail e (.Slice none none (some (.UnaryOp .USub (.Constant (.int 1) k1 p1) p3)) p2) (.ref a) (.ref s3.heap.objs.size)) (EP X pins σ Q) X.xe { s3 with heap := s3.heap.push { cls := .type "slice", data := .fields #[.none, .none, vk] } }
  refine tail_any (ops := [.ref a, .ref s3.heap.objs.size]) hl4.typeIs slot_list_getitem.lookup ?_ (by with_unfolding_all rfl)
  refine wpAny_getItem_list_slice (s := { s3 with heap := s3.heap.push { cls := .type "slice", data := .fields #[.none, .none, vk] } }) hl4 (Heap.IsSliceOf.new ..) .none .none pk (by decide) ?_ (by rw [List.size_toArray] <;> omega)
  rw [PySem.W.krv_pick]
  refine ⟨.ref (s3.heap.push { cls := .type "slice", data := .fields #[.none, .none, vk] }).objs.size, _, I4.laid (t' := s3.toks) (o := .lst xs.reverse) (fun b ob q => Heap.get?_push_of_some _ q) (Nat.le_refl _) ?_, rfl, q _ (I4.hok.fresh (Nat.le_refl _))⟩
  exact ⟨by rw [List.length_reverse]; exact hz, _, 0, r.reverse, Heap.get?_push_size _ rfl⟩
end
end L2

namespace L2
open PySem PySem.Spec PyProof.Rows
/-! ### iterators that hand out new tuples -/
section
variable {X : Cx} {pins : List (Addr × Obj)} {σ : St} {H : Hp} {s : Shared} {h' : Heap}
/-- the records at ch have turned, a tuple was laid at p -/
theorem Inv.turnT {ch : List Addr} {p : Addr} {xs : List V} {its : List Value} {t' : Nat} (I : Inv X pins σ H s) (hf : ∀ b ∈ ch, FpOk X pins H b)
    (k : ∀ b o, b ∉ ch → s.heap.get? b = some o → h'.get? b = some o) (there : ∀ b o, b ∈ ch → s.heap.get? b = some o → ∃ o', h'.get? b = some o') (hp : s.heap.objs.size ≤ p) (ht : IsTup h' p its.toArray) (r : Vals xs its) (hz : xs.length ≤ sizeLine) :
    Inv X pins σ (upd H p (.tup xs)) { s with heap := h', toks := t' } := by
  have hpn : H p = none := I.hok.fresh hp
  have nch : ∀ b u, H b = some u → b ∉ ch := fun b u e z => by rw [(hf b z).1] at e; cases e
  have ne : ∀ b o, s.heap.get? b = some o → b ≠ p := fun b o e => Nat.ne_of_lt (Nat.lt_of_lt_of_le (Heap.lt_size e) hp)
  have ne' : ∀ b u, H b = some u → b ≠ p := fun b u e z => by rw [z, hpn] at e; cases e
  refine I.step (g' := s.gens) (d' := s.drawn) (ch := ch) (fun b hb => ⟨(hf b hb).2.2.2.1, (hf b hb).2.1, (hf b hb).2.2.2.2.1, (hf b hb).2.2.2.2.2⟩) (fun b o _ _ hc e _ => k b o hc e) (fun b o _ _ hc e _ => ⟨o.slots, k b o hc e⟩)
    (fun b o _ e n => by rw [upd_ne (ne b o e)]; exact n) (fun b o hc e => ⟨o, k b o hc e⟩) (fun b ys e => by rw [upd_ne (ne' b _ e)]; exact e) (fun b o u e => by rw [upd_ne (ne' b _ e)]; exact e) (fun b ps e => ⟨#[], by rw [upd_ne (ne' b _ e), e]; simp⟩) (fun m hm => ?_) (fun b u e => ?_) I.bare
  · obtain ⟨o, es, ep, ho, rr⟩ := hm
    exact ⟨o, es, ep, k _ o (fun z => (hf _ z).2.1 rfl) ho, rr⟩
  · by_cases hb : b = p
    · subst hb
      rw [upd_same] at e
      cases e
      exact ⟨hz, its, r, ht⟩
    · rw [upd_ne hb] at e
      refine (I.hok b u e).stay (fun c v hc q => k c v ?_ q) (fun c q => by rw [upd_ne (ne' c _ q)]; exact q) fun c ys q => by rw [upd_ne (ne' c _ q)]; exact q
      rcases hc with z | z
      · rw [z]; exact nch b u e
      · exact nch c _ z
/-- several untracked records of ours have turned -/
theorem Inv.turns {ch : List Addr} {t' : Nat} (I : Inv X pins σ H s) (hf : ∀ b ∈ ch, FpOk X pins H b) (k : ∀ b o, b ∉ ch → s.heap.get? b = some o → h'.get? b = some o) : Inv X pins σ H { s with heap := h', toks := t' } := by
  have nch : ∀ b u, H b = some u → b ∉ ch := fun b u e z => by rw [(hf b z).1] at e; cases e
  refine I.step (g' := s.gens) (d' := s.drawn) (ch := ch) (fun b hb => ⟨(hf b hb).2.2.2.1, (hf b hb).2.1, (hf b hb).2.2.2.2.1, (hf b hb).2.2.2.2.2⟩) (fun b o _ _ hc e _ => k b o hc e) (fun b o _ _ hc e _ => ⟨o.slots, k b o hc e⟩)
    (fun b o _ _ n => n) (fun b o hc e => ⟨o, k b o hc e⟩) (fun _ _ e => e) (fun _ _ _ e => e) (fun b ps e => ⟨#[], by rw [e]; simp⟩) (fun m hm => ?_) (fun b u e => ?_) I.bare
  · obtain ⟨o, es, ep, ho, rr⟩ := hm
    exact ⟨o, es, ep, k _ o (fun z => (hf _ z).2.1 rfl) ho, rr⟩
  · refine (I.hok b u e).stay (fun c v hc q => k c v ?_ q) (fun _ q => q) fun _ _ q => q
    rcases hc with z | z
    · rw [z]; exact nch b u e
    · exact nch c _ z
end
/-! ### enumerate(list), into a tuple of targets -/
def Ite (K : PySem.W.Frag) (a : Addr) : It :=
  ⟨fun i H => ∃ xs x, SqL K H a xs ∧ xs[i]? = some x, fun i H v H' => ∃ p x, H p = none ∧ v = .ref p ∧ H' = upd H p (.tup [.int i, x]) ∧ ∀ xs, SqL K H a xs → xs[i]? = some x, fun i H => ∃ xs, SqL K H a xs ∧ xs.length ≤ i⟩
theorem turn_enum {P : Program} {w : World} {K : PySem.W.Frag} {elts : List Expr} {x1 : Nat} {p1 : Pos} (a e it : Addr) (hne : e ≠ it) :
    Turn P w K (.Tuple elts x1 p1) (Ite K a) [e, it] e (fun i h => (∃ old, IsEnum h e it (i : Nat) old) ∧ h.IsListIter it a i) where
  mem := by simp
  obj := fun i h st b hb => by
    obtain ⟨⟨old, he⟩, o, ei, c, d⟩ := st
    have hb' : b = e ∨ b = it := by simpa using hb
    rcases hb' with rfl | rfl
    · exact ⟨_, he, fun v z => by have z' : Data.fields _ = Data.cell v := z; cases z'⟩
    · exact ⟨o, ei, fun v z => by rw [d] at z; cases z⟩
  keep := fun i h h' st k => by
    obtain ⟨⟨old, he⟩, hi⟩ := st
    exact ⟨⟨old, k e (by simp) _ he⟩, hi.at fun o q => k it (by simp) o q⟩
  item := by
    intro X hP hw hK hc i pins s σ H E I hf st hg
    subst hP hw hK
    obtain ⟨⟨old, he⟩, hi⟩ := st
    obtain ⟨xs, x, hq, hx⟩ := hg
    obtain ⟨its, rv, pl, hz⟩ := I.list hq
    obtain ⟨u, hu, ru⟩ := rv.get hx
    refine wpAny_pyNext_enum_item he hi pl.isList (x := u) (by simpa using hu) hne fun h1 he1 hi1 ht1 hs1 hk1 => ?_
    refine ⟨_, rfl, ?_⟩
    refine wpAny_letOwnedTupleGo_enum (s := { s with heap := h1, toks := s.toks + 1 }) he1 fun h2 he2 hs2 => ?_
    have hlt : e < s.heap.objs.size := Heap.lt_size he
    have hk : ∀ b o, b ∉ [e, it] → s.heap.get? b = some o → h2.get? b = some o := fun b o hb q => by
      have hb' : b ≠ e ∧ b ≠ it := by simpa using hb
      exact hs2.extBut b o hb'.1 (hk1 b o hb'.1 hb'.2 q)
    have ht2 : IsTup h2 s.heap.objs.size [Value.int (i : Nat) s.toks, u].toArray := ⟨_, hs2.extBut _ _ (Nat.ne_of_gt hlt) ht1, rfl, _, rfl⟩
    have I2 : Inv X pins σ (upd H s.heap.objs.size (.tup [.int (i : Nat), x])) { s with heap := h2, toks := s.toks + 1 } :=
      I.turnT hf hk (fun b o hb q => by
        have hb' : b = e ∨ b = it := by simpa using hb
        rcases hb' with rfl | rfl
        · exact ⟨_, he2⟩
        · obtain ⟨o', q', _⟩ := hi1.extBut hs2.extBut (Ne.symm hne)
          exact ⟨o', q'⟩) (Nat.le_refl _) ht2 (.cons ⟨_, rfl⟩ (.cons ru .nil)) (by show 2 ≤ sizeLine; decide)
    refine ⟨.ref s.heap.objs.size, _, I2, rfl, ⟨s.heap.objs.size, x, I.fresh, rfl, rfl, fun ys hy => by rw [I.list_inj hy hq]; exact hx⟩, ⟨⟨u, ?_⟩, hi1.extBut hs2.extBut (Ne.symm hne)⟩, fun b hb => ?_⟩
    · have : ((i + 1 : Nat) : Int) = (i : Int) + 1 := by omega
      rw [this]; exact he2
    · obtain ⟨o, q, _⟩ : ∃ o, s.heap.get? b = some o ∧ True := by
        have hb' : b = e ∨ b = it := by simpa using hb
        rcases hb' with rfl | rfl
        · exact ⟨_, he, trivial⟩
        · obtain ⟨o, q, _⟩ := hi; exact ⟨o, q, trivial⟩
      rw [upd_ne (Nat.ne_of_lt (Heap.lt_size q))]
      exact (hf b hb).1
  done := by
    intro X hP hw hK hc i pins s σ H E I hf st hg
    subst hP hw hK
    obtain ⟨⟨old, he⟩, hi⟩ := st
    obtain ⟨xs, hq, hx⟩ := hg
    obtain ⟨its, rv, pl, hz⟩ := I.list hq
    have hl := rv.length
    refine wpAny_pyNext_enum_end (I.ok.hd hc) he hi pl.isList (by simp; omega) fun h1 eb => ⟨rfl, I.turns (t' := s.toks) hf fun b o hb q => eb b o (fun z => hb (by simp [z])) q⟩
  self := fun _ _ _ _ _ st h => by
    obtain ⟨⟨old, he⟩, _⟩ := st
    exact wpAny_pyIter_enum he h
section
variable {X : Cx}
def iEnum (K : PySem.W.Frag) (ta : TA) : TI := fun σ H R => ta σ H fun vs H1 => ∃ a : Addr, vs = [.ref a] ∧ (∃ xs, SqL K H1 a xs) ∧ R (Ite K a) H1
theorem boot_enum : bootBuiltins "enumerate" = some (.type "enumerate") := by decide +kernel
theorem pi_enum {elts : List Expr} {x1 : Nat} {p1 : Pos} {a : Expr} {ta : TA} {p pos : Pos} (hg : Gl X "enumerate") (hm : X.mg "enumerate" = none) (ha : PA X [a] ta) (hs : starEach [a] X.env = [(false, eval a X.env)] := by rfl) :
    PI X (.Tuple elts x1 p1) (.Call (.Name "enumerate" p) [a] [] pos) (iEnum X.K ta) := by
  intro pins s σ H R I h
  refine Call_ (ld_blt I hg hm boot_enum (PyProof.Rows.callWith_type1 (thn (ha pos pins s σ H _ I h) fun us s1 ⟨vs, H1, I1, r1, q1⟩ => ?_) hs rfl))
  obtain ⟨l, e, ⟨xs, hq⟩, q⟩ := q1
  subst e
  obtain ⟨u, rfl, rx⟩ := vals1 r1
  cases rx
  obtain ⟨its, rv, pl, hz⟩ := I1.list hq
  refine call_enumerate_list pl.isList fun h' he hi hsz hk => ?_
  refine wpAny_pyIter_enum (s := { s1 with heap := h' }) he ?_
  have I2 : Inv X pins σ H1 { s1 with heap := h' } := I1.kept (t' := s1.toks) hk
  refine ⟨s1.heap.objs.size + 1, [s1.heap.objs.size + 1, s1.heap.objs.size], _, _, H1, rfl, I2, turn_enum l _ _ (Nat.succ_ne_self _), ⟨⟨_, he⟩, hi⟩, fun b hb => ?_, q⟩
  have hb' : s1.heap.objs.size ≤ b := by
    have : b = s1.heap.objs.size + 1 ∨ b = s1.heap.objs.size := by simpa using hb
    rcases this with rfl | rfl
    · exact Nat.le_succ _
    · exact Nat.le_refl _
  exact I1.fpOk hb' (I1.hok.fresh hb')
end
/-- the loop over enumerate(list) that the body leaves as it is -/
theorem for_enum {K : PySem.W.Frag} {a : Addr} {xs : List V} {g : TG} {tb : TS} {D : Ends} {σ : St} {H : Hp} (Pv : Nat → St → Hp → Prop) (h0 : Pv 0 σ H) (hl : ∀ i σ H, i ≤ xs.length → Pv i σ H → SqL K H a xs)
    (hs : ∀ i x σ H p, xs[i]? = some x → Pv i σ H → H p = none → g (.ref p) σ (upd H p (.tup [.int i, x])) fun σ2 H2 => tb { D with nx := Pv (i + 1), ct := Pv (i + 1), bk := D.nx } σ2 H2) (hd : ∀ σ H, Pv xs.length σ H → D.nx σ H) :
    ∃ W : Nat → Nat → St → Hp → Prop, (∃ m, W 0 m σ H) ∧ ∀ i m σ H, W i m σ H →
      ((Ite K a).stop i H ∧ D.nx σ H) ∨ ((Ite K a).go i H ∧ ∃ N : St → Hp → Prop, (∀ σ' H', N σ' H' → ∃ m', m' < m ∧ W (i + 1) m' σ' H') ∧ ∀ x H', (Ite K a).yld i H x H' → g x σ H' fun σ2 H2 => tb { D with nx := N, ct := N, bk := D.nx } σ2 H2) := by
  refine ⟨fun i m σ H => m = xs.length - i ∧ i ≤ xs.length ∧ Pv i σ H, ⟨xs.length, by simp, Nat.zero_le _, h0⟩, ?_⟩
  rintro i m σ H ⟨rfl, hi, p⟩
  have q := hl i σ H hi p
  by_cases hlt : i < xs.length
  · refine .inr ⟨⟨xs, xs[i], q, by simp [hlt]⟩, Pv (i + 1), fun σ' H' p' => ⟨xs.length - (i + 1), by omega, rfl, hlt, p'⟩, fun v H' y => ?_⟩
    obtain ⟨pp, x, hn, e1, e2, y⟩ := y
    subst e1 e2
    exact hs i x σ H pp (y xs q) p hn
  · have e : i = xs.length := by omega
    subst e
    exact .inl ⟨⟨xs, q, Nat.le_refl _⟩, hd σ H p⟩
/-! ### reversed(range(n)) -/
def Itd (a : Int) (n : Nat) : It := ⟨fun i _ => i < n, fun i H x H' => H' = H ∧ x = .int (a - i), fun i _ => n ≤ i⟩
theorem turn_down {P : Program} {w : World} {K : PySem.W.Frag} {tg : Expr} (it : Addr) (a : Int) (n : Nat) : Turn P w K tg (Itd a n) [it] it (fun i h => IsRangeIter h it (a + (i : Nat) * (-1)) ((n : Int) - (i : Nat)) (-1)) where
  mem := by simp
  obj := fun i h st b hb => by
    have e : b = it := by simpa using hb
    subst e
    exact ⟨_, st, fun v z => by
      have z' : Data.fields _ = Data.cell v := z
      cases z'⟩
  keep := fun i h h' st k => k it (by simp) _ st
  item := by
    intro X hP hw hK hc i pins s σ H E I hf st hg
    subst hP hw hK
    obtain ⟨f0, f1, f2, f3, f4, f5⟩ := hf it (by simp)
    have W := Walks.range (prog := X.prog) (w := X.w) (I.ok.hd hc) it a (-1) n
    refine W.item i s _ _ hg st fun v h' tk hv st' kk => ?_
    obtain ⟨t, rfl⟩ := hv
    have I1 : Inv X pins σ H { s with heap := h', toks := tk } := I.turned (fun b o hb e => kk b o (by simpa using hb) e) f0 f1 f3 f4 f5
    refine ⟨_, rfl, go_of (s := { s with heap := h', toks := tk }) (n := "range_iterator") st' rfl rfl (by decide) ⟨.int (a - i), H, I1, ⟨t, ?_⟩, ⟨rfl, rfl⟩, st', fun b hb => (hf b hb).1⟩⟩
    have : a + (i : Int) * (-1) = a - i := by omega
    rw [this]
  done := by
    intro X hP hw hK hc i pins s σ H E I hf st hg
    subst hP hw hK
    obtain ⟨f0, f1, f2, f3, f4, f5⟩ := hf it (by simp)
    exact wpAny_pyNext_range_end (I.ok.hd hc) st (by have : n ≤ i := hg; omega) fun h' eb => ⟨rfl, I.turned (t' := s.toks) (fun b o hb e => eb b o hb e) f0 f1 f3 f4 f5⟩
  self := fun _ _ _ _ _ st h => wpAny_pyIter_rangeiter st h
end L2

namespace L2
open PySem PySem.Spec PyProof.Rows
theorem sub_ri_reversed : isSubtype (.type "range_iterator") (.type "reversed") = pure false := by rw [isSubtype_type]; kernel_rfl
def rsmall (a b c : Int) : Bool := Builtin.Range.rangeFitsLong a && Builtin.Range.rangeFitsLong b && Builtin.Range.rangeFitsLong c && Builtin.Range.rangeFitsLong (-c) && Builtin.Range.rangeFitsLong (a - c) && Builtin.Range.rangeFitsLong (Builtin.Range.rangeSize a b c)
theorem meets_range_rev (r : Addr) (a b c : Int) (t u v : Tok) (hs : rsmall a b c = true) :
    Meets (Builtin.«range.__reversed__» ⟨[.ref r], []⟩) (fun _ R s => s.heap.get? r = some { cls := .type "range", dict := none, data := .fields #[.int a t, .int b u, .int c v], slots := #[] } ∧
      R (.ok (.ret (Value.ref s.heap.objs.size))) { s with heap := s.heap.push { cls := Value.type "range_iterator", data := Data.fields #[rawInt (a + (Builtin.Range.rangeSize a b c - 1) * c), rawInt (Builtin.Range.rangeSize a b c), rawInt (-c)] }, toks := s.toks }) :=
  .of_wp fun prog w A R s h => by
    obtain ⟨hp, g, d, tk, os⟩ := s; obtain ⟨hl, h⟩ := h
    unfold rsmall at hs
    wp_walk
    refine ⟨_, rfl, ?_⟩
    rw [if_pos hs]
    exact h
section
variable {prog : Program} {w : World} {A : Around} {E : Value → Shared → Prop} {s : Shared}
theorem code_reversed_range {r : Addr} {a b c : Int} {t u v : Tok} {Q₁ : Value → Shared → Prop} (hr : IsRange s.heap r a b c t u v) (hs : rsmall a b c = true)
    (h : Q₁ (.ref s.heap.objs.size) { s with heap := s.heap.push { cls := Value.type "range_iterator", data := Data.fields #[rawInt (a + (Builtin.Range.rangeSize a b c - 1) * c), rawInt (Builtin.Range.rangeSize a b c), rawInt (-c)] } }) :
    codeAny (model prog w) A (.call (.builtin "reversed.__new__") ⟨[.type "reversed", .ref r], []⟩) (wants Q₁ E) s := by
  have hT : s.TypeIs (.ref r) "range" := ⟨_, hr, rfl⟩
  refine codeAny_of_tree ?_
  show wpAny _ A.in1 (do checkBuiltinCall "reversed.__new__" ⟨[.type "reversed", .ref r], []⟩; again (.builtin "reversed.__new__" ⟨[.type "reversed", .ref r], []⟩)) _ _ s
  refine wpAny_bind (wpAny_of_eq (F.newCall_reversed_1 _) (wpAny_pure ⟨plainId_quiet F.plain_reversed_new _, codeAny_builtin F.entry_reversed_new ?_⟩))
  rw [Around.under_plainId F.plain_reversed_new _]
  unfold Builtin.«reversed.__new__»
  refine wpAny_bind (wpAny_of_eq (newClass_reversed _) ?_)
  try dsimp only
  refine wpAny_bind (wpAny_of_eq (a := ()) (by first | rfl | kernel_rfl) ?_)
  refine wpAny_bind (wpAny_of_eq (a := ()) (by first | rfl | kernel_rfl) ?_)
  try dsimp only
  refine wpAny_bind (wpAny_specialOf hT F.slot_range_reversed.lookup ?_)
  try dsimp only
  refine wpAny_bind (wpAny_of_eq (F.slot_range_reversed.bind _) ?_)
  try dsimp only
  first
  | rw [if_neg (show ¬ ((Value.builtin "range.__reversed__" == Value.none) = true) from Bool.false_ne_true)]
  | (show wpAny _ _ (if (Value.builtin "range.__reversed__" == Value.none) = true then _ else _) _ _ _; rw [if_neg (show ¬ ((Value.builtin "range.__reversed__" == Value.none) = true) from Bool.false_ne_true)])
  refine wpAny_bind (wpAny_rule ?_)
  refine wpAny_bind (m := runValue (.call (.builtin "range.__reversed__") ⟨[.ref r], []⟩)) (show wpAny _ _ (call (.builtin "range.__reversed__") [.ref r]) _ _ _ from
    call_meets F.slot_range_reversed hT F.entry_range_reversed (F.args_range_reversed_1 _) (meets_range_rev r a b c t u v hs) ⟨hr, ?_⟩)
  first
  | exact wpAny_pure h
  | exact wpAny_bind (wpAny_pure (wpAny_pure h))
theorem call_reversed_range {r : Addr} {a b c : Int} {t u v : Tok} {Q : Value → Shared → Prop} (hr : IsRange s.heap r a b c t u v) (hs : rsmall a b c = true)
    (h : Q (.ref s.heap.objs.size) { s with heap := s.heap.push { cls := Value.type "range_iterator", data := Data.fields #[rawInt (a + (Builtin.Range.rangeSize a b c - 1) * c), rawInt (Builtin.Range.rangeSize a b c), rawInt (-c)] } }) :
    wpAny (model prog w) A (call (.type "reversed") [.ref r]) Q E s := by
  refine callType_other (U := "range_iterator") (Q₁ := fun obj s₁ => obj = .ref s.heap.objs.size ∧ s₁ = { s with heap := s.heap.push { cls := Value.type "range_iterator", data := Data.fields #[rawInt (a + (Builtin.Range.rangeSize a b c - 1) * c), rawInt (Builtin.Range.rangeSize a b c), rawInt (-c)] } }) (by decide +kernel) F.create_reversed ⟨_, _, F.mro_reversed⟩ F.made_reversed sub_ri_reversed (F.typeCall_reversed_1 _) (code_reversed_range hr hs ⟨rfl, rfl⟩) ?_
  rintro obj s₁ ⟨rfl, rfl⟩
  exact ⟨⟨_, Heap.get?_push_size _ rfl, rfl⟩, h⟩
end
theorem rsmall_1 {n : Int} (h1 : -(2 ^ 62) ≤ n) (h2 : n < 2 ^ 62) : rsmall 0 n 1 = true := by
  unfold rsmall
  rw [rangeSize_one]
  simp only [Builtin.Range.rangeFitsLong, Bool.and_eq_true]
  refine ⟨⟨⟨⟨⟨?_, ?_⟩, ?_⟩, ?_⟩, ?_⟩, ?_⟩ <;> (try split) <;> simp <;> omega
section
variable {X : Cx} {tg : Expr}
theorem boot_reversed' : bootBuiltins "reversed" = some (.type "reversed") := by decide +kernel
/-- reversed(range(n)) -/
def iRevR (ta : TA) : TI := fun σ H R => ta σ H fun vs H1 => ∃ j : Int, vs = [.int j] ∧ -(2 ^ 62) ≤ j ∧ j < 2 ^ 62 ∧ R (Itd ((j.toNat : Int) - 1) j.toNat) H1
theorem pi_revR {a : Expr} {ta : TA} {p p' pos pos' : Pos} (hg : Gl X "range") (hm : X.mg "range" = none) (hg' : Gl X "reversed") (hm' : X.mg "reversed" = none) (ha : PA X [a] ta) (hs : starEach [a] X.env = [(false, eval a X.env)] := by rfl)
    (hs' : starEach [.Call (.Name "range" p) [a] [] pos] X.env = [(false, eval (.Call (.Name "range" p) [a] [] pos) X.env)] := by rfl) :
    PI X tg (.Call (.Name "reversed" p') [.Call (.Name "range" p) [a] [] pos] [] pos') (iRevR ta) := by
  intro pins s σ H R I h
  refine Call_ (ld_blt I hg' hm' boot_reversed' (PyProof.Rows.callWith_type1 ?_ hs' rfl))
  rw [hs']
  show wpAny _ _ (spliced ((false, eval (.Call (.Name "range" p) [a] [] pos) X.env) :: [])) _ _ s
  refine Calls.spliced_cons ?_
  refine Call_ (ld_blt I hg hm boot_range (PyProof.Rows.callWith_type1 (thn (ha pos pins s σ H _ I h) fun us s1 ⟨vs, H1, I1, r1, q1⟩ => ?_) hs rfl))
  obtain ⟨j, e, q1, q2, q⟩ := q1
  subst e
  obtain ⟨u, rfl, t, rfl⟩ := vals1 r1
  refine call_range_1 (Calls.spliced_nil ?_)
  have I2 : Inv X pins σ H1 { s1 with heap := s1.heap.push { cls := .type "range", data := .fields #[.int 0 s1.toks, .int j t, .int 1 (s1.toks + 1)] }, toks := s1.toks + 1 + 1 } := I1.kept fun b o e => Heap.get?_push_of_some _ e
  refine call_reversed_range (IsRange.new ..) (rsmall_1 q1 q2) ?_
  have hst : IsRangeIter ((s1.heap.push { cls := .type "range", data := .fields #[.int 0 s1.toks, .int j t, .int 1 (s1.toks + 1)] }).push { cls := Value.type "range_iterator", data := Data.fields #[rawInt (0 + (Builtin.Range.rangeSize 0 j 1 - 1) * 1), rawInt (Builtin.Range.rangeSize 0 j 1), rawInt (-1)] })
      (s1.heap.push { cls := .type "range", data := .fields #[.int 0 s1.toks, .int j t, .int 1 (s1.toks + 1)] }).objs.size (0 + (Builtin.Range.rangeSize 0 j 1 - 1) * 1) (Builtin.Range.rangeSize 0 j 1) (-1) := Heap.get?_push_size _ rfl
  have hn : Builtin.Range.rangeSize 0 j 1 = (j.toNat : Int) := by rw [rangeSize_one]; split <;> omega
  refine wpAny_pyIter_rangeiter hst ?_
  refine ⟨_, [(s1.heap.push { cls := .type "range", data := .fields #[.int 0 s1.toks, .int j t, .int 1 (s1.toks + 1)] }).objs.size], _, _, H1, rfl, I2.kept (t' := s1.toks + 1 + 1) fun b o e => Heap.get?_push_of_some _ e, turn_down _ ((j.toNat : Int) - 1) j.toNat, ?_, fun b hb => ?_, ?_⟩
  · show IsRangeIter _ _ (((j.toNat : Int) - 1) + ((0 : Nat) : Int) * (-1)) ((j.toNat : Int) - ((0 : Nat) : Int)) (-1)
    have e1 : ((j.toNat : Int) - 1) + ((0 : Nat) : Int) * (-1) = 0 + (Builtin.Range.rangeSize 0 j 1 - 1) * 1 := by rw [hn]; omega
    have e2 : (j.toNat : Int) - ((0 : Nat) : Int) = Builtin.Range.rangeSize 0 j 1 := by rw [hn]; omega
    rw [e1, e2]
    exact hst
  · have e : b = (s1.heap.push { cls := .type "range", data := .fields #[.int 0 s1.toks, .int j t, .int 1 (s1.toks + 1)] }).objs.size := by simpa using hb
    subst e
    exact I2.fpOk (Nat.le_refl _) (I2.hok.fresh (Nat.le_refl _))
  · exact q
end
end L2

namespace L2
open PySem PySem.Spec PyProof.Rows
/-- a def of the text that may be called by its name -/
structure Callee (P : Program) (w : World) (K : PySem.W.Frag) (mg : Str → Option Value) (base : Heap) (k : Nat) (x : Str) (ps : List Str) (sp : Sp) : Prop where
  ex : ∃ (f : Addr) (fd : FuncData), FnOk P w K mg base CX0 k f fd ps sp ∧ mg x = some (.ref f) ∧ PySem.W.keepIn K (.ref f) = true ∧ Binds K fd ps []
section
variable {X : Cx} {k : Nat} {x : Str} {ps : List Str} {sp : Sp} {p pos : Pos} {e : Expr} {es : List Expr} {t : TA}
theorem pe_fn (c : Callee X.prog X.w X.K X.mg X.base k x ps sp) (hr : Room k X.A) (hg : Gl X x) (ha : PA X (e :: es) t) (hdb : (x == ("__debug__" : Str)) = false := by decide)
    (he : starEach (e :: es) X.env = (false, eval e X.env) :: starEach es X.env := by rfl) (hpl : (backTo pos (starEach es X.env)).any (·.1) = false := by rfl) : PE X (.Call (.Name x p) (e :: es) [] pos) (tCall sp [] E0 t) := by
  obtain ⟨f, fd, G, hm, hk, hb⟩ := c.ex
  exact pe_call G hr hg hm hk hb .nil pass0 ha hdb he hpl
end
theorem Callee.of {P : Program} {w : World} {K : PySem.W.Frag} {mg : Str → Option Value} {base : Heap} {k : Nat} {x qual : Str} {st : Stmt} {f : Addr} {fd : FuncData} {ps : List Str} {sp : Sp} (F : Fun K x qual st f fd) (G : FnOk P w K mg base CX0 k f fd ps sp) (hm : mg x = some (.ref f)) (b : Binds K fd ps []) : Callee P w K mg base k x ps sp := ⟨f, fd, G, hm, F.kp, b⟩
/-- over reversed(range(n)) -/
theorem for_down {a : Int} {n : Nat} {g : TG} {tb : TS} {D : Ends} {σ : St} {H : Hp} (Pv : Nat → St → Hp → Prop) (h0 : Pv 0 σ H)
    (hs : ∀ i σ H, i < n → Pv i σ H → g (.int (a - i)) σ H fun σ2 H2 => tb { D with nx := Pv (i + 1), ct := Pv (i + 1), bk := D.nx } σ2 H2) (hd : ∀ σ H, Pv n σ H → D.nx σ H) :
    ∃ W : Nat → Nat → St → Hp → Prop, (∃ m, W 0 m σ H) ∧ ∀ i m σ H, W i m σ H →
      ((Itd a n).stop i H ∧ D.nx σ H) ∨ ((Itd a n).go i H ∧ ∃ N : St → Hp → Prop, (∀ σ' H', N σ' H' → ∃ m', m' < m ∧ W (i + 1) m' σ' H') ∧ ∀ x H', (Itd a n).yld i H x H' → g x σ H' fun σ2 H2 => tb { D with nx := N, ct := N, bk := D.nx } σ2 H2) := by
  refine ⟨fun i m σ H => m = n - i ∧ i ≤ n ∧ Pv i σ H, ⟨n, by simp, Nat.zero_le _, h0⟩, ?_⟩
  rintro i m σ H ⟨rfl, hi, p⟩
  by_cases hlt : i < n
  · refine .inr ⟨hlt, Pv (i + 1), fun σ' H' p' => ⟨n - (i + 1), by omega, rfl, hlt, p'⟩, fun x H' y => ?_⟩
    obtain ⟨e, y⟩ := y
    subst e y
    exact hs i σ _ hlt p
  · have e : i = n := by omega
    subst e
    exact .inl ⟨Nat.le_refl _, hd σ H p⟩
def chkComp (sc : Scope) (N : List Str) (scope : Scope) (cap : List Nat) : Bool :=
  scope.names.all (fun y => y.2 != .cell) && scope.kind == .function && scope.names.all (fun y => y.2 != .free || sc.names.lookup y.1 == some .cell || sc.names.lookup y.1 == some .free) &&
    scope.names.all (fun y => y.2 != .local || scope.names.lookup y.1 == some .local) && cap.all (fun j => decide (j < N.length) && scope.names.lookup (N.getD j "") == some .free)
/-- by a look at the tables -/
theorem CompOk.of {X : Cx} {scope : Scope} {cap : List Nat} (sc : Scope) (N : List Str) (hs : X.env.scope = sc) (hN : X.N = N) (h : chkComp sc N scope cap = true) : CompOk X scope cap := by
  subst hs hN
  unfold chkComp at h
  simp only [Bool.and_eq_true, List.all_eq_true] at h
  obtain ⟨⟨⟨⟨h1, h2⟩, h3⟩, h4⟩, h5⟩ := h
  refine ⟨fun y hy => by simpa using h1 y hy, by simpa using h2, fun y hy e => ?_, fun y hy e => ?_, fun j hj => ?_⟩
  · have := h3 y hy
    simpa [e] using this
  · have := h4 y hy
    simpa [e] using this
  · have := h5 j hj
    simpa using this
/-! ### the forms of comprehensions one uses -/
theorem ext_set0 (σ : St) (k : Nat) (cap : List Nat) (v : V) : Ext (capS σ (k + 1) cap) ((capS σ (k + 1) cap).set 0 (some v)) := by
  refine ⟨by simp, fun i u h => ?_⟩
  cases i with
  | zero =>
    have : (capS σ (k + 1) cap)[0]? = some none := by
      unfold capS
      rw [List.replicate_succ, List.cons_append]
      rfl
    rw [this] at h; cases h
  | succ i => rw [List.getElem?_set_ne (by omega)]; exact h
abbrev g1 : Fam TG := fun _ _ _ _ => gName 0
abbrev tA : Fam TT := fun _ _ _ _ => tAlw
/-- one name, a list, any heap -/
theorem lc_list {K : PySem.W.Frag} {a : Addr} {xs : List V} {σ : St} {cap : List Nat} {te : Fam TE} {D : Addr} {H1 : Hp} {Q : VK} (Pv : Nat → Hp → List V → Prop) (h0 : Pv 0 (upd H1 D (.lst [])) [])
    (hl : ∀ i H ys, i ≤ xs.length → Pv i H ys → SqL K H a xs ∧ H D = some (.lst ys))
    (hs : ∀ i x H ys, xs[i]? = some x → Pv i H ys → ∀ C s H0 fp, te C s H0 fp ((capS σ 1 cap).set 0 (some x)) H fun y H6 => H6 D = some (.lst ys) ∧ ys.length < sizeLine ∧ Pv (i + 1) (upd H6 D (.lst (ys ++ [y]))) (ys ++ [y]))
    (hd : ∀ H ys, Pv xs.length H ys → Q (.ref D) H) : LcGoal (Itl K a) (capS σ 1 cap) g1 tA te D H1 Q := by
  unfold LcGoal
  refine ⟨xs.length, fun i H ys => i ≤ xs.length ∧ Pv i H ys, ⟨Nat.zero_le _, h0⟩, ?_⟩
  rintro i H2 ys ⟨hi, p⟩
  obtain ⟨q, hD⟩ := hl i H2 ys hi p
  refine ⟨hi, hD, ?_⟩
  by_cases hlt : i < xs.length
  · refine .inr ⟨hlt, ⟨xs, xs[i], q, by simp [hlt]⟩, fun C s H0 fp x H3 y => ?_⟩
    obtain ⟨e, y⟩ := y
    subst e
    refine ⟨ext_set0 σ 0 cap x, ?_⟩
    show tAlw _ _ _
    unfold tAlw
    dsimp only
    rw [if_pos rfl]
    have := hs i x H3 ys (y xs q) p C s H0 fp
    have e : (fun (y : V) (H6 : Hp) => H6 D = some (HO.lst ys) ∧ ys.length < sizeLine ∧ (i + 1 ≤ xs.length ∧ Pv (i + 1) (upd H6 D (.lst (ys ++ [y]))) (ys ++ [y]))) = fun y H6 => H6 D = some (.lst ys) ∧ ys.length < sizeLine ∧ Pv (i + 1) (upd H6 D (.lst (ys ++ [y]))) (ys ++ [y]) := by
      funext y H6
      exact propext ⟨fun ⟨a, b, _, c⟩ => ⟨a, b, c⟩, fun ⟨a, b, c⟩ => ⟨a, b, hlt, c⟩⟩
    rw [e]
    exact this
  · have e : i = xs.length := by omega
    subst e
    exact .inl ⟨⟨xs, q, Nat.le_refl _⟩, hd H2 ys p⟩
/-- one name, a range, any heap -/
theorem lc_range {lo : Int} {n : Nat} {σ : St} {cap : List Nat} {te : Fam TE} {D : Addr} {H1 : Hp} {Q : VK} (Pv : Nat → Hp → List V → Prop) (h0 : Pv 0 (upd H1 D (.lst [])) [])
    (hl : ∀ i H ys, i ≤ n → Pv i H ys → H D = some (.lst ys))
    (hs : ∀ i H ys, i < n → Pv i H ys → ∀ C s H0 fp, te C s H0 fp ((capS σ 1 cap).set 0 (some (.int (lo + i)))) H fun y H6 => H6 D = some (.lst ys) ∧ ys.length < sizeLine ∧ Pv (i + 1) (upd H6 D (.lst (ys ++ [y]))) (ys ++ [y]))
    (hd : ∀ H ys, Pv n H ys → Q (.ref D) H) : LcGoal (Itr lo n) (capS σ 1 cap) g1 tA te D H1 Q := by
  unfold LcGoal
  refine ⟨n, fun i H ys => i ≤ n ∧ Pv i H ys, ⟨Nat.zero_le _, h0⟩, ?_⟩
  rintro i H2 ys ⟨hi, p⟩
  refine ⟨hi, hl i H2 ys hi p, ?_⟩
  by_cases hlt : i < n
  · refine .inr ⟨hlt, hlt, fun C s H0 fp x H3 y => ?_⟩
    obtain ⟨e, y⟩ := y
    subst e y
    refine ⟨ext_set0 σ 0 cap _, ?_⟩
    show tAlw _ _ _
    unfold tAlw
    dsimp only
    rw [if_pos rfl]
    have := hs i H3 ys hlt p C s H0 fp
    have e : (fun (y : V) (H6 : Hp) => H6 D = some (HO.lst ys) ∧ ys.length < sizeLine ∧ (i + 1 ≤ n ∧ Pv (i + 1) (upd H6 D (.lst (ys ++ [y]))) (ys ++ [y]))) = fun y H6 => H6 D = some (.lst ys) ∧ ys.length < sizeLine ∧ Pv (i + 1) (upd H6 D (.lst (ys ++ [y]))) (ys ++ [y]) := by
      funext y H6
      exact propext ⟨fun ⟨a, b, _, c⟩ => ⟨a, b, c⟩, fun ⟨a, b, c⟩ => ⟨a, b, hlt, c⟩⟩
    rw [e]
    exact this
  · have e : i = n := by omega
    subst e
    exact .inl ⟨Nat.le_refl _, hd H2 ys p⟩
theorem Same.new {H : Hp} {D : Addr} (h : H D = none) (o : HO) : Same H (upd H D o) := fun b u e => by rw [upd_ne (ne_of_none e h)]; exact e
theorem map_take_succ {α β : Type} (f : α → β) (xs : List α) (i : Nat) (x : α) (h : xs[i]? = some x) : (xs.take (i + 1)).map f = (xs.take i).map f ++ [f x] := by
  rw [List.take_add_one, h]; simp
/-- one name, a list, the heap untouched by the element -/
theorem lc_listP {K : PySem.W.Frag} {a : Addr} {xs : List V} {σ : St} {cap : List Nat} {te : Fam TE} {D : Addr} {H1 : Hp} {Q : VK} (f : V → V) (hD : H1 D = none) (hS : SqL K H1 a xs) (hz : xs.length ≤ sizeLine)
    (hs : ∀ (i : Nat) x ys C s H0 fp (R : VK), xs[i]? = some x → R (f x) (upd H1 D (.lst ys)) → te C s H0 fp ((capS σ 1 cap).set 0 (some x)) (upd H1 D (.lst ys)) R)
    (hq : Q (.ref D) (upd H1 D (.lst (xs.map f)))) : LcGoal (Itl K a) (capS σ 1 cap) g1 tA te D H1 Q := by
  refine lc_list (xs := xs) (fun i H ys => i ≤ xs.length ∧ ys = (xs.take i).map f ∧ H = upd H1 D (.lst ys)) ⟨Nat.zero_le _, by simp, rfl⟩ ?_ ?_ ?_
  · rintro i H ys hi ⟨_, rfl, rfl⟩
    exact ⟨(Same.new hD _).seq hS, upd_same⟩
  · rintro i x H ys hx ⟨_, rfl, rfl⟩ C s H0 fp
    have hlt : i < xs.length := (List.getElem?_eq_some_iff.mp hx).1
    refine hs i x _ C s H0 fp _ hx ⟨upd_same, ?_, hlt, (map_take_succ f xs i x hx).symm, upd_upd⟩
    rw [List.length_map, List.length_take]
    omega
  · rintro H ys ⟨_, rfl, rfl⟩
    rw [List.take_of_length_le (Nat.le_refl _)]
    exact hq
theorem lc_rangeP {lo : Int} {n : Nat} {σ : St} {cap : List Nat} {te : Fam TE} {D : Addr} {H1 : Hp} {Q : VK} (f : Nat → V) (hD : H1 D = none) (hz : n ≤ sizeLine)
    (hs : ∀ (i : Nat) ys C s H0 fp (R : VK), i < n → R (f i) (upd H1 D (.lst ys)) → te C s H0 fp ((capS σ 1 cap).set 0 (some (.int (lo + i)))) (upd H1 D (.lst ys)) R)
    (hq : Q (.ref D) (upd H1 D (.lst ((List.range n).map f)))) : LcGoal (Itr lo n) (capS σ 1 cap) g1 tA te D H1 Q := by
  refine lc_range (fun i H ys => i ≤ n ∧ ys = (List.range i).map f ∧ H = upd H1 D (.lst ys)) ⟨Nat.zero_le _, rfl, rfl⟩ ?_ ?_ ?_
  · rintro i H ys hi ⟨_, rfl, rfl⟩
    exact upd_same
  · rintro i H ys hlt ⟨_, rfl, rfl⟩ C s H0 fp
    refine hs i _ C s H0 fp _ hlt ⟨upd_same, ?_, hlt, ?_, upd_upd⟩
    · rw [List.length_map, List.length_range]; omega
    · rw [List.range_succ, List.map_append]; rfl
  · rintro H ys ⟨_, rfl, rfl⟩
    exact hq
/-- .. by the place -/
theorem lc_listX {K : PySem.W.Frag} {a : Addr} {xs : List V} {σ : St} {cap : List Nat} {te : Fam TE} {D : Addr} {H1 : Hp} {Q : VK} (f : Nat → V) (hD : H1 D = none) (hS : SqL K H1 a xs) (hz : xs.length ≤ sizeLine)
    (hs : ∀ (i : Nat) x ys C s H0 fp (R : VK), xs[i]? = some x → R (f i) (upd H1 D (.lst ys)) → te C s H0 fp ((capS σ 1 cap).set 0 (some x)) (upd H1 D (.lst ys)) R)
    (hq : Q (.ref D) (upd H1 D (.lst ((List.range xs.length).map f)))) : LcGoal (Itl K a) (capS σ 1 cap) g1 tA te D H1 Q := by
  refine lc_list (xs := xs) (fun i H ys => i ≤ xs.length ∧ ys = (List.range i).map f ∧ H = upd H1 D (.lst ys)) ⟨Nat.zero_le _, rfl, rfl⟩ ?_ ?_ ?_
  · rintro i H ys hi ⟨_, rfl, rfl⟩
    exact ⟨(Same.new hD _).seq hS, upd_same⟩
  · rintro i x H ys hx ⟨_, rfl, rfl⟩ C s H0 fp
    have hlt : i < xs.length := (List.getElem?_eq_some_iff.mp hx).1
    refine hs i x _ C s H0 fp _ hx ⟨upd_same, ?_, hlt, ?_, upd_upd⟩
    · rw [List.length_map, List.length_range]; omega
    · rw [List.range_succ, List.map_append]; rfl
  · rintro H ys ⟨_, rfl, rfl⟩
    exact hq
theorem Same.tup {K : PySem.W.Frag} {H H' : Hp} {a : Addr} {xs : List V} (e : Same H H') (h : SqT K H a xs) : SqT K H' a xs := by
  rcases h with (h | ⟨o, h⟩) | h
  · exact .inl (.inl (e _ _ h))
  · exact .inl (.inr ⟨o, e _ _ h⟩)
  · exact .inr h
theorem inV_ints (k : Int) (l : List Int) : inV (.int k) (l.map V.int) = decide (k ∈ l) := by
  unfold inV
  rw [List.any_map]
  by_cases h : k ∈ l
  · rw [decide_eq_true h, List.any_eq_true]
    exact ⟨k, h, by simp [eqV]⟩
  · rw [decide_eq_false h]
    refine Bool.eq_false_iff.mpr fun z => h ?_
    obtain ⟨x, hx, e⟩ := List.any_eq_true.mp z
    have : x = k := by simpa [eqV] using e
    exact this ▸ hx
theorem flat_ints (l : List Int) : (l.map V.int).all flatV = true := by
  rw [List.all_eq_true]
  intro x hx
  obtain ⟨z, _, rfl⟩ := List.mem_map.mp hx
  rfl
theorem small100 {n : Nat} (h : n ≤ 100) : n < sizeLine := small1000 (by omega)
theorem Same.put {H H' : Hp} {q : Addr} {o : HO} (s : Same H H') (n : H q = none) : Same H (upd H' q o) := fun b u e => by rw [upd_ne (ne_of_none e n)]; exact s b u e
theorem atI_lastM (s : List Int) (y : Int) : atI (((y :: s).reverse).map V.int) (-1) = some (V.int y) := by rw [List.reverse_cons, List.map_append]; exact atI_last _ _
theorem get_lastM (s : List Int) (y : Int) : (((y :: s).reverse).map V.int)[(((y :: s).reverse).map V.int).length - 1]? = some (V.int y) := by
  rw [List.reverse_cons, List.map_append, List.length_append]
  simp
theorem dropLastM (s : List Int) (y : Int) : (((y :: s).reverse).map V.int).dropLast = (s.reverse).map V.int := by
  rw [List.reverse_cons, List.map_append]
  simp
theorem get_mapM {xs : List Int} {i : Nat} {y : V} (h : (xs.map V.int)[i]? = some y) : ∃ z, y = V.int z ∧ xs[i]? = some z := by
  rw [List.getElem?_map] at h
  cases e : xs[i]? with
  | none => rw [e] at h; cases h
  | some z => rw [e] at h; exact ⟨z, (Option.some.inj h).symm, rfl⟩
/-- a list of ints at a -/
abbrev IL (H : Hp) (a : Addr) (ns : List Int) : Prop := H a = some (.lst (ns.map V.int))
end L2

namespace L2
open PySem PySem.Spec PyProof.Rows
/-! ### chains of comparisons of any length, as tests -/
def PCh (X : Cx) (pos : Pos) (ops : List CmpOp) (es : List Expr) (t : V → TT) : Prop :=
  ∀ (pins : List (Addr × Obj)) (s : Shared) (σ : St) (H : Hp) (x : V) (v : Value) (Q : Bool → Hp → Prop), Inv X pins σ H s → RelV x v → t x σ H Q → wpAny (model X.prog X.w) X.A (testChain pos v ops (evalEach es X.env)) (TP X pins σ Q) X.xe s
section
variable {X : Cx} {pos : Pos} {e e' a : Expr} {es : List Expr} {op op' : CmpOp} {ops : List CmpOp} {te ta : TE} {t : V → TT} {r : R2}
def tLink (r : R2) (te : TE) (t : V → TT) : V → TT := fun x σ H Q => te σ H fun y H1 => r x y H1 fun z H2 => ∃ k, z = .bl k ∧ (if k = true then t y σ H2 Q else Q false H2)
def tLast (r : R2) (te : TE) : V → TT := fun x σ H Q => te σ H fun y H1 => r x y H1 fun z H2 => ∃ k, z = .bl k ∧ Q k H2
theorem pch_last (ho : OpR X (compareOp op) r) (he : PE X e te) : PCh X pos [op] [e] (tLast r te) := by
  intro pins s σ H x v Q I rx h
  show wpAny _ _ (testChain pos v [op] [eval e X.env]) _ _ s
  refine test_last (thn (he pins s σ H _ I h) fun u s2 ⟨y, H2, I2, r2, q2⟩ => thn (ho pins s2 σ H2 x y v u _ I2 rx r2 q2) fun d s3 ⟨z, H3, I3, r3, k, e3, q3⟩ => ?_)
  subst e3
  cases r3
  exact wpAny_truthy_bool ⟨H3, I3, q3⟩
theorem pch_cons (ho : OpR X (compareOp op) r) (he : PE X e te) (ht : PCh X pos (op' :: ops) (e' :: es) t) : PCh X pos (op :: op' :: ops) (e :: e' :: es) (tLink r te t) := by
  intro pins s σ H x v Q I rx h
  show wpAny _ _ (testChain pos v (op :: op' :: ops) (eval e X.env :: eval e' X.env :: evalEach es X.env)) _ _ s
  refine test_link (thn (he pins s σ H _ I h) fun u s2 ⟨y, H2, I2, r2, q2⟩ => thn (ho pins s2 σ H2 x y v u _ I2 rx r2 q2) fun d s3 ⟨z, H3, I3, r3, k, e3, q3⟩ => ?_)
  subst e3
  cases r3
  refine wpAny_truthy_bool ?_
  cases k with
  | false => rw [if_neg Bool.false_ne_true] at q3; exact ite_ff ⟨H3, I3, q3⟩
  | true => rw [if_pos rfl] at q3; exact ite_tt (ht pins s3 σ H3 y u Q I3 r2 q3)
theorem pt_chn (ha : PE X a ta) (ht : PCh X pos (op :: op' :: ops) (e :: e' :: es) t) (hm : lastMarks (op :: op' :: ops) (e :: e' :: es) = false := by with_unfolding_all rfl) :
    PT X (.Compare a (op :: op' :: ops) (e :: e' :: es) pos) (fun σ H Q => ta σ H fun x H1 => t x σ H1 Q) := by
  intro pins s σ H Q I h
  exact isTrue_chain (thn (ha pins s σ H _ I h) fun v s1 ⟨x, H1, I1, r1, q1⟩ => ht pins s1 σ H1 x v Q I1 r1 q1) hm
end
section
variable {X : Cx}
/-! ### is True, is not True -/
theorem op_isB : OpR X (compareOp .Is) (fun x y H Q => ∃ c d, x = .bl c ∧ y = .bl d ∧ Q (.bl (c == d)) H) := by
  intro pins s σ H x y v u Q I rx ry h
  obtain ⟨c, d, rfl, rfl, q⟩ := h
  cases rx; cases ry
  exact is_bool ⟨.bl (c == d), H, I, rfl, q⟩
theorem op_isnotB : OpR X (compareOp .IsNot) (fun x y H Q => ∃ c d, x = .bl c ∧ y = .bl d ∧ Q (.bl (c != d)) H) := by
  intro pins s σ H x y v u Q I rx ry h
  obtain ⟨c, d, rfl, rfl, q⟩ := h
  cases rx; cases ry
  exact isnot_bool ⟨.bl (c != d), H, I, rfl, q⟩
/-! ### max, min of a list of ints; index -/
theorem call_maxL (hc : X.calm = true) : CallR X (.builtin "max") (fun xs H Q => ∃ (p : Addr) (ns : List Int), xs = [.ref p] ∧ SqL X.K H p (ns.map V.int) ∧ ns ≠ [] ∧ ∀ M, M ∈ ns → (∀ a, a ∈ ns → a ≤ M) → Q (.int M) H) := by
  intro pins s σ H xs us Q I r h
  obtain ⟨p, ns, rfl, hq, hne, q⟩ := h
  obtain ⟨u, rfl, rx⟩ := vals1 r
  cases rx
  obtain ⟨its, r', pl, hz⟩ := I.list hq
  have hi := intsAre_of r'
  obtain ⟨xs, hx⟩ := hi.allInts.items
  have hl' : s.heap.IsList p (intItems xs) := hx ▸ pl.isList
  have e1 : ns = xs.toList.map (·.1) := by
    rw [← nums_intItems, ← hx]
    exact (show numsOf its.toArray.toList = ns from hi.numsOf).symm
  have hsz : 0 < xs.size := by
    have : 0 < ns.length := List.length_pos_iff.mpr hne
    rw [e1, List.length_map, Array.length_toList] at this; exact this
  refine max_intList (I.ok.hd hc) hl' hsz fun v h' tk hv hk => ?_
  obtain ⟨t, rfl⟩ := intItems_at hv
  obtain ⟨h1, h2⟩ := argBest_gt (numAt xs) (xs.size - 1)
  refine ⟨.int _, H, I.kept hk, ⟨_, rfl⟩, q _ ?_ fun a ha => ?_⟩
  · rw [e1, numAt_eq]; exact getD_mem (by rw [List.length_map, Array.length_toList]; omega)
  · rw [e1] at ha
    obtain ⟨j, hj, rfl⟩ := mem_getD ha
    rw [List.length_map, Array.length_toList] at hj
    rw [← numAt_eq]; exact h2 j (by omega)
theorem call_minL (hc : X.calm = true) : CallR X (.builtin "min") (fun xs H Q => ∃ (p : Addr) (ns : List Int), xs = [.ref p] ∧ SqL X.K H p (ns.map V.int) ∧ ns ≠ [] ∧ ∀ M, M ∈ ns → (∀ a, a ∈ ns → M ≤ a) → Q (.int M) H) := by
  intro pins s σ H xs us Q I r h
  obtain ⟨p, ns, rfl, hq, hne, q⟩ := h
  obtain ⟨u, rfl, rx⟩ := vals1 r
  cases rx
  obtain ⟨its, r', pl, hz⟩ := I.list hq
  have hi := intsAre_of r'
  obtain ⟨xs, hx⟩ := hi.allInts.items
  have hl' : s.heap.IsList p (intItems xs) := hx ▸ pl.isList
  have e1 : ns = xs.toList.map (·.1) := by
    rw [← nums_intItems, ← hx]
    exact (show numsOf its.toArray.toList = ns from hi.numsOf).symm
  have hsz : 0 < xs.size := by
    have : 0 < ns.length := List.length_pos_iff.mpr hne
    rw [e1, List.length_map, Array.length_toList] at this; exact this
  refine min_intList (I.ok.hd hc) hl' hsz fun v h' tk hv hk => ?_
  obtain ⟨t, rfl⟩ := intItems_at hv
  obtain ⟨h1, h2⟩ := argBest_lt (numAt xs) (xs.size - 1)
  refine ⟨.int _, H, I.kept hk, ⟨_, rfl⟩, q _ ?_ fun a ha => ?_⟩
  · rw [e1, numAt_eq]; exact getD_mem (by rw [List.length_map, Array.length_toList]; omega)
  · rw [e1] at ha
    obtain ⟨j, hj, rfl⟩ := mem_getD ha
    rw [List.length_map, Array.length_toList] at hj
    rw [← numAt_eq]; exact h2 j (by omega)
def rIndex (K : PySem.W.Frag) : V → List V → Hp → VK → Prop := fun x vs H Q => ∃ (l : Addr) (ns : List Int) (k : Int), x = .ref l ∧ vs = [.int k] ∧ SqL K H l (ns.map V.int) ∧ k ∈ ns ∧ Q (.int (ns.idxOf k : Nat)) H
theorem mt_index : MtM X "list.index" (rIndex X.K) := by
  intro pins s σ H x vs v us Q I rx rv h
  obtain ⟨l, ns, k, rfl, rfl, hq, hk, q⟩ := h
  cases rx
  obtain ⟨u, rfl, t, rfl⟩ := rv.one
  obtain ⟨its, r, pl, hz⟩ := I.list hq
  have hi := intsAre_of r
  obtain ⟨⟨cls, dd, data, sl⟩, ho, hc, n, hd⟩ := id pl.isList
  simp only at hc hd
  subst hc hd
  have hlen := hi.length
  have hj : ns.idxOf k < ns.length := List.idxOf_lt_length_iff.mpr hk
  have hb : (ns.idxOf k : Int) < 2 ^ 63 - 1 := by
    rw [List.length_map, sizeLine_eq] at hz
    omega
  refine call_meets PySem.F.slot_list_index ⟨_, ho, rfl⟩ PySem.F.entry_list_index (PySem.F.args_list_index_2 _ _)
    (SeqAt.list_indexAt l its.toArray n dd sl (.int k t) (isInt k) (ns.idxOf k) (by simpa [hlen] using hj) hb ?_ ?_) ⟨ho, fun y hy => (eq_isInt k t hi y (by simpa using hy)).at _ _, ⟨.int (ns.idxOf k : Nat), H, I.tok _, ⟨_, rfl⟩, q⟩⟩
  · show isInt k its[ns.idxOf k] = true
    rw [isInt_at k hi _ (by omega) hj]
    simpa using List.getElem_idxOf hj
  · intro j hjs hlt
    show isInt k its[j] = false
    rw [isInt_at k hi j (by simpa using hjs) (by omega)]
    exact ne_of_lt_idxOf hlt _
end
end L2

namespace L2
open PySem PySem.Spec PyProof.Rows
/-! ### a step deeper -/
abbrev Cx.inn (X : Cx) : Cx := { X with A := X.A.in1 }
theorem Cx.Ok.inn {X : Cx} (ok : X.Ok) : X.inn.Ok :=
  ⟨ok.mod, ok.kind, ok.glob, ok.blt, ok.above, ok.inj, ok.has, ok.cab, ok.hd, ok.frames, ok.stk, ok.exf, ok.bs, ok.bsz, ok.noex, ok.exfs, ok.funs, ok.frf⟩
theorem Cx.Ok.out {X : Cx} (ok : X.inn.Ok) : X.Ok :=
  ⟨ok.mod, ok.kind, ok.glob, ok.blt, ok.above, ok.inj, ok.has, ok.cab, ok.hd, ok.frames, ok.stk, ok.exf, ok.bs, ok.bsz, ok.noex, ok.exfs, ok.funs, ok.frf⟩
section
variable {X : Cx} {pins : List (Addr × Obj)} {σ : St} {H : Hp} {s : Shared}
theorem Inv.inn (I : Inv X pins σ H s) : Inv X.inn pins σ H s := ⟨I.ok.inn, I.os, I.bare, I.base, I.loc, I.cell, I.free, I.freeC, I.pin, I.hok, I.len⟩
theorem Inv.out (I : Inv X.inn pins σ H s) : Inv X pins σ H s := ⟨I.ok.out, I.os, I.bare, I.base, I.loc, I.cell, I.free, I.freeC, I.pin, I.hok, I.len⟩
end
/-- what list() asks of an iterator -/
structure ItL (P : Program) (w : World) (it : Addr) (tn : Nat → Heap → Prop) : Prop where
  ty : ∀ s : Shared, tn 0 s.heap → ∃ T, s.TypeIs (.ref it) T ∧ (Value.type T == Value.type "list") = false ∧ (Value.type T == Value.type "tuple") = false
  hint : ∀ (A : Around) (s : Shared) (Q : Bool → Shared → Prop) (E : Value → Shared → Prop), tn 0 s.heap → (∀ b tk, Q b { s with toks := tk }) → wpAny (model P w) A (Builtin.List.listLengthHint (.ref it)) Q E s
/-- an expression whose value is the iterator itself -/
def PIVE (X : Cx) (pins : List (Addr × Obj)) (σ : St) (tg : Expr) (R : It → Hp → Prop) (v : Value) (s1 : Shared) : Prop :=
  ∃ (it : Addr) (fp : List Addr) (tn : Nat → Heap → Prop) (J : It) (H' : Hp), v = .ref it ∧ Inv X pins σ H' s1 ∧ Turn X.prog X.w X.K tg J fp it tn ∧ tn 0 s1.heap ∧ (∀ b ∈ fp, FpOk X pins H' b) ∧ ItL X.prog X.w it tn ∧ R J H'
def PIV (X : Cx) (tg iter : Expr) (wi : TI) : Prop :=
  ∀ (pins : List (Addr × Obj)) (s : Shared) (σ : St) (H : Hp) (R : It → Hp → Prop), Inv X pins σ H s → wi σ H R → wpAny (model X.prog X.w) X.A (eval iter X.env) (PIVE X pins σ tg R) X.xe s
theorem PIV.pi {X : Cx} {tg iter : Expr} {wi : TI} (h : PIV X tg iter wi) : PI X tg iter wi := by
  intro pins s σ H R I hw
  refine thn (h pins s σ H R I hw) fun v s1 ⟨it, fp, tn, J, H', e, I1, T, st, hf, _, q⟩ => ?_
  subst e
  exact T.self _ 0 _ _ _ st ⟨it, fp, tn, J, H', rfl, I1, T, st, hf, q⟩
/-! ### list(iterator) -/
section
variable {X : Cx} {pins : List (Addr × Obj)} {σ : St}
theorem list_loop {x : Str} {p2 : Pos} {J : It} {fp : List Addr} {it D : Addr} {tnn : Nat → Heap → Prop} {Q : VK} {R : Result → Shared → Prop} (hc : X.calm = true) (T : Turn X.prog X.w X.K (.Name x p2) J fp it tnn) (hDf : D ∉ fp) (n : Nat) (W : Nat → Hp → List V → Prop)
    (turn : ∀ i H2 ys, W i H2 ys → i ≤ n ∧ H2 D = some (.lst ys) ∧ ((J.stop i H2 ∧ Q (.ref D) H2) ∨ (i < n ∧ J.go i H2 ∧ ∀ y H3, J.yld i H2 y H3 → H3 D = some (.lst ys) ∧ ys.length < sizeLine ∧ W (i + 1) (upd H3 D (.lst (ys ++ [y]))) (ys ++ [y]))))
    (hR : ∀ H2 s2, Inv X pins σ H2 s2 → Q (.ref D) H2 → R (.ok (.ret .none)) s2) :
    ∀ (k i : Nat) (s : Shared) (H2 : Hp) (ys : List V), n - i = k → Inv X pins σ H2 s → tnn i s.heap → (∀ b ∈ fp, FpOk X pins H2 b) → W i H2 ys →
      codeAny (model X.prog X.w) X.A.in1 (.builtin "list.extend.loop" ⟨[.ref D, .ref it, .none], []⟩) R s := by
  intro k
  induction k with
  | zero =>
    intro i s H2 ys hk I st hf w
    obtain ⟨hi, hD, alt⟩ := turn i H2 ys w
    rcases alt with ⟨stop, q⟩ | ⟨hlt, _⟩
    · refine codeAny_builtin F.entry_extend_loop ?_
      rw [Around.under_plainId F.plain_extend_loop _]
      show wpAny _ X.A.in1.in1 (pyNext (.ref it) >>= _) _ _ s
      refine wpAny_bind (thn (T.done X.inn.inn rfl rfl rfl hc i pins s σ H2 _ I.inn.inn hf st stop) fun r s1 ⟨hr, I1⟩ => ?_)
      subst hr
      exact wpAny_pure (hR H2 s1 I1.out.out q)
    · omega
  | succ k ih =>
    intro i s H2 ys hk I st hf w
    obtain ⟨hi, hD, alt⟩ := turn i H2 ys w
    rcases alt with ⟨stop, q⟩ | ⟨hlt, go, step⟩
    · refine codeAny_builtin F.entry_extend_loop ?_
      rw [Around.under_plainId F.plain_extend_loop _]
      show wpAny _ X.A.in1.in1 (pyNext (.ref it) >>= _) _ _ s
      refine wpAny_bind (thn (T.done X.inn.inn rfl rfl rfl hc i pins s σ H2 _ I.inn.inn hf st stop) fun r s1 ⟨hr, I1⟩ => ?_)
      subst hr
      exact wpAny_pure (hR H2 s1 I1.out.out q)
    · refine codeAny_builtin F.entry_extend_loop ?_
      rw [Around.under_plainId F.plain_extend_loop _]
      show wpAny _ X.A.in1.in1 (pyNext (.ref it) >>= _) _ _ s
      refine wpAny_bind (thn (T.item X.inn.inn rfl rfl rfl hc i pins s σ H2 _ I.inn.inn hf st go) fun r s1 ⟨u, hr, h1⟩ => ?_)
      subst hr
      show wpAny _ X.A.in1.in1 (letOwnedTupleGo (.Name x p2) (.ref it) u >>= fun _ => (updateSeq D (·.push u) >>= fun _ => again (.builtin "list.extend.loop" ⟨[.ref D, .ref it, .none], []⟩))) _ _ s1
      refine wpAny_bind (thn h1 fun _ s2 ⟨y, H3, I3, r3, y3, st3, fr3⟩ => ?_)
      have I3' : Inv X pins σ H3 s2 := I3.out.out
      obtain ⟨hD3, hz3, w3⟩ := step y H3 y3
      obtain ⟨_, its, m, rv, hl, e⟩ := I3'.lstM hD3
      have hsz : its.toArray.size < sizeLine := by rw [List.size_toArray, ← hl]; exact hz3
      refine wpAny_bind ?_
      refine wpAny_updateSeq e rfl (wpAny_pure ⟨plainId_quiet F.plain_extend_loop _, ?_⟩) (by omega) (by show (its.toArray.push u).size ≤ sizeLine + 1; rw [Array.size_push]; omega)
      have I4 : Inv X pins σ (upd H3 D (.lst (ys ++ [y]))) { s2 with heap := s2.heap.update D (Obj.mapSeq (·.push u)) } := I3'.lset (t' := s2.toks) (its' := its ++ [u]) hD3 e (by simp) (rv.append (.cons r3 .nil)) (by rw [List.length_append, List.length_singleton]; omega)
      refine ih (i + 1) _ _ _ (by omega) I4 (T.keep _ _ _ st3 fun b hb o eo => ?_) (fun b hb => ?_) w3
      · exact (Heap.get?_update_other _ _ (fun h : D = b => hDf (by rw [h]; exact hb))).trans eo
      · refine ⟨?_, (hf b hb).2⟩
        rw [upd_ne (fun h : b = D => hDf (h ▸ hb))]
        exact fr3 b hb
end
theorem boot_listX : bootBuiltins "list" = some (.type "list") := by decide +kernel
def tListV (wi : TI) : TE := fun σ H Q => wi σ H fun J H1 => ∀ D, H1 D = none → LcGoal J [none] (fun _ _ _ _ => gName 0) (fun _ _ _ _ => tAlw) (fun _ _ _ _ => tVar 0) D H1 Q
theorem pe_listV {X : Cx} {iter : Expr} {wi : TI} {x : Str} {p p2 pos : Pos} (hc : X.calm = true) (h : PIV X (.Name x p2) iter wi) (hg : Gl X "list") (hm : X.mg "list" = none) (hs : starEach [iter] X.env = [(false, eval iter X.env)] := by rfl) :
    PE X (.Call (.Name "list" p) [iter] [] pos) (tListV wi) := by
  intro pins s σ H Q I hw
  refine Call_ (ld_blt I hg hm boot_listX (PyProof.Rows.callWith_type1 ?_ hs rfl))
  rw [hs]
  show wpAny _ _ (spliced ((false, eval iter X.env) :: [])) _ _ s
  refine Calls.spliced_cons (thn (h pins s σ H _ I hw) fun v s1 ⟨it, fp, tnn, J, H1, e, I1, T, st, hf, L, q⟩ => Calls.spliced_nil ?_)
  subst e
  have hlt : ∀ b ∈ fp, b < s1.heap.objs.size := fun b hb => by obtain ⟨o, e, _⟩ := T.obj _ _ st b hb; exact Heap.lt_size e
  have hDf : s1.heap.objs.size ∉ fp := fun z => Nat.lt_irrefl _ (hlt _ z)
  obtain ⟨n, W, w0, turn⟩ := q _ I1.fresh
  refine callType_codes (Q₁ := fun obj s₂ => obj = .ref s1.heap.objs.size ∧ s₂ = { s1 with heap := s1.heap.push { cls := .type "list", data := .seq #[] } }) F.called_list (F.typeCall_list_1 _) F.entry_list_init
    (code_list_new _ ⟨rfl, rfl⟩) fun obj s₂ h₂ => ?_
  obtain ⟨rfl, rfl⟩ := h₂
  have I2 : Inv X pins σ (upd H1 s1.heap.objs.size (.lst [])) { s1 with heap := s1.heap.push { cls := .type "list", data := .seq ([] : List Value).toArray } } := I1.lnew (t' := s1.toks) .nil (Nat.zero_le _)
  have hS : (s1.heap.push { cls := .type "list", data := .seq #[] }).get? s1.heap.objs.size = some { cls := .type "list", data := .seq #[] } := Heap.get?_push_size _ rfl
  refine ⟨⟨_, hS, rfl⟩, F.args_list_init_2 _ _, ?_⟩
  show wpAny _ X.A.in1.in1 (do let old ← Builtin.List.listItems (.ref s1.heap.objs.size); Builtin.List.listUpdate (.ref s1.heap.objs.size) (fun _ => #[]); letGo old.toList.reverse; Builtin.List.listExtendWith (.ref s1.heap.objs.size) (.ref it) .none) _ _ _
  refine wpAny_bind ?_
  unfold Builtin.List.listItems
  refine wpAny_bind (wpAny_seqItems hS rfl (wpAny_pure ?_))
  show wpAny _ _ (updateSeq s1.heap.objs.size (fun _ => #[]) >>= fun _ => letGo (#[] : Array Value).toList.reverse >>= fun _ => Builtin.List.listExtendWith (.ref s1.heap.objs.size) (.ref it) .none) _ _ _
  refine wpAny_bind (wpAny_updateSeq hS rfl ?_)
  have I3 := I2.lset (t' := s1.toks) (its := []) (its' := []) (f := fun _ => (#[] : Array Value)) (ys := []) upd_same hS rfl .nil (Nat.zero_le _)
  rw [upd_upd] at I3
  have hS₂ := Heap.get?_update_self (Obj.mapSeq (fun _ => (#[] : Array Value))) hS rfl
  refine wpAny_bind (wpAny_letGo ?_)
  have ne : ∀ b ∈ fp, s1.heap.objs.size ≠ b := fun b hb z => hDf (z ▸ hb)
  have st3 : tnn 0 ((s1.heap.push { cls := .type "list", data := .seq #[] }).update s1.heap.objs.size (Obj.mapSeq (fun _ => (#[] : Array Value)))) := T.keep _ _ _ st fun b hb o eo => (Heap.get?_update_other _ _ (ne b hb)).trans (Heap.get?_push_of_some _ eo)
  have hf3 : ∀ b ∈ fp, FpOk X pins (upd H1 s1.heap.objs.size (.lst [])) b := fun b hb => ⟨by rw [upd_ne (Ne.symm (ne b hb))]; exact (hf b hb).1, (hf b hb).2⟩
  have turn' : ∀ i H2 ys, W i H2 ys → i ≤ n ∧ H2 s1.heap.objs.size = some (.lst ys) ∧ ((J.stop i H2 ∧ Q (.ref s1.heap.objs.size) H2) ∨ (i < n ∧ J.go i H2 ∧ ∀ y H3, J.yld i H2 y H3 → H3 s1.heap.objs.size = some (.lst ys) ∧ ys.length < sizeLine ∧ W (i + 1) (upd H3 s1.heap.objs.size (.lst (ys ++ [y]))) (ys ++ [y]))) := by
    intro i H2 ys w
    obtain ⟨h1, h2, h3⟩ := turn i H2 ys w
    refine ⟨h1, h2, h3.imp id fun ⟨a, b, c⟩ => ⟨a, b, fun y H3 yy => ?_⟩⟩
    obtain ⟨_, c2⟩ := c 0 s1 H1 [] y H3 yy
    have c3 : if true = true then tVar 0 ([none].set 0 (some y)) H3 (fun y H6 => H6 s1.heap.objs.size = some (.lst ys) ∧ ys.length < sizeLine ∧ W (i + 1) (upd H6 s1.heap.objs.size (.lst (ys ++ [y]))) (ys ++ [y])) else W (i + 1) H3 ys := c2
    rw [if_pos rfl] at c3
    obtain ⟨v, ev, c4⟩ := c3
    have : v = y := by simpa using ev.symm
    subst this
    exact c4
  have fin : ∀ (H2 : Hp) (s2 : Shared), Inv X pins σ H2 s2 → Q (.ref s1.heap.objs.size) H2 → wants (fun r s₂ => r = .none ∧ EP X pins σ Q (.ref s1.heap.objs.size) s₂) X.xe (.ok (.ret .none)) s2 := fun H2 s2 I q => ⟨rfl, .ref s1.heap.objs.size, H2, I, rfl, q⟩
  generalize hH3 : ({ s1 with heap := (s1.heap.push { cls := .type "list", data := .seq #[] }).update s1.heap.objs.size (Obj.mapSeq (fun _ => (#[] : Array Value))) } : Shared) = S3
  have I3' : Inv X pins σ (upd H1 s1.heap.objs.size (.lst [])) S3 := by rw [← hH3]; exact I3
  have st3' : tnn 0 S3.heap := by rw [← hH3]; exact st3
  have hS3 : ∃ m, S3.heap.get? s1.heap.objs.size = some { cls := .type "list", data := .seq #[] m } := by rw [← hH3]; exact ⟨_, hS₂⟩
  obtain ⟨m3, hS3⟩ := hS3
  unfold Builtin.List.listExtendWith
  obtain ⟨Ty, hT, h2, h3⟩ := L.ty S3 st3'
  refine wpAny_bind (wpAny_typeOf hT ?_)
  have h1 : Builtin.List.listSameRef (.ref s1.heap.objs.size) (.ref it) = false := by simp [Builtin.List.listSameRef, ne it T.mem]
  simp only [h1, h2, h3, Bool.or_false, Bool.false_eq_true, if_false]
  refine wpAny_bind (T.self _ 0 _ _ _ st3' ?_)
  refine wpAny_bind (wpAny_holding (L.hint _ S3 _ _ st3' fun b tk => ?_))
  have I4 : Inv X pins σ (upd H1 s1.heap.objs.size (.lst [])) { S3 with toks := tk } := I3'.tok tk
  refine wpAny_ite_split (fun _ => ?_) (fun _ => wpAny_pure ⟨plainId_quiet F.plain_extend_loop _, list_loop hc T hDf n W turn' fin (n - 0) 0 _ _ _ rfl I4 st3' hf3 w0⟩)
  refine wpAny_bind (wpAny_rule ?_)
  refine wpAny_bind ?_
  show wpAny _ _ (updateSeq s1.heap.objs.size (·.push .none) >>= fun _ => updateSeq s1.heap.objs.size (·.pop)) _ _ _
  refine wpAny_bind (wpAny_updateSeq (s := { S3 with toks := tk }) hS3 rfl ?_)
  have I5 := I4.lset (t' := tk) (its := []) (its' := [.none]) (f := (·.push Value.none)) (ys := [.non]) upd_same hS3 rfl (.cons rfl .nil) (by show 1 ≤ sizeLine; decide)
  rw [upd_upd] at I5
  have hS₄ := Heap.get?_update_self (Obj.mapSeq (·.push Value.none)) hS3 rfl
  refine wpAny_updateSeq (s := { S3 with heap := S3.heap.update s1.heap.objs.size (Obj.mapSeq (·.push Value.none)), toks := tk }) (hz := by seq_fits) hS₄ rfl ?_
  have I6 := I5.lset (t' := tk) (its := [.none]) (its' := []) (f := (·.pop)) (ys := []) upd_same hS₄ rfl .nil (Nat.zero_le _)
  rw [upd_upd] at I6
  refine wpAny_pure ⟨plainId_quiet F.plain_extend_loop _, list_loop hc T hDf n W turn' fin (n - 0) 0 _ _ _ rfl I6 (T.keep _ _ _ st3' fun b hb o eo => ?_) hf3 w0⟩
  exact (Heap.get?_update_other _ _ (ne b hb)).trans ((Heap.get?_update_other _ _ (ne b hb)).trans eo)
end L2

namespace L2
open PySem PySem.Spec PyProof.Rows
theorem lri_no_len : typeLookup (.type "list_reverseiterator") "__len__" = pure none := by rw [typeLookup_type, builtinLookup_eq_fast]; kernel_rfl
theorem lri_hint : typeLookup (.type "list_reverseiterator") "__length_hint__" = pure (some (.builtin "list_reverseiterator.__length_hint__")) := by rw [typeLookup_type, builtinLookup_eq_fast]; kernel_rfl
theorem zip_no_len : typeLookup (.type "zip") "__len__" = pure none := by rw [typeLookup_type, builtinLookup_eq_fast]; kernel_rfl
theorem zip_no_hint : typeLookup (.type "zip") "__length_hint__" = pure none := by rw [typeLookup_type, builtinLookup_eq_fast]; kernel_rfl
section
variable {prog : Program} {w : World} {A : Around} {E : Value → Shared → Prop} {s : Shared}
theorem hint_rev {it : Addr} {Q : Bool → Shared → Prop} (hT : s.TypeIs (.ref it) "list_reverseiterator") (h : ∀ b tk, Q b { s with toks := tk }) : wpAny (model prog w) A (Builtin.List.listLengthHint (.ref it)) Q E s := by
  unfold Builtin.List.listLengthHint
  refine wpAny_bind (wpAny_specialOf hT lri_no_len ?_)
  show wpAny _ _ (specialOf (Value.ref it) (Str.ofString "__length_hint__") >>= _) _ _ _
  refine wpAny_bind (wpAny_specialOf hT lri_hint ?_)
  generalize hid : ("list_reverseiterator.__length_hint__" : String) = id0
  wp_delta
  rw [show splitId id0 = some ("list_reverseiterator", "__length_hint__") from by subst hid; decide +kernel]
  subst hid
  refine wpAny_bind (wpAny_isInstance (T := "list_reverseiterator") (b := true) hT (by rw [isSubtype_type]; kernel_rfl) ?_)
  refine wpAny_ite_split (fun hab => absurd hab (by decide)) (fun _ => ?_)
  refine wpAny_ite_split (fun _ => ?_) (fun hab => absurd (by decide +kernel) hab)
  refine wpAny_ite_split (fun hab => absurd hab (by decide +kernel)) (fun _ => ?_)
  exact wpAny_pure (h false s.toks)
theorem hint_zip {it : Addr} {Q : Bool → Shared → Prop} (hT : s.TypeIs (.ref it) "zip") (h : ∀ b tk, Q b { s with toks := tk }) : wpAny (model prog w) A (Builtin.List.listLengthHint (.ref it)) Q E s := by
  unfold Builtin.List.listLengthHint
  refine wpAny_bind (wpAny_specialOf hT zip_no_len ?_)
  show wpAny _ _ (specialOf (Value.ref it) (Str.ofString "__length_hint__") >>= _) _ _ _
  refine wpAny_bind (wpAny_specialOf hT zip_no_hint ?_)
  exact wpAny_pure (h true s.toks)
end
/-! ### reversed(list) -/
def Itv (K : PySem.W.Frag) (a : Addr) (n : Nat) : It :=
  ⟨fun i H => i < n ∧ ∃ xs, SqL K H a xs ∧ xs.length = n, fun i H x H' => H' = H ∧ ∀ xs, SqL K H a xs → xs[n - 1 - i]? = some x, fun i _ => n ≤ i⟩
theorem turn_rev {P : Program} {w : World} {K : PySem.W.Frag} {tg : Expr} (a it : Addr) (n : Nat) : Turn P w K tg (Itv K a n) [it] it (fun i h => i ≤ n ∧ h.IsRevIter it a ((n : Int) - 1 - (i : Nat))) where
  mem := by simp
  obj := fun i h st b hb => by
    have e : b = it := by simpa using hb
    subst e
    obtain ⟨_, o, e, c, d⟩ := st
    exact ⟨o, e, fun v z => by rw [d] at z; cases z⟩
  keep := fun i h h' st k => ⟨st.1, st.2.at fun o e => k it (by simp) o e⟩
  item := by
    intro X hP hw hK hc i pins s σ H E I hf st hg
    subst hP hw hK
    obtain ⟨hin, xs, hq, hxl⟩ := hg
    obtain ⟨its, rv, p, hz⟩ := I.list hq
    have hx : xs[n - 1 - i]? = some (xs[n - 1 - i]'(by omega)) := List.getElem?_eq_getElem (by omega)
    obtain ⟨u, hu, ru⟩ := rv.get hx
    obtain ⟨f0, f1, f2, f3, f4, f5⟩ := hf it (by simp)
    have e : (n : Int) - 1 - (i : Int) = ((n - 1 - i : Nat) : Int) := by omega
    have hit := st.2
    rw [e] at hit
    refine wpAny_pyNext_rev_item hit p.isList (x := u) (by simpa using hu) fun h' hit' sb => ?_
    have e2 : ((n - 1 - i : Nat) : Int) - 1 = (n : Int) - 1 - ((i + 1 : Nat) : Int) := by omega
    rw [e2] at hit'
    have I1 : Inv X pins σ H { s with heap := h' } := I.turned (t' := s.toks) (fun b o hb e => (sb.2 b hb).trans e) f0 f1 f3 f4 f5
    obtain ⟨o, eo, c, d⟩ := id hit'
    refine ⟨u, rfl, go_of (s := { s with heap := h' }) eo c d (by decide) ⟨_, H, I1, ru, ⟨rfl, fun ys hy => ?_⟩, ⟨by omega, hit'⟩, fun b hb => (hf b hb).1⟩⟩
    rw [I.list_inj hy hq]; exact hx
  done := by
    intro X hP hw hK hc i pins s σ H E I hf st hg
    subst hP hw hK
    have hni : n ≤ i := hg
    obtain ⟨f0, f1, f2, f3, f4, f5⟩ := hf it (by simp)
    have e : (n : Int) - 1 - (i : Int) = -1 := by have := st.1; omega
    have hit := st.2
    rw [e] at hit
    exact wpAny_pyNext_rev_end (I.ok.hd hc) hit fun h' eb => ⟨rfl, I.turned (t' := s.toks) (fun b o hb e => eb b o hb e) f0 f1 f3 f4 f5⟩
  self := fun _ _ _ _ _ st h => wpAny_pyIter_revIter st.2 h
section
variable {X : Cx} {tg : Expr}
def iRevL (K : PySem.W.Frag) (ta : TA) : TI := fun σ H R => ta σ H fun vs H1 => ∃ (a : Addr) (xs : List V), vs = [.ref a] ∧ SqL K H1 a xs ∧ R (Itv K a xs.length) H1
theorem piv_rev {a : Expr} {ta : TA} {p pos : Pos} (hg : Gl X "reversed") (hm : X.mg "reversed" = none) (ha : PA X [a] ta) (hs : starEach [a] X.env = [(false, eval a X.env)] := by rfl) :
    PIV X tg (.Call (.Name "reversed" p) [a] [] pos) (iRevL X.K ta) := by
  intro pins s σ H R I h
  refine Call_ (ld_blt I hg hm boot_reversed' (PyProof.Rows.callWith_type1 (thn (ha pos pins s σ H _ I h) fun us s1 ⟨vs, H1, I1, r1, q1⟩ => ?_) hs rfl))
  obtain ⟨l, xs, e, hq, q⟩ := q1
  subst e
  obtain ⟨u, rfl, rx⟩ := vals1 r1
  cases rx
  obtain ⟨its, rv, pl, hz⟩ := I1.list hq
  have hl := rv.length
  refine call_reversed_list pl.isList ?_
  have I2 : Inv X pins σ H1 { s1 with heap := s1.heap.push (revObj l ((its.toArray.size : Int) - 1)) } := I1.kept (t' := s1.toks) fun b o e => Heap.get?_push_of_some _ e
  refine ⟨s1.heap.objs.size, [s1.heap.objs.size], _, _, H1, rfl, I2, turn_rev l _ xs.length, ⟨Nat.zero_le _, _, Heap.get?_push_size _ rfl, rfl, ?_⟩, fun b hb => ?_, ⟨fun s' st => ⟨_, st.2.typeIs, by decide, by decide⟩, fun A s' Q E st h => hint_rev st.2.typeIs h⟩, q⟩
  · have e : ((its.toArray.size : Int) - 1) = (xs.length : Int) - 1 - ((0 : Nat) : Int) := by rw [List.size_toArray, ← hl]; omega
    rw [e]; rfl
  · have e : b = s1.heap.objs.size := by simpa using hb
    subst e
    exact I1.fpOk (Nat.le_refl _) (I1.hok.fresh (Nat.le_refl _))
end
end L2

namespace L2
open PySem PySem.Spec PyProof.Rows
abbrev IsZipG (h : Heap) (z TI TO : Addr) (f0 f1 : Value) : Prop := h.get? z = some { cls := .type "zip", dict := none, data := .fields #[f0, f1, .bool false, .ref TI, .ref TO], slots := #[] }
def Own0 (f0 : Value) : Prop := f0 = .none ∨ ∃ T : Nat, f0 = rawInt T
section
variable {prog : Program} {w : World} {A : Around} {E : Value → Shared → Prop} {s : Shared}
theorem alive_any {a : Addr} {Q : Option Obj → Shared → Prop} (h : Q (s.heap.get? a) s) : wpAny (model prog w) A (loadIfAlive a) Q E s := fun _ _ _ => h
theorem zip_next_itemG {z TI TO i1 i2 l1 l2 : Addr} {k1 k2 : Nat} {xs ys : Array Value} {x y a b f0 f1 : Value} {Q : Value → Shared → Prop} (D : ZipApart z TI TO i1 i2 l1 l2)
    (hz : IsZipG s.heap z TI TO f0 f1) (h0 : Own0 f0) (hTI : IsPair s.heap TI (.ref i1) (.ref i2)) (hTO : IsPair s.heap TO a b)
    (h1 : s.heap.IsListIter i1 l1 k1) (h2 : s.heap.IsListIter i2 l2 k2) (hl1 : s.heap.IsList l1 xs) (hl2 : s.heap.IsList l2 ys) (hx : xs[k1]? = some x) (hy : ys[k2]? = some y)
    (hQ : ∀ h' f0' f1', IsZipG h' z TI TO f0' f1' → Own0 f0' → (∃ a b, IsPair h' TO a b) → h'.IsListIter i1 l1 (k1 + 1) → h'.IsListIter i2 l2 (k2 + 1) → IsPair h' s.heap.objs.size x y →
      (∀ c o, c ≠ z → c ≠ TO → c ≠ i1 → c ≠ i2 → s.heap.get? c = some o → h'.get? c = some o) → Q (.ref s.heap.objs.size) { s with heap := h' }) :
    wpAny (model prog w) A (Builtin.«zip.__next__» ⟨[.ref z], []⟩) (fun fin s' => ∃ v, fin = .done (.ret v) ∧ Q v s') E s := by
  show wpAny _ _ (field (.ref z) 2 >>= _) _ _ _
  refine wpAny_bind (wpAny_field hz rfl (x := .bool false) rfl ?_)
  show wpAny _ _ (field (.ref z) 3 >>= _) _ _ _
  refine wpAny_bind (wpAny_field hz rfl (x := .ref TI) rfl ?_)
  refine wpAny_bind (wpAny_seqItems hTI rfl ?_)
  show wpAny _ _ (Builtin.SmallTypes.ownedTupleIsFree (.ref z) >>= _) _ _ _
  refine wpAny_bind ?_
  refine wpAny_mono (Q := fun _ s' => ∃ h' f1', s' = { s with heap := h' } ∧ IsZipG h' z TI TO f0 f1' ∧ Heap.SameBut z s.heap h') ?own (fun bo s' hb => ?cont) (fun _ _ e => e)
  case own =>
    unfold Builtin.SmallTypes.ownedTupleIsFree
    refine wpAny_bind (wpAny_field hz rfl (x := f0) rfl ?_)
    rcases h0 with rfl | ⟨T, rfl⟩
    · exact wpAny_pure ⟨s.heap, f1, rfl, hz, Heap.SameBut.refl _ _⟩
    · show wpAny _ _ (loadIfAlive ((T : Int).toNat) >>= _) _ _ _
      refine wpAny_bind (alive_any ?_)
      cases hT : s.heap.get? (T : Int).toNat with
      | none => exact wpAny_pure ⟨s.heap, f1, rfl, hz, Heap.SameBut.refl _ _⟩
      | some o =>
        simp only [Option.isNone_some, Bool.false_eq_true, if_false]
        refine wpAny_bind (wpAny_field hz rfl (x := f1) rfl ?_)
        refine wpAny_ite_split (fun _ => ?_) (fun _ => ?_)
        · refine wpAny_bind (wpAny_setField_rec hz (by simp) fun h₁ hz₁ hs₁ => wpAny_pure ⟨h₁, .bool true, rfl, hz₁, hs₁⟩)
        · exact wpAny_pure ⟨s.heap, f1, rfl, hz, Heap.SameBut.refl _ _⟩
  case cont =>
    obtain ⟨h', f1', rfl, hz', hs0⟩ := hb
    have hTI' : IsPair h' TI (.ref i1) (.ref i2) := hs0.extBut _ _ D.TIz hTI
    have hTO' : IsPair h' TO a b := hs0.extBut _ _ D.TOz hTO
    have h1' : h'.IsListIter i1 l1 k1 := h1.extBut hs0.extBut D.i1z
    have h2' : h'.IsListIter i2 l2 k2 := h2.extBut hs0.extBut D.i2z
    have hl1' : h'.IsList l1 xs := hl1.extBut hs0.extBut D.l1z
    have hl2' : h'.IsList l2 ys := hl2.extBut hs0.extBut D.l2z
    cases bo with
    | false =>
      simp only [Bool.false_eq_true, if_false, List.forIn_toArray, List.forIn_cons, List.forIn_nil]
      refine wpAny_bind (wpAny_bind (wpAny_bind (wpAny_holding ?_)))
      show wpAny _ _ (Builtin.SmallTypes.nextOf (.ref i1) >>= _) _ _ _
      refine wpAny_bind (wpAny_nextOf_list_item (s := { s with heap := h' }) h1' hl1' hx fun h₂ h1₂ hs₂ => wpAny_pure ?_)
      replace hs₂ : Heap.SameBut i1 h' h₂ := hs₂
      refine wpAny_pure ?_
      refine wpAny_bind (wpAny_bind (wpAny_holding ?_))
      show wpAny _ _ (Builtin.SmallTypes.nextOf (.ref i2) >>= _) _ _ _
      refine wpAny_bind (wpAny_nextOf_list_item (s := { s with heap := h₂ }) (h2'.extBut hs₂.extBut D.i12.symm) (hl2'.extBut hs₂.extBut D.l2i1) hy fun h₄ h2₄ hs₄ => wpAny_pure ?_)
      replace hs₄ : Heap.SameBut i2 h₂ h₄ := hs₄
      refine wpAny_pure ?_
      refine wpAny_pure ?_
      refine wpAny_bind (wpAny_newTuple (s := { s with heap := h₄ }) (hsz := by show 2 ≤ sizeLine; decide) (wpAny_pure ⟨_, rfl, ?_⟩))
      have hsz : h₄.objs.size = s.heap.objs.size := by rw [hs₄.1, hs₂.1, hs0.1]
      show Q (.ref h₄.objs.size) _
      rw [hsz]
      have up : ∀ c o, c ≠ i1 → c ≠ i2 → h'.get? c = some o → (h₄.push { cls := .type "tuple", data := .seq #[x, y] }).get? c = some o := fun c o c1 c2 e => Heap.get?_push_of_some _ (hs₄.extBut _ _ c2 (hs₂.extBut _ _ c1 e))
      refine hQ _ f0 f1' (up _ _ D.i1z.symm D.i2z.symm hz') h0 ⟨a, b, up _ _ D.TOi1 D.TOi2 hTO'⟩ ?_ ?_ ?_ ?_
      · exact (h1₂.extBut hs₄.extBut D.i12).at fun o e => Heap.get?_push_of_some _ e
      · exact h2₄.at fun o e => Heap.get?_push_of_some _ e
      · have hp : IsPair (h₄.push { cls := .type "tuple", data := .seq #[x, y] }) h₄.objs.size x y := Heap.get?_push_size _ rfl
        rw [hsz] at hp; exact hp
      · exact fun c o c1 c2 c3 c4 e => up c o c3 c4 (hs0.extBut _ _ c1 e)
    | true =>
      simp only [if_true]
      refine wpAny_bind (wpAny_rule ?_)
      refine wpAny_bind (wpAny_field (s := { s with heap := h' }) hz' rfl (x := .ref TO) rfl ?_)
      refine wpAny_bind (wpAny_setField_rec (s := { s with heap := h' }) hz' (by simp) fun h₁ hz₁ hs₁ => ?_)
      replace hz₁ : IsZipG h₁ z TI TO .ellipsis f1' := hz₁
      replace hs₁ : Heap.SameBut z h' h₁ := hs₁
      refine wpAny_bind ?_
      simp only [List.zipIdx_cons, List.zipIdx_nil, List.forIn_cons, List.forIn_nil]
      refine wpAny_bind (wpAny_bind (wpAny_onRaise ?_))
      show wpAny _ _ (Builtin.SmallTypes.nextOf (.ref i1) >>= _) _ _ _
      refine wpAny_bind (wpAny_nextOf_list_item (s := { s with heap := h₁ }) (h1'.extBut hs₁.extBut D.i1z) (hl1'.extBut hs₁.extBut D.l1z) hx fun h₂ h1₂ hs₂ => wpAny_pure ?_)
      replace hs₂ : Heap.SameBut i1 h₁ h₂ := hs₂
      have hTO₂ : IsPair h₂ TO a b := hs₂.extBut _ _ D.TOi1 (hs₁.extBut _ _ D.TOz hTO')
      refine wpAny_bind (wpAny_seqItems (s := { s with heap := h₂ }) hTO₂ rfl ?_)
      refine wpAny_bind (wpAny_updateSeq_pair (s := { s with heap := h₂ }) hTO₂ fun h₃ hTO₃ hs₃ => ?_)
      replace hTO₃ : IsPair h₃ TO x b := hTO₃
      replace hs₃ : Heap.SameBut TO h₂ h₃ := hs₃
      refine wpAny_bind (wpAny_letGo (wpAny_pure ?_))
      refine wpAny_bind (wpAny_bind (wpAny_onRaise ?_))
      show wpAny _ _ (Builtin.SmallTypes.nextOf (.ref i2) >>= _) _ _ _
      refine wpAny_bind (wpAny_nextOf_list_item (s := { s with heap := h₃ }) (((h2'.extBut hs₁.extBut D.i2z).extBut hs₂.extBut D.i12.symm).extBut hs₃.extBut D.TOi2.symm)
        (((hl2'.extBut hs₁.extBut D.l2z).extBut hs₂.extBut D.l2i1).extBut hs₃.extBut D.l2TO) hy fun h₄ h2₄ hs₄ => wpAny_pure ?_)
      replace hs₄ : Heap.SameBut i2 h₃ h₄ := hs₄
      have hTO₄ : IsPair h₄ TO x b := hs₄.extBut _ _ D.TOi2 hTO₃
      refine wpAny_bind (wpAny_seqItems (s := { s with heap := h₄ }) hTO₄ rfl ?_)
      refine wpAny_bind (wpAny_updateSeq_pair (s := { s with heap := h₄ }) hTO₄ fun h₅ hTO₅ hs₅ => ?_)
      replace hTO₅ : IsPair h₅ TO x y := hTO₅
      replace hs₅ : Heap.SameBut TO h₄ h₅ := hs₅
      refine wpAny_bind (wpAny_letGo (wpAny_pure (wpAny_pure ?_)))
      refine wpAny_bind (wpAny_seqItems (s := { s with heap := h₅ }) hTO₅ rfl ?_)
      refine wpAny_bind (wpAny_newTuple (s := { s with heap := h₅ }) ?_)
      have hsz : h₅.objs.size = s.heap.objs.size := by rw [hs₅.1, hs₄.1, hs₃.1, hs₂.1, hs₁.1, hs0.1]
      have hz₅ : IsZipG h₅ z TI TO .ellipsis f1' := hs₅.extBut _ _ D.TOz.symm (hs₄.extBut _ _ D.i2z.symm (hs₃.extBut _ _ D.TOz.symm (hs₂.extBut _ _ D.i1z.symm hz₁)))
      have hk₅ : ∀ c o, c ≠ z → c ≠ TO → c ≠ i1 → c ≠ i2 → s.heap.get? c = some o → h₅.get? c = some o := fun c o c1 c2 c3 c4 e =>
        hs₅.extBut _ _ c2 (hs₄.extBut _ _ c4 (hs₃.extBut _ _ c2 (hs₂.extBut _ _ c3 (hs₁.extBut _ _ c1 (hs0.extBut _ _ c1 e)))))
      have h1₅ : h₅.IsListIter i1 l1 (k1 + 1) := ((h1₂.extBut hs₃.extBut D.TOi1.symm).extBut hs₄.extBut D.i12).extBut hs₅.extBut D.TOi1.symm
      have h2₅ : h₅.IsListIter i2 l2 (k2 + 1) := h2₄.extBut hs₅.extBut D.TOi2.symm
      have hzlt : z < h₅.objs.size := Heap.lt_size hz₅
      show wpAny _ _ (Builtin.SmallTypes.ownedTupleHandOut (.ref z) (.ref h₅.objs.size) >>= _) _ _ _
      refine wpAny_bind ?_
      unfold Builtin.SmallTypes.ownedTupleHandOut
      have hz₆ : IsZipG (h₅.push { cls := .type "tuple", data := .seq #[x, y] }) z TI TO .ellipsis f1' := Heap.get?_push_of_some _ hz₅
      refine wpAny_bind (wpAny_setField_rec (s := { s with heap := h₅.push { cls := .type "tuple", data := .seq #[x, y] } }) hz₆ (by simp) fun h₇ hz₇ hs₇ => ?_)
      replace hz₇ : IsZipG h₇ z TI TO (rawInt h₅.objs.size) f1' := hz₇
      replace hs₇ : Heap.SameBut z (h₅.push { cls := .type "tuple", data := .seq #[x, y] }) h₇ := hs₇
      refine wpAny_setField_rec (s := { s with heap := h₇ }) hz₇ (by simp) fun h₈ hz₈ hs₈ => ?_
      replace hz₈ : IsZipG h₈ z TI TO (rawInt h₅.objs.size) (.bool false) := hz₈
      replace hs₈ : Heap.SameBut z h₇ h₈ := hs₈
      have up : ∀ c o, c ≠ z → h₅.get? c = some o → h₈.get? c = some o := fun c o c1 e => hs₈.extBut _ _ c1 (hs₇.extBut _ _ c1 (Heap.get?_push_of_some _ e))
      have hT₈ : IsPair h₈ h₅.objs.size x y := hs₈.extBut _ _ (Nat.ne_of_gt hzlt) (hs₇.extBut _ _ (Nat.ne_of_gt hzlt) (Heap.get?_push_size _ rfl))
      rw [hsz] at hT₈
      refine wpAny_pure ⟨_, rfl, ?_⟩
      show Q (.ref h₅.objs.size) _
      rw [hsz]
      exact hQ h₈ _ _ hz₈ (.inr ⟨_, rfl⟩) ⟨_, _, up _ _ D.TOz hTO₅⟩ (h1₅.at fun o e => up _ o D.i1z e) (h2₅.at fun o e => up _ o D.i2z e) hT₈ fun c o c1 c2 c3 c4 e => up c o c1 (hk₅ c o c1 c2 c3 c4 e)
theorem zip_next_endG {z TI TO i1 i2 l1 : Addr} {k1 : Nat} {xs : Array Value} {f0 f1 : Value} {Q : Option Value → Shared → Prop} (hh : A.handled = none) (TIz : TI ≠ z) (i1z : i1 ≠ z) (l1z : l1 ≠ z)
    (hz : IsZipG s.heap z TI TO f0 f1) (h0 : Own0 f0) (hTI : IsPair s.heap TI (.ref i1) (.ref i2)) (h1 : s.heap.IsListIter i1 l1 k1) (hl1 : s.heap.IsList l1 xs) (hend : xs[k1]? = none)
    (hQ : ∀ h', (∀ c o, c ≠ z → c ≠ i1 → s.heap.get? c = some o → h'.get? c = some o) → Q none { s with heap := h' }) : wpAny (model prog w) A (pyNext (.ref z)) Q E s := by
  have hT : s.TypeIs (.ref z) "zip" := ⟨_, hz, rfl⟩
  unfold pyNext
  refine wpAny_bind (wpAny_attempt (wpAny_callSpecial?_slot (name := Str.ofString "__next__") hT F.slot_zip_next
    (wpAny_call_entry F.slot_zip_next hT F.entry_zip_next ?_ (F.args_zip_next_1 _))))
  show wpAny _ _ (field (.ref z) 2 >>= _) _ _ _
  refine wpAny_bind (wpAny_field hz rfl (x := .bool false) rfl ?_)
  show wpAny _ _ (field (.ref z) 3 >>= _) _ _ _
  refine wpAny_bind (wpAny_field hz rfl (x := .ref TI) rfl ?_)
  refine wpAny_bind (wpAny_seqItems hTI rfl ?_)
  show wpAny _ _ (Builtin.SmallTypes.ownedTupleIsFree (.ref z) >>= _) _ _ _
  refine wpAny_bind ?_
  refine wpAny_mono (Q := fun _ s' => ∃ h' f1', s' = { s with heap := h' } ∧ IsZipG h' z TI TO f0 f1' ∧ Heap.SameBut z s.heap h') ?own (fun bo s' hb => ?cont) (fun _ _ e => e)
  case own =>
    unfold Builtin.SmallTypes.ownedTupleIsFree
    refine wpAny_bind (wpAny_field hz rfl (x := f0) rfl ?_)
    rcases h0 with rfl | ⟨T, rfl⟩
    · exact wpAny_pure ⟨s.heap, f1, rfl, hz, Heap.SameBut.refl _ _⟩
    · show wpAny _ _ (loadIfAlive ((T : Int).toNat) >>= _) _ _ _
      refine wpAny_bind (alive_any ?_)
      cases hT : s.heap.get? (T : Int).toNat with
      | none => exact wpAny_pure ⟨s.heap, f1, rfl, hz, Heap.SameBut.refl _ _⟩
      | some o =>
        simp only [Option.isNone_some, Bool.false_eq_true, if_false]
        refine wpAny_bind (wpAny_field hz rfl (x := f1) rfl ?_)
        refine wpAny_ite_split (fun _ => ?_) (fun _ => ?_)
        · refine wpAny_bind (wpAny_setField_rec hz (by simp) fun h₁ hz₁ hs₁ => wpAny_pure ⟨h₁, .bool true, rfl, hz₁, hs₁⟩)
        · exact wpAny_pure ⟨s.heap, f1, rfl, hz, Heap.SameBut.refl _ _⟩
  case cont =>
    obtain ⟨h', f1', rfl, hz', hs0⟩ := hb
    have h1' : h'.IsListIter i1 l1 k1 := h1.extBut hs0.extBut i1z
    have hl1' : h'.IsList l1 xs := hl1.extBut hs0.extBut l1z
    cases bo with
    | false =>
      simp only [Bool.false_eq_true, if_false, List.forIn_toArray, List.forIn_cons, List.forIn_nil]
      refine wpAny_bind (wpAny_bind (wpAny_bind (wpAny_holding ?_)))
      show wpAny _ _ (Builtin.SmallTypes.nextOf (.ref i1) >>= _) _ _ _
      refine wpAny_bind (wpAny_nextOf_list_end (s := { s with heap := h' }) hh h1' hl1' hend fun h₂ e hs₂ he => ?_)
      obtain ⟨oe, hoe, hce⟩ := he
      refine wpAny_bind (wpAny_isInstance (T := "StopIteration") (b := true) ⟨oe, hoe, hce⟩ isSubtype_stop ?_)
      exact wpAny_pure (hQ _ fun c o c1 c2 x => hs₂ _ _ c2 (hs0.extBut _ _ c1 x))
    | true =>
      simp only [if_true]
      refine wpAny_bind (wpAny_rule ?_)
      refine wpAny_bind (wpAny_field (s := { s with heap := h' }) hz' rfl (x := .ref TO) rfl ?_)
      refine wpAny_bind (wpAny_setField_rec (s := { s with heap := h' }) hz' (by simp) fun h₁ hz₁ hs₁ => ?_)
      replace hz₁ : IsZipG h₁ z TI TO .ellipsis f1' := hz₁
      replace hs₁ : Heap.SameBut z h' h₁ := hs₁
      refine wpAny_bind ?_
      simp only [List.zipIdx_cons, List.zipIdx_nil, List.forIn_cons, List.forIn_nil]
      refine wpAny_bind (wpAny_bind (wpAny_onRaise ?_))
      show wpAny _ _ (Builtin.SmallTypes.nextOf (.ref i1) >>= _) _ _ _
      refine wpAny_bind (wpAny_nextOf_list_end (s := { s with heap := h₁ }) hh (h1'.extBut hs₁.extBut i1z) (hl1'.extBut hs₁.extBut l1z) hend fun h₂ e hs₂ he => ?_)
      obtain ⟨oe, hoe, hce⟩ := he
      have hz₂ : IsZipG h₂ z TI TO .ellipsis f1' := hs₂ _ _ i1z.symm hz₁
      have hez : e ≠ z := fun x => by subst x; rw [hz₂] at hoe; cases hoe; simp at hce
      refine wpAny_setField_rec (s := { s with heap := h₂ }) hz₂ (by simp) fun h₃ _ hs₃ => ?_
      refine wpAny_bind (wpAny_isInstance (T := "StopIteration") (b := true) ⟨oe, hs₃.extBut _ _ hez hoe, hce⟩ isSubtype_stop ?_)
      exact wpAny_pure (hQ _ fun c o c1 c2 x => hs₃.extBut _ _ c1 (hs₂ _ _ c2 (hs₁.extBut _ _ c1 (hs0.extBut _ _ c1 x))))
theorem letgo_zipG {tg : Expr} {z TI TO a : Addr} {f0 f1 : Value} {Q : Unit → Shared → Prop} (hz : IsZipG s.heap z TI TO f0 f1) (h0 : Own0 f0)
    (hQ : ∀ h' f0', IsZipG h' z TI TO f0' f1 → Own0 f0' → Heap.SameBut z s.heap h' → Q () { s with heap := h' }) : wpAny (model prog w) A (letOwnedTupleGo tg (.ref z) (.ref a)) Q E s := by
  have main : wpAny (model prog w) A (do
      let o ← load z
      match o.cls, o.data with
      | .type n, .fields vs =>
        if ["enumerate", "zip", "dict_itemiterator", "dict_reverseitemiterator", "odict_iterator", "itertools.zip_longest", "itertools.pairwise"].contains n && vs[0]? == some (rawInt a) then
          rule "for.unpacks-the-owned-tuple"
          updateField z 0 .none
      | _, _ => pure ()) Q E s := by
    refine wpAny_bind (wpAny_load hz ?_)
    show wpAny _ _ (if (["enumerate", "zip", "dict_itemiterator", "dict_reverseitemiterator", "odict_iterator", "itertools.zip_longest", "itertools.pairwise"].contains "zip" &&
      (#[f0, f1, .bool false, .ref TI, .ref TO] : Array Value)[0]? == some (rawInt a)) = true then _ else _) Q E s
    refine wpAny_ite_split (fun _ => ?_) (fun _ => wpAny_pure (hQ s.heap f0 hz h0 (Heap.SameBut.refl _ _)))
    refine wpAny_bind (wpAny_rule ?_)
    show wpAny _ _ (setField (.ref z) 0 .none) Q E s
    exact wpAny_setField_rec hz (by simp) fun h' hz' hs' => hQ h' .none hz' (.inl rfl) hs'
  have triv : Q () s := hQ s.heap f0 hz h0 (Heap.SameBut.refl _ _)
  cases tg <;> first
    | exact main
    | exact wpAny_pure triv
end
end L2

namespace L2
open PySem PySem.Spec PyProof.Rows
theorem ne_cls {h : Heap} {a b : Addr} {o o' : Obj} (ha : h.get? a = some o) (hb : h.get? b = some o') (hc : o.cls ≠ o'.cls) : a ≠ b := fun z => by rw [z, hb] at ha; cases ha; exact hc rfl
theorem ne_cls' {h : Heap} {a b : Addr} {o o' : Obj} {n m : String} (ha : h.get? a = some o) (hb : h.get? b = some o') (hc : o.cls = .type n) (hc' : o'.cls = .type m) (hd : n ≠ m) : a ≠ b := ne_cls ha hb fun q => hd (Value.type.inj (hc.symm.trans (q.trans hc')))
structure Zap (z TI TO i1 i2 : Addr) : Prop where
  TIz : TI ≠ z
  TOz : TO ≠ z
  i1z : i1 ≠ z
  i2z : i2 ≠ z
  TITO : TI ≠ TO
  TIi1 : TI ≠ i1
  TIi2 : TI ≠ i2
  TOi1 : TO ≠ i1
  TOi2 : TO ≠ i2
  i12 : i1 ≠ i2
theorem zap_of (n : Nat) : Zap (n + 4) (n + 2) (n + 3) n (n + 1) := by
  have g : ∀ a b : Nat, a ≠ b → @Ne Addr (n + a) (n + b) := fun a b h e => h (Nat.add_left_cancel (show n + a = n + b from e))
  exact ⟨g 2 4 (by decide), g 3 4 (by decide), g 0 4 (by decide), g 1 4 (by decide), g 2 3 (by decide), g 2 0 (by decide), g 2 1 (by decide), g 3 0 (by decide), g 3 1 (by decide), g 0 1 (by decide)⟩
/-- zip(xs, ys), xs no longer than ys -/
def Itz (K : PySem.W.Frag) (a b : Addr) : It :=
  ⟨fun i H => ∃ xs ys x y, SqL K H a xs ∧ SqL K H b ys ∧ xs[i]? = some x ∧ ys[i]? = some y,
   fun i H v H' => ∃ p x y, H p = none ∧ v = .ref p ∧ H' = upd H p (.tup [x, y]) ∧ (∀ xs, SqL K H a xs → xs[i]? = some x) ∧ ∀ ys, SqL K H b ys → ys[i]? = some y,
   fun i H => ∃ xs, SqL K H a xs ∧ xs.length ≤ i⟩
theorem turn_zip {P : Program} {w : World} {K : PySem.W.Frag} {tg : Expr} (l1 l2 z TI TO i1 i2 : Addr) (Z : Zap z TI TO i1 i2) :
    Turn P w K tg (Itz K l1 l2) [z, TI, TO, i1, i2] z (fun i h => (∃ f0 f1, IsZipG h z TI TO f0 f1 ∧ Own0 f0) ∧ IsPair h TI (.ref i1) (.ref i2) ∧ (∃ a b, IsPair h TO a b) ∧ h.IsListIter i1 l1 i ∧ h.IsListIter i2 l2 i) where
  mem := by simp
  obj := fun i h st b hb => by
    obtain ⟨⟨f0, f1, hz, _⟩, hTI, ⟨a, b', hTO⟩, ⟨o1, e1, c1, d1⟩, ⟨o2, e2, c2, d2⟩⟩ := st
    have hb' : b = z ∨ b = TI ∨ b = TO ∨ b = i1 ∨ b = i2 := by simpa using hb
    rcases hb' with rfl | rfl | rfl | rfl | rfl
    · exact ⟨_, hz, fun v q => by have q' : Data.fields _ = Data.cell v := q; cases q'⟩
    · exact ⟨_, hTI, fun v q => by have q' : Data.seq _ _ = Data.cell v := q; cases q'⟩
    · exact ⟨_, hTO, fun v q => by have q' : Data.seq _ _ = Data.cell v := q; cases q'⟩
    · exact ⟨o1, e1, fun v q => by rw [d1] at q; cases q⟩
    · exact ⟨o2, e2, fun v q => by rw [d2] at q; cases q⟩
  keep := fun i h h' st k => by
    obtain ⟨⟨f0, f1, hz, h0⟩, hTI, ⟨a, b, hTO⟩, h1, h2⟩ := st
    exact ⟨⟨f0, f1, k z (by simp) _ hz, h0⟩, k TI (by simp) _ hTI, ⟨a, b, k TO (by simp) _ hTO⟩, h1.at fun o e => k i1 (by simp) o e, h2.at fun o e => k i2 (by simp) o e⟩
  item := by
    intro X hP hw hK hc i pins s σ H E I hf st hg
    subst hP hw hK
    obtain ⟨⟨f0, f1, hz, h0⟩, hTI, ⟨a, b, hTO⟩, h1, h2⟩ := st
    obtain ⟨xs, ys, x, y, hq1, hq2, hx, hy⟩ := hg
    obtain ⟨its1, rv1, pl1, hz1⟩ := I.list hq1
    obtain ⟨its2, rv2, pl2, hz2⟩ := I.list hq2
    obtain ⟨u1, hu1, ru1⟩ := rv1.get hx
    obtain ⟨u2, hu2, ru2⟩ := rv2.get hy
    have hl1 := pl1.isList
    have hl2 := pl2.isList
    obtain ⟨o1, e1, c1, _⟩ := id hl1
    obtain ⟨o2, e2, c2, _⟩ := id hl2
    obtain ⟨oi1, ei1, ci1, _⟩ := id h1
    obtain ⟨oi2, ei2, ci2, _⟩ := id h2
    have D : ZipApart z TI TO i1 i2 l1 l2 := ⟨Z.TIz, Z.TOz, Z.i1z, Z.i2z, Z.TITO, Z.TIi1, Z.TIi2, Z.TOi1, Z.TOi2, Z.i12,
      ne_cls' e1 hz c1 rfl (by decide), ne_cls' e1 hTO c1 rfl (by decide), ne_cls' e1 ei1 c1 ci1 (by decide), ne_cls' e1 ei2 c1 ci2 (by decide),
      ne_cls' e2 hz c2 rfl (by decide), ne_cls' e2 hTO c2 rfl (by decide), ne_cls' e2 ei1 c2 ci1 (by decide), ne_cls' e2 ei2 c2 ci2 (by decide)⟩
    have hT : s.TypeIs (.ref z) "zip" := ⟨_, hz, rfl⟩
    unfold pyNext
    refine wpAny_bind (wpAny_attempt (wpAny_callSpecial?_slot (name := Str.ofString "__next__") hT F.slot_zip_next
      (wpAny_call_entry F.slot_zip_next hT F.entry_zip_next (zip_next_itemG D hz h0 hTI hTO h1 h2 hl1 hl2 (x := u1) (y := u2) (by simpa using hu1) (by simpa using hu2) fun h' f0' f1' hz' h0' hTO' h1' h2' hT' hk => wpAny_pure ?_) (F.args_zip_next_1 _))))
    refine ⟨_, rfl, ?_⟩
    refine letgo_zipG (s := { s with heap := h' }) hz' h0' fun h3 f3 hz3 h03 hs3 => ?_
    replace hs3 : Heap.SameBut z h' h3 := hs3
    have hzlt : z < s.heap.objs.size := Heap.lt_size hz
    have hk3 : ∀ b o, b ∉ [z, TI, TO, i1, i2] → s.heap.get? b = some o → h3.get? b = some o := fun b o hb q => by
      have hb' : b ≠ z ∧ b ≠ TI ∧ b ≠ TO ∧ b ≠ i1 ∧ b ≠ i2 := by simpa using hb
      exact hs3.extBut b o hb'.1 (hk b o hb'.1 hb'.2.2.1 hb'.2.2.2.1 hb'.2.2.2.2 q)
    have hTI3 : IsPair h3 TI (.ref i1) (.ref i2) := hs3.extBut _ _ Z.TIz (hk _ _ Z.TIz Z.TITO Z.TIi1 Z.TIi2 hTI)
    obtain ⟨a3, b3, hTO3⟩ := hTO'
    have ht3 : IsTup h3 s.heap.objs.size [u1, u2].toArray := ⟨_, hs3.extBut _ _ (Nat.ne_of_gt hzlt) hT', rfl, _, rfl⟩
    have I3 : Inv X pins σ (upd H s.heap.objs.size (.tup [x, y])) { s with heap := h3 } :=
      I.turnT (t' := s.toks) hf hk3 (fun b o hb q => by
        have hb' : b = z ∨ b = TI ∨ b = TO ∨ b = i1 ∨ b = i2 := by simpa using hb
        rcases hb' with rfl | rfl | rfl | rfl | rfl
        · exact ⟨_, hz3⟩
        · exact ⟨_, hTI3⟩
        · exact ⟨_, hs3.extBut _ _ Z.TOz hTO3⟩
        · obtain ⟨o', q', _⟩ := h1'.extBut hs3.extBut Z.i1z; exact ⟨o', q'⟩
        · obtain ⟨o', q', _⟩ := h2'.extBut hs3.extBut Z.i2z; exact ⟨o', q'⟩) (Nat.le_refl _) ht3 (.cons ru1 (.cons ru2 .nil)) (by show 2 ≤ sizeLine; decide)
    refine ⟨.ref s.heap.objs.size, _, I3, rfl, ⟨s.heap.objs.size, x, y, I.fresh, rfl, rfl, fun zs hy => by rw [I.list_inj hy hq1]; exact hx, fun zs hy' => by rw [I.list_inj hy' hq2]; exact hy⟩,
      ⟨⟨f3, f1', hz3, h03⟩, hTI3, ⟨a3, b3, hs3.extBut _ _ Z.TOz hTO3⟩, h1'.extBut hs3.extBut Z.i1z, h2'.extBut hs3.extBut Z.i2z⟩, fun b hb => ?_⟩
    have hbl : b < s.heap.objs.size := by
      have hb' : b = z ∨ b = TI ∨ b = TO ∨ b = i1 ∨ b = i2 := by simpa using hb
      rcases hb' with rfl | rfl | rfl | rfl | rfl
      · exact hzlt
      · exact Heap.lt_size hTI
      · exact Heap.lt_size hTO
      · exact Heap.lt_size ei1
      · exact Heap.lt_size ei2
    rw [upd_ne (Nat.ne_of_lt hbl)]
    exact (hf b hb).1
  done := by
    intro X hP hw hK hc i pins s σ H E I hf st hg
    subst hP hw hK
    obtain ⟨⟨f0, f1, hz, h0⟩, hTI, ⟨a, b, hTO⟩, h1, h2⟩ := st
    obtain ⟨xs, hq, hx⟩ := hg
    obtain ⟨its, rv, pl, hzz⟩ := I.list hq
    have hl := rv.length
    obtain ⟨o1, e1, c1, _⟩ := id pl.isList
    refine zip_next_endG (I.ok.hd hc) Z.TIz Z.i1z (ne_cls' e1 hz c1 rfl (by decide)) hz h0 hTI h1 pl.isList (by simp; omega) fun h' eb => ⟨rfl, I.turns (t' := s.toks) hf fun b o hb q => eb b o (fun e => hb (by simp [e])) (fun e => hb (by simp [e])) q⟩
  self := fun _ _ _ _ _ st h => by
    obtain ⟨⟨f0, f1, hz, h0⟩, _⟩ := st
    have hT : Shared.TypeIs _ (.ref z) "zip" := ⟨_, hz, rfl⟩
    refine wpAny_pyIter_slot hT F.slot_zip_iter (wpAny_call_entry F.slot_zip_iter hT F.entry_zip_iter ?_ (F.args_zip_iter_1 _))
    show wpAny _ _ (ret (.ref z)) _ _ _
    exact wpAny_pure ⟨_, rfl, "zip", _, hT, F.slot_zip_next.lookup, h⟩
section
variable {X : Cx} {tg : Expr}
theorem boot_zip : bootBuiltins "zip" = some (.type "zip") := by decide +kernel
def iZip (K : PySem.W.Frag) (ta : TA) : TI := fun σ H R => ta σ H fun vs H1 => ∃ (a b : Addr), vs = [.ref a, .ref b] ∧ (∃ xs, SqL K H1 a xs) ∧ (∃ ys, SqL K H1 b ys) ∧ R (Itz K a b) H1
theorem piv_zip {a b : Expr} {ta : TA} {p pos : Pos} (hg : Gl X "zip") (hm : X.mg "zip" = none) (ha : PA X [a, b] ta) (hs : starEach [a, b] X.env = [(false, eval a X.env), (false, eval b X.env)] := by rfl) (hs2 : starEach [b] X.env = [(false, eval b X.env)] := by rfl) :
    PIV X tg (.Call (.Name "zip" p) [a, b] [] pos) (iZip X.K ta) := by
  intro pins s σ H R I h
  refine Call_ (ld_blt I hg hm boot_zip (PyProof.Rows.callWith_type1 (thn (ha pos pins s σ H _ I h) fun us s1 ⟨vs, H1, I1, r1, q1⟩ => ?_) (by rw [hs, hs2]) (by rw [hs2]; rfl)))
  obtain ⟨l1, l2, e, ⟨xs, hq1⟩, ⟨ys, hq2⟩, q⟩ := q1
  subst e
  obtain ⟨u1, u2, rfl, rx1, rx2⟩ := vals2 r1
  cases rx1; cases rx2
  obtain ⟨its1, rv1, pl1, _⟩ := I1.list hq1
  obtain ⟨its2, rv2, pl2, _⟩ := I1.list hq2
  refine call_zip_2 pl1.isList pl2.isList fun h' hz hTI hTO hi1 hi2 hsz hk => ?_
  have I2 : Inv X pins σ H1 { s1 with heap := h' } := I1.kept (t' := s1.toks) hk
  refine ⟨s1.heap.objs.size + 4, [s1.heap.objs.size + 4, s1.heap.objs.size + 2, s1.heap.objs.size + 3, s1.heap.objs.size, s1.heap.objs.size + 1], _, _, H1, rfl, I2,
    turn_zip l1 l2 _ _ _ _ _ (zap_of _), ⟨⟨_, _, hz, .inl rfl⟩, hTI, ⟨_, _, hTO⟩, hi1, hi2⟩, fun b hb => ?_, ⟨fun s' st => ?_, fun A s' Q E st h => ?_⟩, q⟩
  · have hb' : s1.heap.objs.size ≤ b := by
      have : b = s1.heap.objs.size + 4 ∨ b = s1.heap.objs.size + 2 ∨ b = s1.heap.objs.size + 3 ∨ b = s1.heap.objs.size ∨ b = s1.heap.objs.size + 1 := by simpa using hb
      rcases this with rfl | rfl | rfl | rfl | rfl
      · exact Nat.le_add_right _ _
      · exact Nat.le_add_right _ _
      · exact Nat.le_add_right _ _
      · exact Nat.le_refl _
      · exact Nat.le_add_right _ _
    exact I1.fpOk hb' (I1.hok.fresh hb')
  · obtain ⟨⟨f0, f1, hz', _⟩, _⟩ := st
    exact ⟨"zip", ⟨_, hz', rfl⟩, by decide, by decide⟩
  · obtain ⟨⟨f0, f1, hz', _⟩, _⟩ := st
    exact hint_zip ⟨_, hz', rfl⟩ h
end
end L2

namespace L2
open PySem PySem.Spec PyProof.Rows
theorem ext_set01 (σ : St) (cap : List Nat) (v u : V) : Ext (capS σ 2 cap) (((capS σ 2 cap).set 0 (some v)).set 1 (some u)) := by
  refine ⟨by simp, fun i w h => ?_⟩
  match i, h with
  | 0, h =>
    have : (capS σ 2 cap)[0]? = some none := by
      unfold capS
      rw [List.replicate_succ, List.cons_append]; rfl
    rw [this] at h; cases h
  | 1, h =>
    have : (capS σ 2 cap)[1]? = some none := by
      unfold capS
      rw [List.replicate_succ, List.cons_append, List.replicate_succ, List.cons_append]; rfl
    rw [this] at h; cases h
  | n + 2, h =>
    rw [List.getElem?_set_ne (by omega), List.getElem?_set_ne (by omega)]; exact h
/-- what a pair of names takes -/
def Pair2 (g : Fam TG) : Prop := ∀ C s H0 fp (p : Addr) (x z : V) (σ : St) (H : Hp) (Q : St → Hp → Prop), H p = some (.tup [x, z]) → Q ((σ.set 0 (some x)).set 1 (some z)) H → g C s H0 fp (.ref p) σ H Q
/-- two names over zip(xs, zs) -/
theorem lc_zip {K : PySem.W.Frag} {a b : Addr} {xs zs : List V} {σ : St} {cap : List Nat} {g : Fam TG} {te : Fam TE} {D : Addr} {H1 : Hp} {Q : VK} (hg : Pair2 g) (hz : xs.length ≤ zs.length) (Pv : Nat → Hp → List V → Prop) (h0 : Pv 0 (upd H1 D (.lst [])) [])
    (hl : ∀ i H ys, i ≤ xs.length → Pv i H ys → SqL K H a xs ∧ SqL K H b zs ∧ H D = some (.lst ys))
    (hs : ∀ i x z p H ys, xs[i]? = some x → zs[i]? = some z → Pv i H ys → H p = none → ∀ C s H0 fp, te C s H0 fp (((capS σ 2 cap).set 0 (some x)).set 1 (some z)) (upd H p (.tup [x, z])) fun y H6 => H6 D = some (.lst ys) ∧ ys.length < sizeLine ∧ Pv (i + 1) (upd H6 D (.lst (ys ++ [y]))) (ys ++ [y]))
    (hd : ∀ H ys, Pv xs.length H ys → Q (.ref D) H) : LcGoal (Itz K a b) (capS σ 2 cap) g tA te D H1 Q := by
  unfold LcGoal
  refine ⟨xs.length, fun i H ys => i ≤ xs.length ∧ Pv i H ys, ⟨Nat.zero_le _, h0⟩, ?_⟩
  rintro i H2 ys ⟨hi, p⟩
  obtain ⟨q1, q2, hD⟩ := hl i H2 ys hi p
  refine ⟨hi, hD, ?_⟩
  by_cases hlt : i < xs.length
  · have hlt2 : i < zs.length := by omega
    refine .inr ⟨hlt, ⟨xs, zs, xs[i], zs[i], q1, q2, by simp [hlt], by simp [hlt2]⟩, fun C s H0 fp v H3 y => ?_⟩
    obtain ⟨pp, x, z, hn, e1, e2, y1, y2⟩ := y
    subst e1 e2
    refine hg C s H0 fp pp x z _ _ _ upd_same ⟨ext_set01 σ cap x z, ?_⟩
    show tAlw _ _ _
    unfold tAlw
    dsimp only
    rw [if_pos rfl]
    have := hs i x z pp H2 ys (y1 xs q1) (y2 zs q2) p hn C s H0 fp
    have e : (fun (y : V) (H6 : Hp) => H6 D = some (HO.lst ys) ∧ ys.length < sizeLine ∧ (i + 1 ≤ xs.length ∧ Pv (i + 1) (upd H6 D (.lst (ys ++ [y]))) (ys ++ [y]))) = fun y H6 => H6 D = some (.lst ys) ∧ ys.length < sizeLine ∧ Pv (i + 1) (upd H6 D (.lst (ys ++ [y]))) (ys ++ [y]) := by
      funext y H6
      exact propext ⟨fun ⟨a, b, _, c⟩ => ⟨a, b, c⟩, fun ⟨a, b, c⟩ => ⟨a, b, hlt, c⟩⟩
    rw [e]
    exact this
  · have e : i = xs.length := by omega
    subst e
    exact .inl ⟨⟨xs, q1, Nat.le_refl _⟩, hd H2 ys p⟩
/-- two names over enumerate(xs) -/
theorem lc_enum {K : PySem.W.Frag} {a : Addr} {xs : List V} {σ : St} {cap : List Nat} {g : Fam TG} {te : Fam TE} {D : Addr} {H1 : Hp} {Q : VK} (hg : Pair2 g) (Pv : Nat → Hp → List V → Prop) (h0 : Pv 0 (upd H1 D (.lst [])) [])
    (hl : ∀ i H ys, i ≤ xs.length → Pv i H ys → SqL K H a xs ∧ H D = some (.lst ys))
    (hs : ∀ i x p H ys, xs[i]? = some x → Pv i H ys → H p = none → ∀ C s H0 fp, te C s H0 fp (((capS σ 2 cap).set 0 (some (.int (i : Nat)))).set 1 (some x)) (upd H p (.tup [.int (i : Nat), x])) fun y H6 => H6 D = some (.lst ys) ∧ ys.length < sizeLine ∧ Pv (i + 1) (upd H6 D (.lst (ys ++ [y]))) (ys ++ [y]))
    (hd : ∀ H ys, Pv xs.length H ys → Q (.ref D) H) : LcGoal (Ite K a) (capS σ 2 cap) g tA te D H1 Q := by
  unfold LcGoal
  refine ⟨xs.length, fun i H ys => i ≤ xs.length ∧ Pv i H ys, ⟨Nat.zero_le _, h0⟩, ?_⟩
  rintro i H2 ys ⟨hi, p⟩
  obtain ⟨q1, hD⟩ := hl i H2 ys hi p
  refine ⟨hi, hD, ?_⟩
  by_cases hlt : i < xs.length
  · refine .inr ⟨hlt, ⟨xs, xs[i], q1, by simp [hlt]⟩, fun C s H0 fp v H3 y => ?_⟩
    obtain ⟨pp, x, hn, e1, e2, y1⟩ := y
    subst e1 e2
    refine hg C s H0 fp pp _ x _ _ _ upd_same ⟨ext_set01 σ cap _ x, ?_⟩
    show tAlw _ _ _
    unfold tAlw
    dsimp only
    rw [if_pos rfl]
    have := hs i x pp H2 ys (y1 xs q1) p hn C s H0 fp
    have e : (fun (y : V) (H6 : Hp) => H6 D = some (HO.lst ys) ∧ ys.length < sizeLine ∧ (i + 1 ≤ xs.length ∧ Pv (i + 1) (upd H6 D (.lst (ys ++ [y]))) (ys ++ [y]))) = fun y H6 => H6 D = some (.lst ys) ∧ ys.length < sizeLine ∧ Pv (i + 1) (upd H6 D (.lst (ys ++ [y]))) (ys ++ [y]) := by
      funext y H6
      exact propext ⟨fun ⟨a, b, _, c⟩ => ⟨a, b, c⟩, fun ⟨a, b, c⟩ => ⟨a, b, hlt, c⟩⟩
    rw [e]
    exact this
  · have e : i = xs.length := by omega
    subst e
    exact .inl ⟨⟨xs, q1, Nat.le_refl _⟩, hd H2 ys p⟩
/-- one name over reversed(xs), the heap untouched by the element -/
theorem lc_revP {K : PySem.W.Frag} {a : Addr} {xs : List V} {σ : St} {cap : List Nat} {te : Fam TE} {D : Addr} {H1 : Hp} {Q : VK} (f : V → V) (hD : H1 D = none) (hS : SqL K H1 a xs) (hz : xs.length ≤ sizeLine)
    (hs : ∀ (i : Nat) x ys C s H0 fp (R : VK), xs[i]? = some x → R (f x) (upd H1 D (.lst ys)) → te C s H0 fp ((capS σ 1 cap).set 0 (some x)) (upd H1 D (.lst ys)) R)
    (hq : Q (.ref D) (upd H1 D (.lst (xs.reverse.map f)))) : LcGoal (Itv K a xs.length) (capS σ 1 cap) g1 tA te D H1 Q := by
  unfold LcGoal
  refine ⟨xs.length, fun i H ys => i ≤ xs.length ∧ ys = (xs.reverse.take i).map f ∧ H = upd H1 D (.lst ys), ⟨Nat.zero_le _, by simp, rfl⟩, ?_⟩
  rintro i H2 ys ⟨hi, rfl, rfl⟩
  have q1 : SqL K (upd H1 D (.lst ((xs.reverse.take i).map f))) a xs := (Same.new hD _).seq hS
  refine ⟨hi, upd_same, ?_⟩
  by_cases hlt : i < xs.length
  · refine .inr ⟨hlt, ⟨hlt, xs, q1, rfl⟩, fun C s H0 fp v H3 y => ?_⟩
    obtain ⟨e1, y1⟩ := y
    subst e1
    have hx := y1 xs q1
    refine ⟨ext_set0 σ 0 cap v, ?_⟩
    show tAlw _ _ _
    unfold tAlw
    dsimp only
    rw [if_pos rfl]
    have hx' : xs.reverse[i]? = some v := by rw [List.getElem?_reverse hlt]; exact hx
    refine hs _ v _ C s H0 fp _ hx ⟨upd_same, ?_, hlt, (map_take_succ f xs.reverse i v hx').symm, upd_upd⟩
    rw [List.length_map, List.length_take, List.length_reverse]
    omega
  · have e : i = xs.length := by omega
    subst e
    rw [List.take_of_length_le (by rw [List.length_reverse]; exact Nat.le_refl _)]
    exact .inl ⟨Nat.le_refl _, hq⟩
/-- list(reversed(xs)) -/
theorem li_rev {K : PySem.W.Frag} {a : Addr} {xs : List V} {D : Addr} {H1 : Hp} {Q : VK} (hD : H1 D = none) (hS : SqL K H1 a xs) (hz : xs.length ≤ sizeLine) (hq : Q (.ref D) (upd H1 D (.lst xs.reverse))) :
    LcGoal (Itv K a xs.length) [none] (fun _ _ _ _ => gName 0) (fun _ _ _ _ => tAlw) (fun _ _ _ _ => tVar 0) D H1 Q := by
  have := lc_revP (K := K) (a := a) (xs := xs) (σ := []) (cap := []) (te := fun _ _ _ _ => tVar 0) (D := D) (H1 := H1) (Q := Q) id hD hS hz (fun i x ys C s H0 fp R hx hR => ⟨x, rfl, hR⟩) (by rw [List.map_id]; exact hq)
  exact this
/-- list(zip(xs, zs)) -/
theorem li_zip {K : PySem.W.Frag} {a b : Addr} {xs zs : List V} {D : Addr} {H1 : Hp} {Q : VK} (hD : H1 D = none) (hS : SqL K H1 a xs) (hS2 : SqL K H1 b zs) (hz : xs.length ≤ zs.length) (hz2 : xs.length ≤ sizeLine)
    (hq : ∀ (H : Hp) (ps : List Addr), Same H1 H → H D = some (.lst (ps.map V.ref)) → ps.length = xs.length → (∀ (j : Nat) (p : Addr), ps[j]? = some p → ∃ x z, xs[j]? = some x ∧ zs[j]? = some z ∧ H p = some (.tup [x, z]) ∧ H1 p = none) → Q (.ref D) H) :
    LcGoal (Itz K a b) [none] (fun _ _ _ _ => gName 0) (fun _ _ _ _ => tAlw) (fun _ _ _ _ => tVar 0) D H1 Q := by
  unfold LcGoal
  refine ⟨xs.length, fun i H ys => i ≤ xs.length ∧ Same H1 H ∧ ∃ ps : List Addr, ys = ps.map V.ref ∧ H D = some (.lst ys) ∧ ps.length = i ∧ ∀ (j : Nat) (p : Addr), ps[j]? = some p → ∃ x z, xs[j]? = some x ∧ zs[j]? = some z ∧ H p = some (.tup [x, z]) ∧ H1 p = none ∧ p ≠ D,
    ⟨Nat.zero_le _, Same.new hD _, [], rfl, upd_same, rfl, fun j p e => by simp at e⟩, ?_⟩
  rintro i H2 ys ⟨hi, s2, ps, rfl, hD2, hpl, hps⟩
  have q1 := s2.seq hS
  have q2 := s2.seq hS2
  refine ⟨hi, hD2, ?_⟩
  by_cases hlt : i < xs.length
  · have hlt2 : i < zs.length := by omega
    refine .inr ⟨hlt, ⟨xs, zs, xs[i], zs[i], q1, q2, by simp [hlt], by simp [hlt2]⟩, fun C s H0 fp v H3 y => ?_⟩
    obtain ⟨pp, x, z, hn, e1, e2, y1, y2⟩ := y
    subst e1 e2
    have hx := y1 xs q1
    have hzz := y2 zs q2
    have nD : pp ≠ D := fun e => by rw [e, hD2] at hn; cases hn
    have n1 : H1 pp = none := s2.free hn
    refine ⟨⟨by simp, fun i v h => by cases i <;> simp at h⟩, ?_⟩
    show tAlw _ _ _
    unfold tAlw
    dsimp only
    rw [if_pos rfl]
    refine ⟨.ref pp, rfl, by rw [upd_ne (Ne.symm nD)]; exact hD2, by rw [List.length_map, hpl]; omega, hlt, (s2.put n1).put hD, ps ++ [pp], by rw [List.map_append]; rfl, upd_same, by rw [List.length_append, hpl]; rfl, fun j p e => ?_⟩
    by_cases hj : j < ps.length
    · rw [List.getElem?_append_left hj] at e
      obtain ⟨x', z', a1, a2, a3, a4, a5⟩ := hps j p e
      refine ⟨x', z', a1, a2, ?_, a4, a5⟩
      rw [upd_ne a5, upd_ne (fun e => by rw [e, hn] at a3; cases a3)]
      exact a3
    · rw [List.getElem?_append_right (by omega)] at e
      have hj2 : j - ps.length = 0 := by
        cases q : j - ps.length with
        | zero => rfl
        | succ n => rw [q] at e; simp at e
      rw [hj2] at e
      have el : pp = p := by simpa using e
      subst el
      have hji : j = i := by omega
      subst hji
      exact ⟨x, z, hx, hzz, by rw [upd_ne nD, upd_same], n1, nD⟩
  · have e : i = xs.length := by omega
    subst e
    refine .inl ⟨⟨xs, q1, Nat.le_refl _⟩, hq H2 ps s2 hD2 hpl fun j p e => ?_⟩
    obtain ⟨x', z', a1, a2, a3, a4, _⟩ := hps j p e
    exact ⟨x', z', a1, a2, a3, a4⟩
end L2

namespace Sky
/-! ### who sees whom -/
/-- how many of the bars (nearest first) are seen by one of height h, m the highest so far -/
def cntS (m h : Int) : List Int → Nat
  | [] => 0
  | x :: r => (if m < min x h then 1 else 0) + cntS (max m x) h r
def stk (m : Int) : List Int → List Int
  | [] => []
  | x :: r => if m < x then x :: stk x r else stk m r
def pc (h : Int) : List Int → Nat
  | [] => 0
  | x :: s => if x < h then 1 + pc h s else 1
theorem cnt_stk (h : Int) : ∀ (r : List Int) (m : Int), cntS m h r = if m < h then pc h (stk m r) else 0
  | [], m => by simp [cntS, stk, pc]
  | x :: r, m => by
    have ih := cnt_stk h r
    unfold cntS stk
    rw [ih]
    by_cases hm : m < h
    · rw [if_pos hm]
      by_cases hx : m < x
      · have e1 : m < min x h := by omega
        have e2 : max m x = x := by omega
        rw [if_pos e1, e2, if_pos hx]
        have e3 : pc h (x :: stk x r) = if x < h then 1 + pc h (stk x r) else 1 := rfl
        rw [e3]
        by_cases hxh : x < h
        · simp [hxh]
        · simp [hxh]
      · have e1 : ¬ m < min x h := by omega
        have e2 : max m x = m := by omega
        rw [if_neg e1, e2, if_neg hx, if_pos hm]
        omega
    · have e1 : ¬ m < min x h := by omega
      have e2 : ¬ max m x < h := by omega
      rw [if_neg e1, if_neg e2, if_neg hm]
theorem stk_drop (h : Int) : ∀ (r : List Int) (m : Int), m ≤ h → stk h r = (stk m r).dropWhile (fun x => decide (x ≤ h))
  | [], m, _ => rfl
  | x :: r, m, hm => by
    unfold stk
    by_cases hx : m < x
    · rw [if_pos hx]
      by_cases hxh : x ≤ h
      · have e : ¬ h < x := by omega
        rw [if_neg e, List.dropWhile_cons, if_pos (decide_eq_true hxh)]
        exact stk_drop h r x hxh
      · have e : h < x := by omega
        rw [if_pos e, List.dropWhile_cons, if_neg (by simp; omega)]
    · have e : ¬ h < x := by omega
      rw [if_neg hx, if_neg e]
      exact stk_drop h r m hm
/-- what the program does with the stack, the top first -/
def pop2 (h : Int) (s : List Int) : List Int := match s.dropWhile (fun x => decide (x < h)) with
  | [] => []
  | x :: t => if x = h then t else x :: t
theorem pop2_stk (h : Int) : ∀ (r : List Int) (m : Int), pop2 h (stk m r) = (stk m r).dropWhile (fun x => decide (x ≤ h))
  | [], m => rfl
  | x :: r, m => by
    unfold stk
    by_cases hx : m < x
    · rw [if_pos hx]
      by_cases h1 : x < h
      · have e1 : (x :: stk x r).dropWhile (fun x => decide (x < h)) = (stk x r).dropWhile (fun x => decide (x < h)) := by rw [List.dropWhile_cons, if_pos (decide_eq_true h1)]
        have e2 : (x :: stk x r).dropWhile (fun x => decide (x ≤ h)) = (stk x r).dropWhile (fun x => decide (x ≤ h)) := by rw [List.dropWhile_cons, if_pos (decide_eq_true (by omega))]
        unfold pop2
        rw [e1, e2]
        exact pop2_stk h r x
      · have e1 : (x :: stk x r).dropWhile (fun x => decide (x < h)) = x :: stk x r := by rw [List.dropWhile_cons, if_neg (by simp; omega)]
        unfold pop2
        rw [e1]
        by_cases h2 : x = h
        · subst h2
          rw [List.dropWhile_cons, if_pos (decide_eq_true (Int.le_refl _))]
          simp only [if_true]
          exact stk_drop x r x (Int.le_refl _)
        · rw [List.dropWhile_cons, if_neg (by simp; omega)]
          simp [h2]
    · rw [if_neg hx]
      exact pop2_stk h r m
theorem stk_length : ∀ (r : List Int) (m : Int), (stk m r).length ≤ r.length
  | [], _ => Nat.le_refl _
  | x :: r, m => by
    unfold stk
    have h1 := stk_length r x
    have h2 := stk_length r m
    split
    · simp only [List.length_cons]; omega
    · simp only [List.length_cons]; omega
theorem pop2_nil {h : Int} {s : List Int} (e : ([] : List Int) = s.dropWhile (fun x => decide (x < h))) : pop2 h s = [] := by unfold pop2; rw [← e]
theorem pop2_eq {h y : Int} {s t : List Int} (e : (y :: t).dropWhile (fun x => decide (x < h)) = s.dropWhile (fun x => decide (x < h))) (hy : y = h) : pop2 h s = t := by
  unfold pop2; rw [← e, List.dropWhile_cons, if_neg (by simp; omega)]; simp [hy]
theorem pop2_ne {h y : Int} {s t : List Int} (e : (y :: t).dropWhile (fun x => decide (x < h)) = s.dropWhile (fun x => decide (x < h))) (hy : ¬ y < h) (hn : ¬ y = h) : pop2 h s = y :: t := by
  unfold pop2; rw [← e, List.dropWhile_cons, if_neg (by simp; omega)]; simp [hn]
theorem pc_ge {h y : Int} {t : List Int} (hy : ¬ y < h) : pc h (y :: t) = 1 := by
  show (if y < h then 1 + pc h t else 1) = 1
  rw [if_neg hy]
theorem pc_lt {h y : Int} {t : List Int} (hy : y < h) : pc h (y :: t) = 1 + pc h t := by
  show (if y < h then 1 + pc h t else 1) = _
  rw [if_pos hy]
theorem drop_lt {h y : Int} {t : List Int} (hy : y < h) : (y :: t).dropWhile (fun x => decide (x < h)) = t.dropWhile (fun x => decide (x < h)) := by rw [List.dropWhile_cons, if_pos (decide_eq_true hy)]
theorem take_rev {xs : List Int} {i : Nat} {h : Int} (hx : xs[i]? = some h) : (xs.take (i + 1)).reverse = h :: (xs.take i).reverse := by
  rw [List.take_add_one, hx]; simp
theorem stk_next {h : Int} (h0 : 0 ≤ h) (r : List Int) : stk (-1) (h :: r) = h :: pop2 h (stk (-1) r) := by
  have e : stk (-1) (h :: r) = if (-1 : Int) < h then h :: stk h r else stk (-1) r := rfl
  rw [e, if_pos (by omega), pop2_stk, stk_drop h r (-1) (by omega)]
/-- the places ahead of p below n that are seen, from the nearest on -/
def seenF (b : List Int) (h : Int) : Nat → Int → List Int
  | 0, _ => []
  | n + 1, m => if m < min (b.getD n 0) h then (n : Int) :: seenF b h n (max m (b.getD n 0)) else seenF b h n (max m (b.getD n 0))
theorem seenF_length (b : List Int) (h : Int) : ∀ (n : Nat) (m : Int), n ≤ b.length → (seenF b h n m).length = cntS m h (b.take n).reverse
  | 0, m, _ => by simp [seenF, cntS]
  | n + 1, m, hn => by
    have ih := seenF_length b h n (max m (b.getD n 0)) (by omega)
    have e : (b.take (n + 1)).reverse = b.getD n 0 :: (b.take n).reverse := by
      rw [List.take_add_one, List.getElem?_eq_getElem (by omega : n < b.length)]
      simp [List.getD_eq_getElem?_getD, List.getElem?_eq_getElem (by omega : n < b.length)]
    rw [e]
    unfold seenF cntS
    split
    · rw [List.length_cons, ih]; omega
    · rw [ih]; omega
theorem seenF_mem (b : List Int) (h : Int) (j : Nat) : ∀ (n : Nat) (m : Int), (j : Int) ∈ seenF b h n m ↔ j < n ∧ m < min (b.getD j 0) h ∧ ∀ k : Nat, j < k → k < n → b.getD k 0 < min (b.getD j 0) h
  | 0, m => by simp [seenF]
  | n + 1, m => by
    have ih := seenF_mem b h j n (max m (b.getD n 0))
    unfold seenF
    by_cases hj : j = n
    · subst hj
      have nin : ∀ m', ¬ (j : Int) ∈ seenF b h j m' := fun m' z => by
        have := (seenF_mem b h j j m').mp z
        omega
      split
      · rename_i hc
        refine ⟨fun _ => ⟨by omega, hc, fun k h1 h2 => by omega⟩, fun _ => by simp⟩
      · rename_i hc
        refine ⟨fun z => absurd z (nin _), fun ⟨_, z, _⟩ => absurd z hc⟩
    · have e : (j : Int) ∈ (if m < min (b.getD n 0) h then (n : Int) :: seenF b h n (max m (b.getD n 0)) else seenF b h n (max m (b.getD n 0))) ↔ (j : Int) ∈ seenF b h n (max m (b.getD n 0)) := by
        split
        · rw [List.mem_cons]
          constructor
          · rintro (z | z)
            · omega
            · exact z
          · exact fun z => .inr z
        · exact Iff.rfl
      rw [e, ih]
      constructor
      · rintro ⟨h1, h2, h3⟩
        refine ⟨by omega, by omega, fun k h4 h5 => ?_⟩
        by_cases hk : k = n
        · subst hk; omega
        · exact h3 k h4 (by omega)
      · rintro ⟨h1, h2, h3⟩
        have h4 := h3 n (by omega) (by omega)
        exact ⟨by omega, by omega, fun k h5 h6 => h3 k h5 (by omega)⟩
theorem seenF_ge (b : List Int) (h : Int) : ∀ (n : Nat) (m x : Int), x ∈ seenF b h n m → ∃ j : Nat, x = j
  | 0, m, x, z => by simp [seenF] at z
  | n + 1, m, x, z => by
    unfold seenF at z
    split at z
    · rcases List.mem_cons.mp z with z | z
      · exact ⟨n, z⟩
      · exact seenF_ge b h n _ x z
    · exact seenF_ge b h n _ x z
/-- the counts that the program tells -/
def counts (b : List Int) : List Int := (List.range b.length).map fun p => ((seenF b (b.getD p 0) p (-1)).length : Int)
theorem counts_step {b : List Int} (hb : ∀ x ∈ b, 0 ≤ x) (i : Nat) (hi : i < b.length) : (seenF b (b.getD i 0) i (-1)).length = pc (b.getD i 0) (stk (-1) (b.take i).reverse) := by
  rw [seenF_length b _ i (-1) (by omega), cnt_stk, if_pos]
  have : b.getD i 0 = b[i] := by simp [List.getD_eq_getElem?_getD, List.getElem?_eq_getElem hi]
  rw [this]
  have := hb b[i] (List.getElem_mem hi)
  omega
theorem counts_take {b : List Int} (hb : ∀ x ∈ b, 0 ≤ x) {i : Nat} {h : Int} (hx : b[i]? = some h) : (counts b).take (i + 1) = (counts b).take i ++ [(pc h (stk (-1) (b.take i).reverse) : Int)] := by
  have hi : i < b.length := (List.getElem?_eq_some_iff.mp hx).1
  have e : b.getD i 0 = h := by rw [List.getD_eq_getElem?_getD, hx]; rfl
  have h2 := counts_step hb i hi
  rw [e] at h2
  rw [List.take_add_one]
  congr 1
  unfold counts
  rw [List.getElem?_map, List.getElem?_range hi]
  simp only [Option.map_some, Option.toList, e, h2]
theorem counts_length (b : List Int) : (counts b).length = b.length := by simp [counts]
/-- who sees whom -/
def seesB (b : List Int) (i j : Nat) : Bool := ((b.drop (min i j + 1)).take (max i j - (min i j + 1))).all fun x => decide (x < min (b.getD i 0) (b.getD j 0))
theorem seesB_mem {b : List Int} (hb : ∀ x ∈ b, 0 ≤ x) {i j : Nat} (hi : i < b.length) (hj : j < b.length) (hij : i ≠ j) : seesB b i j = decide (((min i j : Nat) : Int) ∈ seenF b (b.getD (max i j) 0) (max i j) (-1)) := by
  have g : ∀ k, k < b.length → 0 ≤ b.getD k 0 := fun k hk => by
    have : b.getD k 0 = b[k] := by simp [List.getD_eq_getElem?_getD, List.getElem?_eq_getElem hk]
    rw [this]; exact hb _ (List.getElem_mem hk)
  have hmin : min (b.getD i 0) (b.getD j 0) = min (b.getD (min i j) 0) (b.getD (max i j) 0) := by
    by_cases h : i ≤ j
    · rw [Nat.min_eq_left h, Nat.max_eq_right h]
    · rw [Nat.min_eq_right (by omega), Nat.max_eq_left (by omega), Int.min_comm]
  have h1 := g (min i j) (by omega)
  have h2 := g (max i j) (by omega)
  have key : ((min i j : Nat) : Int) ∈ seenF b (b.getD (max i j) 0) (max i j) (-1) ↔ seesB b i j = true := by
    rw [seenF_mem]
    unfold seesB
    rw [List.all_eq_true, hmin]
    constructor
    · rintro ⟨_, _, h3⟩ x hx
      obtain ⟨k, hk, e⟩ := List.getElem_of_mem hx
      rw [List.length_take, List.length_drop] at hk
      rw [List.getElem_take, List.getElem_drop] at e
      have := h3 (min i j + 1 + k) (by omega) (by omega)
      have ek : b.getD (min i j + 1 + k) 0 = b[min i j + 1 + k]'(by omega) := by simp [List.getD_eq_getElem?_getD, List.getElem?_eq_getElem (by omega : min i j + 1 + k < b.length)]
      rw [ek, e] at this
      exact decide_eq_true this
    · intro h3
      refine ⟨by omega, by omega, fun k h4 h5 => ?_⟩
      have hk : k < b.length := by omega
      have ek : b.getD k 0 = b[k] := by simp [List.getD_eq_getElem?_getD, List.getElem?_eq_getElem hk]
      rw [ek]
      refine of_decide_eq_true (h3 b[k] ?_)
      refine List.mem_iff_getElem.mpr ⟨k - (min i j + 1), ?_, ?_⟩
      · rw [List.length_take, List.length_drop]; omega
      · rw [List.getElem_take, List.getElem_drop]
        congr 1
        omega
  by_cases hc : seesB b i j = true
  · rw [hc]; exact (decide_eq_true (key.mpr hc)).symm
  · have : ¬ ((min i j : Nat) : Int) ∈ seenF b (b.getD (max i j) 0) (max i j) (-1) := fun z => hc (key.mp z)
    rw [decide_eq_false this]
    exact Bool.eq_false_iff.mpr hc
end Sky

namespace Sky
/-! ### reaches -/
/-- the nearest place below n that is lower than h -/
def nlO (b : List Int) (h : Int) : Nat → Option Nat
  | 0 => none
  | n + 1 => if b.getD n 0 < h then some n else nlO b h n
theorem nlO_some {b : List Int} {h : Int} : ∀ {n j : Nat}, nlO b h n = some j → j < n ∧ b.getD j 0 < h ∧ ∀ k, j < k → k < n → h ≤ b.getD k 0
  | 0, j, e => by simp [nlO] at e
  | n + 1, j, e => by
    unfold nlO at e
    split at e
    · rename_i hc
      cases e
      exact ⟨Nat.lt_succ_self _, hc, fun k h1 h2 => by omega⟩
    · rename_i hc
      obtain ⟨a, c, d⟩ := nlO_some e
      refine ⟨by omega, c, fun k h1 h2 => ?_⟩
      by_cases hk : k = n
      · subst hk; omega
      · exact d k h1 (by omega)
theorem nlO_none {b : List Int} {h : Int} : ∀ {n : Nat}, nlO b h n = none → ∀ k, k < n → h ≤ b.getD k 0
  | 0, _, k, hk => by omega
  | n + 1, e, k, hk => by
    unfold nlO at e
    split at e
    · cases e
    · rename_i hc
      by_cases hk' : k = n
      · subst hk'; omega
      · exact nlO_none e k (by omega)
/-- the first place of the reach -/
def stN (b : List Int) (i : Nat) : Nat := match nlO b (b.getD i 0) i with
  | some j => j + 1
  | none => 0
theorem stN_le (b : List Int) (i : Nat) : stN b i ≤ i := by
  unfold stN
  split
  · rename_i j e; have := (nlO_some e).1; omega
  · omega
theorem stN_ge (b : List Int) (i k : Nat) (h1 : stN b i ≤ k) (h2 : k ≤ i) : b.getD i 0 ≤ b.getD k 0 := by
  by_cases hk : k = i
  · subst hk; exact Int.le_refl _
  · unfold stN at h1
    split at h1
    · rename_i j e; exact (nlO_some e).2.2 k (by omega) (by omega)
    · rename_i e; exact nlO_none e k (by omega)
theorem stN_low (b : List Int) (i : Nat) : stN b i = 0 ∨ b.getD (stN b i - 1) 0 < b.getD i 0 := by
  unfold stN
  split
  · rename_i j e; exact .inr (nlO_some e).2.1
  · exact .inl rfl
/-- the program's stack of places, the top first -/
def stkP (b : List Int) : Nat → List Nat
  | 0 => []
  | n + 1 => n :: (stkP b n).dropWhile fun j => decide (b.getD n 0 ≤ b.getD j 0)
theorem drop_drop {α : Type} {p q : α → Bool} (h : ∀ x, p x = true → q x = true) : ∀ l : List α, (l.dropWhile p).dropWhile q = l.dropWhile q
  | [] => rfl
  | x :: l => by
    cases hp : p x with
    | true => rw [List.dropWhile_cons, if_pos hp, drop_drop h l, List.dropWhile_cons, if_pos (h x hp)]
    | false => rw [List.dropWhile_cons (p := p), if_neg (by simp [hp])]
theorem stkP_head (b : List Int) : ∀ (n : Nat) (h : Int), ((stkP b n).dropWhile fun j => decide (h ≤ b.getD j 0)).head? = nlO b h n
  | 0, h => rfl
  | n + 1, h => by
    unfold stkP nlO
    by_cases hc : b.getD n 0 < h
    · rw [if_pos hc, List.dropWhile_cons, if_neg (fun z => by have := of_decide_eq_true z; omega)]; rfl
    · rw [if_neg hc, List.dropWhile_cons, if_pos (decide_eq_true (by omega)), drop_drop (fun x hx => decide_eq_true (by have := of_decide_eq_true hx; omega))]
      exact stkP_head b n h
theorem stkP_lt (b : List Int) : ∀ (n : Nat) (j : Nat), j ∈ stkP b n → j < n
  | 0, j, h => by simp [stkP] at h
  | n + 1, j, h => by
    unfold stkP at h
    rcases List.mem_cons.mp h with rfl | h
    · omega
    · have := stkP_lt b n j ((List.dropWhile_sublist _).subset h)
      omega
theorem stkP_length (b : List Int) : ∀ n : Nat, (stkP b n).length ≤ n
  | 0 => Nat.le_refl _
  | n + 1 => by
    unfold stkP
    have h1 := stkP_length b n
    have h2 : ((stkP b n).dropWhile fun j => decide (b.getD n 0 ≤ b.getD j 0)).length ≤ (stkP b n).length := (List.dropWhile_sublist _).length_le
    simp only [List.length_cons]; omega
def starts (b : List Int) : List Int := (List.range b.length).map fun i => ((stN b i : Nat) : Int)
theorem starts_length (b : List Int) : (starts b).length = b.length := by simp [starts]
theorem starts_take {b : List Int} {i : Nat} (hi : i < b.length) : (starts b).take (i + 1) = (starts b).take i ++ [((stN b i : Nat) : Int)] := by
  rw [List.take_add_one]
  congr 1
  unfold starts
  rw [List.getElem?_map, List.getElem?_range hi]; rfl
theorem stN_nil {b : List Int} {i : Nat} (h : ([] : List Nat) = (stkP b i).dropWhile fun j => decide (b.getD i 0 ≤ b.getD j 0)) : stN b i = 0 := by
  have := stkP_head b i (b.getD i 0)
  rw [← h] at this
  unfold stN
  rw [← this]; rfl
theorem stN_cons {b : List Int} {i j : Nat} {t : List Nat} (h : j :: t = (stkP b i).dropWhile fun j => decide (b.getD i 0 ≤ b.getD j 0)) : stN b i = j + 1 := by
  have := stkP_head b i (b.getD i 0)
  rw [← h] at this
  unfold stN
  rw [← this]; rfl
/-- the last place of the reach, by the mirrored row -/
def enN (b : List Int) (i : Nat) : Nat := b.length - 1 - stN b.reverse (b.length - 1 - i)
theorem getD_rev {b : List Int} {k : Nat} (hk : k < b.length) : b.reverse.getD (b.length - 1 - k) 0 = b.getD k 0 := by
  rw [List.getD_eq_getElem?_getD, List.getD_eq_getElem?_getD, List.getElem?_reverse (by omega)]
  congr 2
  omega
theorem enN_bounds {b : List Int} {i : Nat} (hi : i < b.length) : i ≤ enN b i ∧ enN b i < b.length := by
  have := stN_le b.reverse (b.length - 1 - i)
  unfold enN; omega
theorem enN_ge {b : List Int} {i k : Nat} (hi : i < b.length) (h1 : i ≤ k) (h2 : k ≤ enN b i) : b.getD i 0 ≤ b.getD k 0 := by
  have hb := enN_bounds hi
  have h3 : k < b.length := by omega
  have := stN_ge b.reverse (b.length - 1 - i) (b.length - 1 - k) (by have := stN_le b.reverse (b.length - 1 - i); unfold enN at h2; omega) (by omega)
  rwa [getD_rev hi, getD_rev h3] at this
theorem enN_low {b : List Int} {i : Nat} (hi : i < b.length) : enN b i = b.length - 1 ∨ b.getD (enN b i + 1) 0 < b.getD i 0 := by
  have h := stN_low b.reverse (b.length - 1 - i)
  have hle := stN_le b.reverse (b.length - 1 - i)
  rcases h with h | h
  · left; unfold enN; omega
  · by_cases h0 : stN b.reverse (b.length - 1 - i) = 0
    · left; unfold enN; omega
    · right
      have e1 : enN b i + 1 < b.length := by unfold enN; omega
      have e2 : stN b.reverse (b.length - 1 - i) - 1 = b.length - 1 - (enN b i + 1) := by unfold enN; omega
      rwa [e2, getD_rev e1, getD_rev hi] at h
def ends (b : List Int) : List Int := (List.range b.length).map fun i => ((enN b i : Nat) : Int)
theorem ends_length (b : List Int) : (ends b).length = b.length := by simp [ends]
theorem ends_eq (b : List Int) : (starts b.reverse).reverse.map (fun s => ((b.length : Int) - 1) - s) = ends b := by
  apply List.ext_getElem?
  intro i
  rw [List.getElem?_map]
  by_cases hi : i < b.length
  · rw [List.getElem?_reverse (by rw [starts_length, List.length_reverse]; exact hi), starts_length, List.length_reverse]
    unfold starts ends
    rw [List.getElem?_map, List.getElem?_map, List.length_reverse, List.getElem?_range (by omega), List.getElem?_range hi]
    have := stN_le b.reverse (b.length - 1 - i)
    simp only [Option.map_some, Option.some.injEq]
    unfold enN
    omega
  · rw [List.getElem?_eq_none (by rw [List.length_reverse, starts_length, List.length_reverse]; omega), List.getElem?_eq_none (by rw [ends_length]; omega)]; rfl
def reachP (b : List Int) : List (Int × Int) := (List.range b.length).map fun i => (((stN b i : Nat) : Int), ((enN b i : Nat) : Int))
theorem reachP_length (b : List Int) : (reachP b).length = b.length := by simp [reachP]
theorem reachP_get {b : List Int} {i : Nat} (hi : i < b.length) : (reachP b)[i]? = some (((stN b i : Nat) : Int), ((enN b i : Nat) : Int)) := by
  unfold reachP
  rw [List.getElem?_map, List.getElem?_range hi]; rfl
/-! ### boards -/
def cntP (p : Int × Int) : Int := p.2 - p.1 + 1
def underB (b : List Int) (first many high : Int) : Bool :=
  if first < 0 ∨ many < 1 ∨ (b.length : Int) < first + many ∨ high < 0 then false else ((b.drop first.toNat).take many.toNat).all fun x => decide (high ≤ x)
def endsB (b : List Int) (i : Nat) (p : Int × Int) : Bool :=
  if 0 ≤ p.1 ∧ p.1 ≤ i ∧ (i : Int) ≤ p.2 ∧ p.2 ≤ (b.length : Int) - 1 then
    (decide (p.1 = 0) || decide (b.getD (p.1.toNat - 1) 0 < b.getD i 0)) && (decide (p.2 = (b.length : Int) - 1) || decide (b.getD (p.2.toNat + 1) 0 < b.getD i 0)) else false
def okB (b : List Int) (size : Int) (i : Nat) (p : Int × Int) : Bool := endsB b i p && decide (b.getD i 0 * cntP p ≤ size)
def ngB (b : List Int) (many high : Int) (ar : List (Int × Int)) : Bool :=
  if ar.length = b.length then (List.range ar.length).all fun i => okB b (many * high) i (ar.getD i (0, 0)) else false
theorem endsB_reach {b : List Int} {i : Nat} (hi : i < b.length) : endsB b i (((stN b i : Nat) : Int), ((enN b i : Nat) : Int)) = true := by
  unfold endsB
  have h1 := stN_le b i
  have h2 := enN_bounds hi
  rw [if_pos ⟨by omega, by omega, by omega, by omega⟩, Bool.and_eq_true, Bool.or_eq_true, Bool.or_eq_true]
  constructor
  · rcases stN_low b i with h | h
    · left; exact decide_eq_true (by rw [h]; rfl)
    · right; exact decide_eq_true (by simpa using h)
  · rcases enN_low hi with h | h
    · left; exact decide_eq_true (by omega)
    · right; exact decide_eq_true (by simpa using h)
/-- the sizes of the boards of the reaches -/
def sizes (b : List Int) : List Int := (List.range b.length).map fun i => b.getD i 0 * cntP (((stN b i : Nat) : Int), ((enN b i : Nat) : Int))
theorem sizes_length (b : List Int) : (sizes b).length = b.length := by simp [sizes]
theorem sizes_get {b : List Int} {i : Nat} (hi : i < b.length) : (sizes b)[i]? = some (b.getD i 0 * cntP (((stN b i : Nat) : Int), ((enN b i : Nat) : Int))) := by
  unfold sizes
  rw [List.getElem?_map, List.getElem?_range hi]; rfl
/-- what is told of the best place m -/
structure Best (b : List Int) (m : Nat) : Prop where
  lt : m < b.length
  top : ∀ i, i < b.length → b.getD i 0 * cntP (((stN b i : Nat) : Int), ((enN b i : Nat) : Int)) ≤ b.getD m 0 * cntP (((stN b m : Nat) : Int), ((enN b m : Nat) : Int))
theorem best_of {b : List Int} {M : Int} (h1 : M ∈ sizes b) (h2 : ∀ a, a ∈ sizes b → a ≤ M) : Best b ((sizes b).idxOf M) := by
  have hlt : (sizes b).idxOf M < (sizes b).length := List.idxOf_lt_length_iff.mpr h1
  have hlt' : (sizes b).idxOf M < b.length := by rw [sizes_length] at hlt; exact hlt
  have e : M = b.getD ((sizes b).idxOf M) 0 * cntP (((stN b ((sizes b).idxOf M) : Nat) : Int), ((enN b ((sizes b).idxOf M) : Nat) : Int)) := by
    have g := sizes_get hlt'
    rw [List.getElem?_eq_getElem hlt, List.getElem_idxOf hlt] at g
    exact Option.some.inj g
  refine ⟨hlt', fun i hi => ?_⟩
  rw [← e]
  exact h2 _ (List.mem_of_getElem? (sizes_get hi))
theorem mem_cut {b : List Int} {x : Int} {f n : Nat} (h : x ∈ (b.drop f).take n) : ∃ k, f ≤ k ∧ k < f + n ∧ k < b.length ∧ x = b.getD k 0 := by
  obtain ⟨k, hk, e⟩ := List.getElem_of_mem h
  rw [List.length_take, List.length_drop] at hk
  rw [List.getElem_take, List.getElem_drop] at e
  refine ⟨f + k, by omega, by omega, by omega, ?_⟩
  rw [← e]
  simp [List.getD_eq_getElem?_getD, List.getElem?_eq_getElem (by omega : f + k < b.length)]
theorem under_best {b : List Int} {m : Nat} (hb : ∀ x ∈ b, 0 ≤ x) (B : Best b m) : underB b ((stN b m : Nat) : Int) (cntP (((stN b m : Nat) : Int), ((enN b m : Nat) : Int))) (b.getD m 0) = true := by
  have h1 := stN_le b m
  have h2 := enN_bounds B.lt
  have h3 : 0 ≤ b.getD m 0 := by
    have : b.getD m 0 = b[m]'B.lt := by simp [List.getD_eq_getElem?_getD, List.getElem?_eq_getElem B.lt]
    rw [this]; exact hb _ (List.getElem_mem _)
  unfold underB cntP
  rw [if_neg (by simp only []; omega), List.all_eq_true]
  intro x hx
  obtain ⟨k, k1, k2, k3, rfl⟩ := mem_cut hx
  simp only [] at k1 k2
  refine decide_eq_true ?_
  by_cases hk : k ≤ m
  · exact stN_ge b m k (by omega) hk
  · exact enN_ge B.lt (by omega) (by omega)
theorem ng_best {b : List Int} {m : Nat} (B : Best b m) : ngB b (cntP (((stN b m : Nat) : Int), ((enN b m : Nat) : Int))) (b.getD m 0) (reachP b) = true := by
  unfold ngB
  rw [if_pos (reachP_length b), List.all_eq_true]
  intro i hi
  have hi' : i < b.length := by have := List.mem_range.mp hi; rw [reachP_length] at this; exact this
  have e : (reachP b).getD i (0, 0) = (((stN b i : Nat) : Int), ((enN b i : Nat) : Int)) := by rw [List.getD_eq_getElem?_getD, reachP_get hi']; rfl
  rw [e]
  unfold okB
  rw [endsB_reach hi', Bool.true_and]
  refine decide_eq_true ?_
  rw [Int.mul_comm (cntP _) (b.getD m 0)]
  exact B.top i hi'
/-- the least bar of a stretch -/
theorem least_of {b : List Int} : ∀ (n f : Nat), ∃ j, f ≤ j ∧ j ≤ f + n ∧ ∀ k, f ≤ k → k ≤ f + n → b.getD j 0 ≤ b.getD k 0
  | 0, f => by
    refine ⟨f, by omega, by omega, fun k h1 h2 => ?_⟩
    have e : k = f := by omega
    rw [e]; exact Int.le_refl _
  | n + 1, f => by
    obtain ⟨j, h1, h2, h3⟩ := least_of (b := b) n f
    by_cases hc : b.getD j 0 ≤ b.getD (f + n + 1) 0
    · refine ⟨j, h1, by omega, fun k k1 k2 => ?_⟩
      by_cases hk : k = f + n + 1
      · subst hk; exact hc
      · exact h3 k k1 (by omega)
    · refine ⟨f + n + 1, by omega, by omega, fun k k1 k2 => ?_⟩
      by_cases hk : k = f + n + 1
      · subst hk; exact Int.le_refl _
      · have := h3 k k1 (by omega); omega
theorem board_le {b : List Int} {m f l : Nat} {low : Int} (hb : ∀ x ∈ b, 0 ≤ x) (B : Best b m) (hfl : f ≤ l) (hl : l < b.length) (hlow : ∀ k, f ≤ k → k ≤ l → low ≤ b.getD k 0) :
    low * ((l : Int) - f + 1) ≤ b.getD m 0 * cntP (((stN b m : Nat) : Int), ((enN b m : Nat) : Int)) := by
  obtain ⟨j, j1, j2, j3⟩ := least_of (b := b) (l - f) f
  have jl : j < b.length := by omega
  have j0 : 0 ≤ b.getD j 0 := by
    have : b.getD j 0 = b[j]'jl := by simp [List.getD_eq_getElem?_getD, List.getElem?_eq_getElem jl]
    rw [this]; exact hb _ (List.getElem_mem _)
  have s1 : stN b j ≤ f := by
    rcases stN_low b j with h | h
    · omega
    · by_cases hc : stN b j ≤ f
      · exact hc
      · have := j3 (stN b j - 1) (by omega) (by have := stN_le b j; omega)
        omega
  have s2 : l ≤ enN b j := by
    rcases enN_low jl with h | h
    · omega
    · by_cases hc : l ≤ enN b j
      · exact hc
      · have := j3 (enN b j + 1) (by have := enN_bounds jl; omega) (by omega)
        omega
  have h1 : low * ((l : Int) - f + 1) ≤ b.getD j 0 * ((l : Int) - f + 1) := Int.mul_le_mul_of_nonneg_right (hlow j j1 (by omega)) (by omega)
  have h2 : b.getD j 0 * ((l : Int) - f + 1) ≤ b.getD j 0 * cntP (((stN b j : Nat) : Int), ((enN b j : Nat) : Int)) := Int.mul_le_mul_of_nonneg_left (by unfold cntP; simp only []; omega) j0
  exact Int.le_trans h1 (Int.le_trans h2 (B.top j jl))
end Sky

namespace Sky
open PySem L2
/-- the built-in names that the text leaves as they are -/
structure Blt (mg : Str → Option Value) : Prop where
  isinstance : mg "isinstance" = none
  int : mg "int" = none
  bool : mg "bool" = none
  list : mg "list" = none
  len : mg "len" = none
  range : mg "range" = none
  enumerate : mg "enumerate" = none
  reversed : mg "reversed" = none
  min : mg "min" = none
  max : mg "max" = none
  sum : mg "sum" = none
  all : mg "all" = none
  sorted : mg "sorted" = none
  zip : mg "zip" = none
  any : mg "any" = none
  tuple : mg "tuple" = none
def Hi (mg : Str → Option Value) : Prop := ∃ t, mg "HIGHEST" = some (.int 10000000 t)
theorem cut_map (xs : List Int) (a b : Nat) (ha : a ≤ xs.length) (hb : b ≤ xs.length) : cutV (xs.map V.int) (some ((a : Nat) : Int)) (some ((b : Nat) : Int)) = ((xs.drop a).take (b - a)).map V.int := by
  unfold cutV
  rw [HT.sIx_nat, HT.sIx_nat, List.length_map, Nat.min_eq_left ha, Nat.min_eq_left hb, List.map_take, List.map_drop]
theorem atI_mapM {xs : List Int} {i : Nat} (hi : i < xs.length) : atI (xs.map V.int) (i : Int) = some (V.int (xs.getD i 0)) := by
  refine atI_nat ?_
  rw [List.getElem?_map, List.getD_eq_getElem?_getD, List.getElem?_eq_getElem hi]; rfl
theorem boot_isinst' : bootBuiltins "isinstance" = some (.builtin "isinstance") := by decide +kernel
theorem boot_all' : bootBuiltins "all" = some (.builtin "all") := by decide +kernel
theorem boot_sorted' : bootBuiltins "sorted" = some (.builtin "sorted") := by decide +kernel
theorem boot_sum' : bootBuiltins "sum" = some (.builtin "sum") := by decide +kernel
theorem boot_any' : bootBuiltins "any" = some (.builtin "any") := by decide +kernel
theorem boot_int' : bootBuiltins "int" = some (.type "int") := by decide +kernel
theorem boot_bool' : bootBuiltins "bool" = some (.type "bool") := by decide +kernel
theorem boot_list' : bootBuiltins "list" = some (.type "list") := by decide +kernel
theorem boot_tuple' : bootBuiltins "tuple" = some (.type "tuple") := by decide +kernel
theorem kit_ii (K : PySem.W.Frag) : PySem.W.kitOne K (.type "int") (.type "int") = some true := by rfl
theorem kit_ib (K : PySem.W.Frag) : PySem.W.kitOne K (.type "int") (.type "bool") = some false := by with_unfolding_all rfl
theorem kit_ll (K : PySem.W.Frag) : PySem.W.kitOne K (.type "list") (.type "list") = some true := by rfl
theorem kit_tt (K : PySem.W.Frag) : PySem.W.kitOne K (.type "tuple") (.type "tuple") = some true := by rfl
theorem kit_bb (K : PySem.W.Frag) : PySem.W.kitOne K (.type "bool") (.type "bool") = some true := by rfl
def Hts (ns : List Int) : Prop := ns.length ≤ 100 ∧ ∀ x ∈ ns, 0 ≤ x ∧ x ≤ 10000000
theorem getD_ht {xs : List Int} (hh : Hts xs) {i : Nat} (hi : i < xs.length) : 0 ≤ xs.getD i 0 ∧ xs.getD i 0 ≤ 10000000 := by
  have : xs.getD i 0 = xs[i] := by simp [List.getD_eq_getElem?_getD, List.getElem?_eq_getElem hi]
  rw [this]; exact hh.2 _ (List.getElem_mem _)
/-- a new list of ints comes back, nothing else is touched -/
def newL (H : Hp) (Q : VK) (ns : List Int) : Prop := ∀ (l : Addr) (H' : Hp), H l = none → Same H H' → IL H' l ns → Q (.ref l) H'
abbrev cst (st : List Nat) : List Int := st.map fun (j : Nat) => (j : Int)
/-- a list of pairs of ints at l -/
def TL (H : Hp) (l : Addr) (prs : List (Int × Int)) : Prop := ∃ ps : List Addr, H l = some (.lst (ps.map V.ref)) ∧ ps.length = prs.length ∧ ∀ (j : Nat) (p : Addr), ps[j]? = some p → ∃ q, prs[j]? = some q ∧ H p = some (.tup [.int q.1, .int q.2])
theorem TL.same {H H' : Hp} {l : Addr} {prs : List (Int × Int)} (h : TL H l prs) (s : Same H H') : TL H' l prs := by
  obtain ⟨ps, a, b, c⟩ := h
  exact ⟨ps, s _ _ a, b, fun j p e => by obtain ⟨q, c1, c2⟩ := c j p e; exact ⟨q, c1, s _ _ c2⟩⟩
def newTL (H : Hp) (Q : VK) (prs : List (Int × Int)) : Prop := ∀ (l : Addr) (H' : Hp), H l = none → Same H H' → TL H' l prs → Q (.ref l) H'
/-! ### what the defs promise -/
def spWithin : Sp := fun vs H Q _ => ∃ i lo hi : Int, vs = [.int i, .int lo, .int hi] ∧ Q (.bl (decide (lo ≤ i ∧ i ≤ hi))) H
def spPlace : Sp := fun vs H Q _ => ∃ (a : Addr) (xs : List Int) (i : Int), vs = [.ref a, .int i] ∧ IL H a xs ∧ 0 ≤ i ∧ i < xs.length ∧ Q (.bl true) H
def spChk : Sp := fun vs H Q _ => ∃ (a : Addr) (xs : List Int), vs = [.ref a] ∧ IL H a xs ∧ Hts xs ∧ ∀ H', Same H H' → Q .non H'
def spChk2 : Sp := fun vs H Q _ => ∃ (a : Addr) (xs : List Int) (i j : Int), vs = [.ref a, .int i, .int j] ∧ IL H a xs ∧ (0 ≤ i ∧ i < xs.length) ∧ (0 ≤ j ∧ j < xs.length) ∧ i ≠ j ∧ Q .non H
def spAhead : Sp := fun vs H Q _ => ∃ (a : Addr) (xs : List Int), vs = [.ref a] ∧ IL H a xs ∧ Hts xs ∧ newL H Q (counts xs)
def spSees : Sp := fun vs H Q _ => ∃ (a : Addr) (xs : List Int) (i j : Nat), vs = [.ref a, .int i, .int j] ∧ IL H a xs ∧ Hts xs ∧ i < xs.length ∧ j < xs.length ∧ i ≠ j ∧ ∀ H', Same H H' → Q (.bl (seesB xs i j)) H'
def spBars (K : PySem.W.Frag) : Sp := fun vs H Q _ => ∃ (a : Addr) (ns : List Int), vs = [.ref a] ∧ SqL K H a (ns.map V.int) ∧ ns.length ≤ 63 ∧ ∀ bs : List Int, bs.length = ns.length → Hts bs → newL H Q bs
def spNums : Sp := fun vs H Q _ => ∃ (a : Addr) (xs : List Int), vs = [.ref a] ∧ IL H a xs ∧ xs.length ≤ 100 ∧ ∀ H', Same H H' → Q (.bl true) H'
def spSeen : Sp := fun vs H Q _ => ∃ (a : Addr) (xs : List Int) (p : Nat), vs = [.ref a, .int p] ∧ IL H a xs ∧ p < xs.length ∧ xs.length ≤ 100 ∧ newL H Q (seenF xs (xs.getD p 0) p (-1))
def spStarts : Sp := fun vs H Q _ => ∃ (a : Addr) (xs : List Int), vs = [.ref a] ∧ IL H a xs ∧ xs.length ≤ 100 ∧ newL H Q (starts xs)
def spTurned : Sp := fun vs H Q _ => ∃ (a : Addr) (xs : List Int), vs = [.ref a] ∧ IL H a xs ∧ xs.length ≤ 100 ∧ newL H Q (xs.reverse.map fun s => ((xs.length : Int) - 1) - s)
def spEnds : Sp := fun vs H Q _ => ∃ (a : Addr) (xs : List Int), vs = [.ref a] ∧ IL H a xs ∧ xs.length ≤ 100 ∧ newL H Q (ends xs)
def spReach : Sp := fun vs H Q _ => ∃ (a : Addr) (xs : List Int), vs = [.ref a] ∧ IL H a xs ∧ Hts xs ∧ newTL H Q (reachP xs)
/-- a Board's attributes, in the order in which __init__ stores them -/
def bfl (f m h : Int) (ar : Addr) : List (Str × V) := putF "around" (.ref ar) (putF "high" (.int h) (putF "many" (.int m) (putF "first" (.int f) [])))
theorem bfl_first (f m h : Int) (ar : Addr) : (bfl f m h ar).lookup ("first" : Str) = some (.int f) := by
  unfold bfl; rw [lookup_putF, if_neg (by decide +kernel), lookup_putF, if_neg (by decide +kernel), lookup_putF, if_neg (by decide +kernel), lookup_putF, if_pos rfl]
theorem bfl_many (f m h : Int) (ar : Addr) : (bfl f m h ar).lookup ("many" : Str) = some (.int m) := by
  unfold bfl; rw [lookup_putF, if_neg (by decide +kernel), lookup_putF, if_neg (by decide +kernel), lookup_putF, if_pos rfl]
theorem bfl_high (f m h : Int) (ar : Addr) : (bfl f m h ar).lookup ("high" : Str) = some (.int h) := by
  unfold bfl; rw [lookup_putF, if_neg (by decide +kernel), lookup_putF, if_pos rfl]
theorem bfl_around (f m h : Int) (ar : Addr) : (bfl f m h ar).lookup ("around" : Str) = some (.ref ar) := by
  unfold bfl; rw [lookup_putF, if_pos rfl]
theorem bfl_no (f m h : Int) (ar : Addr) {x : Str} (h1 : ¬ x = "around") (h2 : ¬ x = "high") (h3 : ¬ x = "many") (h4 : ¬ x = "first") : (bfl f m h ar).lookup x = none := by
  unfold bfl; rw [lookup_putF, if_neg h1, lookup_putF, if_neg h2, lookup_putF, if_neg h3, lookup_putF, if_neg h4]; rfl
structure BCls (K : PySem.W.Frag) (C : Addr) : Prop where
  cl : Cls K C
  n1 : NoAttr K C "first"
  n2 : NoAttr K C "many"
  n3 : NoAttr K C "high"
  n4 : NoAttr K C "around"
def spInit (C : Addr) : Sp := fun vs H Q _ => ∃ (p dx l : Addr) (f m h : Int) (ps : List Addr), vs = [.ref p, .int f, .int m, .int h, .ref l] ∧ H p = some (.ins C dx []) ∧ H l = some (.lst (ps.map V.ref)) ∧
  ∀ (ar : Addr) (H' : Hp), H ar = none → H' p = some (.ins C dx (bfl f m h ar)) → H' ar = some (.lst (ps.map V.ref)) → (∀ b o, H b = some o → b ≠ p → H' b = some o) → Q .non H'
def spCount : Sp := fun vs H Q _ => ∃ (t : Addr) (p q : Int), vs = [.ref t] ∧ H t = some (.tup [.int p, .int q]) ∧ Q (.int (cntP (p, q))) H
def spEndsAt : Sp := fun vs H Q _ => ∃ (a t : Addr) (xs : List Int) (i : Nat) (p q : Int), vs = [.ref a, .int (i : Nat), .ref t] ∧ IL H a xs ∧ i < xs.length ∧ H t = some (.tup [.int p, .int q]) ∧ Q (.bl (endsB xs i (p, q))) H
def spLies (C : Addr) : Sp := fun vs H Q _ => ∃ (p dx ar a : Addr) (f m h : Int) (xs : List Int), vs = [.ref p, .ref a] ∧ H p = some (.ins C dx (bfl f m h ar)) ∧ IL H a xs ∧ xs.length ≤ 100 ∧ ∀ H', Same H H' → Q (.bl (underB xs f m h)) H'
def spNone (C : Addr) : Sp := fun vs H Q _ => ∃ (p dx ar a : Addr) (f m h : Int) (xs : List Int) (prs : List (Int × Int)), vs = [.ref p, .ref a] ∧ H p = some (.ins C dx (bfl f m h ar)) ∧ TL H ar prs ∧ prs.length ≤ 200 ∧ IL H a xs ∧ Hts xs ∧ (-(2 ^ 64) < h ∧ h < 2 ^ 64) ∧ ∀ H', Same H H' → Q (.bl (ngB xs m h prs)) H'
def spShows (C : Addr) : Sp := fun vs H Q _ => ∃ (p dx ar a : Addr) (f m h : Int) (xs : List Int) (prs : List (Int × Int)), vs = [.ref p, .ref a] ∧ H p = some (.ins C dx (bfl f m h ar)) ∧ TL H ar prs ∧ prs.length ≤ 200 ∧ IL H a xs ∧ Hts xs ∧ (-(2 ^ 64) < h ∧ h < 2 ^ 64) ∧ ∀ H', Same H H' → Q (.bl (underB xs f m h && ngB xs m h prs)) H'
abbrev cntR (xs : List Int) (i : Nat) : Int := cntP (((stN xs i : Nat) : Int), ((enN xs i : Nat) : Int))
def spBoard (C : Addr) : Sp := fun vs H Q _ => ∃ (a : Addr) (xs : List Int), vs = [.ref a] ∧ IL H a xs ∧ Hts xs ∧ xs ≠ [] ∧
  ∀ (m : Nat) (p dx ar : Addr) (H' : Hp), Best xs m → H p = none → H ar = none → Same H H' → H' p = some (.ins C dx (bfl ((stN xs m : Nat) : Int) (cntR xs m) (xs.getD m 0) ar)) → TL H' ar (reachP xs) → Q (.ref p) H'
def spFrom : Sp := fun vs H Q _ => ∃ (a : Addr) (xs : List Int) (f m : Nat), vs = [.ref a, .int (f : Nat)] ∧ IL H a xs ∧ Hts xs ∧ f < xs.length ∧ Best xs m ∧ ∀ v : Int, v ≤ xs.getD m 0 * cntR xs m → Q (.int v) H
def spLaw (K : PySem.W.Frag) : Sp := fun vs H Q _ => ∃ (a : Addr) (ns : List Int), vs = [.ref a] ∧ SqL K H a (ns.map V.int) ∧ ns.length ≤ 63 ∧ ∀ H', Q (.bl true) H'
/-- a def of the text as the top has left it -/
structure DefIn (K : PySem.W.Frag) (x : Str) (st : Stmt) (f : Addr) : Prop where
  ns : PySem.W.nsIn K mainGlobals x = some (some (.ref f))
  fn : ∃ fd, Fun K x x st f fd
theorem def_mk {K : PySem.W.Frag} {x : Str} {st : Stmt} {f : Addr} {oc : Value} {od an : Option Addr} {osl : Array (Option Value)} {kV doc pm cdv ct : Value} (a : PySem.W.nsIn K mainGlobals x = some (some (.ref f)))
    (l : K.lookup f = some ⟨oc, od, .func (PySem.W.fnOf x x (defArgs st) (defBody st) (defScope st) .none kV doc pm an cdv ct), osl⟩) (c : PySem.W.codeIn K cdv x = true) (k : PySem.W.keepIn K (.ref f) = true) : DefIn K x st f := ⟨a, _, fun_mk l c k⟩
/-- the promise of the law by its walk -/
theorem walk (k : Nat) {l : PySem.W.OpenLaw} {q : Program} {loose : List Str} {XP : (Str → Option Value) → Heap → Prop} {YP : World → Heap → Prop} {d : DefRec} {K : Params → PySem.W.Frag} (hr : Room k callerA) (hn : l.most = some 63) (hdf : d.params.defaults = [])
    (hY : ∀ (w : World) (h : Heap), YP w h → (K w.params).In h)
    (F : ∀ (w : World) (mg : Str → Option Value) (fa : Addr) (h : Heap), (K w.params).In h → h.Ns mainGlobals mg → mg d.name = some (.ref fa) →
      ∃ fd : FuncData, (∀ (s : Shared) (u : Value), BindsTo s fd ⟨[u], []⟩ [("_law_script", u)]) ∧ ∀ base : Heap, (K w.params).In base → base.Ns mainGlobals mg → FnOk l.prog w (K w.params) mg base CX0 k fa fd ["_law_script"] (spLaw (K w.params))) :
    PySem.W.WalkO q loose XP YP l.row.toRowW d [] (fun f vs => PySem.call f vs) :=
  L2.walk_of (n := 63) (k := k) (x := "_law_script") (CX := fun _ => CX0) (sp := fun w => spLaw (K w.params)) hn (by decide) hdf hr hY F (fun _ _ a ns hl _ hS => ⟨a, ns, rfl, hS, hl, fun _ => rfl⟩) fun _ _ _ _ _ z => z
end Sky

namespace Sky
open PySem L2
/-- an own class whose instances isinstance may be asked of -/
structure IsC (K : PySem.W.Frag) (C : Addr) : Prop where
  cl : Cls K C
  ha : PySem.W.findIn K (.ref C) "__class__" = some (some (.builtin "object.__class__"))
  hn : PySem.W.specialIn K (.builtin "object.__class__") "__get__" = some (some (.builtin "getset_descriptor.__get__"))
  htk : PySem.W.takesIn K (.builtin "object.__class__") = some true
  hm : PySem.W.mroIn K C (.type "object") = some true
theorem IsC.ty {K : PySem.W.Frag} {C a dx : Addr} {H : Hp} {fs : List (Str × V)} (c : IsC K C) (e : H a = some (.ins C dx fs)) : TyOf K H (.ref a) (.ref C) := .ins e c.cl c.ha c.hn c.htk c.hm
theorem iteN {c A B : Prop} [Decidable c] (hc : ¬ c) (h : B) : if c then A else B := by rw [if_neg hc]; exact h
theorem iteP {c A B : Prop} [Decidable c] (hc : c) (h : A) : if c then A else B := by rw [if_pos hc]; exact h
theorem iteD {c : Prop} {A B : Prop} [Decidable c] (hc : ¬ c) (h : B) : if decide c = true then A else B := by rw [if_neg (fun z => hc (of_decide_eq_true z))]; exact h
theorem iteE {c : Prop} {A B : Prop} [Decidable c] (hc : c) (h : A) : if decide c = true then A else B := by rw [if_pos (decide_eq_true hc)]; exact h
theorem dec_int' (i j : Int) : decide (V.int i = V.int j) = decide (i = j) := by
  by_cases e : i = j
  · subst e; simp
  · rw [decide_eq_false e, decide_eq_false (fun z => e (V.int.inj z))]
def spRight (C : Addr) : Sp := fun vs H Q _ => ∃ (p dx ar a : Addr) (mi : Nat) (xs : List Int), vs = [.ref a, .ref p] ∧ H p = some (.ins C dx (bfl ((stN xs mi : Nat) : Int) (cntR xs mi) (xs.getD mi 0) ar)) ∧ TL H ar (reachP xs) ∧ IL H a xs ∧ Hts xs ∧ Best xs mi ∧ ∀ H', Same H H' → Q (.bl true) H'
end Sky
namespace Sky
open PySem L2
/-- a method of an own class as the top has left it -/
structure MethIn (K : PySem.W.Frag) (C : Addr) (m qual : Str) (st : Stmt) (f : Addr) : Prop where
  find : PySem.W.findIn K (.ref C) m = some (some (.ref f))
  isfn : PySem.W.isFn K (.ref f) = true
  kp : PySem.W.keepIn K (.ref f) = true
  fn : ∃ fd, Fun K m qual st f fd
theorem meth_mk {K : PySem.W.Frag} {C : Addr} {m qual : Str} {st : Stmt} {f : Addr} {oc : Value} {od an : Option Addr} {osl : Array (Option Value)} {kV doc pm cdv ct : Value} (a : PySem.W.findIn K (.ref C) m = some (some (.ref f))) (i : PySem.W.isFn K (.ref f) = true)
    (l : K.lookup f = some ⟨oc, od, .func (PySem.W.fnOf m qual (defArgs st) (defBody st) (defScope st) .none kV doc pm an cdv ct), osl⟩) (c : PySem.W.codeIn K cdv qual = true) (k : PySem.W.keepIn K (.ref f) = true) : MethIn K C m qual st f := ⟨a, i, k, _, fun_mk l c k⟩
theorem MethIn.meth {K : PySem.W.Frag} {C : Addr} {m qual : Str} {st : Stmt} {f : Addr} (h : MethIn K C m qual st f) : Meth K C m f := ⟨h.find, h.isfn, h.kp⟩
/-- what isinstance asks of an own class -/
structure ClsIn (K : PySem.W.Frag) (C : Addr) : Prop where
  pg : PySem.W.plainGet K C Str.empty = true
  hd : PySem.W.hasDictIn K C = true
  po : PySem.W.plainOver K C = true
  sa : PySem.W.findIn K (.ref C) "__setattr__" = some (some (.builtin "object.__setattr__"))
  ha : PySem.W.findIn K (.ref C) "__class__" = some (some (.builtin "object.__class__"))
  hn : PySem.W.specialIn K (.builtin "object.__class__") "__get__" = some (some (.builtin "getset_descriptor.__get__"))
  htk : PySem.W.takesIn K (.builtin "object.__class__") = some true
  hm : PySem.W.mroIn K C (.type "object") = some true
theorem ClsIn.cl {K : PySem.W.Frag} {C : Addr} (c : ClsIn K C) : Cls K C := ⟨c.pg, c.hd, c.po, c.sa⟩
theorem ClsIn.isC {K : PySem.W.Frag} {C : Addr} (c : ClsIn K C) : IsC K C := ⟨c.cl, c.ha, c.hn, c.htk, c.hm⟩
end Sky

namespace L2
open PySem PySem.Spec PyProof.Rows
/-! ### data compared: lists and tuples of ints, bools, texts, to any depth -/
mutual
inductive Dat (K : PySem.W.Frag) (H : Hp) : V → PyData → Prop where
  | non : Dat K H .non .none
  | bl (b : Bool) : Dat K H (.bl b) (.bool b)
  | int (i : Int) : Dat K H (.int i) (.int i)
  | str (x : Str) : Dat K H (.str x) (.str x)
  | lst {a : Addr} {xs : List V} {ds : List PyData} (h : SqL K H a xs) (d : DatAll K H xs ds) : Dat K H (.ref a) (.list ds)
  | tup {a : Addr} {xs : List V} {ds : List PyData} (h : SqT K H a xs) (d : DatAll K H xs ds) : Dat K H (.ref a) (.tuple ds)
inductive DatAll (K : PySem.W.Frag) (H : Hp) : List V → List PyData → Prop where
  | nil : DatAll K H [] []
  | cons {x : V} {d : PyData} {xs : List V} {ds : List PyData} (h : Dat K H x d) (t : DatAll K H xs ds) : DatAll K H (x :: xs) (d :: ds)
end
section
variable {X : Cx} {pins : List (Addr × Obj)} {σ : St} {H : Hp} {s : Shared}
mutual
theorem Dat.reads (I : Inv X pins σ H s) : ∀ {x : V} {d : PyData} {u : Value}, Dat X.K H x d → RelV x u → ∃ as, Reads s.heap u d as
  | _, _, _, .non, r => by cases r; exact ⟨_, .none⟩
  | _, _, _, .bl b, r => by cases r; exact ⟨_, .bool b⟩
  | _, _, _, .int i, r => by obtain ⟨t, rfl⟩ := r; exact ⟨_, .int i t⟩
  | _, _, _, .str z, r => by obtain ⟨t, rfl⟩ := r; exact ⟨_, .str z t⟩
  | _, _, _, .lst h d, r => by
    cases r
    obtain ⟨its, rv, pl, _⟩ := I.list h
    obtain ⟨as, ra⟩ := DatAll.reads I d rv
    obtain ⟨o, ho, hc, n, hd⟩ := id pl.isList
    exact ⟨_, .list ho hc hd ra⟩
  | _, _, _, .tup h d, r => by
    cases r
    obtain ⟨its, rv, pl, _⟩ := I.tuple h
    obtain ⟨as, ra⟩ := DatAll.reads I d rv
    obtain ⟨o, ho, hc, n, hd⟩ := id pl
    exact ⟨_, .tuple ho hc hd ra⟩
theorem DatAll.reads (I : Inv X pins σ H s) : ∀ {xs : List V} {ds : List PyData} {us : List Value}, DatAll X.K H xs ds → Vals xs us → ∃ as, ReadsAll s.heap us ds as
  | _, _, _, .nil, r => by cases r; exact ⟨_, .nil⟩
  | _, _, _, .cons h t, r => by
    cases r with
    | cons r1 r2 =>
      obtain ⟨as, ra⟩ := Dat.reads I h r1
      obtain ⟨bs, rb⟩ := DatAll.reads I t r2
      exact ⟨_, .cons ra rb⟩
end
/-- x == y, x != y of data of one plain shape -/
def rEqD (K : PySem.W.Frag) (neg : Bool) : R2 := fun x y H Q => ∃ (d e : PyData) (S : Shape), Dat K H x d ∧ Dat K H y e ∧ SeqAt.plainShape S = true ∧ S.has d = true ∧ S.has e = true ∧ SeqAt.shaped d = true ∧ SeqAt.shaped e = true ∧
  Q (.bl (if neg then !PySem.Spec.same d e else PySem.Spec.same d e)) H
theorem op_eqD {X : Cx} (hu : X.A.units + 64 < cLine) : OpR X (compareOp .Eq) (rEqD X.K false) := by
  intro pins s σ H x y v u Q I rx ry h
  obtain ⟨d, e, S, hd, he, hp, h1, h2, h3, h4, q⟩ := h
  obtain ⟨as, ra⟩ := hd.reads I rx
  obtain ⟨bs, rb⟩ := he.reads I ry
  exact eq_dataH_same ra rb h3 h4 hu (SeqAt.noMix_of_shape S hp _ _ h1 h2) ⟨.bl (PySem.Spec.same d e), H, I, rfl, q⟩
theorem op_neD {X : Cx} (hu : X.A.units + 64 < cLine) : OpR X (compareOp .NotEq) (rEqD X.K true) := by
  intro pins s σ H x y v u Q I rx ry h
  obtain ⟨d, e, S, hd, he, hp, h1, h2, h3, h4, q⟩ := h
  obtain ⟨as, ra⟩ := hd.reads I rx
  obtain ⟨bs, rb⟩ := he.reads I ry
  exact ne_dataH_same ra rb h3 h4 hu (SeqAt.noMix_of_shape S hp _ _ h1 h2) ⟨.bl (!PySem.Spec.same d e), H, I, rfl, q⟩
end
/-! ### lists of pairs -/
def prD (p : Int × Int) : PyData := .tuple [.int p.1, .int p.2]
theorem prD_lay : ∀ ps : List (Int × Int), PyData.canLayAll0 (ps.map prD) = true
  | [] => rfl
  | _ :: r => by simp [PyData.canLayAll0, PyData.canLay0, prD, prD_lay r]
theorem prD_deep : ∀ ps : List (Int × Int), PyData.depthAll (ps.map prD) ≤ 1
  | [] => by simp [PyData.depthAll]
  | _ :: r => by
    have := prD_deep r
    simp [PyData.depthAll, PyData.depth, prD]
    omega
theorem prD_shaped (ps : List (Int × Int)) : SeqAt.shaped (.list (ps.map prD)) = true := by
  have := prD_deep ps
  simp [SeqAt.shaped, PyData.canLay0, PyData.depth, prD_lay]
  omega
theorem prD_same : ∀ ps qs : List (Int × Int), PySem.Spec.sameAll (ps.map prD) (qs.map prD) = decide (ps = qs)
  | [], [] => by simp [PySem.Spec.sameAll]
  | [], _ :: _ => by simp [PySem.Spec.sameAll]
  | _ :: _, [] => by simp [PySem.Spec.sameAll]
  | (a, b) :: r, (c, d) :: t => by
    simp only [List.map_cons, PySem.Spec.sameAll, prD_same r t]
    simp only [prD, PySem.Spec.same, PySem.Spec.sameAll]
    by_cases h : a = c <;> by_cases h' : b = d <;> by_cases h'' : r = t <;> simp [h, h', h'']
theorem prD_has (ps : List (Int × Int)) : (Shape.list (.tuple [.int, .int])).has (.list (ps.map prD)) = true := by
  simp [Shape.has, prD, Shape.hasAll]
/-- a list of pairs of ints at l -/
def TP2 (K : PySem.W.Frag) (H : Hp) (l : Addr) (prs : List (Int × Int)) : Prop := ∃ ps : List Addr, SqL K H l (ps.map V.ref) ∧ ps.length = prs.length ∧ ∀ (j : Nat) (p : Addr), ps[j]? = some p → ∃ q, prs[j]? = some q ∧ SqT K H p [.int q.1, .int q.2]
theorem datAll_pairs {K : PySem.W.Frag} {H : Hp} : ∀ {ps : List Addr} {prs : List (Int × Int)}, ps.length = prs.length → (∀ (j : Nat) (p : Addr), ps[j]? = some p → ∃ q, prs[j]? = some q ∧ SqT K H p [.int q.1, .int q.2]) → DatAll K H (ps.map V.ref) (prs.map prD)
  | [], [], _, _ => .nil
  | [], _ :: _, h, _ => by simp at h
  | _ :: _, [], h, _ => by simp at h
  | p :: ps, q :: prs, hl, h => by
    obtain ⟨q', e, hq⟩ := h 0 p rfl
    cases Option.some.inj (show some q = some q' from e)
    exact .cons (.tup hq (.cons (.int _) (.cons (.int _) .nil))) (datAll_pairs (by simpa using hl) fun j p' e => h (j + 1) p' e)
theorem TP2.dat {K : PySem.W.Frag} {H : Hp} {l : Addr} {prs : List (Int × Int)} (h : TP2 K H l prs) : Dat K H (.ref l) (.list (prs.map prD)) := by
  obtain ⟨ps, h1, h2, h3⟩ := h
  exact .lst h1 (datAll_pairs h2 h3)
def rEqP (K : PySem.W.Frag) (neg : Bool) : R2 := fun x y H Q => ∃ (a b : Addr) (ps qs : List (Int × Int)), x = .ref a ∧ y = .ref b ∧ TP2 K H a ps ∧ TP2 K H b qs ∧ Q (.bl (if neg then !decide (ps = qs) else decide (ps = qs))) H
theorem op_eqP {X : Cx} (hu : X.A.units + 64 < cLine) : OpR X (compareOp .Eq) (rEqP X.K false) := by
  intro pins s σ H x y v u Q I rx ry h
  obtain ⟨a, b, ps, qs, rfl, rfl, ha, hb, q⟩ := h
  refine op_eqD hu pins s σ H _ _ v u Q I rx ry ⟨_, _, .list (.tuple [.int, .int]), ha.dat, hb.dat, rfl, prD_has ps, prD_has qs, prD_shaped ps, prD_shaped qs, ?_⟩
  rw [show PySem.Spec.same (.list (ps.map prD)) (.list (qs.map prD)) = decide (ps = qs) by rw [PySem.Spec.same]; exact prD_same ps qs]
  exact q
theorem op_neP {X : Cx} (hu : X.A.units + 64 < cLine) : OpR X (compareOp .NotEq) (rEqP X.K true) := by
  intro pins s σ H x y v u Q I rx ry h
  obtain ⟨a, b, ps, qs, rfl, rfl, ha, hb, q⟩ := h
  refine op_neD hu pins s σ H _ _ v u Q I rx ry ⟨_, _, .list (.tuple [.int, .int]), ha.dat, hb.dat, rfl, prD_has ps, prD_has qs, prD_shaped ps, prD_shaped qs, ?_⟩
  rw [show PySem.Spec.same (.list (ps.map prD)) (.list (qs.map prD)) = decide (ps = qs) by rw [PySem.Spec.same]; exact prD_same ps qs]
  exact q
/-! ### comprehensions with a test -/
/-- one name, a range, a test -/
theorem lc_rangeF {lo : Int} {n : Nat} {σ : St} {cap : List Nat} {tc : Fam TT} {te : Fam TE} {D : Addr} {H1 : Hp} {Q : VK} (Pv : Nat → Hp → List V → Prop) (h0 : Pv 0 (upd H1 D (.lst [])) [])
    (hl : ∀ i H ys, i ≤ n → Pv i H ys → H D = some (.lst ys))
    (hs : ∀ i H ys, i < n → Pv i H ys → ∀ C s H0 fp, tc C s H0 fp ((capS σ 1 cap).set 0 (some (.int (lo + i)))) H fun b H5 => if b = true then te C s H0 fp ((capS σ 1 cap).set 0 (some (.int (lo + i)))) H5 (fun y H6 => H6 D = some (.lst ys) ∧ ys.length < sizeLine ∧ (i + 1 ≤ n ∧ Pv (i + 1) (upd H6 D (.lst (ys ++ [y]))) (ys ++ [y]))) else (i + 1 ≤ n ∧ Pv (i + 1) H5 ys))
    (hd : ∀ H ys, Pv n H ys → Q (.ref D) H) : LcGoal (Itr lo n) (capS σ 1 cap) g1 tc te D H1 Q := by
  unfold LcGoal
  refine ⟨n, fun i H ys => i ≤ n ∧ Pv i H ys, ⟨Nat.zero_le _, h0⟩, ?_⟩
  rintro i H2 ys ⟨hi, p⟩
  refine ⟨hi, hl i H2 ys hi p, ?_⟩
  by_cases hlt : i < n
  · refine .inr ⟨hlt, hlt, fun C s H0 fp x H3 y => ?_⟩
    obtain ⟨e, y⟩ := y
    subst e y
    exact ⟨ext_set0 σ 0 cap _, hs i H3 ys hlt p C s H0 fp⟩
  · have e : i = n := by omega
    subst e
    exact .inl ⟨Nat.le_refl _, hd H2 ys p⟩
end L2

namespace L2
open PySem PySem.Spec PyProof.Rows
/-! ### max(xs, default = d) -/
section
variable {prog : Program} {w : World} {A : Around}
theorem fun_treeK {id : String} {b : Builtin} {args : List Value} {kw : List (Str × Value)} {E : Value → Shared → Prop} {s : Shared} {Q : Value → Shared → Prop} (hk : builtinKind id = none) (hp : plainId id = true) (hb : entryFor table id = some b) (ha : argsOk id ⟨args, kw⟩)
    (hc : wpAny (model prog w) A.in1 (b ⟨args, kw⟩) (fun fin s' => match fin with
      | .done f => (match (Except.ok f : Result) with | .ok (.ret v) => Q v s' | .ok _ => False | .error e => E e s')
      | .again c' => c'.quiet = true ∧ codeAny (model prog w) A c' (fun r s' => match r with | .ok (.ret v) => Q v s' | .ok _ => False | .error e => E e s') s') E s) :
    wpAny (model prog w) A (call (.builtin id) args kw) Q E s := by
  refine wpAny_call (codeAny_call_builtin hp hb ?_)
  simp only [checkBuiltinCall, hk]
  cases hs : Manifest.signature? id with
  | none => exact wpAny_pure hc
  | some sg =>
    have h2 : Bind.checkArgs id sg ⟨args, kw⟩ = pure () := by simpa only [argsOk, hs] using ha
    simp only [h2]
    exact wpAny_pure hc
variable {R : Result → Shared → Prop} {I : Addr} {fp wr : List Addr} {n : Nat} {P : Nat → Value → Prop} {St : Nat → Heap → Prop} {kw : List (Str × Value)}
theorem nm_max : (toString "max" ++ toString ".loop" : String) = "max.loop" := by decide
theorem max_goK (W : Walks prog w A.in1 I fp wr n P St) (bt : Nat → Nat → Bool) (hb : CmpOf prog w A.in1 .Gt P bt) (S : Addr) (nS : S ∉ fp) :
    ∀ (k j : Nat) (s : Shared) (vb : Value) (c : Nat), n - (j + 1) = k → j + 1 ≤ n → St (j + 1) s.heap → P (argBest bt j) vb →
    s.heap.get? S = some { cls := .type "list", dict := none, data := .seq #[vb, vb] c, slots := #[] } →
    (∀ v h' tk, P (argBest bt (n - 1)) v → (∀ b o, b ∉ wr → b ≠ S → s.heap.get? b = some o → h'.get? b = some o) → R (.ok (.ret v)) { s with heap := h', toks := tk }) →
    codeAny (model prog w) A (.builtin "max.loop" ⟨[.ref I, .none, .ref S], kw⟩) R s := by
  have nw : S ∉ wr := fun z => nS (W.sub _ z)
  intro k
  induction k with
  | zero =>
    intro j s vb c hk hj st pb gS out
    have ej : j + 1 = n := by omega
    refine codeAny_builtin F.entry_max_loop ?_
    rw [Around.under_plainId F.plain_max_loop _]
    show wpAny _ A.in1 (seqItems? (.ref S) >>= _) _ _ s
    refine wpAny_bind (wpAny_seqItems gS rfl ?_)
    show wpAny _ A.in1 (tryCatch (pyNext (.ref I)) _ >>= _) _ _ s
    refine wpAny_bind (wpAny_tryCatch (W.done s _ _ (ej ▸ st) fun h1 tk1 keep => ?_))
    have gS1 := keep S _ nw gS
    show wpAny _ A.in1 (updateSeq S (fun _ => #[]) >>= _) _ _ _
    refine wpAny_bind ?_
    refine wpAny_updateSeq gS1 rfl (wpAny_bind (wpAny_letGo (wpAny_pure ?_)))
    refine out vb _ tk1 (by rw [← ej]; exact pb) fun b o hw hS e => ?_
    exact (Heap.get?_update_other _ _ (Ne.symm hS)).trans (keep b o hw e)
  | succ k ih =>
    intro j s vb c hk hj st pb gS out
    have hlt : j + 1 < n := by omega
    refine codeAny_builtin F.entry_max_loop ?_
    rw [Around.under_plainId F.plain_max_loop _]
    show wpAny _ A.in1 (seqItems? (.ref S) >>= _) _ _ s
    refine wpAny_bind (wpAny_seqItems gS rfl ?_)
    show wpAny _ A.in1 (tryCatch (pyNext (.ref I)) _ >>= _) _ _ s
    refine wpAny_bind (wpAny_tryCatch (W.item (j + 1) s _ _ hlt st fun v h1 tk1 pv st1 keep => ?_))
    have gS1 := keep S _ nw gS
    show wpAny _ A.in1 (tryCatch (holding [v, v] (richCompare .Gt v vb >>= _)) _ >>= _) _ _ _
    refine wpAny_bind (wpAny_tryCatch (wpAny_holding (wpAny_bind (hb (j + 1) (argBest bt j) v vb _ _ _ pv pb ?_))))
    refine wpAny_bind (wpAny_holding (wpAny_truthy_bool ?_))
    refine wpAny_bind (wpAny_letGo (wpAny_pure ?_))
    cases q : bt (j + 1) (argBest bt j) with
    | true =>
      simp only [if_true]
      refine wpAny_bind ?_
      refine wpAny_updateSeq gS1 rfl (wpAny_bind (wpAny_letGo ?_))
      rw [nm_max]
      refine wpAny_pure ⟨plainId_quiet F.plain_max_loop _, ih (j + 1) _ v _ (by omega) hlt (W.frame _ _ _ st1 fun b hf o e => ?_) (by simp only [argBest, q, if_true]; exact pv) (Heap.get?_update_self _ gS1 rfl) fun v2 h2 tk2 p2 keep2 => ?_⟩
      · exact (Heap.get?_update_other _ _ (fun z : S = b => nS (by rw [z]; exact hf))).trans e
      · exact out v2 h2 tk2 p2 fun b o hw hS e => keep2 b o hw hS ((Heap.get?_update_other _ _ (Ne.symm hS)).trans (keep b o hw e))
    | false =>
      simp only [Bool.false_eq_true, if_false]
      refine wpAny_bind (wpAny_letGo ?_)
      rw [nm_max]
      refine wpAny_pure ⟨plainId_quiet F.plain_max_loop _, ih (j + 1) _ vb c (by omega) hlt st1 (by simp only [argBest, q, Bool.false_eq_true, if_false]; exact pb) gS1 fun v2 h2 tk2 p2 keep2 => ?_⟩
      exact out v2 h2 tk2 p2 fun b o hw hS e => keep2 b o hw hS (keep b o hw e)
theorem max_oneK (W : Walks prog w A.in1 I fp wr n P St) (bt : Nat → Nat → Bool) (hb : CmpOf prog w A.in1 .Gt P bt) (S : Addr) (nS : S ∉ fp) (hn : 0 < n) {s : Shared} {c : Nat} (st : St 0 s.heap)
    (gS : s.heap.get? S = some { cls := .type "list", dict := none, data := .seq #[] c, slots := #[] })
    (out : ∀ v h' tk, P (argBest bt (n - 1)) v → (∀ b o, b ∉ wr → b ≠ S → s.heap.get? b = some o → h'.get? b = some o) → R (.ok (.ret v)) { s with heap := h', toks := tk }) :
    codeAny (model prog w) A (.builtin "max.loop" ⟨[.ref I, .none, .ref S], kw⟩) R s := by
  have nw : S ∉ wr := fun z => nS (W.sub _ z)
  refine codeAny_builtin F.entry_max_loop ?_
  rw [Around.under_plainId F.plain_max_loop _]
  show wpAny _ A.in1 (seqItems? (.ref S) >>= _) _ _ s
  refine wpAny_bind (wpAny_seqItems gS rfl ?_)
  show wpAny _ A.in1 (tryCatch (pyNext (.ref I)) _ >>= _) _ _ s
  refine wpAny_bind (wpAny_tryCatch (W.item 0 s _ _ hn st fun v h1 tk1 pv st1 keep => ?_))
  have gS1 := keep S _ nw gS
  show wpAny _ A.in1 (updateSeq S (fun _ => #[v, v]) >>= _) _ _ _
  refine wpAny_bind ?_
  refine wpAny_updateSeq gS1 rfl ?_
  rw [nm_max]
  refine wpAny_pure ⟨plainId_quiet F.plain_max_loop _, max_goK W bt hb S nS _ 0 _ v _ rfl hn (W.frame _ _ _ st1 fun b hf o e => ?_) pv (Heap.get?_update_self _ gS1 rfl) fun v2 h2 tk2 p2 keep2 => ?_⟩
  · exact (Heap.get?_update_other _ _ (fun z : S = b => nS (by rw [z]; exact hf))).trans e
  · exact out v2 h2 tk2 p2 fun b o hw hS e => keep2 b o hw hS ((Heap.get?_update_other _ _ (Ne.symm hS)).trans (keep b o hw e))
/-- nothing to walk: the default -/
theorem max_noneK {x : Str} {d : Value} (W : Walks prog w A.in1 I fp wr 0 P St) (S : Addr) (nS : S ∉ fp) {s : Shared} {c : Nat} (st : St 0 s.heap)
    (gS : s.heap.get? S = some { cls := .type "list", dict := none, data := .seq #[] c, slots := #[] })
    (out : ∀ h' tk, (∀ b o, b ∉ wr → s.heap.get? b = some o → h'.get? b = some o) → R (.ok (.ret d)) { s with heap := h', toks := tk }) :
    codeAny (model prog w) A (.builtin "max.loop" ⟨[.ref I, .none, .ref S], [(x, d)]⟩) R s := by
  refine codeAny_builtin F.entry_max_loop ?_
  rw [Around.under_plainId F.plain_max_loop _]
  show wpAny _ A.in1 (seqItems? (.ref S) >>= _) _ _ s
  refine wpAny_bind (wpAny_seqItems gS rfl ?_)
  show wpAny _ A.in1 (tryCatch (pyNext (.ref I)) _ >>= _) _ _ s
  refine wpAny_bind (wpAny_tryCatch (W.done s _ _ st fun h1 tk1 keep => ?_))
  show wpAny _ A.in1 (rule _ >>= fun _ => ret d) _ _ _
  exact wpAny_bind (wpAny_rule (wpAny_pure (out h1 tk1 keep)))
end
theorem args_maxD (a d : Value) : argsOk "max" ⟨[a], [("default", d)]⟩ := by unfold argsOk; kernel_rfl
section
variable {X : Cx} {pins : List (Addr × Obj)} {σ : St} {H : Hp} {s : Shared}
theorem max_default {p : Addr} {d : Value} {ns : List Int} {Q : Value → Shared → Prop} {E : Value → Shared → Prop} (hc : X.calm = true) (I : Inv X pins σ H s) (hq : SqL X.K H p (ns.map V.int))
    (h0 : ns = [] → ∀ h' tk, (∀ b o, s.heap.get? b = some o → h'.get? b = some o) → Q d { s with heap := h', toks := tk })
    (h1 : ns ≠ [] → ∀ M t h' tk, M ∈ ns → (∀ a, a ∈ ns → a ≤ M) → (∀ b o, s.heap.get? b = some o → h'.get? b = some o) → Q (.int M t) { s with heap := h', toks := tk }) :
    wpAny (model X.prog X.w) X.A (call (.builtin "max") [.ref p] [("default", d)]) Q E s := by
  obtain ⟨its, r', pl, hz⟩ := I.list hq
  have hi := intsAre_of r'
  obtain ⟨xs, hx⟩ := hi.allInts.items
  have hl' : s.heap.IsList p (intItems xs) := hx ▸ pl.isList
  have e1 : ns = xs.toList.map (·.1) := by
    rw [← nums_intItems, ← hx]
    exact (show numsOf its.toArray.toList = ns from hi.numsOf).symm
  have hnl : ns.length = xs.size := by rw [e1, List.length_map, Array.length_toList]
  have hh : X.A.handled = none := I.ok.hd hc
  refine fun_treeK F.kind_max F.plain_max F.entry_max (args_maxD _ _) ?_
  show wpAny _ X.A.in1 (Builtin.Builtins.bindParams "max" ["key", "default"] 0 ⟨[], [("default", d)]⟩ >>= _) _ _ s
  refine wpAny_bind (wpAny_of_eq (show Builtin.Builtins.bindParams "max" ["key", "default"] 0 ⟨[], [("default", d)]⟩ = pure [none, some d] from rfl) ?_)
  refine wpAny_bind (wpAny_pure ?_)
  refine wpAny_bind (iter_intList hl' fun s₂ e st hfp hlI => ?_)
  subst e
  refine wpAny_bind (wpAny_newObj_type ?_)
  rw [nm_max]
  have W := Walks.list (prog := X.prog) (w := X.w) (A := X.A.in1) hh s.heap.objs.size p hlI (intItems xs)
  have nS : (s.heap.push { cls := .type "list_iterator", data := .fields #[.ref p, .int 0 0] }).objs.size ∉ [s.heap.objs.size, p] := fun z => Nat.lt_irrefl _ (hfp _ z)
  have keepAll : ∀ {h' : Heap}, (∀ b o, b ∉ [s.heap.objs.size] → b ≠ (s.heap.push { cls := .type "list_iterator", data := .fields #[.ref p, .int 0 0] }).objs.size →
      ((s.heap.push { cls := .type "list_iterator", data := .fields #[.ref p, .int 0 0] }).push { cls := .type "list", data := .seq #[] }).get? b = some o → h'.get? b = some o) → ∀ b o, s.heap.get? b = some o → h'.get? b = some o := fun {h'} k b o e => by
    have hb := Heap.lt_size e
    refine k b o (fun z => ?_) (fun z => ?_) (Heap.get?_push_of_some _ (Heap.get?_push_of_some _ e))
    · have : b = s.heap.objs.size := by simpa using z
      exact absurd hb (by rw [this]; exact Nat.lt_irrefl _)
    · rw [Heap.size_push] at z
      exact absurd hb (by rw [z]; exact Nat.not_lt.mpr (Nat.le_succ _))
  by_cases hne : ns = []
  · have hz0 : (intItems xs).size = 0 := by
      have : xs.size = 0 := by rw [← hnl, hne]; rfl
      simpa [intItems] using this
    rw [hz0] at W
    refine wpAny_pure ⟨plainId_quiet F.plain_max_loop _, max_noneK W _ nS (W.frame 0 _ _ st fun b _ o e => Heap.get?_push_of_some _ e) (Heap.get?_push_size _ rfl) fun h' tk keep => ?_⟩
    exact h0 hne h' tk (keepAll fun b o h1 _ e => keep b o h1 e)
  · have hsz : 0 < xs.size := by rw [← hnl]; exact List.length_pos_iff.mpr hne
    refine wpAny_pure ⟨plainId_quiet F.plain_max_loop _, max_oneK W _ (CmpOf.ints_gt (numAt xs) (fun _ _ => intItems_at)) _ nS (by simpa [intItems] using hsz) (W.frame 0 _ _ st fun b _ o e => Heap.get?_push_of_some _ e) (Heap.get?_push_size _ rfl) fun v h' tk hv keep => ?_⟩
    have hv' : (intItems xs)[argBest (fun i j => decide (numAt xs i > numAt xs j)) (xs.size - 1)]? = some v := by simpa [intItems] using hv
    obtain ⟨t, rfl⟩ := intItems_at hv'
    obtain ⟨g1, g2⟩ := argBest_gt (numAt xs) (xs.size - 1)
    refine h1 hne _ t h' tk ?_ (fun a ha => ?_) (keepAll keep)
    · rw [e1, numAt_eq]; exact getD_mem (by rw [List.length_map, Array.length_toList]; omega)
    · rw [e1] at ha
      obtain ⟨j, hj, rfl⟩ := mem_getD ha
      rw [List.length_map, Array.length_toList] at hj
      rw [← numAt_eq]; exact g2 j (by omega)
end
section
variable {X : Cx}
def tMaxD (K : PySem.W.Frag) (ta : TA) (td : TE) : TE := fun σ H Q => ta σ H fun vs H1 => td σ H1 fun dv H2 => ∃ (p : Addr) (ns : List Int) (z : Int), vs = [.ref p] ∧ dv = .int z ∧ SqL K H2 p (ns.map V.int) ∧
  (ns = [] → Q (.int z) H2) ∧ (ns ≠ [] → ∀ M, M ∈ ns → (∀ a, a ∈ ns → a ≤ M) → Q (.int M) H2)
theorem pe_maxD {e d : Expr} {ta : TA} {td : TE} {p kp pos : Pos} (hc : X.calm = true) (hg : Gl X "max") (hm : X.mg "max" = none) (ha : PA X [e] ta) (hd : PE X d td)
    (he : backTo pos (starEach [e] X.env) = (false, eval e X.env) :: backTo pos (starEach [] X.env) := by rfl) (hpl : (backTo pos (starEach [e] X.env)).any (·.1) = false := by rfl)
    (hdb : (("max" : Str) == ("__debug__" : Str)) = false := by decide) : PE X (.Call (.Name "max" p) [e] [⟨some "default", d, kp⟩] pos) (tMaxD X.K ta td) := by
  intro pins s σ H Q I h
  refine wpAny_Call_Name_kw (ld_blt I hg hm boot_max ?_ (by decide) hdb)
  refine callWith_kw (thn (ha pos pins s σ H _ I h) fun us s1 ⟨vs, H1, I1, r1, q1⟩ => kws_cons (thn (hd pins s1 σ H1 _ I1 q1) fun u s2 ⟨dv, H2, I2, r2, q2⟩ => kws_nil ?_)) he hpl rfl rfl
  obtain ⟨p, ns, z, rfl, rfl, hq, q3, q4⟩ := q2
  obtain ⟨u1, rfl, rx⟩ := vals1 r1
  cases rx
  obtain ⟨t, rfl⟩ := r2
  refine max_default hc I2 hq (fun e0 h' tk keep => ⟨.int z, H2, I2.kept keep, ⟨t, rfl⟩, q3 e0⟩) (fun e0 M t h' tk hM hM2 keep => ⟨.int M, H2, I2.kept keep, ⟨t, rfl⟩, q4 e0 M hM hM2⟩)
end
end L2

namespace L2
open PySem PySem.Spec PyProof.Rows
/-! ### lists of new pairs, one by one -/
def PrL (H : Hp) (D : Addr) (ys : List V) (prs : List (Int × Int)) : Prop :=
  H D = some (.lst ys) ∧ ∃ ps : List Addr, ys = ps.map V.ref ∧ ps.length = prs.length ∧ ∀ (j : Nat) (p : Addr), ps[j]? = some p → p ≠ D ∧ ∃ q, prs[j]? = some q ∧ H p = some (.tup [.int q.1, .int q.2])
theorem PrL.nil {H : Hp} {D : Addr} : PrL (upd H D (.lst [])) D [] [] := ⟨upd_same, [], rfl, rfl, fun j p e => by simp at e⟩
theorem PrL.len {H : Hp} {D : Addr} {ys : List V} {prs : List (Int × Int)} (h : PrL H D ys prs) : ys.length = prs.length := by
  obtain ⟨_, ps, rfl, hl, _⟩ := h
  rw [List.length_map]; exact hl
theorem get_snoc {α : Type} {l : List α} {x y : α} {j : Nat} (e : (l ++ [x])[j]? = some y) : (j < l.length ∧ l[j]? = some y) ∨ (j = l.length ∧ x = y) := by
  by_cases hj : j < l.length
  · rw [List.getElem?_append_left hj] at e; exact .inl ⟨hj, e⟩
  · rw [List.getElem?_append_right (by omega)] at e
    have hj2 : j - l.length = 0 := by
      cases q : j - l.length with
      | zero => rfl
      | succ n => rw [q] at e; simp at e
    rw [hj2] at e
    exact .inr ⟨by omega, by simpa using e⟩
theorem PrL.snoc {H H' : Hp} {D t : Addr} {ys : List V} {prs : List (Int × Int)} {q : Int × Int} (h : PrL H D ys prs) (s : Same H H') (nt : H t = none) (ht : H' t = some (.tup [.int q.1, .int q.2])) :
    PrL (upd H' D (.lst (ys ++ [.ref t]))) D (ys ++ [.ref t]) (prs ++ [q]) := by
  obtain ⟨hD, ps, rfl, hl, hp⟩ := h
  have ntD : t ≠ D := fun z => by rw [z, hD] at nt; cases nt
  refine ⟨upd_same, ps ++ [t], by rw [List.map_append]; rfl, by rw [List.length_append, List.length_append, hl]; rfl, fun j p e => ?_⟩
  rcases get_snoc e with ⟨hj, e⟩ | ⟨hj, e⟩
  · obtain ⟨n, q', a1, a2⟩ := hp j p e
    exact ⟨n, q', by rw [List.getElem?_append_left (by omega)]; exact a1, by rw [upd_ne n]; exact s _ _ a2⟩
  · subst e
    exact ⟨ntD, q, by rw [List.getElem?_append_right (by omega), show j - prs.length = 0 by omega]; rfl, by rw [upd_ne ntD]; exact ht⟩
/-- two names over a list of pairs -/
theorem lc_list2 {K : PySem.W.Frag} {a : Addr} {ps : List Addr} {σ : St} {cap : List Nat} {g : Fam TG} {te : Fam TE} {D : Addr} {H1 : Hp} {Q : VK} (hg : Pair2 g) (Pv : Nat → Hp → List V → Prop) (h0 : Pv 0 (upd H1 D (.lst [])) [])
    (hl : ∀ i H ys, i ≤ ps.length → Pv i H ys → SqL K H a (ps.map V.ref) ∧ H D = some (.lst ys))
    (hs : ∀ i p H ys, ps[i]? = some p → Pv i H ys → ∃ x z, H p = some (.tup [x, z]) ∧ ∀ C s H0 fp, te C s H0 fp (((capS σ 2 cap).set 0 (some x)).set 1 (some z)) H fun y H6 => H6 D = some (.lst ys) ∧ ys.length < sizeLine ∧ (i + 1 ≤ ps.length ∧ Pv (i + 1) (upd H6 D (.lst (ys ++ [y]))) (ys ++ [y])))
    (hd : ∀ H ys, Pv ps.length H ys → Q (.ref D) H) : LcGoal (Itl K a) (capS σ 2 cap) g tA te D H1 Q := by
  unfold LcGoal
  refine ⟨ps.length, fun i H ys => i ≤ ps.length ∧ Pv i H ys, ⟨Nat.zero_le _, h0⟩, ?_⟩
  rintro i H2 ys ⟨hi, p⟩
  obtain ⟨q, hD⟩ := hl i H2 ys hi p
  refine ⟨hi, hD, ?_⟩
  by_cases hlt : i < ps.length
  · refine .inr ⟨hlt, ⟨_, V.ref ps[i], q, by rw [List.getElem?_map, List.getElem?_eq_getElem hlt]; rfl⟩, fun C s H0 fp v H3 y => ?_⟩
    obtain ⟨e, y⟩ := y
    subst e
    have hy := y _ q
    rw [List.getElem?_map, List.getElem?_eq_getElem hlt] at hy
    cases Option.some.inj hy
    obtain ⟨x, z, hp, ht⟩ := hs i ps[i] H3 ys (List.getElem?_eq_getElem hlt) p
    refine hg C s H0 fp _ x z _ _ _ hp ⟨ext_set01 σ cap x z, ?_⟩
    show tAlw _ _ _
    unfold tAlw
    dsimp only
    rw [if_pos rfl]
    exact ht C s H0 fp
  · have e : i = ps.length := by omega
    subst e
    exact .inl ⟨⟨_, q, by rw [List.length_map]; exact Nat.le_refl _⟩, hd H2 ys p⟩
end L2

namespace Sky
/-! ### links, shown bars, reaches told backwards -/
def linksL (b : List Int) : List Int := (starts b).map fun s => s - 1
theorem linksL_length (b : List Int) : (linksL b).length = b.length := by simp [linksL, starts_length]
theorem linksL_take {b : List Int} {i : Nat} (hi : i < b.length) : (linksL b).take (i + 1) = (linksL b).take i ++ [((stN b i : Nat) : Int) - 1] := by
  unfold linksL
  rw [← List.map_take, starts_take hi, List.map_append, ← List.map_take]; rfl
def upB (b : List Int) (i : Nat) : Bool := (b.take i).all fun x => decide (x < b.getD i 0)
def mxN (b : List Int) : Nat → Int
  | 0 => -1
  | i + 1 => max (mxN b i) (b.getD i 0)
theorem mxN_ge (b : List Int) : ∀ (n k : Nat), k < n → b.getD k 0 ≤ mxN b n
  | 0, k, h => by omega
  | n + 1, k, h => by
    unfold mxN
    by_cases hk : k = n
    · subst hk; omega
    · have := mxN_ge b n k (by omega); omega
theorem mxN_in (b : List Int) : ∀ n : Nat, mxN b n = -1 ∨ ∃ k, k < n ∧ mxN b n = b.getD k 0
  | 0 => .inl rfl
  | n + 1 => by
    unfold mxN
    by_cases hc : mxN b n ≤ b.getD n 0
    · exact .inr ⟨n, by omega, by omega⟩
    · have e : max (mxN b n) (b.getD n 0) = mxN b n := by omega
      rw [e]
      rcases mxN_in b n with h | ⟨k, h1, h2⟩
      · exact .inl h
      · exact .inr ⟨k, by omega, h2⟩
theorem mem_take {b : List Int} {x : Int} {n : Nat} (h : x ∈ b.take n) : ∃ k, k < n ∧ k < b.length ∧ x = b.getD k 0 := by
  obtain ⟨k, hk, e⟩ := List.getElem_of_mem h
  rw [List.length_take] at hk
  rw [List.getElem_take] at e
  refine ⟨k, by omega, by omega, ?_⟩
  rw [← e]
  simp [List.getD_eq_getElem?_getD, List.getElem?_eq_getElem (by omega : k < b.length)]
theorem take_mem {b : List Int} {k n : Nat} (h1 : k < n) (h2 : k < b.length) : b.getD k 0 ∈ b.take n := by
  refine List.mem_iff_getElem.mpr ⟨k, by rw [List.length_take]; omega, ?_⟩
  rw [List.getElem_take]
  simp [List.getD_eq_getElem?_getD, List.getElem?_eq_getElem h2]
theorem upB_mx {b : List Int} {i : Nat} (hi : i < b.length) (h0 : 0 ≤ b.getD i 0) : upB b i = decide (mxN b i < b.getD i 0) := by
  unfold upB
  by_cases hc : mxN b i < b.getD i 0
  · rw [decide_eq_true hc, List.all_eq_true]
    intro x hx
    obtain ⟨k, h1, h2, rfl⟩ := mem_take hx
    have := mxN_ge b i k h1
    exact decide_eq_true (by omega)
  · rw [decide_eq_false hc]
    refine Bool.eq_false_iff.mpr fun z => hc ?_
    rcases mxN_in b i with h | ⟨k, h1, h2⟩
    · omega
    · have := of_decide_eq_true (List.all_eq_true.mp z _ (take_mem h1 (by omega)))
      omega
/-- the places of the shown ones below n -/
def upN (b : List Int) : Nat → List Int
  | 0 => []
  | i + 1 => if upB b i = true then upN b i ++ [(i : Int)] else upN b i
theorem upN_length (b : List Int) : ∀ n : Nat, (upN b n).length ≤ n
  | 0 => Nat.le_refl _
  | n + 1 => by
    have := upN_length b n
    unfold upN
    split
    · rw [List.length_append]; simp; omega
    · omega
/-- of the row told backwards the reaches backwards -/
theorem reach_rev {b : List Int} {i : Nat} (hi : i < b.length) : stN b.reverse i = b.length - 1 - enN b (b.length - 1 - i) ∧ enN b.reverse i = b.length - 1 - stN b (b.length - 1 - i) := by
  have h1 := stN_le b.reverse i
  have h2 := stN_le b (b.length - 1 - i)
  constructor
  · unfold enN
    rw [show b.length - 1 - (b.length - 1 - i) = i by omega]
    omega
  · unfold enN
    rw [List.reverse_reverse, List.length_reverse]
theorem reachP_rev (b : List Int) : reachP b.reverse = (reachP b).reverse.map fun p => ((b.length : Int) - 1 - p.2, (b.length : Int) - 1 - p.1) := by
  apply List.ext_getElem?
  intro i
  by_cases hi : i < b.length
  · rw [reachP_get (by rw [List.length_reverse]; exact hi), List.getElem?_map, List.getElem?_reverse (by rw [reachP_length]; exact hi), reachP_length, reachP_get (by omega)]
    obtain ⟨e1, e2⟩ := reach_rev hi
    have h2 := stN_le b (b.length - 1 - i)
    have h3 := enN_bounds (b := b) (i := b.length - 1 - i) (by omega)
    rw [e1, e2]
    simp only [Option.map_some, Option.some.injEq, Prod.mk.injEq]
    constructor <;> omega
  · rw [List.getElem?_eq_none (by rw [reachP_length, List.length_reverse]; omega), List.getElem?_eq_none (by rw [List.length_map, List.length_reverse, reachP_length]; omega)]
end Sky

namespace Sky
open PySem L2
theorem TL.tp {K : PySem.W.Frag} {H : Hp} {l : Addr} {prs : List (Int × Int)} (h : TL H l prs) : TP2 K H l prs := by
  obtain ⟨ps, a, b, c⟩ := h
  exact ⟨ps, SqL.of a, b, fun j p e => by obtain ⟨q, c1, c2⟩ := c j p e; exact ⟨q, c1, SqT.of c2⟩⟩
theorem ifT (b : Bool) : (if true = true then !b else b) = !b := by simp
theorem ifF (b : Bool) : (if false = true then !b else b) = b := by simp
theorem iteNeg {c A B : Prop} [Decidable c] (hc : c) (h : B) : if (if true = true then !decide c else decide c) = true then A else B := by rw [ifT, decide_eq_true hc]; exact iteF h
theorem cut_take (xs : List Int) (b : Nat) (hb : b ≤ xs.length) : cutV (xs.map V.int) none (some ((b : Nat) : Int)) = (xs.take b).map V.int := by
  unfold cutV
  rw [HT.sIx_nat, HT.sIx_none, List.length_map, List.drop_zero, Nat.sub_zero, Nat.min_eq_left hb, List.map_take]
theorem atI_map' {xs : List Int} {z : Int} (i : Nat) (e : z = (i : Int)) (hi : i < xs.length) : atI (xs.map V.int) z = some (V.int (xs.getD i 0)) := by rw [e]; exact atI_mapM hi
def spShown : Sp := fun vs H Q _ => ∃ (a : Addr) (xs : List Int), vs = [.ref a] ∧ IL H a xs ∧ Hts xs ∧ newL H Q (upN xs xs.length)
def spNear : Sp := fun vs H Q _ => ∃ (a : Addr) (xs : List Int), vs = [.ref a] ∧ IL H a xs ∧ xs.length ≤ 100 ∧ newL H Q (linksL xs)
def spLinks : Sp := fun vs H Q _ => ∃ (a : Addr) (xs : List Int), vs = [.ref a] ∧ IL H a xs ∧ Hts xs ∧ newL H Q (linksL xs)
def spLReach : Sp := fun vs H Q _ => ∃ (a : Addr) (xs : List Int) (i : Nat), vs = [.ref a, .int (i : Nat)] ∧ IL H a xs ∧ i < xs.length ∧
  ∀ (t : Addr) (H' : Hp), H t = none → Same H H' → H' t = some (.tup [.int ((stN xs i : Nat) : Int), .int ((enN xs i : Nat) : Int)]) → Q (.ref t) H'
end Sky
namespace Sky
open PySem L2
theorem _root_.L2.PrL.tl {H : Hp} {D : Addr} {ys : List V} {prs : List (Int × Int)} (h : PrL H D ys prs) : TL H D prs := by
  obtain ⟨hD, ps, rfl, hl, hp⟩ := h
  exact ⟨ps, hD, hl, fun j p e => by obtain ⟨_, q, a1, a2⟩ := hp j p e; exact ⟨q, a1, a2⟩⟩
theorem reachP_take {b : List Int} {i : Nat} (hi : i < b.length) : (reachP b).take (i + 1) = (reachP b).take i ++ [(((stN b i : Nat) : Int), ((enN b i : Nat) : Int))] := by
  rw [List.take_add_one, reachP_get hi]; rfl
end Sky

namespace Sky
/-! ### water -/
/-- the first of the highest bars to place i -/
def rimA (b : List Int) : Nat → Nat
  | 0 => 0
  | i + 1 => if b.getD (rimA b i) 0 < b.getD (i + 1) 0 then i + 1 else rimA b i
theorem rimA_le (b : List Int) : ∀ i, rimA b i ≤ i
  | 0 => Nat.le_refl _
  | i + 1 => by
    have := rimA_le b i
    unfold rimA
    split <;> omega
theorem rimA_top (b : List Int) : ∀ i k, k ≤ i → b.getD k 0 ≤ b.getD (rimA b i) 0
  | 0, k, h => by
    have e : k = 0 := by omega
    subst e; exact Int.le_refl _
  | i + 1, k, h => by
    unfold rimA
    have ih := rimA_top b i
    split
    · rename_i hc
      by_cases hk : k = i + 1
      · rw [hk]; exact Int.le_refl _
      · have := ih k (by omega); omega
    · rename_i hc
      by_cases hk : k = i + 1
      · rw [hk]; omega
      · exact ih k (by omega)
theorem rimA_first (b : List Int) : ∀ i k, k < rimA b i → b.getD k 0 < b.getD (rimA b i) 0
  | 0, k, h => by simp [rimA] at h
  | i + 1, k, h => by
    unfold rimA at h ⊢
    have ih := rimA_first b i
    have tp := rimA_top b i
    split at h
    · rename_i hc
      rw [if_pos hc]
      have := tp k (by omega); omega
    · rename_i hc
      rw [if_neg hc]
      exact ih k h
theorem rimA_uniq {b : List Int} {i j : Nat} (h1 : j ≤ i) (h2 : ∀ k, k ≤ i → b.getD k 0 ≤ b.getD j 0) (h3 : ∀ k, k < j → b.getD k 0 < b.getD j 0) : j = rimA b i := by
  have a1 := rimA_le b i
  have a2 := rimA_top b i j h1
  have a3 := rimA_first b i
  have a4 := h2 (rimA b i) a1
  rcases Nat.lt_trichotomy j (rimA b i) with h | h | h
  · have := a3 j h; omega
  · exact h
  · have := h3 (rimA b i) h; omega
/-- the last of the highest bars from place i on -/
def rimB (b : List Int) (i : Nat) : Nat := b.length - 1 - rimA b.reverse (b.length - 1 - i)
theorem rimB_bounds {b : List Int} {i : Nat} (hi : i < b.length) : i ≤ rimB b i ∧ rimB b i < b.length := by
  have := rimA_le b.reverse (b.length - 1 - i)
  unfold rimB; omega
theorem getD_rev' {b : List Int} {k : Nat} (hk : k < b.length) : b.reverse.getD k 0 = b.getD (b.length - 1 - k) 0 := by
  have := getD_rev (b := b) (k := b.length - 1 - k) (by omega)
  rw [show b.length - 1 - (b.length - 1 - k) = k by omega] at this
  exact this
theorem rimB_val {b : List Int} {i : Nat} (hi : i < b.length) : b.reverse.getD (rimA b.reverse (b.length - 1 - i)) 0 = b.getD (rimB b i) 0 := by
  have := rimA_le b.reverse (b.length - 1 - i)
  rw [getD_rev' (by omega)]; rfl
theorem rimB_top {b : List Int} {i k : Nat} (hi : i < b.length) (h1 : i ≤ k) (h2 : k < b.length) : b.getD k 0 ≤ b.getD (rimB b i) 0 := by
  have := rimA_top b.reverse (b.length - 1 - i) (b.length - 1 - k) (by omega)
  rw [rimB_val hi, getD_rev h2] at this
  exact this
theorem rimB_last {b : List Int} {i k : Nat} (hi : i < b.length) (h1 : rimB b i < k) (h2 : k < b.length) : b.getD k 0 < b.getD (rimB b i) 0 := by
  have hl := rimA_le b.reverse (b.length - 1 - i)
  have := rimA_first b.reverse (b.length - 1 - i) (b.length - 1 - k) (by unfold rimB at h1; omega)
  rw [rimB_val hi, getD_rev h2] at this
  exact this
theorem rimB_uniq {b : List Int} {i j : Nat} (hi : i < b.length) (h0 : i ≤ j) (h1 : j < b.length) (h2 : ∀ k, i ≤ k → k < b.length → b.getD k 0 ≤ b.getD j 0) (h3 : ∀ k, j < k → k < b.length → b.getD k 0 < b.getD j 0) : j = rimB b i := by
  have a1 := rimB_bounds hi
  have a2 := rimB_top hi h0 h1
  have a4 := h2 (rimB b i) a1.1 a1.2
  rcases Nat.lt_trichotomy j (rimB b i) with h | h | h
  · have := h3 (rimB b i) h a1.2; omega
  · exact h
  · have := rimB_last hi h h1; omega
def rimAL (b : List Int) : List Int := (List.range b.length).map fun i => ((rimA b i : Nat) : Int)
def rimBL (b : List Int) : List Int := (List.range b.length).map fun i => ((rimB b i : Nat) : Int)
def rimsP (b : List Int) : List (Int × Int) := (List.range b.length).map fun i => (((rimA b i : Nat) : Int), ((rimB b i : Nat) : Int))
theorem rimAL_length (b : List Int) : (rimAL b).length = b.length := by simp [rimAL]
theorem rimBL_length (b : List Int) : (rimBL b).length = b.length := by simp [rimBL]
theorem rimsP_length (b : List Int) : (rimsP b).length = b.length := by simp [rimsP]
theorem rimAL_get {b : List Int} {i : Nat} (hi : i < b.length) : (rimAL b)[i]? = some ((rimA b i : Nat) : Int) := by
  unfold rimAL; rw [List.getElem?_map, List.getElem?_range hi]; rfl
theorem rimBL_get {b : List Int} {i : Nat} (hi : i < b.length) : (rimBL b)[i]? = some ((rimB b i : Nat) : Int) := by
  unfold rimBL; rw [List.getElem?_map, List.getElem?_range hi]; rfl
theorem rimsP_get {b : List Int} {i : Nat} (hi : i < b.length) : (rimsP b)[i]? = some (((rimA b i : Nat) : Int), ((rimB b i : Nat) : Int)) := by
  unfold rimsP; rw [List.getElem?_map, List.getElem?_range hi]; rfl
theorem rimAL_take {b : List Int} {i : Nat} (hi : i < b.length) : (rimAL b).take (i + 1) = (rimAL b).take i ++ [((rimA b i : Nat) : Int)] := by rw [List.take_add_one, rimAL_get hi]; rfl
theorem rimBL_take {b : List Int} {i : Nat} (hi : i < b.length) : (rimBL b).take (i + 1) = (rimBL b).take i ++ [((rimB b i : Nat) : Int)] := by rw [List.take_add_one, rimBL_get hi]; rfl
theorem rimsP_take {b : List Int} {i : Nat} (hi : i < b.length) : (rimsP b).take (i + 1) = (rimsP b).take i ++ [(((rimA b i : Nat) : Int), ((rimB b i : Nat) : Int))] := by rw [List.take_add_one, rimsP_get hi]; rfl
theorem rimBL_eq (b : List Int) : (rimAL b.reverse).reverse.map (fun s => ((b.length : Int) - 1) - s) = rimBL b := by
  apply List.ext_getElem?
  intro i
  rw [List.getElem?_map]
  by_cases hi : i < b.length
  · rw [List.getElem?_reverse (by rw [rimAL_length, List.length_reverse]; exact hi), rimAL_length, List.length_reverse, rimAL_get (by rw [List.length_reverse]; omega), rimBL_get hi]
    have := rimA_le b.reverse (b.length - 1 - i)
    simp only [Option.map_some, Option.some.injEq]
    unfold rimB
    omega
  · rw [List.getElem?_eq_none (by rw [List.length_reverse, rimAL_length, List.length_reverse]; omega), List.getElem?_eq_none (by rw [rimBL_length]; omega)]; rfl
def lev (b : List Int) (i : Nat) : Int := min (b.getD (rimA b i) 0) (b.getD (rimB b i) 0)
def levL (b : List Int) : List Int := (List.range b.length).map (lev b)
theorem levL_length (b : List Int) : (levL b).length = b.length := by simp [levL]
theorem levL_get {b : List Int} {i : Nat} (hi : i < b.length) : (levL b)[i]? = some (lev b i) := by
  unfold levL; rw [List.getElem?_map, List.getElem?_range hi]; rfl
theorem levL_getD {b : List Int} {i : Nat} (hi : i < b.length) : (levL b).getD i 0 = lev b i := by
  rw [List.getD_eq_getElem?_getD, levL_get hi]; rfl
theorem levL_take {b : List Int} {i : Nat} (hi : i < b.length) : (levL b).take (i + 1) = (levL b).take i ++ [lev b i] := by rw [List.take_add_one, levL_get hi]; rfl
theorem lev_rev {b : List Int} {i : Nat} (hi : i < b.length) : lev b.reverse i = lev b (b.length - 1 - i) := by
  have hi' : b.length - 1 - i < b.length := by omega
  have e1 : b.reverse.getD (rimA b.reverse i) 0 = b.getD (rimB b (b.length - 1 - i)) 0 := by
    have := rimB_val hi'
    rwa [show b.length - 1 - (b.length - 1 - i) = i by omega] at this
  have e2 : b.reverse.getD (rimB b.reverse i) 0 = b.getD (rimA b (b.length - 1 - i)) 0 := by
    have h := rimA_le b (b.length - 1 - i)
    unfold rimB
    rw [List.reverse_reverse, List.length_reverse, getD_rev' (by omega), show b.length - 1 - (b.length - 1 - rimA b (b.length - 1 - i)) = rimA b (b.length - 1 - i) by omega]
  unfold lev
  rw [e1, e2, Int.min_comm]
theorem levL_rev (b : List Int) : levL b.reverse = (levL b).reverse := by
  apply List.ext_getElem?
  intro i
  by_cases hi : i < b.length
  · rw [levL_get (by rw [List.length_reverse]; exact hi), List.getElem?_reverse (by rw [levL_length]; exact hi), levL_length, levL_get (by omega), lev_rev hi]
  · rw [List.getElem?_eq_none (by rw [levL_length, List.length_reverse]; omega), List.getElem?_eq_none (by rw [List.length_reverse, levL_length]; omega)]
theorem lev_ge {b : List Int} {i : Nat} (hi : i < b.length) : b.getD i 0 ≤ lev b i := by
  have h1 := rimA_top b i i (Nat.le_refl _)
  have h2 := rimB_top hi (Nat.le_refl _) hi
  unfold lev; omega
theorem lev_lev {b : List Int} {i : Nat} (hi : i < b.length) : lev (levL b) i = lev b i := by
  have hi' : i < (levL b).length := by rw [levL_length]; exact hi
  have k1 := rimA_le (levL b) i
  have t1 := rimA_top (levL b) i i (Nat.le_refl _)
  have k2 := rimB_bounds hi'
  have t2 := rimB_top hi' (Nat.le_refl _) hi'
  rw [levL_length] at k2
  rw [levL_getD hi, levL_getD (by omega)] at t1
  rw [levL_getD hi, levL_getD (by omega)] at t2
  have u1 : lev b (rimA (levL b) i) ≤ b.getD (rimA b i) 0 := by
    have a := rimA_top b i (rimA b (rimA (levL b) i)) (by have := rimA_le b (rimA (levL b) i); omega)
    have e : lev b (rimA (levL b) i) = min (b.getD (rimA b (rimA (levL b) i)) 0) (b.getD (rimB b (rimA (levL b) i)) 0) := rfl
    omega
  have u2 : lev b (rimB (levL b) i) ≤ b.getD (rimB b i) 0 := by
    have hb := rimB_bounds (b := b) (i := rimB (levL b) i) (by omega)
    have a := rimB_top hi (k := rimB b (rimB (levL b) i)) (by omega) (by omega)
    have e : lev b (rimB (levL b) i) = min (b.getD (rimA b (rimB (levL b) i)) 0) (b.getD (rimB b (rimB (levL b) i)) 0) := rfl
    omega
  have e1 : lev (levL b) i = min ((levL b).getD (rimA (levL b) i) 0) ((levL b).getD (rimB (levL b) i) 0) := rfl
  have e2 : lev b i = min (b.getD (rimA b i) 0) (b.getD (rimB b i) 0) := rfl
  rw [levL_getD (by omega), levL_getD (by omega)] at e1
  omega
theorem levL_levL (b : List Int) : levL (levL b) = levL b := by
  apply List.ext_getElem?
  intro i
  by_cases hi : i < b.length
  · rw [levL_get (by rw [levL_length]; exact hi), levL_get hi, lev_lev hi]
  · rw [List.getElem?_eq_none (by rw [levL_length, levL_length]; omega), List.getElem?_eq_none (by rw [levL_length]; omega)]
/-- how much there is -/
def watL (b : List Int) : List Int := (List.range b.length).map fun i => lev b i - b.getD i 0
theorem watL_length (b : List Int) : (watL b).length = b.length := by simp [watL]
theorem watL_get {b : List Int} {i : Nat} (hi : i < b.length) : (watL b)[i]? = some (lev b i - b.getD i 0) := by
  unfold watL; rw [List.getElem?_map, List.getElem?_range hi]; rfl
theorem watL_take {b : List Int} {i : Nat} (hi : i < b.length) : (watL b).take (i + 1) = (watL b).take i ++ [lev b i - b.getD i 0] := by rw [List.take_add_one, watL_get hi]; rfl
theorem sum_sub (f g : Nat → Int) : ∀ n : Nat, ((List.range n).map fun i => f i - g i).sum = ((List.range n).map f).sum - ((List.range n).map g).sum
  | 0 => rfl
  | n + 1 => by
    rw [List.range_succ, List.map_append, List.map_append, List.map_append, List.sum_append, List.sum_append, List.sum_append, sum_sub f g n]
    simp
    omega
theorem map_getD (b : List Int) : (List.range b.length).map (fun i => b.getD i 0) = b := by
  apply List.ext_getElem?
  intro i
  by_cases hi : i < b.length
  · rw [List.getElem?_map, List.getElem?_range hi, List.getElem?_eq_getElem hi]
    simp [List.getD_eq_getElem?_getD, List.getElem?_eq_getElem hi]
  · rw [List.getElem?_eq_none (by simp; omega), List.getElem?_eq_none (by omega)]
theorem watL_sum (b : List Int) : (watL b).sum = (levL b).sum - b.sum := by
  have h := sum_sub (lev b) (fun i => b.getD i 0) b.length
  rw [map_getD] at h
  exact h
theorem lev_bounds {b : List Int} {lo hi : Int} (h : ∀ x ∈ b, lo ≤ x ∧ x ≤ hi) {i : Nat} (hi' : i < b.length) : lo ≤ lev b i ∧ lev b i ≤ hi := by
  have g : ∀ k, k < b.length → lo ≤ b.getD k 0 ∧ b.getD k 0 ≤ hi := fun k hk => by
    have : b.getD k 0 = b[k] := by simp [List.getD_eq_getElem?_getD, List.getElem?_eq_getElem hk]
    rw [this]; exact h _ (List.getElem_mem hk)
  have h1 := rimA_le b i
  have h2 := rimB_bounds hi'
  have a1 := g (rimA b i) (by omega)
  have a2 := g (rimB b i) h2.2
  unfold lev; omega
end Sky

namespace Sky
open PySem L2
def spRimA : Sp := fun vs H Q _ => ∃ (a : Addr) (xs : List Int), vs = [.ref a] ∧ IL H a xs ∧ xs.length ≤ 100 ∧ newL H Q (rimAL xs)
def spRimB : Sp := fun vs H Q _ => ∃ (a : Addr) (xs : List Int), vs = [.ref a] ∧ IL H a xs ∧ xs.length ≤ 100 ∧ newL H Q (rimBL xs)
def spRims : Sp := fun vs H Q _ => ∃ (a : Addr) (xs : List Int), vs = [.ref a] ∧ IL H a xs ∧ Hts xs ∧ newTL H Q (rimsP xs)
def spLevels : Sp := fun vs H Q _ => ∃ (a : Addr) (xs : List Int), vs = [.ref a] ∧ IL H a xs ∧ Hts xs ∧ newL H Q (levL xs)
def spWater : Sp := fun vs H Q _ => ∃ (a : Addr) (xs : List Int), vs = [.ref a] ∧ IL H a xs ∧ Hts xs ∧ ∀ H', Same H H' → Q (.int ((levL xs).sum - xs.sum)) H'
theorem cut_drop (xs : List Int) (a : Nat) (ha : a ≤ xs.length) : cutV (xs.map V.int) (some ((a : Nat) : Int)) none = (xs.drop a).map V.int := by
  unfold cutV
  rw [HT.sIx_nat, HT.sIx_none, List.length_map, Nat.min_eq_left ha, ← List.map_drop, List.take_of_length_le (by rw [List.length_map, List.length_drop]; exact Nat.le_refl _)]
theorem mem_drop {b : List Int} {x : Int} {n : Nat} (h : x ∈ b.drop n) : ∃ k, n ≤ k ∧ k < b.length ∧ x = b.getD k 0 := by
  obtain ⟨k, hk, e⟩ := List.getElem_of_mem h
  rw [List.length_drop] at hk
  rw [List.getElem_drop] at e
  refine ⟨n + k, by omega, by omega, ?_⟩
  rw [← e]
  simp [List.getD_eq_getElem?_getD, List.getElem?_eq_getElem (by omega : n + k < b.length)]
theorem drop_mem {b : List Int} {k n : Nat} (h1 : n ≤ k) (h2 : k < b.length) : b.getD k 0 ∈ b.drop n := by
  refine List.mem_iff_getElem.mpr ⟨k - n, by rw [List.length_drop]; omega, ?_⟩
  rw [List.getElem_drop]
  simp [List.getD_eq_getElem?_getD, show n + (k - n) = k by omega, List.getElem?_eq_getElem h2]
theorem getD_get {xs : List Int} {i : Nat} (hi : i < xs.length) : xs[i]? = some (xs.getD i 0) := by
  rw [List.getD_eq_getElem?_getD, List.getElem?_eq_getElem hi]; rfl
end Sky

namespace Sky
/-! ### links and rows -/
def Valid (ls : List Int) : Prop := ∀ i, i < ls.length → -1 ≤ ls.getD i 0 ∧ ls.getD i 0 < (i : Int)
def validB (ls : List Int) : Bool := (List.range ls.length).all fun i => decide (-1 ≤ ls.getD i 0 ∧ ls.getD i 0 ≤ (i : Int) - 1)
theorem validB_of {ls : List Int} (h : Valid ls) : validB ls = true := by
  unfold validB
  rw [List.all_eq_true]
  intro i hi
  have := h i (List.mem_range.mp hi)
  exact decide_eq_true (by omega)
theorem validB_iff {ls : List Int} : validB ls = true ↔ Valid ls := by
  refine ⟨fun h i hi => ?_, validB_of⟩
  unfold validB at h
  have := of_decide_eq_true (List.all_eq_true.mp h i (List.mem_range.mpr hi))
  omega
theorem linksL_get {b : List Int} {i : Nat} (hi : i < b.length) : (linksL b)[i]? = some (((stN b i : Nat) : Int) - 1) := by
  unfold linksL starts
  rw [List.getElem?_map, List.getElem?_map, List.getElem?_range hi]; rfl
theorem linksL_getD {b : List Int} {i : Nat} (hi : i < b.length) : (linksL b).getD i 0 = ((stN b i : Nat) : Int) - 1 := by
  rw [List.getD_eq_getElem?_getD, linksL_get hi]; rfl
theorem linksL_valid (b : List Int) : Valid (linksL b) := fun i hi => by
  rw [linksL_length] at hi
  rw [linksL_getD hi]
  have := stN_le b i
  omega
/-- the walk from place a by links comes to b -/
inductive OnCh (ls : List Int) : Int → Int → Prop where
  | refl (a : Int) : OnCh ls a a
  | step {a b : Int} (h : 0 ≤ a) (t : OnCh ls (ls.getD a.toNat 0) b) : OnCh ls a b
theorem OnCh.le {ls : List Int} (V : Valid ls) {a b : Int} (h : OnCh ls a b) (ha : a < ls.length) : b ≤ a := by
  induction h with
  | refl a => exact Int.le_refl _
  | step h t ih =>
    rename_i a b
    have := V a.toNat (by omega)
    have := ih (by omega)
    omega
/-- the bars of a list of links, as far as place n -/
def dpL (ls : List Int) : Nat → List Int
  | 0 => []
  | n + 1 => dpL ls n ++ [if 0 ≤ ls.getD n 0 then (dpL ls n).getD (ls.getD n 0).toNat 0 + 1 else 0]
theorem dpL_succ (ls : List Int) (n : Nat) : dpL ls (n + 1) = dpL ls n ++ [if 0 ≤ ls.getD n 0 then (dpL ls n).getD (ls.getD n 0).toNat 0 + 1 else 0] := rfl
theorem dpL_length (ls : List Int) : ∀ n, (dpL ls n).length = n
  | 0 => rfl
  | n + 1 => by unfold dpL; rw [List.length_append, dpL_length ls n]; rfl
theorem dpL_getD (ls : List Int) : ∀ (m n k : Nat), n ≤ m → k < n → (dpL ls m).getD k 0 = (dpL ls n).getD k 0
  | 0, n, k, h1, h2 => by omega
  | m + 1, n, k, h1, h2 => by
    by_cases hn : n = m + 1
    · rw [hn]
    · rw [← dpL_getD ls m n k (by omega) h2]
      rw [dpL_succ, List.getD_eq_getElem?_getD, List.getElem?_append_left (by rw [dpL_length]; omega), List.getD_eq_getElem?_getD]
/-- how deep -/
def dp (ls : List Int) (k : Nat) : Int := (dpL ls (k + 1)).getD k 0
theorem dpL_dp (ls : List Int) {n k : Nat} (h : k < n) : (dpL ls n).getD k 0 = dp ls k := dpL_getD ls n (k + 1) k (by omega) (by omega)
theorem dp_eq (ls : List Int) (n : Nat) : dp ls n = if 0 ≤ ls.getD n 0 then (dpL ls n).getD (ls.getD n 0).toNat 0 + 1 else 0 := by
  unfold dp
  rw [dpL_succ, List.getD_eq_getElem?_getD, List.getElem?_append_right (by rw [dpL_length]; exact Nat.le_refl _), dpL_length, Nat.sub_self]; rfl
theorem dp_link {ls : List Int} (V : Valid ls) {n : Nat} (hn : n < ls.length) : dp ls n = if 0 ≤ ls.getD n 0 then dp ls (ls.getD n 0).toNat + 1 else 0 := by
  rw [dp_eq]
  have := V n hn
  by_cases h : 0 ≤ ls.getD n 0
  · rw [if_pos h, if_pos h, dpL_dp ls (by omega)]
  · rw [if_neg h, if_neg h]
theorem dp_bounds {ls : List Int} (V : Valid ls) : ∀ (n k : Nat), k < n → k < ls.length → 0 ≤ dp ls k ∧ dp ls k ≤ (k : Int)
  | 0, k, h, _ => by omega
  | n + 1, k, h, hl => by
    rw [dp_link V hl]
    have v := V k hl
    split
    · rename_i hc
      have := dp_bounds V n (ls.getD k 0).toNat (by omega) (by omega)
      omega
    · omega
theorem dp_nn {ls : List Int} (V : Valid ls) {k : Nat} (hl : k < ls.length) : 0 ≤ dp ls k ∧ dp ls k ≤ (k : Int) := dp_bounds V (k + 1) k (by omega) hl
/-- walking up, all that is passed by is higher -/
theorem passed {ls : List Int} (V : Valid ls) {p : Nat} (hp : p ≤ ls.length) (I : ∀ k, k < p → ∀ j : Nat, ls.getD k 0 < (j : Int) → j < k → dp ls k ≤ dp ls j) :
    ∀ {a b : Int}, OnCh ls a b → a < p → (0 ≤ a → ∀ k : Nat, a < (k : Int) → k < p → dp ls a.toNat < dp ls k) → 0 ≤ b → ∀ k : Nat, b < (k : Int) → k < p → dp ls b.toNat < dp ls k := by
  intro a b h
  induction h with
  | refl a => exact fun _ h hb => h hb
  | step h t ih =>
    rename_i a b
    intro ha J hb
    have v := V a.toNat (by omega)
    refine ih (by omega) (fun h0 k k1 k2 => ?_) hb
    have d1 : dp ls a.toNat = dp ls (ls.getD a.toNat 0).toNat + 1 := by rw [dp_link V (by omega), if_pos h0]
    by_cases hk : (k : Int) ≤ a
    · by_cases hk2 : (k : Int) = a
      · have : k = a.toNat := by omega
        rw [this, d1]; omega
      · have := I a.toNat (by omega) k (by omega) (by omega)
        omega
    · have := J h k (by omega) k2
      omega
theorem dp_nearest {ls : List Int} (V : Valid ls) : ∀ (n : Nat), n ≤ ls.length → (∀ p, p < n → OnCh ls ((p : Int) - 1) (ls.getD p 0)) → ∀ k, k < n → ∀ j : Nat, ls.getD k 0 < (j : Int) → j < k → dp ls k ≤ dp ls j
  | 0, _, _, k, h, _, _, _ => by omega
  | n + 1, hn, C, k, hk, j, j1, j2 => by
    have I := dp_nearest V n (by omega) (fun p hp => C p (by omega))
    by_cases hkn : k = n
    · subst hkn
      have v := V k (by omega)
      rw [dp_link V (by omega)]
      split
      · rename_i hc
        have := passed V (p := k) (by omega) I (C k (by omega)) (by omega) (fun _ k' h1 h2 => by omega) hc j j1 j2
        omega
      · exact (dp_nn V (by omega)).1
    · exact I k (by omega) j j1 j2
/-- the bars have the links -/
theorem dpL_links {ls : List Int} (V : Valid ls) (C : ∀ p, p < ls.length → OnCh ls ((p : Int) - 1) (ls.getD p 0)) : linksL (dpL ls ls.length) = ls := by
  have N := dp_nearest V ls.length (Nat.le_refl _) C
  apply List.ext_getElem?
  intro i
  by_cases hi : i < ls.length
  · have hi' : i < (dpL ls ls.length).length := by rw [dpL_length]; exact hi
    rw [linksL_get hi', List.getElem?_eq_getElem hi]
    have e : ls[i] = ls.getD i 0 := by simp [List.getD_eq_getElem?_getD, List.getElem?_eq_getElem hi]
    rw [e]
    have v := V i hi
    have hle := stN_le (dpL ls ls.length) i
    have hlow := stN_low (dpL ls ls.length) i
    have hge := stN_ge (dpL ls ls.length) i
    have d : ∀ k, k < ls.length → (dpL ls ls.length).getD k 0 = dp ls k := fun k hk => dpL_dp ls hk
    congr 1
    by_cases h1 : ((stN (dpL ls ls.length) i : Nat) : Int) - 1 < ls.getD i 0
    · -- the link would not be lower
      have h2 := hge (ls.getD i 0).toNat (by omega) (by omega)
      rw [d i hi, d _ (by omega), dp_link V hi, if_pos (by omega)] at h2
      omega
    · by_cases h3 : ls.getD i 0 < ((stN (dpL ls ls.length) i : Nat) : Int) - 1
      · rcases hlow with z | z
        · omega
        · rw [d i hi, d _ (by omega)] at z
          have := N i hi (stN (dpL ls ls.length) i - 1) (by omega) (by omega)
          omega
      · omega
  · rw [List.getElem?_eq_none (by rw [linksL_length, dpL_length]; omega), List.getElem?_eq_none (by omega)]
/-- two places whose links cross -/
def Cross (ls : List Int) (f s : Int) : Prop := 0 ≤ f ∧ f < s ∧ s < (ls.length : Int) ∧ ls.getD f.toNat 0 < ls.getD s.toNat 0 ∧ ls.getD s.toNat 0 < f
instance (ls : List Int) (f s : Int) : Decidable (Cross ls f s) := by unfold Cross; exact inferInstance
def crossB (ls : List Int) (f s : Int) : Bool := decide (Cross ls f s) && validB ls
end Sky

namespace Sky
open PySem L2
/-- a Row's attributes; a Crossed's -/
def rowF (ar : Addr) : List (Str × V) := putF "bars" (.ref ar) []
theorem rowF_bars (ar : Addr) : (rowF ar).lookup ("bars" : Str) = some (.ref ar) := by unfold rowF; rw [lookup_putF, if_pos rfl]
theorem rowF_no (ar : Addr) {x : Str} (h : ¬ x = "bars") : (rowF ar).lookup x = none := by unfold rowF; rw [lookup_putF, if_neg h]; rfl
def crF (f s : Int) : List (Str × V) := putF "second" (.int s) (putF "first" (.int f) [])
theorem crF_first (f s : Int) : (crF f s).lookup ("first" : Str) = some (.int f) := by unfold crF; rw [lookup_putF, if_neg (by decide +kernel), lookup_putF, if_pos rfl]
theorem crF_second (f s : Int) : (crF f s).lookup ("second" : Str) = some (.int s) := by unfold crF; rw [lookup_putF, if_pos rfl]
theorem crF_no (f s : Int) {x : Str} (h : ¬ x = "second") (h' : ¬ x = "first") : (crF f s).lookup x = none := by unfold crF; rw [lookup_putF, if_neg h, lookup_putF, if_neg h']; rfl
structure RCls (K : PySem.W.Frag) (C : Addr) : Prop where
  cl : Cls K C
  n1 : NoAttr K C "bars"
structure CCls (K : PySem.W.Frag) (C : Addr) : Prop where
  cl : Cls K C
  n1 : NoAttr K C "first"
  n2 : NoAttr K C "second"
def spRInit (C : Addr) : Sp := fun vs H Q _ => ∃ (p dx l : Addr) (xs : List Int), vs = [.ref p, .ref l] ∧ H p = some (.ins C dx []) ∧ IL H l xs ∧
  ∀ (ar : Addr) (H' : Hp), H ar = none → H' p = some (.ins C dx (rowF ar)) → IL H' ar xs → (∀ b o, H b = some o → b ≠ p → H' b = some o) → Q .non H'
def spRShows (C : Addr) : Sp := fun vs H Q _ => ∃ (p dx ar a : Addr) (bs ls : List Int), vs = [.ref p, .ref a] ∧ H p = some (.ins C dx (rowF ar)) ∧ IL H ar bs ∧ IL H a ls ∧ bs.length ≤ 100 ∧ ∀ H', Same H H' → Q (.bl (decide (linksL bs = ls))) H'
def spCInit (C : Addr) : Sp := fun vs H Q _ => ∃ (p dx : Addr) (f s : Int), vs = [.ref p, .int f, .int s] ∧ H p = some (.ins C dx []) ∧ ∀ H', H' p = some (.ins C dx (crF f s)) → (∀ b o, H b = some o → b ≠ p → H' b = some o) → Q .non H'
def spCShows (C : Addr) : Sp := fun vs H Q _ => ∃ (p dx a : Addr) (f s : Int) (ls : List Int), vs = [.ref p, .ref a] ∧ H p = some (.ins C dx (crF f s)) ∧ IL H a ls ∧ ls.length ≤ 100 ∧ ∀ H', Same H H' → Q (.bl (crossB ls f s)) H'
def spBelow : Sp := fun vs H Q _ => ∃ (a : Addr) (ls : List Int), vs = [.ref a] ∧ IL H a ls ∧ ls.length ≤ 100 ∧ ∀ H', Same H H' → Q (.bl (validB ls)) H'
def spChkL : Sp := fun vs H Q _ => ∃ (a : Addr) (ls : List Int), vs = [.ref a] ∧ IL H a ls ∧ ls.length ≤ 100 ∧ Valid ls ∧ ∀ H', Same H H' → Q .non H'
def spCrossA : Sp := fun vs H Q _ => ∃ (a : Addr) (ls : List Int) (p : Nat), vs = [.ref a, .int (p : Nat)] ∧ IL H a ls ∧ Valid ls ∧ p < ls.length ∧ (∀ c : Nat, Cross ls c p → Q (.int (c : Nat)) H) ∧ (OnCh ls ((p : Int) - 1) (ls.getD p 0) → Q (.int (-1)) H)
def spRowOf (CR CC : Addr) : Sp := fun vs H Q _ => ∃ (a : Addr) (ls : List Int), vs = [.ref a] ∧ IL H a ls ∧ ls.length ≤ 100 ∧ Valid ls ∧
  (∀ (p dx ar : Addr) (H' : Hp) (bs : List Int), H p = none → H ar = none → Same H H' → H' p = some (.ins CR dx (rowF ar)) → IL H' ar bs → bs.length = ls.length → (∀ x ∈ bs, 0 ≤ x ∧ x ≤ 100) → linksL bs = ls → Q (.ref p) H') ∧
  (∀ (p dx : Addr) (H' : Hp) (f s : Int), H p = none → Same H H' → H' p = some (.ins CC dx (crF f s)) → Cross ls f s → Q (.ref p) H')
def spDrawn5 (K : PySem.W.Frag) : Sp := fun vs H Q _ => ∃ (a : Addr) (ns : List Int), vs = [.ref a] ∧ SqL K H a (ns.map V.int) ∧ ns.length ≤ 63 ∧ ∀ ls : List Int, ls.length = ns.length → Valid ls → newL H Q ls
def spRight5 (CR CC : Addr) : Sp := fun vs H Q _ => ∃ (p dx a : Addr) (ls : List Int), vs = [.ref a, .ref p] ∧ IL H a ls ∧ ls.length ≤ 100 ∧ Valid ls ∧
  ((∃ (ar : Addr) (bs : List Int), H p = some (.ins CR dx (rowF ar)) ∧ IL H ar bs ∧ bs.length = ls.length ∧ (∀ x ∈ bs, 0 ≤ x ∧ x ≤ 100) ∧ linksL bs = ls) ∨ (∃ f s : Int, H p = some (.ins CC dx (crF f s)) ∧ Cross ls f s)) ∧ ∀ H', Same H H' → Q (.bl true) H'
theorem getD_set {xs : List Int} {i j : Nat} {v : Int} (hj : j < xs.length) : (xs.set i v).getD j 0 = if i = j then v else xs.getD j 0 := by
  by_cases h : i = j
  · subst h
    rw [if_pos rfl, List.getD_eq_getElem?_getD, List.getElem?_set_self hj]; rfl
  · rw [if_neg h, List.getD_eq_getElem?_getD, List.getElem?_set_ne h, List.getD_eq_getElem?_getD]
theorem ixN_nat {n i : Nat} (h : i < n) : ixN n (i : Int) = some i := by
  unfold ixN
  rw [if_pos (by omega), if_pos (by omega)]; rfl
end Sky

namespace Sky
/-! ### trees -/
/-- the nearest place ahead of i that is no higher, or -1 -/
def aG (b : List Int) (h : Int) : Nat → Int
  | 0 => -1
  | n + 1 => if b.getD n 0 ≤ h then (n : Int) else aG b h n
def aN (b : List Int) (i : Nat) : Int := aG b (b.getD i 0) i
theorem aG_spec (b : List Int) (h : Int) : ∀ n : Nat, -1 ≤ aG b h n ∧ aG b h n < n ∧ (∀ k : Nat, aG b h n < (k : Int) → k < n → h < b.getD k 0) ∧ (0 ≤ aG b h n → b.getD (aG b h n).toNat 0 ≤ h)
  | 0 => ⟨by simp [aG], by simp [aG], fun k _ h => by omega, fun h => by simp [aG] at h⟩
  | n + 1 => by
    obtain ⟨h1, h2, h3, h4⟩ := aG_spec b h n
    unfold aG
    split
    · rename_i hc
      exact ⟨by omega, by omega, fun k k1 k2 => by omega, fun _ => by simpa using hc⟩
    · rename_i hc
      refine ⟨h1, by omega, fun k k1 k2 => ?_, h4⟩
      by_cases hk : k = n
      · subst hk; omega
      · exact h3 k k1 (by omega)
theorem aG_uniq {b : List Int} {h : Int} {n : Nat} {a : Int} (h1 : -1 ≤ a) (h2 : a < n) (h3 : ∀ k : Nat, a < (k : Int) → k < n → h < b.getD k 0) (h4 : 0 ≤ a → b.getD a.toNat 0 ≤ h) : a = aG b h n := by
  obtain ⟨g1, g2, g3, g4⟩ := aG_spec b h n
  by_cases hc : a < aG b h n
  · have := h3 (aG b h n).toNat (by omega) (by omega)
    have := g4 (by omega)
    omega
  · by_cases hd : aG b h n < a
    · have := g3 a.toNat (by omega) (by omega)
      have := h4 (by omega)
      omega
    · omega
/-- the nearest lower place behind i ahead of p, or p -/
def bG (b : List Int) (h : Int) (i : Nat) : Nat → Nat
  | 0 => 0
  | p + 1 => if bG b h i p < p then bG b h i p else if i < p ∧ b.getD p 0 < h then p else p + 1
def bN (b : List Int) (i p : Nat) : Nat := bG b (b.getD i 0) i p
theorem bG_spec (b : List Int) (h : Int) (i : Nat) : ∀ p : Nat, bG b h i p ≤ p ∧ (bG b h i p < p → i < bG b h i p ∧ b.getD (bG b h i p) 0 < h) ∧ ∀ k, i < k → k < bG b h i p → h ≤ b.getD k 0
  | 0 => ⟨Nat.le_refl _, fun h => by simp [bG] at h, fun k _ h => by simp [bG] at h⟩
  | p + 1 => by
    obtain ⟨h1, h2, h3⟩ := bG_spec b h i p
    unfold bG
    split
    · rename_i hc
      exact ⟨by omega, fun _ => h2 hc, h3⟩
    · rename_i hc
      have e : bG b h i p = p := by omega
      rw [e] at h3
      split
      · rename_i hd
        exact ⟨by omega, fun _ => hd, h3⟩
      · rename_i hd
        refine ⟨Nat.le_refl _, fun h => by omega, fun k k1 k2 => ?_⟩
        by_cases hk : k = p
        · subst hk
          by_cases hlt : b.getD k 0 < h
          · exact absurd ⟨k1, hlt⟩ hd
          · omega
        · exact h3 k k1 (by omega)
theorem bG_uniq {b : List Int} {h : Int} {i p q : Nat} (hq : q ≤ p) (h1 : q < p → i < q ∧ b.getD q 0 < h) (h2 : ∀ k, i < k → k < q → h ≤ b.getD k 0) (hip : i < q) : q = bG b h i p := by
  obtain ⟨g1, g2, g3⟩ := bG_spec b h i p
  rcases Nat.lt_trichotomy q (bG b h i p) with hc | hc | hc
  · have := g3 q hip hc
    have := h1 (by omega)
    omega
  · exact hc
  · have := g2 (by omega)
    have := h2 _ this.1 hc
    omega
theorem bN_gt (b : List Int) {i p : Nat} (h : i < p) : i < bN b i p := by
  obtain ⟨g1, g2, g3⟩ := bG_spec b (b.getD i 0) i p
  unfold bN
  by_cases hc : bG b (b.getD i 0) i p < p
  · exact (g2 hc).1
  · omega
/-- beneath which place i hangs, the bars ahead of p alone -/
def par (b : List Int) (i p : Nat) : Int := if bN b i p = p then aN b i else if aN b i < 0 ∨ b.getD (aN b i).toNat 0 ≤ b.getD (bN b i p) 0 then (bN b i p : Int) else aN b i
def treeL (b : List Int) : List Int := (List.range b.length).map fun i => par b i b.length
theorem treeL_length (b : List Int) : (treeL b).length = b.length := by simp [treeL]
theorem treeL_get {b : List Int} {i : Nat} (hi : i < b.length) : (treeL b)[i]? = some (par b i b.length) := by
  unfold treeL; rw [List.getElem?_map, List.getElem?_range hi]; rfl
theorem treeL_getD {b : List Int} {i : Nat} (hi : i < b.length) : (treeL b).getD i 0 = par b i b.length := by
  rw [List.getD_eq_getElem?_getD, treeL_get hi]; rfl
/-- what is known of the two neighbours -/
structure Nb (b : List Int) (i : Nat) (a : Int) (q : Nat) : Prop where
  a1 : -1 ≤ a
  a2 : a < i
  a3 : ∀ k : Nat, a < (k : Int) → k < i → b.getD i 0 < b.getD k 0
  a4 : 0 ≤ a → b.getD a.toNat 0 ≤ b.getD i 0
  q1 : i < q
  q2 : q ≤ b.length
  q3 : ∀ k, i < k → k < q → b.getD i 0 ≤ b.getD k 0
  q4 : q < b.length → b.getD q 0 < b.getD i 0
theorem nb (b : List Int) {i : Nat} (hi : i < b.length) : Nb b i (aN b i) (bN b i b.length) := by
  obtain ⟨h1, h2, h3, h4⟩ := aG_spec b (b.getD i 0) i
  obtain ⟨g1, g2, g3⟩ := bG_spec b (b.getD i 0) i b.length
  exact ⟨h1, h2, h3, h4, bN_gt b hi, g1, g3, fun h => (g2 h).2⟩
theorem Nb.uniq {b : List Int} {i : Nat} {a : Int} {q : Nat} (h : Nb b i a q) : a = aN b i ∧ q = bN b i b.length :=
  ⟨aG_uniq h.a1 h.a2 h.a3 h.a4, bG_uniq h.q2 (fun z => ⟨h.q1, h.q4 z⟩) h.q3 h.q1⟩
theorem Nb.par {b : List Int} {i : Nat} {a : Int} {q : Nat} (h : Nb b i a q) : par b i b.length = if q = b.length then a else if a < 0 ∨ b.getD a.toNat 0 ≤ b.getD q 0 then (q : Int) else a := by
  obtain ⟨e1, e2⟩ := h.uniq
  unfold Sky.par
  rw [← e1, ← e2]
/-- how deep a place hangs -/
inductive Dep (P : List Int) : Nat → Nat → Prop where
  | root {i : Nat} (hi : i < P.length) (h : P.getD i 0 = -1) : Dep P i 0
  | under {i j d : Nat} (hi : i < P.length) (h : P.getD i 0 = (j : Int)) (t : Dep P j d) : Dep P i (d + 1)
theorem Dep.uniq {P : List Int} {i d : Nat} (h : Dep P i d) : ∀ {e : Nat}, Dep P i e → d = e := by
  induction h with
  | root hi h =>
    intro e h'
    cases h' with
    | root => rfl
    | under _ h2 _ => rw [h] at h2; omega
  | under hi h t ih =>
    intro e h'
    cases h' with
    | root _ h2 => rw [h] at h2; omega
    | under _ h2 t2 =>
      have e : _ = _ := h.symm.trans h2
      have e' := Int.ofNat.inj e
      subst e'
      rw [ih t2]
theorem Dep.lt {P : List Int} {i d : Nat} (h : Dep P i d) : i < P.length := by cases h <;> assumption
/-- where the parent of a place lies -/
theorem par_key {b : List Int} {i : Nat} (hi : i < b.length) : par b i b.length = -1 ∨ ∃ j : Nat, j < b.length ∧ par b i b.length = (j : Int) ∧ ((j < i ∧ b.getD j 0 ≤ b.getD i 0) ∨ b.getD j 0 < b.getD i 0) := by
  have N := nb b hi
  rw [N.par]
  have ha : aN b i = -1 ∨ ∃ j : Nat, j < b.length ∧ aN b i = (j : Int) ∧ ((j < i ∧ b.getD j 0 ≤ b.getD i 0) ∨ b.getD j 0 < b.getD i 0) := by
    have := N.a1
    have := N.a2
    by_cases h0 : 0 ≤ aN b i
    · exact .inr ⟨(aN b i).toNat, by omega, by omega, .inl ⟨by omega, N.a4 h0⟩⟩
    · exact .inl (by omega)
  split
  · exact ha
  · rename_i hc
    split
    · have := N.q2
      exact .inr ⟨bN b i b.length, by omega, rfl, .inr (N.q4 (by omega))⟩
    · exact ha
/-- every place of a tree hangs somewhere -/
theorem tree_dep {b : List Int} (hb : ∀ i, i < b.length → -1 ≤ b.getD i 0) : ∀ (m i : Nat), i < b.length → (b.getD i 0 + 1).toNat * (b.length + 1) + i < m → ∃ d, Dep (treeL b) i d
  | 0, i, _, h => by omega
  | m + 1, i, hi, h => by
    rcases par_key hi with e | ⟨j, hj, e, hk⟩
    · exact ⟨0, .root (by rw [treeL_length]; exact hi) (by rw [treeL_getD hi]; exact e)⟩
    · have hbi := hb i hi
      have hbj := hb j hj
      have hlt : (b.getD j 0 + 1).toNat * (b.length + 1) + j < (b.getD i 0 + 1).toNat * (b.length + 1) + i := by
        rcases hk with ⟨h1, h2⟩ | h1
        · have : (b.getD j 0 + 1).toNat ≤ (b.getD i 0 + 1).toNat := by omega
          have := Nat.mul_le_mul_right (b.length + 1) this
          omega
        · have : (b.getD j 0 + 1).toNat + 1 ≤ (b.getD i 0 + 1).toNat := by omega
          have := Nat.mul_le_mul_right (b.length + 1) this
          rw [Nat.add_mul] at this
          omega
      obtain ⟨d, hd⟩ := tree_dep hb m j hj (by omega)
      exact ⟨d + 1, .under (by rw [treeL_length]; exact hi) (by rw [treeL_getD hi]; exact e) hd⟩
theorem tree_deps {b : List Int} (hb : ∀ i, i < b.length → -1 ≤ b.getD i 0) {i : Nat} (hi : i < b.length) : ∃ d, Dep (treeL b) i d := tree_dep hb _ i hi (Nat.lt_succ_self _)
/-- what lies between the two neighbours of i hangs beneath it -/
theorem deeper {b : List Int} {i : Nat} (hi : i < b.length) {di : Nat} (Di : Dep (treeL b) i di) : ∀ {j dj : Nat}, Dep (treeL b) j dj → aN b i < (j : Int) → j < bN b i b.length → j ≠ i → di < dj := by
  intro j dj Dj
  have N := nb b hi
  induction Dj with
  | root hj h =>
    rename_i j
    intro j1 j2 jn
    exfalso
    rw [treeL_length] at hj
    rw [treeL_getD hj] at h
    have M := nb b hj
    rw [M.par] at h
    have m1 := M.q1
    have m2 := M.q2
    by_cases hlt : j < i
    · have b1 := N.a3 j j1 hlt
      have hq : bN b j b.length ≤ i := by
        by_cases hc : bN b j b.length ≤ i
        · exact hc
        · have := M.q3 i hlt (by omega); omega
      rw [if_neg (by omega)] at h
      have ha : ¬ aN b j < 0 → 0 ≤ aN b j := fun z => by omega
      split at h
      · omega
      · rename_i hc
        have := M.a1
        have : ¬ aN b j < 0 := fun z => hc (.inl z)
        omega
    · have b1 := N.q3 j (by omega) j2
      have ha : (i : Int) ≤ aN b j := by
        by_cases hc : (i : Int) ≤ aN b j
        · exact hc
        · have := M.a3 i (by omega) (by omega); omega
      split at h
      · omega
      · split at h
        · omega
        · omega
  | under hj h t ih =>
    rename_i j k d
    intro j1 j2 jn
    rw [treeL_length] at hj
    rw [treeL_getD hj] at h
    have M := nb b hj
    rw [M.par] at h
    have m1 := M.q1
    have m2 := M.q2
    have ma1 := M.a1
    have ma2 := M.a2
    have n2 := N.q2
    -- enough: the parent is i, or lies between too
    have enough : (k = i ∨ (aN b i < (k : Int) ∧ k < bN b i b.length)) → di < d + 1 := fun z => by
      by_cases hki : k = i
      · subst hki
        have := t.uniq Di
        omega
      · rcases z with z | z
        · exact absurd z hki
        · have := ih z.1 z.2 hki
          omega
    by_cases hlt : j < i
    · have b1 := N.a3 j j1 hlt
      have hq : bN b j b.length ≤ i := by
        by_cases hc : bN b j b.length ≤ i
        · exact hc
        · have := M.q3 i hlt (by omega); omega
      have hq4 := M.q4 (by omega)
      have hqge : b.getD i 0 ≤ b.getD (bN b j b.length) 0 := by
        by_cases hc : bN b j b.length = i
        · rw [hc]; exact Int.le_refl _
        · have := N.a3 (bN b j b.length) (by omega) (by omega); omega
      rw [if_neg (by omega)] at h
      split at h
      · exact enough (.inr ⟨by omega, by have := N.q1; omega⟩)
      · rename_i hc
        have h0 : ¬ aN b j < 0 := fun z => hc (.inl z)
        have hv : ¬ b.getD (aN b j).toNat 0 ≤ b.getD (bN b j b.length) 0 := fun z => hc (.inr z)
        refine enough (.inr ⟨?_, by have := N.q1; omega⟩)
        -- else the bar ahead of i would be the parent's
        by_cases hc2 : aN b i < (k : Int)
        · exact hc2
        · exfalso
          have hai : 0 ≤ aN b i := by omega
          have := N.a4 hai
          by_cases hc3 : (k : Int) = aN b i
          · rw [h, hc3] at hv; omega
          · have := M.a3 (aN b i).toNat (by omega) (by omega); omega
    · have hgt : i < j := by omega
      have b1 := N.q3 j hgt j2
      have ha : (i : Int) ≤ aN b j := by
        by_cases hc : (i : Int) ≤ aN b j
        · exact hc
        · have := M.a3 i (by omega) hgt; omega
      have hage : b.getD i 0 ≤ b.getD (aN b j).toNat 0 := by
        by_cases hc : (aN b j).toNat = i
        · rw [hc]; exact Int.le_refl _
        · exact N.q3 _ (by omega) (by omega)
      have na := N.a2
      split at h
      · exact enough (.inr ⟨by omega, by omega⟩)
      · rename_i hc
        split at h
        · rename_i hd
          have hv : b.getD (aN b j).toNat 0 ≤ b.getD (bN b j b.length) 0 := by
            rcases hd with hd | hd
            · omega
            · exact hd
          refine enough (.inr ⟨by omega, ?_⟩)
          by_cases hc2 : k < bN b i b.length
          · exact hc2
          · exfalso
            have := N.q4 (by omega)
            by_cases hc3 : k = bN b i b.length
            · have e3 : bN b j b.length = bN b i b.length := by omega
              rw [e3] at hv; omega
            · have := M.q3 (bN b i b.length) (by omega) (by omega); omega
        · exact enough (.inr ⟨by omega, by omega⟩)
/-- bars as high as each hangs deep have the tree -/
theorem tree_again {b D : List Int} (hl : D.length = b.length) (hD : ∀ i, i < b.length → ∃ d : Nat, Dep (treeL b) i d ∧ D.getD i 0 = (d : Int)) : treeL D = treeL b := by
  have key : ∀ i, i < b.length → par D i D.length = par b i b.length := fun i hi => by
    have N := nb b hi
    obtain ⟨di, Di, ei⟩ := hD i hi
    have up : ∀ j, j < b.length → aN b i < (j : Int) → j < bN b i b.length → j ≠ i → D.getD i 0 < D.getD j 0 := fun j hj j1 j2 j3 => by
      obtain ⟨dj, Dj, ej⟩ := hD j hj
      have := deeper hi Di Dj j1 j2 j3
      omega
    -- the two neighbours hang less deep
    have dn : ∀ j, j < b.length → aN b j < (i : Int) → i < bN b j b.length → i ≠ j → D.getD j 0 < D.getD i 0 := fun j hj j1 j2 j3 => by
      obtain ⟨dj, Dj, ej⟩ := hD j hj
      have := deeper hj Dj Di j1 j2 j3
      omega
    have n1 := N.a1
    have n2 := N.a2
    have n3 := N.q1
    have n4 := N.q2
    have ga : 0 ≤ aN b i → D.getD (aN b i).toNat 0 < D.getD i 0 := fun h0 => by
      have ha : (aN b i).toNat < b.length := by omega
      have M := nb b ha
      refine dn _ ha (by have := M.a2; omega) ?_ (by omega)
      by_cases hc : i < bN b (aN b i).toNat b.length
      · exact hc
      · exfalso
        have q1 := M.q1
        have q4 := M.q4 (by omega)
        have a4 := N.a4 h0
        by_cases he : bN b (aN b i).toNat b.length = i
        · rw [he] at q4; omega
        · have := N.a3 (bN b (aN b i).toNat b.length) (by omega) (by omega); omega
    have gb : bN b i b.length < b.length → D.getD (bN b i b.length) 0 < D.getD i 0 := fun h0 => by
      have M := nb b h0
      refine dn _ h0 ?_ (by have := M.q1; omega) (by omega)
      by_cases hc : aN b (bN b i b.length) < (i : Int)
      · exact hc
      · exfalso
        have a2 := M.a2
        have a4 := M.a4 (by omega)
        have q4 := N.q4 h0
        by_cases he : (aN b (bN b i b.length)).toNat = i
        · rw [he] at a4; omega
        · have := N.q3 (aN b (bN b i b.length)).toNat (by omega) (by omega); omega
    have ND : Nb D i (aN b i) (bN b i b.length) := by
      refine ⟨n1, n2, fun k k1 k2 => up k (by omega) k1 (by omega) (by omega), fun h0 => Int.le_of_lt (ga h0), n3, by rw [hl]; exact n4, fun k k1 k2 => Int.le_of_lt (up k (by omega) (by omega) k2 (by omega)), fun h0 => gb (by omega)⟩
    rw [ND.par, N.par, hl]
    by_cases hq : bN b i b.length = b.length
    · rw [if_pos hq, if_pos hq]
    · rw [if_neg hq, if_neg hq]
      have hq' : bN b i b.length < b.length := by omega
      by_cases h0 : aN b i < 0
      · rw [if_pos (.inl h0), if_pos (.inl h0)]
      · have ha : (aN b i).toNat < b.length := by omega
        obtain ⟨da, Da, ea⟩ := hD _ ha
        obtain ⟨dq, Dq, eq⟩ := hD _ hq'
        have M := nb b ha
        have R := nb b hq'
        by_cases hv : b.getD (aN b i).toNat 0 ≤ b.getD (bN b i b.length) 0
        · -- the bar behind hangs beneath the one ahead
          have : da < dq := by
            refine deeper ha Da Dq (by have := M.a2; omega) ?_ (by omega)
            by_cases hc : bN b i b.length < bN b (aN b i).toNat b.length
            · exact hc
            · exfalso
              have q1 := M.q1
              have q4 := M.q4 (by omega)
              by_cases he : bN b (aN b i).toNat b.length = bN b i b.length
              · rw [he] at q4; omega
              · have a4 := N.a4 (by omega)
                by_cases hlt : bN b (aN b i).toNat b.length < i
                · have := N.a3 (bN b (aN b i).toNat b.length) (by omega) hlt; omega
                · by_cases hei : bN b (aN b i).toNat b.length = i
                  · rw [hei] at q4; omega
                  · have := N.q3 (bN b (aN b i).toNat b.length) (by omega) (by omega); omega
          rw [if_pos (.inr (by omega)), if_pos (.inr hv)]
        · have : dq < da := by
            refine deeper hq' Dq Da ?_ (by have := R.q1; omega) (by omega)
            by_cases hc : aN b (bN b i b.length) < ((aN b i).toNat : Int)
            · exact hc
            · exfalso
              have a2 := R.a2
              have a4 := R.a4 (by omega)
              have q4 := N.q4 hq'
              by_cases he : (aN b (bN b i b.length)).toNat = (aN b i).toNat
              · rw [he] at a4; omega
              · by_cases hlt : (aN b (bN b i b.length)).toNat < i
                · have := N.a3 (aN b (bN b i b.length)).toNat (by omega) hlt; omega
                · by_cases hei : (aN b (bN b i b.length)).toNat = i
                  · rw [hei] at a4; omega
                  · have := N.q3 (aN b (bN b i b.length)).toNat (by omega) (by omega); omega
          rw [if_neg (by rintro (z | z) <;> omega), if_neg (by rintro (z | z) <;> omega)]
  apply List.ext_getElem?
  intro i
  by_cases hi : i < b.length
  · rw [treeL_get (by omega), treeL_get hi, key i hi]
  · rw [List.getElem?_eq_none (by rw [treeL_length]; omega), List.getElem?_eq_none (by rw [treeL_length]; omega)]
end Sky

namespace Sky
/-! ### the program's stack of places, for the tree -/
def stkT (b : List Int) : Nat → List Nat
  | 0 => []
  | n + 1 => n :: (stkT b n).dropWhile fun j => decide (b.getD n 0 < b.getD j 0)
def hdI : List Nat → Int
  | [] => -1
  | x :: _ => (x : Int)
theorem stkT_head (b : List Int) : ∀ (n : Nat) (h : Int), hdI ((stkT b n).dropWhile fun j => decide (h < b.getD j 0)) = aG b h n
  | 0, h => rfl
  | n + 1, h => by
    unfold stkT aG
    by_cases hc : b.getD n 0 ≤ h
    · rw [if_pos hc, List.dropWhile_cons, if_neg (fun z => by have := of_decide_eq_true z; omega)]; rfl
    · rw [if_neg hc, List.dropWhile_cons, if_pos (decide_eq_true (by omega)), drop_drop (fun x hx => decide_eq_true (by have := of_decide_eq_true hx; omega))]
      exact stkT_head b n h
def ChT (b : List Int) : List Nat → Prop
  | [] => True
  | x :: r => aN b x = hdI r ∧ ChT b r
theorem ChT.drop {b : List Int} (p : Nat → Bool) : ∀ {l : List Nat}, ChT b l → ChT b (l.dropWhile p)
  | [], _ => True.intro
  | x :: r, h => by
    rw [List.dropWhile_cons]
    split
    · exact ChT.drop p h.2
    · exact h
theorem stkT_ch (b : List Int) : ∀ n, ChT b (stkT b n)
  | 0 => True.intro
  | n + 1 => ⟨(stkT_head b n (b.getD n 0)).symm, (stkT_ch b n).drop _⟩
theorem ChT.tail {b : List Int} : ∀ {l r : List Nat}, ChT b (l ++ r) → ChT b r
  | [], _, h => h
  | _ :: l, _, h => ChT.tail (l := l) h.2
/-- further down the places are lesser and the bars no higher -/
theorem ChT.less {b : List Int} : ∀ {x : Nat} {r : List Nat}, ChT b (x :: r) → ∀ y ∈ r, y < x ∧ b.getD y 0 ≤ b.getD x 0
  | x, [], _, y, hy => by simp at hy
  | x, z :: r, h, y, hy => by
    have ha := aG_spec b (b.getD x 0) x
    have e : aG b (b.getD x 0) x = (z : Int) := h.1
    rw [e] at ha
    have h1 : z < x := by omega
    have h2 : b.getD z 0 ≤ b.getD x 0 := ha.2.2.2 (by omega)
    rcases List.mem_cons.mp hy with rfl | hy
    · exact ⟨h1, h2⟩
    · have := ChT.less h.2 y hy
      omega
theorem stkT_lt (b : List Int) : ∀ (n j : Nat), j ∈ stkT b n → j < n
  | 0, j, h => by simp [stkT] at h
  | n + 1, j, h => by
    unfold stkT at h
    rcases List.mem_cons.mp h with rfl | h
    · omega
    · have := stkT_lt b n j ((List.dropWhile_sublist _).subset h)
      omega
theorem stkT_length (b : List Int) : ∀ n, (stkT b n).length ≤ n
  | 0 => Nat.le_refl _
  | n + 1 => by
    unfold stkT
    have h1 := stkT_length b n
    have h2 := (List.dropWhile_sublist (l := stkT b n) fun j => decide (b.getD n 0 < b.getD j 0)).length_le
    simp only [List.length_cons]; omega
theorem drop_app {α : Type} {q : α → Bool} : ∀ {p s : List α}, (∀ x ∈ p, q x = true) → (∀ x r, s = x :: r → q x = false) → (p ++ s).dropWhile q = s
  | [], [], _, _ => rfl
  | [], x :: r, _, h => by
    rw [List.nil_append, List.dropWhile_cons, if_neg (by rw [h x r rfl]; simp)]
  | y :: p, s, h1, h2 => by
    rw [List.cons_append, List.dropWhile_cons, if_pos (h1 y List.mem_cons_self)]
    exact drop_app (fun x hx => h1 x (List.mem_cons_of_mem _ hx)) h2
theorem bN_low (b : List Int) (i : Nat) : ∀ p, p ≤ i + 1 → bN b i p = p
  | 0, _ => rfl
  | p + 1, h => by
    have := bN_low b i p (by omega)
    unfold bN at this ⊢
    unfold bG
    rw [this, if_neg (by omega), if_neg (by omega)]
theorem bN_succ (b : List Int) (i p : Nat) : bN b i (p + 1) = if bN b i p < p then bN b i p else if i < p ∧ b.getD p 0 < b.getD i 0 then p else p + 1 := rfl
theorem bN_le (b : List Int) (i p : Nat) : bN b i p ≤ p := (bG_spec b (b.getD i 0) i p).1
/-- on the stack are those with no lower one behind -/
theorem stkT_mem (b : List Int) : ∀ (p i : Nat), i < p → (i ∈ stkT b p ↔ bN b i p = p)
  | 0, i, h => by omega
  | p + 1, i, h => by
    unfold stkT
    rw [bN_succ]
    by_cases hip : i = p
    · subst hip
      rw [bN_low b i i (by omega), if_neg (by omega), if_neg (by omega)]
      exact ⟨fun _ => rfl, fun _ => List.mem_cons_self⟩
    · have ih := stkT_mem b p i (by omega)
      have ch := stkT_ch b p
      -- what is dropped is higher, what stays is not
      have key : i ∈ (stkT b p).dropWhile (fun j => decide (b.getD p 0 < b.getD j 0)) ↔ i ∈ stkT b p ∧ ¬ b.getD p 0 < b.getD i 0 := by
        constructor
        · intro hm
          refine ⟨(List.dropWhile_sublist _).subset hm, fun hlt => ?_⟩
          have ch2 := ch.drop (fun j => decide (b.getD p 0 < b.getD j 0))
          cases e : (stkT b p).dropWhile (fun j => decide (b.getD p 0 < b.getD j 0)) with
          | nil => rw [e] at hm; simp at hm
          | cons x r =>
            have hx : ¬ (decide (b.getD p 0 < b.getD x 0)) = true := by
              have := List.head?_dropWhile_not (fun j => decide (b.getD p 0 < b.getD j 0)) (stkT b p)
              rw [e] at this
              simpa using this
            have hx' : ¬ b.getD p 0 < b.getD x 0 := fun z => hx (decide_eq_true z)
            rw [e] at hm ch2
            rcases List.mem_cons.mp hm with rfl | hm
            · exact hx' hlt
            · have := ch2.less i hm
              omega
        · rintro ⟨hm, hn⟩
          have e := List.takeWhile_append_dropWhile (p := fun j => decide (b.getD p 0 < b.getD j 0)) (l := stkT b p)
          rw [← e] at hm
          rcases List.mem_append.mp hm with hm | hm
          · exact absurd (of_decide_eq_true (List.all_eq_true.mp (List.all_takeWhile (l := stkT b p)) i hm)) hn
          · exact hm
      rw [List.mem_cons, key, ih]
      have hle := bN_le b i p
      constructor
      · rintro (z | ⟨z1, z2⟩)
        · exact absurd z hip
        · rw [if_neg (by omega), if_neg (fun q => z2 q.2)]
      · intro z
        split at z
        · omega
        · split at z
          · omega
          · rename_i h1 h2
            refine .inr ⟨by omega, fun q => h2 ⟨by omega, q⟩⟩
def lastI (l : List Nat) : Int := match l.getLast? with
  | none => -1
  | some x => (x : Int)
theorem lastI_snoc (l : List Nat) (x : Nat) : lastI (l ++ [x]) = (x : Int) := by unfold lastI; rw [List.getLast?_concat]
theorem lastI_mem {l : List Nat} (h : 0 ≤ lastI l) : (lastI l).toNat ∈ l := by
  unfold lastI at h ⊢
  cases e : l.getLast? with
  | none => rw [e] at h; simp at h
  | some x => exact List.mem_of_getLast? e
theorem lastI_cons (x y : Nat) (r : List Nat) : lastI (x :: y :: r) = lastI (y :: r) := by unfold lastI; rw [List.getLast?_cons_cons]
/-- of those that go, only the last one has a bar beneath it in the stack that stays -/
theorem gone {b : List Int} {h : Int} {st : List Nat} (hst : ∀ x r, st = x :: r → b.getD x 0 ≤ h) : ∀ {pop : List Nat}, ChT b (pop ++ st) → (∀ x ∈ pop, h < b.getD x 0) → ∀ i ∈ pop,
    ((i : Int) = lastI pop ∧ (aN b i < 0 ∨ b.getD (aN b i).toNat 0 ≤ h)) ∨ ((i : Int) ≠ lastI pop ∧ 0 ≤ aN b i ∧ h < b.getD (aN b i).toNat 0)
  | [], _, _, i, hi => by simp at hi
  | [x], ch, hp, i, hi => by
    have e : i = x := by simpa using hi
    subst e
    left
    refine ⟨rfl, ?_⟩
    have e : aN b i = hdI st := ch.1
    rw [e]
    cases hs : st with
    | nil => exact .inl (by simp [hdI])
    | cons y r => exact .inr (hst y r hs)
  | x :: y :: r, ch, hp, i, hi => by
    have ih := gone hst (pop := y :: r) ch.2 (fun z hz => hp z (List.mem_cons_of_mem _ hz))
    rw [lastI_cons]
    have e : aN b x = (y : Int) := ch.1
    have hl : lastI (y :: r) < (x : Int) := by
      by_cases h0 : 0 ≤ lastI (y :: r)
      · have := (ChT.less (x := x) (r := (y :: r) ++ st) ch _ (List.mem_append_left _ (lastI_mem h0))).1
        omega
      · omega
    rcases List.mem_cons.mp hi with rfl | hi
    · right
      refine ⟨by omega, by omega, ?_⟩
      rw [e]
      exact hp y (by simp)
    · exact ih i hi
/-- what one more bar changes -/
theorem par_step {b : List Int} {p : Nat} {pop st : List Nat} (e : pop ++ st = stkT b p) (hp : ∀ x ∈ pop, b.getD p 0 < b.getD x 0) (hst : ∀ x r, st = x :: r → b.getD x 0 ≤ b.getD p 0) {i : Nat} (hi : i < p) :
    par b i (p + 1) = if (i : Int) = lastI pop then (p : Int) else par b i p := by
  have ch : ChT b (pop ++ st) := by rw [e]; exact stkT_ch b p
  have hle := bN_le b i p
  by_cases hm : i ∈ stkT b p
  · have hq := (stkT_mem b p i hi).mp hm
    have e0 : par b i p = aN b i := by unfold par; rw [if_pos hq]
    rw [← e] at hm
    rcases List.mem_append.mp hm with hm | hm
    · have hb := hp i hm
      have hq1 : bN b i (p + 1) = p := by rw [bN_succ, if_neg (by omega), if_pos ⟨hi, hb⟩]
      rcases gone hst ch hp i hm with ⟨z1, z2⟩ | ⟨z1, z2, z3⟩
      · rw [if_pos z1]
        unfold par
        rw [hq1, if_neg (by omega), if_pos z2]
      · rw [if_neg z1, e0]
        unfold par
        rw [hq1, if_neg (by omega), if_neg (by rintro (z | z) <;> omega)]
    · have hb : b.getD i 0 ≤ b.getD p 0 := by
        have cs := ch.tail
        cases hs : st with
        | nil => rw [hs] at hm; simp at hm
        | cons x r =>
          have hx := hst x r hs
          rw [hs] at hm cs
          rcases List.mem_cons.mp hm with rfl | hm
          · exact hx
          · have := cs.less i hm; omega
      have hq1 : bN b i (p + 1) = p + 1 := by rw [bN_succ, if_neg (by omega), if_neg (by omega)]
      have hne : (i : Int) ≠ lastI pop := fun z => by
        have := hp _ (lastI_mem (l := pop) (by omega))
        rw [← z] at this
        simp at this
        rw [List.getD_eq_getElem?_getD, List.getD_eq_getElem?_getD] at hb
        omega
      rw [if_neg hne, e0]
      unfold par
      rw [hq1, if_pos rfl]
  · have hq : bN b i p < p := by
      have : bN b i p ≠ p := fun z => hm ((stkT_mem b p i hi).mpr z)
      omega
    have hne : (i : Int) ≠ lastI pop := fun z => by
      have hmm := lastI_mem (l := pop) (by omega)
      rw [← z] at hmm
      exact hm (e ▸ List.mem_append_left _ hmm)
    rw [if_neg hne]
    have hq1 : bN b i (p + 1) = bN b i p := by rw [bN_succ, if_pos hq]
    unfold par
    rw [hq1, if_neg (show ¬ bN b i p = p + 1 by omega), if_neg (show ¬ bN b i p = p by omega)]
def parL (b : List Int) (p : Nat) : List Int := (List.range p).map fun i => par b i p
theorem parL_length (b : List Int) (p : Nat) : (parL b p).length = p := by simp [parL]
theorem parL_get (b : List Int) {i p : Nat} (h : i < p) : (parL b p)[i]? = some (par b i p) := by
  unfold parL; rw [List.getElem?_map, List.getElem?_range h]; rfl
theorem par_self (b : List Int) (p : Nat) : par b p (p + 1) = aN b p := by
  unfold par
  rw [bN_low b p (p + 1) (by omega), if_pos rfl]
theorem parL_step {b : List Int} {p : Nat} {pop st : List Nat} (e : pop ++ st = stkT b p) (hp : ∀ x ∈ pop, b.getD p 0 < b.getD x 0) (hst : ∀ x r, st = x :: r → b.getD x 0 ≤ b.getD p 0) :
    hdI st = aN b p ∧ parL b (p + 1) = if 0 ≤ lastI pop then (parL b p ++ [aN b p]).set (lastI pop).toNat (p : Int) else parL b p ++ [aN b p] := by
  constructor
  · have h := stkT_head b p (b.getD p 0)
    rw [← e, drop_app (fun x hx => decide_eq_true (hp x hx)) (fun x r hx => decide_eq_false (by have := hst x r hx; omega))] at h
    exact h
  · have hlt : 0 ≤ lastI pop → (lastI pop).toNat < p := fun h0 => stkT_lt b p _ (e ▸ List.mem_append_left _ (lastI_mem h0))
    apply List.ext_getElem?
    intro i
    by_cases hi : i < p + 1
    · rw [parL_get b hi]
      by_cases hip : i = p
      · subst hip
        rw [par_self]
        split
        · rename_i h0
          have := hlt h0
          rw [List.getElem?_set_ne (by omega), List.getElem?_append_right (by rw [parL_length]; exact Nat.le_refl _), parL_length, Nat.sub_self]; rfl
        · rw [List.getElem?_append_right (by rw [parL_length]; exact Nat.le_refl _), parL_length, Nat.sub_self]; rfl
      · have hi' : i < p := by omega
        rw [par_step e hp hst hi']
        split
        · rename_i hz
          rw [if_pos (by omega), ← hz]
          simp only [Int.toNat_natCast]
          rw [List.getElem?_set_self (by rw [List.length_append, parL_length]; omega)]
        · rename_i hz
          split
          · rename_i h0
            rw [List.getElem?_set_ne (by omega), List.getElem?_append_left (by rw [parL_length]; exact hi'), parL_get b hi']
          · rw [List.getElem?_append_left (by rw [parL_length]; exact hi'), parL_get b hi']
    · rw [List.getElem?_eq_none (by rw [parL_length]; omega)]
      split
      · rw [List.getElem?_eq_none (by rw [List.length_set, List.length_append, parL_length]; simp; omega)]
      · rw [List.getElem?_eq_none (by rw [List.length_append, parL_length]; simp; omega)]
theorem parL_all (b : List Int) : parL b b.length = treeL b := rfl
end Sky

namespace Sky
/-! ### how deep: the program's way -/
def PV (P : List Int) : Prop := ∀ i, i < P.length → -1 ≤ P.getD i 0 ∧ P.getD i 0 < (P.length : Int)
def kidN (P : List Int) (a : Int) (n : Nat) : List Nat := (List.range n).filter fun c => decide (P.getD c 0 = a)
theorem kidN_mem {P : List Int} {a : Int} {n c : Nat} : c ∈ kidN P a n ↔ c < n ∧ P.getD c 0 = a := by
  unfold kidN
  rw [List.mem_filter, List.mem_range, decide_eq_true_iff]
theorem kidN_succ (P : List Int) (a : Int) (n : Nat) : kidN P a (n + 1) = if P.getD n 0 = a then kidN P a n ++ [n] else kidN P a n := by
  unfold kidN
  rw [List.range_succ, List.filter_append]
  by_cases h : P.getD n 0 = a
  · rw [if_pos h, List.filter_cons, if_pos (decide_eq_true h)]; rfl
  · rw [if_neg h, List.filter_cons, if_neg (by simpa using h)]; simp
theorem kidN_length (P : List Int) (a : Int) (n : Nat) : (kidN P a n).length ≤ n := by
  have := List.length_filter_le (fun c => decide (P.getD c 0 = a)) (List.range n)
  rw [List.length_range] at this
  exact this
theorem kidN_nodup (P : List Int) (a : Int) (n : Nat) : (kidN P a n).Nodup := (List.nodup_range (n := n)).filter _
def dep0 (P : List Int) (n : Nat) : List Int := (List.range P.length).map fun j => if j < n ∧ P.getD j 0 = -1 then 0 else -1
theorem dep0_length (P : List Int) (n : Nat) : (dep0 P n).length = P.length := by simp [dep0]
theorem dep0_get {P : List Int} {n j : Nat} (hj : j < P.length) : (dep0 P n)[j]? = some (if j < n ∧ P.getD j 0 = -1 then 0 else -1) := by
  unfold dep0; rw [List.getElem?_map, List.getElem?_range hj]; rfl
theorem dep0_getD {P : List Int} {n j : Nat} (hj : j < P.length) : (dep0 P n).getD j 0 = if j < n ∧ P.getD j 0 = -1 then 0 else -1 := by
  rw [List.getD_eq_getElem?_getD, dep0_get hj]; rfl
theorem dep0_zero (P : List Int) : dep0 P 0 = List.replicate P.length (-1) := by
  apply List.ext_getElem?
  intro i
  by_cases hi : i < P.length
  · rw [dep0_get hi, if_neg (by omega), List.getElem?_replicate, if_pos hi]
  · rw [List.getElem?_eq_none (by rw [dep0_length]; omega), List.getElem?_eq_none (by rw [List.length_replicate]; omega)]
theorem dep0_set {P : List Int} {n : Nat} (hn : n < P.length) (h : P.getD n 0 = -1) : (dep0 P n).set n 0 = dep0 P (n + 1) := by
  apply List.ext_getElem?
  intro i
  by_cases hi : i < P.length
  · rw [dep0_get hi]
    by_cases he : i = n
    · subst he
      rw [List.getElem?_set_self (by rw [dep0_length]; exact hi), if_pos ⟨by omega, h⟩]
    · rw [List.getElem?_set_ne (by omega), dep0_get hi]
      congr 1
      by_cases hc : i < n ∧ P.getD i 0 = -1
      · rw [if_pos hc, if_pos ⟨by omega, hc.2⟩]
      · rw [if_neg hc, if_neg (fun z => hc ⟨by omega, z.2⟩)]
  · rw [List.getElem?_eq_none (by rw [List.length_set, dep0_length]; omega), List.getElem?_eq_none (by rw [dep0_length]; omega)]
theorem dep0_skip {P : List Int} {n : Nat} (h : ¬ P.getD n 0 = -1) : dep0 P (n + 1) = dep0 P n := by
  unfold dep0
  apply List.map_congr_left
  intro j _
  by_cases hc : j < n ∧ P.getD j 0 = -1
  · rw [if_pos hc, if_pos ⟨by omega, hc.2⟩]
  · rw [if_neg hc, if_neg (fun z => ?_)]
    by_cases he : j = n
    · subst he; exact h z.2
    · exact hc ⟨by omega, z.2⟩
/-- no more than n places -/
theorem pigeon : ∀ (n : Nat) (l : List Nat), l.Nodup → (∀ x ∈ l, x < n) → l.length ≤ n
  | 0, l, _, h => by
    cases l with
    | nil => exact Nat.le_refl _
    | cons x r => have := h x List.mem_cons_self; omega
  | n + 1, l, hd, h => by
    have hf : (l.filter fun x => decide (x ≠ n)).Nodup := hd.filter _
    have ih := pigeon n _ hf fun x hx => by
      obtain ⟨h1, h2⟩ := List.mem_filter.mp hx
      have := h x h1
      have := of_decide_eq_true h2
      omega
    have h2 : l.length ≤ (l.filter fun x => decide (x ≠ n)).length + 1 := by
      clear ih hf h
      induction l with
      | nil => simp
      | cons x r ihr =>
        have hr := (List.nodup_cons.mp hd).2
        have hx := (List.nodup_cons.mp hd).1
        by_cases he : x = n
        · subst he
          have : (r.filter fun y => decide (y ≠ x)) = r := List.filter_eq_self.mpr fun y hy => decide_eq_true (fun z => hx (z ▸ hy))
          rw [List.filter_cons, if_neg (by simp), this]
          simp
        · have := ihr hr
          rw [List.filter_cons, if_pos (decide_eq_true he)]
          simp only [List.length_cons]
          omega
    omega
structure DInv (P D : List Int) (Pd Wt : List Nat) : Prop where
  len : D.length = P.length
  nd : (Pd ++ Wt).Nodup
  mem : ∀ i, i ∈ Pd ++ Wt ↔ i < P.length ∧ (P.getD i 0 = -1 ∨ ∃ p ∈ Pd, P.getD i 0 = (p : Int))
  dep : ∀ i, i < P.length → (i ∈ Pd ++ Wt → ∃ d : Nat, Dep P i d ∧ D.getD i 0 = (d : Int)) ∧ (i ∉ Pd ++ Wt → D.getD i 0 = -1)
theorem DInv.start (P : List Int) : DInv P (dep0 P P.length) [] (kidN P (-1) P.length) := by
  refine ⟨dep0_length _ _, by rw [List.nil_append]; exact kidN_nodup _ _ _, fun i => ?_, fun i hi => ⟨fun hm => ?_, fun hm => ?_⟩⟩
  · rw [List.nil_append, kidN_mem]
    constructor
    · exact fun ⟨h1, h2⟩ => ⟨h1, .inl h2⟩
    · rintro ⟨h1, h2 | ⟨p, hp, _⟩⟩
      · exact ⟨h1, h2⟩
      · simp at hp
  · rw [List.nil_append, kidN_mem] at hm
    exact ⟨0, .root hi hm.2, by rw [dep0_getD hi, if_pos hm]; rfl⟩
  · rw [List.nil_append, kidN_mem] at hm
    rw [dep0_getD hi, if_neg hm]
def setAll (D : List Int) (v : Int) : List Nat → List Int
  | [] => D
  | c :: r => setAll (D.set c v) v r
theorem setAll_length (v : Int) : ∀ (ks : List Nat) (D : List Int), (setAll D v ks).length = D.length
  | [], D => rfl
  | c :: r, D => by unfold setAll; rw [setAll_length v r, List.length_set]
theorem setAll_getD (v : Int) : ∀ (ks : List Nat) (D : List Int) (i : Nat), i < D.length → (setAll D v ks).getD i 0 = if i ∈ ks then v else D.getD i 0
  | [], D, i, _ => by simp [setAll]
  | c :: r, D, i, hi => by
    unfold setAll
    rw [setAll_getD v r _ i (by rw [List.length_set]; exact hi)]
    by_cases h1 : i ∈ r
    · rw [if_pos h1, if_pos (List.mem_cons_of_mem _ h1)]
    · rw [if_neg h1]
      by_cases h2 : i = c
      · subst h2
        rw [if_pos List.mem_cons_self, List.getD_eq_getElem?_getD, List.getElem?_set_self hi]; rfl
      · rw [if_neg (fun z => by rcases List.mem_cons.mp z with z | z; exact h2 z; exact h1 z), List.getD_eq_getElem?_getD, List.getElem?_set_ne (Ne.symm h2), List.getD_eq_getElem?_getD]
theorem setAll_snoc (v : Int) : ∀ (ks : List Nat) (c : Nat) (D : List Int), setAll D v (ks ++ [c]) = (setAll D v ks).set c v
  | [], c, D => rfl
  | k :: r, c, D => by
    show setAll (D.set k v) v (r ++ [c]) = _
    rw [setAll_snoc v r c]; rfl
theorem DInv.kids {P D : List Int} {Pd Wt : List Nat} {a : Nat} (I : DInv P D Pd (Wt ++ [a])) : a < P.length ∧ ∀ c ∈ kidN P (a : Int) P.length, c ∉ Pd ++ (Wt ++ [a]) := by
  have ham : a ∈ Pd ++ (Wt ++ [a]) := List.mem_append_right _ (List.mem_append_right _ (by simp))
  refine ⟨((I.mem a).mp ham).1, fun c hc hm => ?_⟩
  have hk := kidN_mem.mp hc
  rcases ((I.mem c).mp hm).2 with z | ⟨p, hp, z⟩
  · rw [hk.2] at z; omega
  · have : p = a := by have := hk.2.symm.trans z; omega
    subst this
    have := (List.nodup_append.mp I.nd).2.2 p hp p (List.mem_append_right _ (by simp))
    exact this rfl
theorem DInv.step {P D : List Int} {Pd Wt : List Nat} {a : Nat} (I : DInv P D Pd (Wt ++ [a])) : DInv P (setAll D (D.getD a 0 + 1) (kidN P (a : Int) P.length)) (a :: Pd) (Wt ++ kidN P (a : Int) P.length) := by
  obtain ⟨ha, hk⟩ := I.kids
  have ham : a ∈ Pd ++ (Wt ++ [a]) := List.mem_append_right _ (List.mem_append_right _ (by simp))
  have mm : ∀ i, i ∈ (a :: Pd) ++ (Wt ++ kidN P (a : Int) P.length) ↔ i ∈ Pd ++ (Wt ++ [a]) ∨ i ∈ kidN P (a : Int) P.length := fun i => by
    simp only [List.mem_append, List.mem_cons, List.mem_singleton, List.cons_append, List.not_mem_nil, or_false]
    constructor
    · rintro (h | h | h | h)
      · exact .inl (.inr (.inr h))
      · exact .inl (.inl h)
      · exact .inl (.inr (.inl h))
      · exact .inr h
    · rintro ((h | h | h) | h)
      · exact .inr (.inl h)
      · exact .inr (.inr (.inl h))
      · exact .inl h
      · exact .inr (.inr (.inr h))
  refine ⟨by rw [setAll_length]; exact I.len, ?_, fun i => ?_, fun i hi => ?_⟩
  · obtain ⟨n1, n2, n3⟩ := List.nodup_append.mp I.nd
    obtain ⟨m1, m2, m3⟩ := List.nodup_append.mp n2
    have hk' : ∀ c ∈ kidN P (a : Int) P.length, c ∉ Pd ∧ c ∉ Wt ∧ c ≠ a := fun c hc => by
      have := hk c hc
      simp only [List.mem_append, List.mem_singleton, not_or] at this
      exact this
    rw [List.nodup_append]
    refine ⟨List.nodup_cons.mpr ⟨fun z => n3 a z a (List.mem_append_right _ (by simp)) rfl, n1⟩, ?_, ?_⟩
    · rw [List.nodup_append]
      exact ⟨m1, kidN_nodup _ _ _, fun x hx y hy e => (hk' y hy).2.1 (e ▸ hx)⟩
    · intro x hx y hy e
      subst e
      rcases List.mem_cons.mp hx with hx | hx
      · subst hx
        rcases List.mem_append.mp hy with hy | hy
        · exact m3 x hy x (by simp) rfl
        · exact (hk' x hy).2.2 rfl
      · rcases List.mem_append.mp hy with hy | hy
        · exact n3 x hx x (List.mem_append_left _ hy) rfl
        · exact (hk' x hy).1 hx
  · rw [mm, I.mem, kidN_mem]
    constructor
    · rintro (⟨h1, h2 | ⟨p, hp, h2⟩⟩ | ⟨h1, h2⟩)
      · exact ⟨h1, .inl h2⟩
      · exact ⟨h1, .inr ⟨p, List.mem_cons_of_mem _ hp, h2⟩⟩
      · exact ⟨h1, .inr ⟨a, List.mem_cons_self, h2⟩⟩
    · rintro ⟨h1, h2 | ⟨p, hp, h2⟩⟩
      · exact .inl ⟨h1, .inl h2⟩
      · rcases List.mem_cons.mp hp with rfl | hp
        · exact .inr ⟨h1, h2⟩
        · exact .inl ⟨h1, .inr ⟨p, hp, h2⟩⟩
  · have hi' : i < D.length := by rw [I.len]; exact hi
    rw [setAll_getD _ _ _ _ hi', mm]
    obtain ⟨d1, d2⟩ := I.dep i hi
    refine ⟨fun hm => ?_, fun hm => ?_⟩
    · by_cases hc : i ∈ kidN P (a : Int) P.length
      · rw [if_pos hc]
        obtain ⟨d, hd, e⟩ := (I.dep a ha).1 ham
        exact ⟨d + 1, .under hi (kidN_mem.mp hc).2 hd, by rw [e]; omega⟩
      · rw [if_neg hc]
        rcases hm with hm | hm
        · exact d1 hm
        · exact absurd hm hc
    · rw [if_neg (fun z => hm (.inr z))]
      exact d2 fun z => hm (.inl z)
theorem DInv.few {P D : List Int} {Pd Wt : List Nat} (I : DInv P D Pd Wt) : Pd.length + Wt.length ≤ P.length := by
  have := pigeon P.length _ I.nd fun x hx => ((I.mem x).mp hx).1
  rwa [List.length_append] at this
/-- what the list of depths tells -/
def IsDep (P D : List Int) : Prop := D.length = P.length ∧ ∀ i, i < P.length → (∃ d : Nat, Dep P i d ∧ D.getD i 0 = (d : Int)) ∨ ((∀ d, ¬ Dep P i d) ∧ D.getD i 0 = -1)
theorem DInv.done {P D : List Int} {Pd : List Nat} (I : DInv P D Pd []) : IsDep P D := by
  have all : ∀ i d, Dep P i d → i ∈ Pd := fun i d h => by
    induction h with
    | root hi h => simpa using (I.mem _).mpr ⟨hi, .inl h⟩
    | under hi h t ih => simpa using (I.mem _).mpr ⟨hi, .inr ⟨_, ih, h⟩⟩
  refine ⟨I.len, fun i hi => ?_⟩
  by_cases hm : i ∈ Pd ++ []
  · exact .inl ((I.dep i hi).1 hm)
  · exact .inr ⟨fun d h => hm (by simpa using all i d h), (I.dep i hi).2 hm⟩
theorem IsDep.ge {P D : List Int} (h : IsDep P D) {i : Nat} (hi : i < D.length) : -1 ≤ D.getD i 0 := by
  rw [h.1] at hi
  rcases h.2 i hi with ⟨d, _, e⟩ | ⟨_, e⟩ <;> omega
theorem IsDep.uniq {P D E : List Int} (h : IsDep P D) (g : IsDep P E) : D = E := by
  apply List.ext_getElem?
  intro i
  by_cases hi : i < P.length
  · have h1 : i < D.length := by rw [h.1]; exact hi
    have h2 : i < E.length := by rw [g.1]; exact hi
    have e1 : D[i]? = some (D.getD i 0) := by rw [List.getD_eq_getElem?_getD, List.getElem?_eq_getElem h1]; rfl
    have e2 : E[i]? = some (E.getD i 0) := by rw [List.getD_eq_getElem?_getD, List.getElem?_eq_getElem h2]; rfl
    rw [e1, e2]
    rcases h.2 i hi with ⟨d, a1, a2⟩ | ⟨a1, a2⟩
    · rcases g.2 i hi with ⟨e, b1, b2⟩ | ⟨b1, b2⟩
      · rw [a2, b2, a1.uniq b1]
      · exact absurd a1 (b1 d)
    · rcases g.2 i hi with ⟨e, b1, b2⟩ | ⟨b1, b2⟩
      · exact absurd b1 (a1 e)
      · rw [a2, b2]
  · rw [List.getElem?_eq_none (by rw [h.1]; omega), List.getElem?_eq_none (by rw [g.1]; omega)]
/-- of the tree of bars -/
theorem tree_back {b D : List Int} (hb : ∀ i, i < b.length → -1 ≤ b.getD i 0) (h : IsDep (treeL b) D) : treeL D = treeL b ∧ ∀ i, i < b.length → ∃ d : Nat, Dep (treeL b) i d ∧ D.getD i 0 = (d : Int) := by
  have hD : ∀ i, i < b.length → ∃ d : Nat, Dep (treeL b) i d ∧ D.getD i 0 = (d : Int) := fun i hi => by
    rcases h.2 i (by rw [treeL_length]; exact hi) with z | ⟨z, _⟩
    · exact z
    · obtain ⟨d, hd⟩ := tree_deps hb hi
      exact absurd hd (z d)
  exact ⟨tree_again (by rw [h.1, treeL_length]) hD, hD⟩
theorem treeL_pv {b : List Int} : PV (treeL b) := fun i hi => by
  rw [treeL_length] at hi ⊢
  rw [treeL_getD hi]
  rcases par_key hi with e | ⟨j, hj, e, _⟩
  · rw [e]; omega
  · rw [e]; omega
theorem Dep.bound {P : List Int} {i d : Nat} (h : Dep P i d) : ∃ l : List Nat, l.Nodup ∧ (∀ x ∈ l, x < P.length ∧ ∃ e, e ≤ d ∧ Dep P x e) ∧ l.length = d + 1 := by
  induction h with
  | root hi h => exact ⟨[_], by simp, fun x hx => by rw [List.mem_singleton.mp hx]; exact ⟨hi, 0, Nat.le_refl _, .root hi h⟩, rfl⟩
  | under hi h t ih =>
    rename_i i j d
    obtain ⟨l, n1, n2, n3⟩ := ih
    refine ⟨i :: l, List.nodup_cons.mpr ⟨fun z => ?_, n1⟩, fun x hx => ?_, by rw [List.length_cons, n3]⟩
    · obtain ⟨_, e, he, hde⟩ := n2 i z
      have := hde.uniq (.under hi h t)
      omega
    · rcases List.mem_cons.mp hx with rfl | hx
      · exact ⟨hi, d + 1, Nat.le_refl _, .under hi h t⟩
      · obtain ⟨h1, e, he, hde⟩ := n2 x hx
        exact ⟨h1, e, by omega, hde⟩
theorem Dep.small {P : List Int} {i d : Nat} (h : Dep P i d) : d < P.length := by
  obtain ⟨l, n1, n2, n3⟩ := h.bound
  have := pigeon P.length l n1 fun x hx => (n2 x hx).1
  omega
end Sky

namespace Sky
open PySem L2
def spPar : Sp := fun vs H Q _ => ∃ (a : Addr) (xs : List Int), vs = [.ref a] ∧ IL H a xs ∧ xs.length ≤ 100 ∧ newL H Q (treeL xs)
def spTree : Sp := fun vs H Q _ => ∃ (a : Addr) (xs : List Int), vs = [.ref a] ∧ IL H a xs ∧ Hts xs ∧ newL H Q (treeL xs)
def spChkP : Sp := fun vs H Q _ => ∃ (a : Addr) (P : List Int), vs = [.ref a] ∧ IL H a P ∧ P.length ≤ 100 ∧ PV P ∧ ∀ H', Same H H' → Q .non H'
def spDepths : Sp := fun vs H Q _ => ∃ (a : Addr) (P : List Int), vs = [.ref a] ∧ IL H a P ∧ P.length ≤ 100 ∧ PV P ∧ ∀ D : List Int, IsDep P D → newL H Q D
def spBarsOf : Sp := fun vs H Q _ => ∃ (a : Addr) (P : List Int), vs = [.ref a] ∧ IL H a P ∧ P.length ≤ 100 ∧ PV P ∧ (∀ D : List Int, IsDep P D → treeL D = P) ∧ ∀ D : List Int, IsDep P D → newL H Q D
def spParent : Sp := fun vs H Q _ => ∃ (a : Addr) (xs : List Int) (i : Nat), vs = [.ref a, .int (i : Nat)] ∧ IL H a xs ∧ i < xs.length ∧ Q (.int (par xs i xs.length)) H
def spDeep6 : Sp := fun vs H Q _ => ∃ (a : Addr) (P : List Int) (i d : Nat), vs = [.ref a, .int (i : Nat)] ∧ IL H a P ∧ Dep P i d ∧ Q (.int (d : Nat)) H
/-- a list of lists of places -/
structure KL (H : Hp) (bn : Addr) (ps : List Addr) (f : Nat → List Nat) : Prop where
  at_ : H bn = some (.lst (ps.map V.ref))
  nd : ps.Nodup
  it : ∀ (j : Nat) (p : Addr), ps[j]? = some p → IL H p (cst (f j)) ∧ p ≠ bn
theorem KL.get {H : Hp} {bn : Addr} {ps : List Addr} {f : Nat → List Nat} (h : KL H bn ps f) {j : Nat} (hj : j < ps.length) : atI (ps.map V.ref) (j : Int) = some (V.ref ps[j]) ∧ IL H ps[j] (cst (f j)) :=
  ⟨atI_nat (by rw [List.getElem?_map, List.getElem?_eq_getElem hj]; rfl), (h.it j _ (List.getElem?_eq_getElem hj)).1⟩
theorem KL.keep {H H' : Hp} {bn : Addr} {ps : List Addr} {f : Nat → List Nat} (h : KL H bn ps f) (k : ∀ b o, H b = some o → b = bn ∨ b ∈ ps → H' b = some o) : KL H' bn ps f :=
  ⟨k _ _ h.at_ (.inl rfl), h.nd, fun j p e => ⟨k _ _ (h.it j p e).1 (.inr (List.mem_of_getElem? e)), (h.it j p e).2⟩⟩
theorem nodup_get {α : Type} {l : List α} (h : l.Nodup) {i j : Nat} {x : α} (hi : l[i]? = some x) (hj : l[j]? = some x) : i = j := by
  obtain ⟨h1, e1⟩ := List.getElem?_eq_some_iff.mp hi
  obtain ⟨h2, e2⟩ := List.getElem?_eq_some_iff.mp hj
  exact (List.getElem_inj h).mp (e1.trans e2.symm)
/-- one of them grows -/
theorem KL.grow {H : Hp} {bn : Addr} {ps : List Addr} {f g : Nat → List Nat} {j : Nat} {x : Nat} (h : KL H bn ps f) (hj : j < ps.length) (hg : ∀ k, k < ps.length → g k = if k = j then f k ++ [x] else f k) : KL (upd H ps[j] (.lst ((cst (f j)).map V.int ++ [.int (x : Nat)]))) bn ps g := by
  have hpj := h.it j _ (List.getElem?_eq_getElem hj)
  refine ⟨by rw [upd_ne (Ne.symm hpj.2)]; exact h.at_, h.nd, fun k p e => ?_⟩
  have hk : k < ps.length := (List.getElem?_eq_some_iff.mp e).1
  have hp := h.it k p e
  refine ⟨?_, hp.2⟩
  rw [hg k hk]
  by_cases hkj : k = j
  · subst hkj
    have : ps[k] = p := Option.some.inj ((List.getElem?_eq_getElem hk).symm.trans e)
    rw [this, if_pos rfl]
    refine upd_same.trans ?_
    rw [show cst (f k ++ [x]) = cst (f k) ++ [(x : Int)] from List.map_append, List.map_append]; rfl
  · rw [if_neg hkj]
    have : p ≠ ps[j] := fun z => hkj (nodup_get h.nd e (by rw [List.getElem?_eq_getElem hj, z]))
    exact (upd_ne this).trans hp.1
theorem cst_snoc (l : List Nat) (x : Nat) : cst (l ++ [x]) = cst l ++ [(x : Int)] := List.map_append
theorem cst_length (l : List Nat) : (cst l).length = l.length := List.length_map _
end Sky
namespace Sky
open PySem L2
open Classical in
theorem dep_list (Pa : List Int) : ∃ E : List Int, IsDep Pa E := by
  refine ⟨(List.range Pa.length).map fun i => if h : ∃ d, Dep Pa i d then ((Classical.choose h : Nat) : Int) else -1, by simp, fun i hi => ?_⟩
  have e : ((List.range Pa.length).map fun i => if h : ∃ d, Dep Pa i d then ((Classical.choose h : Nat) : Int) else -1).getD i 0 = if h : ∃ d, Dep Pa i d then ((Classical.choose h : Nat) : Int) else -1 := by
    rw [List.getD_eq_getElem?_getD, List.getElem?_map, List.getElem?_range hi]; rfl
  rw [e]
  by_cases h : ∃ d, Dep Pa i d
  · rw [dif_pos h]
    exact .inl ⟨_, Classical.choose_spec h, rfl⟩
  · rw [dif_neg h]
    exact .inr ⟨fun d hd => h ⟨d, hd⟩, rfl⟩
theorem IsDep.hts {b D : List Int} (hb : ∀ i, i < b.length → -1 ≤ b.getD i 0) (hl : b.length ≤ 100) (h : IsDep (treeL b) D) : Hts D := by
  obtain ⟨_, g⟩ := tree_back hb h
  have hlen : D.length = b.length := by rw [h.1, treeL_length]
  refine ⟨by omega, fun x hx => ?_⟩
  obtain ⟨j, hj, e⟩ := List.getElem_of_mem hx
  obtain ⟨d, h1, h2⟩ := g j (by omega)
  have h3 := h1.small
  rw [treeL_length] at h3
  have e2 : D.getD j 0 = x := by rw [List.getD_eq_getElem?_getD, List.getElem?_eq_getElem hj, ← e]; rfl
  omega
end Sky

namespace Sky
open PySem L2
def top (i : Nat) : Stmt := PySem.Challenge.pw_skybars_k06_whole_tree.main.body.getD i (.Pass ⟨0, 0, 0, 0⟩)
abbrev sWithin : Stmt := top 6
abbrev sChk : Stmt := top 7
abbrev sChkP : Stmt := top 8
abbrev sPar : Stmt := top 10
abbrev sTree : Stmt := top 11
abbrev sDepths : Stmt := top 12
abbrev sBarsOf : Stmt := top 13
abbrev sBars : Stmt := top 15
abbrev sNums : Stmt := top 16
abbrev sParent : Stmt := top 17
abbrev sDeep : Stmt := top 18
abbrev sLaw : Stmt := top 19
end Sky

namespace Sky
open PySem L2
section
variable {P : Program} {w : World} {K : PySem.W.Frag} {mg : Str → Option Value} {base : Heap}
theorem scWithin : FnScope ["value", "least", "most"] ["value", "least", "most"] (defScope sWithin) := ⟨rfl, rfl, rfl, by decide +kernel, rfl, by decide +kernel, by decide +kernel⟩
theorem ok_within {f : Addr} {fd : FuncData} (F : Fun K "is_whole_within" "is_whole_within" sWithin f fd) (B : Blt mg) : FnOk P w K mg base CX0 1 f fd ["value", "least", "most"] spWithin := by
  refine F.ok scWithin (fun vs H Q E h => ?_) (fun cdv A outer s H vs Q E hr h => ?_)
  · obtain ⟨i, lo, hi, rfl, _⟩ := h
    rfl
  · obtain ⟨i, lo, hi, rfl, k⟩ := h
    refine ⟨_, pss_one (ps_ret (pe_and (pe_callB call_isinst rfl B.isinstance boot_isinst' (pa_cons (pv 0) (pa_cons (pe_bltn rfl B.int boot_int' (v := .ty "int") rfl) pa_nil)))
      (pe_and (pe_not (pe_callB call_isinst rfl B.isinstance boot_isinst' (pa_cons (pv 0) (pa_cons (pe_bltn rfl B.bool boot_bool' (v := .ty "bool") rfl) pa_nil)))) (pe_one (pe_chain op_le op_le (pv 1) (pv 0) (pv 2)))))), ?_⟩
    refine ⟨_, rfl, _, _, _, _, _, rfl, .int i, rfl, kit_ii _, true, rfl, iteT ?_⟩
    refine ⟨_, rfl, _, _, _, _, _, rfl, .int i, rfl, kit_ib _, false, rfl, true, rfl, iteT ?_⟩
    refine ⟨_, rfl, _, rfl, lo, i, rfl, rfl, _, rfl, ite2 (fun h => ⟨_, rfl, i, hi, rfl, rfl, ?_⟩) (fun h => ?_)⟩
    · have h' : lo ≤ i := of_decide_eq_true h
      have e : decide (i ≤ hi) = decide (lo ≤ i ∧ i ≤ hi) := by simp [h']
      show Q (.bl (decide (i ≤ hi))) H
      rw [e]; exact k
    · have h' : ¬ lo ≤ i := fun z => h (decide_eq_true z)
      have e : false = decide (lo ≤ i ∧ i ≤ hi) := by simp [h']
      show Q (.bl false) H
      rw [e]; exact k
end
end Sky

namespace Sky
open PySem L2
section
variable {P : Program} {w : World} {K : PySem.W.Frag} {mg : Str → Option Value} {base : Heap}
theorem scChk : FnScope ["bars"] ["bars"] (defScope sChk) := ⟨rfl, rfl, rfl, by decide +kernel, rfl, by decide +kernel, by decide +kernel⟩
theorem ok_chk {f : Addr} {fd : FuncData} (F : Fun K "check_bars" "check_bars" sChk f fd) (B : Blt mg) (hh : Hi mg) (cW : Callee P w K mg base 1 "is_whole_within" ["value", "least", "most"] spWithin) : FnOk P w K mg base CX0 3 f fd ["bars"] spChk := by
  refine F.ok scChk (fun vs H Q E h => ?_) (fun cdv A outer s H vs Q E hr h => ?_)
  · obtain ⟨a, xs, rfl, _⟩ := h
    rfl
  · obtain ⟨t, hh⟩ := hh
    obtain ⟨a, xs, rfl, hS, hb, k⟩ := h
    refine ⟨_, pss_cons (ps_if (pt_not (pt_val (pe_callB call_isinst rfl B.isinstance boot_isinst' (pa_cons (pv 0) (pa_cons (pe_bltn rfl B.list boot_list' (v := .ty "list") rfl) pa_nil))))) pss_never pss_nil)
      (pss_one (ps_if (pt_not (pt_val (pe_callB (call_all rfl) rfl B.all boot_all' (pa_cons (pe_lc (cap := []) ["value"] rfl (CompOk.of (defScope sChk) ["bars"] rfl rfl (by decide +kernel)) (pi_list (pv 0)) (fun C s H fp => pg_name (i := 0) (show List.Nodup (["value"] : List Str) from by decide +kernel) rfl (Or.inl rfl)) (fun C s H fp => pf_nil)
        (fun C s H fp => pe_fn cW (hr.mono (by decide)) rfl (pa_cons (pv 0) (pa_cons pe_int (pa_cons (pe_glob rfl hh (v := .int 10000000) ⟨t, rfl⟩) pa_nil))))) pa_nil)))) pss_never pss_nil)), ?_⟩
    refine ⟨_, rfl, _, _, _, _, _, rfl, .lst hS, rfl, kit_ll _, true, rfl, iteF ?_⟩
    have hz : xs.length ≤ sizeLine := Nat.le_of_lt (small100 hb.1)
    refine ⟨_, rfl, a, rfl, ⟨_, SqL.of hS⟩, fun D hD => lc_listP (xs := xs.map V.int) (fun v => match v with | .int i => .bl (decide (0 ≤ i ∧ i ≤ 10000000)) | _ => .non) hD (SqL.of hS) (by rw [List.length_map]; exact hz) ?_ ?_⟩
    · intro i x ys C s H0 fp R hx hR
      obtain ⟨z, rfl, _⟩ := get_mapM hx
      exact ⟨_, rfl, z, 0, 10000000, rfl, hR⟩
    · refine ⟨D, xs.map (fun i => decide (0 ≤ i ∧ i ≤ 10000000)), rfl, SqL.of (by rw [upd_same, List.map_map, List.map_map]; rfl), _, rfl, ?_⟩
      have e : (xs.map (fun i => decide (0 ≤ i ∧ i ≤ 10000000))).all id = true := by
        rw [List.all_eq_true]
        intro b hb'
        obtain ⟨z, hz, rfl⟩ := List.mem_map.mp hb'
        exact decide_eq_true (hb.2 z hz)
      rw [e]
      exact iteF (k _ (Same.new hD _))
end
end Sky

namespace Sky
open PySem L2
section
variable {P : Program} {w : World} {K : PySem.W.Frag} {mg : Str → Option Value} {base : Heap}
theorem scChkP : FnScope ["parents", "final"] ["parents"] (defScope sChkP) := ⟨rfl, rfl, rfl, by decide +kernel, rfl, by decide +kernel, by decide +kernel⟩
theorem ok_chkP {f : Addr} {fd : FuncData} (F : Fun K "check_parents" "check_parents" sChkP f fd) (B : Blt mg) (cW : Callee P w K mg base 1 "is_whole_within" ["value", "least", "most"] spWithin) : FnOk P w K mg base CX0 2 f fd ["parents"] spChkP := by
  refine F.ok scChkP (fun vs H Q E h => ?_) (fun cdv A outer s H vs Q E hr h => ?_)
  · obtain ⟨a, Pa, rfl, _⟩ := h
    rfl
  · obtain ⟨a, Pa, rfl, hS, hl, hv, k⟩ := h
    refine ⟨_, (pss_cons (ps_if (pt_not (pt_val (pe_callB call_isinst rfl B.isinstance boot_isinst' (pa_cons (pv 0) (pa_cons (pe_bltn rfl B.list boot_list' (v := .ty "list") rfl) pa_nil))))) pss_never pss_nil)
      (pss_cons (ps_set (i := 1) scChkP.nd rfl (Or.inr rfl) (pe_op op_sub (pe_callB call_len_seq rfl B.len PySem.boot_len (pa_cons (pv 0) pa_nil)) pe_int))
      (pss_one (ps_if (pt_not (pt_val (pe_callB (call_all rfl) rfl B.all boot_all' (pa_cons (pe_lc (cap := [1]) ["value"] rfl (CompOk.of (defScope sChkP) ["parents", "final"] rfl rfl (by decide +kernel)) (pi_list (pv 0)) (fun C s H fp => (pg_name (i := 0) (show List.Nodup (["value", "final"] : List Str) from by decide +kernel) rfl (Or.inl rfl))) (fun C s H fp => pf_nil)
        (fun C s H fp => (pe_fn cW hr rfl (pa_cons (pv 0) (pa_cons (pe_un un_neg pe_int) (pa_cons (pv 1) pa_nil)))))) pa_nil)))) pss_never pss_nil)))), ?_⟩
    refine ⟨_, rfl, _, _, _, _, _, rfl, .lst hS, rfl, kit_ll _, true, rfl, iteF ?_⟩
    refine ⟨_, rfl, a, _, rfl, .inl (SqL.of hS), _, 1, rfl, rfl, ?_⟩
    refine ⟨_, rfl, a, rfl, ⟨_, SqL.of hS⟩, fun D hD => lc_listP (xs := Pa.map V.int) (fun v => .bl true) hD (SqL.of hS) (by rw [List.length_map]; exact Nat.le_of_lt (small100 hl)) ?_ ?_⟩
    · intro i x ys C s H0 fp R hx hR
      obtain ⟨z, rfl, b1⟩ := get_mapM hx
      have hi : i < Pa.length := (List.getElem?_eq_some_iff.mp b1).1
      have e : Pa.getD i 0 = z := by rw [List.getD_eq_getElem?_getD, b1]; rfl
      have v := hv i hi
      rw [e] at v
      refine ⟨_, rfl, 1, rfl, _, rfl, z, -1, _, rfl, ?_⟩
      rw [List.length_map, decide_eq_true (show -1 ≤ z ∧ z ≤ (Pa.length : Int) - 1 by omega)]
      exact hR
    · refine ⟨D, Pa.map (fun _ => true), rfl, SqL.of (by rw [upd_same, List.map_map, List.map_map]; rfl), _, rfl, ?_⟩
      have e : (Pa.map (fun _ => true)).all id = true := by
        rw [List.all_eq_true]
        intro b hb'
        obtain ⟨z, hz, rfl⟩ := List.mem_map.mp hb'
        rfl
      rw [e]
      exact iteF (k _ (Same.new hD _))
end
end Sky

namespace Sky
open PySem L2
section
variable {P : Program} {w : World} {K : PySem.W.Frag} {mg : Str → Option Value} {base : Heap}
theorem scPar : FnScope ["bars", "parents", "rising", "place", "height", "topmost"] ["bars"] (defScope sPar) := ⟨rfl, rfl, rfl, by decide +kernel, rfl, by decide +kernel, by decide +kernel⟩
theorem ok_par {f : Addr} {fd : FuncData} (F : Fun K "parents_in_tree" "parents_in_tree" sPar f fd) (B : Blt mg)  : FnOk P w K mg base CX0 1 f fd ["bars"] spPar := by
  refine F.ok scPar (fun vs H Q E h => ?_) (fun cdv A outer s H vs Q E hr h => ?_)
  · obtain ⟨a, xs, rfl, _⟩ := h
    rfl
  · obtain ⟨a, xs, rfl, hS, hl, k⟩ := h
    refine ⟨_, (pss_cons (ps_set (i := 1) scPar.nd rfl (Or.inl rfl) (pe_lst pa_nil))
      (pss_cons (ps_set (i := 2) scPar.nd rfl (Or.inl rfl) (pe_lst pa_nil))
      (pss_cons (ps_for PassesOwn.never rfl (pi_enum rfl B.enumerate (pa_cons (pv 0) pa_nil)) (pg_tup rfl (pgs_cons (pg_name (i := 3) scPar.nd rfl (Or.inl rfl)) (pgs_cons (pg_name (i := 4) scPar.nd rfl (Or.inl rfl)) pgs_nil)))
      (pss_cons (ps_set (i := 5) scPar.nd rfl (Or.inl rfl) (pe_un un_neg pe_int))
      (pss_cons (ps_while PassesOwn.never (PW.pt (pw_and (pt_truth (pv 2) (fun _ => rfl)) (pw_and1 (pt_cmpR op_gt (pe_ix ix_list (pv 0) (pe_ix ix_list (pv 2) (pe_un un_neg pe_int) (fun _ _ => rfl)) (fun _ _ => rfl)) (pv 4) (nomark _)))))
      (pss_one (ps_set (i := 5) scPar.nd rfl (Or.inl rfl) (pe_bm0 PySem.F.plainAttrs_list PySem.F.slot_list_pop PySem.F.type_list_pop mt_pop (pv 2)))))
      (pss_cons (ps_expr (pe_bm PySem.F.plainAttrs_list PySem.F.slot_list_append PySem.F.type_list_append mt_append (pv 1) (pa_cons (pe_ifExp (pt_truth (pv 2) (fun _ => rfl)) (pe_ix ix_list (pv 2) (pe_un un_neg pe_int) (fun _ _ => rfl)) (pe_un un_neg pe_int)) pa_nil)))
      (pss_cons (ps_if (pt_cmpR op_ge (pv 5) pe_int (nomark _)) (pss_one (ps_asg (pv 3) (pg_sub (pv 1) (pv 5) set_list))) pss_nil)
      (pss_one (ps_expr (pe_bm PySem.F.plainAttrs_list PySem.F.slot_list_append PySem.F.type_list_append mt_append (pv 2) (pa_cons (pv 3) pa_nil)))))))))
      (pss_one (ps_ret (pv 1)))))), ?_⟩
    refine ⟨Nat.zero_le _, fun c hc => ⟨Nat.zero_le _, fun q hq => ?_⟩⟩
    have hcq : c ≠ q := ne_of_none upd_same hq
    have nq : H q = none := (Same.new hc _).free hq
    have s3 : Same H (upd (upd H c (.lst [])) q (.lst [])) := (Same.new hc _).put nq
    refine ⟨_, rfl, a, rfl, ⟨_, SqL.of (s3 _ _ hS)⟩, for_enum (K := K) (a := a) (xs := xs.map V.int) (fun i σ H2 => ∃ v3 v4 v5, σ = [some (.ref a), some (.ref c), some (.ref q), v3, v4, v5] ∧ Same H H2 ∧ IL H2 c (parL xs i) ∧ IL H2 q (cst (stkT xs i)).reverse)
      ⟨none, none, none, rfl, s3, (upd_ne hcq).trans upd_same, upd_same⟩ (fun i σ H2 _ ⟨_, _, _, _, s2, _⟩ => SqL.of (s2 _ _ hS)) ?_ ?_⟩
    · rintro i y σ H2 p hi ⟨v3, v4, v5, rfl, s2, hC, hQ⟩ hp
      obtain ⟨h, rfl, hx⟩ := get_mapM hi
      have hil : i < xs.length := (List.getElem?_eq_some_iff.mp hx).1
      have hxd : xs.getD i 0 = h := by rw [List.getD_eq_getElem?_getD, hx]; rfl
      have s4 : Same H2 (upd H2 p (.tup [.int (i : Nat), .int h])) := Same.new hp _
      refine ⟨p, _, rfl, SqT.of upd_same, rfl, _, _, rfl, _, _, rfl, rfl, ?_⟩
      have s2' := s2.trans s4
      have hC' := s4 _ _ hC
      have hQ' := s4 _ _ hQ
      generalize upd H2 p (.tup [.int (i : Nat), .int h]) = H3 at s2' hC' hQ'
      have hcl : ((parL xs i).map V.int).length < sizeLine := by rw [List.length_map, parL_length]; exact small100 (by omega)
      refine ⟨1, rfl, ?_⟩
      refine ⟨fun m σ H4 => ∃ (pop st : List Nat), σ = [some (.ref a), some (.ref c), some (.ref q), some (.int (i : Nat)), some (.int h), some (.int (lastI pop))] ∧ Same H H4 ∧ IL H4 c (parL xs i) ∧ IL H4 q (cst st).reverse ∧ m = st.length ∧ pop ++ st = stkT xs i ∧ (∀ x ∈ pop, h < xs.getD x 0),
        ⟨_, [], stkT xs i, rfl, s2', hC', hQ', rfl, rfl, fun x hx => by simp at hx⟩, ?_⟩
      rintro m σ H4 ⟨pop, st, rfl, s4, hC, hQ, rfl, hd, hp⟩
      have hsl : st.length ≤ i := by have := congrArg List.length hd; rw [List.length_append] at this; have := stkT_length xs i; omega
      refine ⟨_, rfl, _, .inl ⟨_, SqL.of hQ, rfl⟩, ?_⟩
      cases st with
      | nil =>
        refine iteF (iteF ?_)
        have hst : ∀ (x : Nat) (r : List Nat), ([] : List Nat) = x :: r → xs.getD x 0 ≤ xs.getD i 0 := fun x r z => by cases z
        obtain ⟨hA, hstep⟩ := parL_step hd (fun x hx => by rw [hxd]; exact hp x hx) hst
        refine ⟨_, rfl, .inl ⟨rfl, _, SqL.of hC⟩, ⟨_, rfl, _, .inl ⟨_, SqL.of hQ, rfl⟩, iteF ⟨1, rfl, c, _, V.int (aN xs i), rfl, (by rw [← hA]; rfl), hC, hcl, ?_⟩⟩⟩
        -- behind the loop: the list c grew by the bar beneath which this one hangs so far
        have hcl2 : ((parL xs i).map V.int ++ [V.int (aN xs i)]).length = i + 1 := by rw [List.length_append, List.length_map, parL_length]; rfl
        have hC5 : (upd H4 c (.lst ((parL xs i).map V.int ++ [.int (aN xs i)]))) c = some (.lst ((parL xs i ++ [aN xs i]).map V.int)) := upd_same.trans (by rw [List.map_append]; rfl)
        have hQ5 : (upd H4 c (.lst ((parL xs i).map V.int ++ [.int (aN xs i)]))) q = some (.lst ((cst ([] : List Nat)).reverse.map V.int)) := (upd_ne hcq.symm).trans hQ
        have s5 : Same H (upd H4 c (.lst ((parL xs i).map V.int ++ [.int (aN xs i)]))) := s4.put hc
        generalize upd H4 c (.lst ((parL xs i).map V.int ++ [.int (aN xs i)])) = H5 at hC5 hQ5 s5
        have hstk : stkT xs (i + 1) = i :: ([] : List Nat) := by
          show i :: _ = _
          rw [← hd, drop_app (fun x hx => decide_eq_true (by rw [hxd]; exact hp x hx)) (fun x r hx => decide_eq_false (by have := hst x r hx; omega))]
        have hrl : ((cst ([] : List Nat)).reverse.map V.int).length < sizeLine := by rw [List.length_map, List.length_reverse, cst_length]; exact small100 (by omega)
        have hnew : ∀ o, (upd H5 q (.lst ((cst ([] : List Nat)).reverse.map V.int ++ [.int (i : Nat)]))) q = o → (∃ w, o = w) := fun o _ => ⟨o, rfl⟩
        have eR : (.lst ((cst ([] : List Nat)).reverse.map V.int ++ [.int (i : Nat)]) : HO) = .lst ((cst (stkT xs (i + 1))).reverse.map V.int) := by
          rw [hstk, show cst (i :: ([] : List Nat)) = (i : Int) :: cst ([] : List Nat) from rfl, List.reverse_cons, List.map_append]; rfl
        refine ⟨_, rfl, _, 0, rfl, rfl, _, rfl, ite2 (fun ht0 => ?_) (fun ht0 => ?_)⟩
        · have ht0' : 0 ≤ lastI pop := of_decide_eq_true ht0
          rw [if_pos ht0'] at hstep
          have htl : (lastI pop).toNat < i := stkT_lt xs i _ (hd ▸ List.mem_append_left _ (lastI_mem ht0'))
          refine ⟨_, rfl, _, rfl, _, rfl, c, _, _, (lastI pop).toNat, rfl, rfl, hC5, ?_, ?_⟩
          · have := ixN_nat (n := ((parL xs i ++ [aN xs i]).map V.int).length) (i := (lastI pop).toNat) (by rw [List.length_map, List.length_append, parL_length]; simp; omega)
            rwa [show (((lastI pop).toNat : Nat) : Int) = lastI pop by omega] at this
          have hC6 : (upd H5 c (.lst (((parL xs i ++ [aN xs i]).map V.int).set (lastI pop).toNat (.int (i : Nat))))) c = some (.lst ((parL xs (i + 1)).map V.int)) := upd_same.trans (by rw [hstep, List.map_set])
          have hQ6 : (upd H5 c (.lst (((parL xs i ++ [aN xs i]).map V.int).set (lastI pop).toNat (.int (i : Nat))))) q = some (.lst ((cst ([] : List Nat)).reverse.map V.int)) := (upd_ne hcq.symm).trans hQ5
          exact ⟨_, rfl, .inl ⟨rfl, _, SqL.of hQ6⟩, _, rfl, q, _, _, rfl, rfl, hQ6, hrl, _, _, _, rfl, (s5.put hc).put nq, (upd_ne hcq).trans hC6, upd_same.trans (congrArg some eR)⟩
        · have ht0' : ¬ 0 ≤ lastI pop := fun z => ht0 (decide_eq_true z)
          rw [if_neg ht0'] at hstep
          exact ⟨_, rfl, .inl ⟨rfl, _, SqL.of hQ5⟩, _, rfl, q, _, _, rfl, rfl, hQ5, hrl, _, _, _, rfl, s5.put nq, (upd_ne hcq).trans (by rw [hstep]; exact hC5), upd_same.trans (congrArg some eR)⟩

      | cons y st =>
        have hem : (!((cst (y :: st)).reverse.map V.int).isEmpty) = true := by simp
        rw [hem]
        refine iteT ?_
        have hyi : y < i := stkT_lt xs i y (hd ▸ List.mem_append_right _ List.mem_cons_self)
        refine ⟨_, rfl, _, rfl, 1, rfl, q, _, -1, _, rfl, rfl, SqL.of hQ, atI_lastM (cst st) y, a, _, _, _, rfl, rfl, SqL.of (s4 _ _ hS), atI_mapM (by omega), _, rfl, _, h, rfl, rfl, _, rfl, ite2 (fun hy => ?_) (fun hy => ?_)⟩
        · have hy' : h < xs.getD y 0 := of_decide_eq_true hy
          refine ⟨_, fun _ _ z => z, ?_⟩
          refine ⟨_, rfl, .inl ⟨rfl, _, SqL.of hQ⟩, q, _, _, rfl, rfl, hQ, get_lastM (cst st) y, ?_⟩
          refine ⟨st.length, Nat.lt_succ_self _, pop ++ [y], st, ?_, s4.put nq, (upd_ne hcq).trans hC, upd_same.trans ?_, rfl, by rw [List.append_assoc]; exact hd, fun x hx => ?_⟩
          · rw [lastI_snoc]; rfl
          · show some (HO.lst ((((y : Int) :: cst st).reverse.map V.int).dropLast)) = _
            rw [dropLastM]
          · rcases List.mem_append.mp hx with hx | hx
            · exact hp x hx
            · rw [List.mem_singleton.mp hx]; exact hy'
        · have hy' : ¬ h < xs.getD y 0 := fun z => hy (decide_eq_true z)
          have hst : ∀ (x : Nat) (r : List Nat), (y :: st) = x :: r → xs.getD x 0 ≤ xs.getD i 0 := fun x r z => by
            obtain ⟨rfl, _⟩ := List.cons.inj z
            omega
          obtain ⟨hA, hstep⟩ := parL_step hd (fun x hx => by rw [hxd]; exact hp x hx) hst
          refine ⟨_, rfl, .inl ⟨rfl, _, SqL.of hC⟩, ⟨_, rfl, _, .inl ⟨_, SqL.of hQ, rfl⟩, ?_⟩⟩
          rw [hem]
          refine iteT ⟨_, rfl, 1, rfl, q, _, -1, _, rfl, rfl, SqL.of hQ, atI_lastM (cst st) y, c, _, V.int (aN xs i), rfl, (by rw [← hA]; rfl), hC, hcl, ?_⟩
          -- behind the loop: the list c grew by the bar beneath which this one hangs so far
          have hcl2 : ((parL xs i).map V.int ++ [V.int (aN xs i)]).length = i + 1 := by rw [List.length_append, List.length_map, parL_length]; rfl
          have hC5 : (upd H4 c (.lst ((parL xs i).map V.int ++ [.int (aN xs i)]))) c = some (.lst ((parL xs i ++ [aN xs i]).map V.int)) := upd_same.trans (by rw [List.map_append]; rfl)
          have hQ5 : (upd H4 c (.lst ((parL xs i).map V.int ++ [.int (aN xs i)]))) q = some (.lst ((cst (y :: st)).reverse.map V.int)) := (upd_ne hcq.symm).trans hQ
          have s5 : Same H (upd H4 c (.lst ((parL xs i).map V.int ++ [.int (aN xs i)]))) := s4.put hc
          generalize upd H4 c (.lst ((parL xs i).map V.int ++ [.int (aN xs i)])) = H5 at hC5 hQ5 s5
          have hstk : stkT xs (i + 1) = i :: (y :: st) := by
            show i :: _ = _
            rw [← hd, drop_app (fun x hx => decide_eq_true (by rw [hxd]; exact hp x hx)) (fun x r hx => decide_eq_false (by have := hst x r hx; omega))]
          have hrl : ((cst (y :: st)).reverse.map V.int).length < sizeLine := by rw [List.length_map, List.length_reverse, cst_length]; exact small100 (by omega)
          have hnew : ∀ o, (upd H5 q (.lst ((cst (y :: st)).reverse.map V.int ++ [.int (i : Nat)]))) q = o → (∃ w, o = w) := fun o _ => ⟨o, rfl⟩
          have eR : (.lst ((cst (y :: st)).reverse.map V.int ++ [.int (i : Nat)]) : HO) = .lst ((cst (stkT xs (i + 1))).reverse.map V.int) := by
            rw [hstk, show cst (i :: (y :: st)) = (i : Int) :: cst (y :: st) from rfl, List.reverse_cons, List.map_append]; rfl
          refine ⟨_, rfl, _, 0, rfl, rfl, _, rfl, ite2 (fun ht0 => ?_) (fun ht0 => ?_)⟩
          · have ht0' : 0 ≤ lastI pop := of_decide_eq_true ht0
            rw [if_pos ht0'] at hstep
            have htl : (lastI pop).toNat < i := stkT_lt xs i _ (hd ▸ List.mem_append_left _ (lastI_mem ht0'))
            refine ⟨_, rfl, _, rfl, _, rfl, c, _, _, (lastI pop).toNat, rfl, rfl, hC5, ?_, ?_⟩
            · have := ixN_nat (n := ((parL xs i ++ [aN xs i]).map V.int).length) (i := (lastI pop).toNat) (by rw [List.length_map, List.length_append, parL_length]; simp; omega)
              rwa [show (((lastI pop).toNat : Nat) : Int) = lastI pop by omega] at this
            have hC6 : (upd H5 c (.lst (((parL xs i ++ [aN xs i]).map V.int).set (lastI pop).toNat (.int (i : Nat))))) c = some (.lst ((parL xs (i + 1)).map V.int)) := upd_same.trans (by rw [hstep, List.map_set])
            have hQ6 : (upd H5 c (.lst (((parL xs i ++ [aN xs i]).map V.int).set (lastI pop).toNat (.int (i : Nat))))) q = some (.lst ((cst (y :: st)).reverse.map V.int)) := (upd_ne hcq.symm).trans hQ5
            exact ⟨_, rfl, .inl ⟨rfl, _, SqL.of hQ6⟩, _, rfl, q, _, _, rfl, rfl, hQ6, hrl, _, _, _, rfl, (s5.put hc).put nq, (upd_ne hcq).trans hC6, upd_same.trans (congrArg some eR)⟩
          · have ht0' : ¬ 0 ≤ lastI pop := fun z => ht0 (decide_eq_true z)
            rw [if_neg ht0'] at hstep
            exact ⟨_, rfl, .inl ⟨rfl, _, SqL.of hQ5⟩, _, rfl, q, _, _, rfl, rfl, hQ5, hrl, _, _, _, rfl, s5.put nq, (upd_ne hcq).trans (by rw [hstep]; exact hC5), upd_same.trans (congrArg some eR)⟩

    · rintro σ H2 ⟨v3, v4, v5, rfl, s2, hC, hQ⟩
      rw [List.length_map, parL_all] at hC
      exact ⟨_, rfl, k c H2 hc s2 hC⟩
end
end Sky

namespace Sky
open PySem L2
section
variable {P : Program} {w : World} {K : PySem.W.Frag} {mg : Str → Option Value} {base : Heap}
theorem scTree : FnScope ["bars"] ["bars"] (defScope sTree) := ⟨rfl, rfl, rfl, by decide +kernel, rfl, by decide +kernel, by decide +kernel⟩
theorem ok_tree {f : Addr} {fd : FuncData} (F : Fun K "tree" "tree" sTree f fd) (B : Blt mg) (cC : Callee P w K mg base 3 "check_bars" ["bars"] spChk) (cP : Callee P w K mg base 1 "parents_in_tree" ["bars"] spPar) : FnOk P w K mg base CX0 4 f fd ["bars"] spTree := by
  refine F.ok scTree (fun vs H Q E h => ?_) (fun cdv A outer s H vs Q E hr h => ?_)
  · obtain ⟨a, xs, rfl, _⟩ := h
    rfl
  · obtain ⟨a, xs, rfl, hS, hh, k⟩ := h
    refine ⟨_, (pss_cons (ps_expr (pe_fn cC hr rfl (pa_cons (pv 0) pa_nil)))
      (pss_one (ps_ret (pe_fn cP (hr.mono (by decide)) rfl (pa_cons (pv 0) pa_nil))))), ?_⟩
    refine ⟨_, rfl, a, xs, rfl, hS, hh, fun H1 s1 => ?_⟩
    exact ⟨_, rfl, a, xs, rfl, s1 _ _ hS, hh.1, fun l H2 nl s2 hL => k l H2 (s1.free nl) (s1.trans s2) hL⟩
end
end Sky

namespace Sky
open PySem L2
section
variable {P : Program} {w : World} {K : PySem.W.Frag} {mg : Str → Option Value} {base : Heap}
theorem scDepths : FnScope ["parents", "beneath", "deep", "waiting", "place", "parent", "above"] ["parents"] (defScope sDepths) := ⟨rfl, rfl, rfl, by decide +kernel, rfl, by decide +kernel, by decide +kernel⟩
theorem ok_depths {f : Addr} {fd : FuncData} (F : Fun K "depths" "depths" sDepths f fd) (B : Blt mg)  : FnOk P w K mg base CX0 1 f fd ["parents"] spDepths := by
  refine F.ok scDepths (fun vs H Q E h => ?_) (fun cdv A outer s H vs Q E hr h => ?_)
  · obtain ⟨a, Pa, rfl, _⟩ := h
    rfl
  · obtain ⟨a, Pa, rfl, hS, hl, hv, k⟩ := h
    refine ⟨_, (pss_cons (ps_lc (i := 1) (cap := []) ["parent"] rfl (CompOk.of (defScope sDepths) ["parents", "beneath", "deep", "waiting", "place", "parent", "above"] rfl rfl (by decide +kernel)) scDepths.nd rfl (Or.inl rfl) (pi_list (pv 0)) (fun C s H fp => (pg_name (i := 0) (show List.Nodup (["parent"] : List Str) from by decide +kernel) rfl (Or.inl rfl))) (fun C s H fp => pf_nil)
        (fun C s H fp => (pe_lst pa_nil)) rfl)
      (pss_cons (ps_lc (i := 2) (cap := []) ["parent"] rfl (CompOk.of (defScope sDepths) ["parents", "beneath", "deep", "waiting", "place", "parent", "above"] rfl rfl (by decide +kernel)) scDepths.nd rfl (Or.inl rfl) (pi_list (pv 0)) (fun C s H fp => (pg_name (i := 0) (show List.Nodup (["parent"] : List Str) from by decide +kernel) rfl (Or.inl rfl))) (fun C s H fp => pf_nil)
        (fun C s H fp => (pe_un un_neg pe_int)) rfl)
      (pss_cons (ps_set (i := 3) scDepths.nd rfl (Or.inl rfl) (pe_lst pa_nil))
      (pss_cons (ps_for PassesOwn.never rfl (pi_enum rfl B.enumerate (pa_cons (pv 0) pa_nil)) (pg_tup rfl (pgs_cons (pg_name (i := 4) scDepths.nd rfl (Or.inl rfl)) (pgs_cons (pg_name (i := 5) scDepths.nd rfl (Or.inl rfl)) pgs_nil)))
      (pss_one (ps_if (pt_cmpR op_eq (pv 5) (pe_un un_neg pe_int) (nomark _)) (pss_cons (ps_asg pe_int (pg_sub (pv 2) (pv 4) set_list))
      (pss_one (ps_expr (pe_bm PySem.F.plainAttrs_list PySem.F.slot_list_append PySem.F.type_list_append mt_append (pv 3) (pa_cons (pv 4) pa_nil))))) (pss_one (ps_expr (pe_bm PySem.F.plainAttrs_list PySem.F.slot_list_append PySem.F.type_list_append mt_append (pe_ix ix_list (pv 1) (pv 5) (fun _ _ => rfl)) (pa_cons (pv 4) pa_nil)))))))
      (pss_cons (ps_while PassesOwn.never (pt_truth (pv 3) (fun _ => rfl))
      (pss_cons (ps_set (i := 6) scDepths.nd rfl (Or.inl rfl) (pe_bm0 PySem.F.plainAttrs_list PySem.F.slot_list_pop PySem.F.type_list_pop mt_pop (pv 3)))
      (pss_one (ps_for PassesOwn.never rfl (pi_list (pe_ix ix_list (pv 1) (pv 6) (fun _ _ => rfl))) (pg_name (i := 4) scDepths.nd rfl (Or.inl rfl))
      (pss_cons (ps_asg (pe_op op_add (pe_ix ix_list (pv 2) (pv 6) (fun _ _ => rfl)) pe_int) (pg_sub (pv 2) (pv 4) set_list))
      (pss_one (ps_expr (pe_bm PySem.F.plainAttrs_list PySem.F.slot_list_append PySem.F.type_list_append mt_append (pv 3) (pa_cons (pv 4) pa_nil)))))))))
      (pss_one (ps_ret (pv 2)))))))), ?_⟩
    -- a list for each place
    refine ⟨_, rfl, a, rfl, ⟨_, SqL.of hS⟩, fun bn hbn => lc_list (xs := Pa.map V.int) (fun i H2 ys => Same H H2 ∧ H2 bn = some (.lst ys) ∧ ∃ ps : List Addr, ys = ps.map V.ref ∧ ps.length = i ∧ ps.Nodup ∧ ∀ p ∈ ps, H2 p = some (.lst []) ∧ p ≠ bn ∧ H p = none)
      ⟨Same.new hbn _, upd_same, [], rfl, rfl, List.nodup_nil, fun p hp => by simp at hp⟩ (fun i H2 ys _ h => ⟨SqL.of (h.1 _ _ hS), h.2.1⟩) ?_ ?_⟩
    · rintro i x H2 ys hx ⟨s2, hb2, ps, rfl, hpl, hnd, hps⟩ C s H0 fp
      have hi : i < Pa.length := by have := (List.getElem?_eq_some_iff.mp hx).1; rwa [List.length_map] at this
      refine ⟨Nat.zero_le _, fun p hp => ?_⟩
      have npb : p ≠ bn := fun z => by rw [z, hb2] at hp; cases hp
      refine ⟨(upd_ne (Ne.symm npb)).trans hb2, by rw [List.length_map, hpl]; exact small100 (by omega), (s2.put (s2.free hp)).put hbn, upd_same, ps ++ [p], by rw [List.map_append]; rfl, by rw [List.length_append, hpl]; rfl, ?_, fun p2 hp2 => ?_⟩
      · rw [List.nodup_append]
        refine ⟨hnd, by simp, fun x hx y hy e => ?_⟩
        rw [List.mem_singleton.mp hy] at e
        subst e
        rw [(hps x hx).1] at hp; cases hp
      · rcases List.mem_append.mp hp2 with hp2 | hp2
        · obtain ⟨z1, z2, z3⟩ := hps p2 hp2
          refine ⟨?_, z2, z3⟩
          rw [upd_ne z2, upd_ne (ne_of_none z1 hp)]; exact z1
        · rw [List.mem_singleton.mp hp2]
          exact ⟨by rw [upd_ne npb, upd_same], npb, s2.free hp⟩
    rintro H2 ys ⟨s2, hb2, ps, rfl, hpl, hnd, hps⟩
    rw [List.length_map] at hpl
    have K2 : KL H2 bn ps fun j => kidN Pa (j : Int) 0 := ⟨hb2, hnd, fun j p e => ⟨(hps p (List.mem_of_getElem? e)).1, (hps p (List.mem_of_getElem? e)).2.1⟩⟩
    have hps0 : ∀ p ∈ ps, H p = none := fun p hp => (hps p hp).2.2
    have hps2 : ∀ p ∈ ps, ∃ o, H2 p = some o := fun p hp => ⟨_, (hps p hp).1⟩
    -- the depths so far
    refine ⟨_, rfl, a, rfl, ⟨_, SqL.of (s2 _ _ hS)⟩, fun dn hdn => lc_listP (xs := Pa.map V.int) (fun _ => .int (-1)) hdn (SqL.of (s2 _ _ hS)) (by rw [List.length_map]; exact Nat.le_of_lt (small100 hl)) (fun i x ys C s H0 fp R hx hR => ⟨1, rfl, hR⟩) ?_⟩
    have ndb : dn ≠ bn := fun z => by rw [z, hb2] at hdn; cases hdn
    have ndp : dn ∉ ps := fun z => by rw [(hps dn z).1] at hdn; cases hdn
    have hd0 : H dn = none := s2.free hdn
    have s3 : Same H2 (upd H2 dn (.lst ((Pa.map V.int).map fun _ => V.int (-1)))) := Same.new hdn _
    have hD3 : IL (upd H2 dn (.lst ((Pa.map V.int).map fun _ => V.int (-1)))) dn (dep0 Pa 0) := upd_same.trans (by
      rw [dep0_zero, List.map_map, List.map_replicate]
      congr 2
      apply List.ext_getElem?
      intro i
      by_cases hi : i < Pa.length
      · rw [List.getElem?_map, List.getElem?_eq_getElem hi, List.getElem?_replicate, if_pos hi]; rfl
      · rw [List.getElem?_eq_none (by rw [List.length_map]; omega), List.getElem?_eq_none (by rw [List.length_replicate]; omega)])
    have K3 := K2.keep (H' := upd H2 dn (.lst ((Pa.map V.int).map fun _ => V.int (-1)))) fun b o e _ => s3 b o e
    have s03 := s2.trans s3
    generalize upd H2 dn (.lst ((Pa.map V.int).map fun _ => V.int (-1))) = H3 at s3 hD3 K3 s03
    -- the places that wait
    refine ⟨Nat.zero_le _, fun wn hwn => ?_⟩
    have nwb : wn ≠ bn := fun z => by rw [z, K3.at_] at hwn; cases hwn
    have nwd : wn ≠ dn := fun z => by rw [z, hD3] at hwn; cases hwn
    have nwp : wn ∉ ps := fun z => by obtain ⟨o, e⟩ := hps2 wn z; rw [s3 _ _ e] at hwn; cases hwn
    have hw0 : H wn = none := s03.free hwn
    have s04 : Same H (upd H3 wn (.lst [])) := s03.put hw0
    have hD4 : IL (upd H3 wn (.lst [])) dn (dep0 Pa 0) := (upd_ne (Ne.symm nwd)).trans hD3
    have K4 := K3.keep (H' := upd H3 wn (.lst [])) fun b o e _ => (Same.new hwn _) b o e
    have hW4 : IL (upd H3 wn (.lst [])) wn (cst (kidN Pa (-1) 0)) := upd_same
    generalize upd H3 wn (.lst []) = H4 at s04 hD4 K4 hW4
    refine ⟨_, rfl, a, rfl, ⟨_, SqL.of (s04 _ _ hS)⟩, for_enum (K := K) (a := a) (xs := Pa.map V.int) (fun i σ H5 => i ≤ Pa.length ∧ ∃ v4 v5, σ = [some (.ref a), some (.ref bn), some (.ref dn), some (.ref wn), v4, v5, none] ∧ Same H H5 ∧ IL H5 dn (dep0 Pa i) ∧ IL H5 wn (cst (kidN Pa (-1) i)) ∧ KL H5 bn ps fun j => kidN Pa (j : Int) i)
      ⟨Nat.zero_le _, none, none, rfl, s04, hD4, hW4, K4⟩ (fun i σ H5 _ ⟨_, _, _, _, s5, _⟩ => SqL.of (s5 _ _ hS)) ?_ ?_⟩
    · rintro i y σ H5 t hi ⟨_, v4, v5, rfl, s5, hD5, hW5, K5⟩ ht
      obtain ⟨h, rfl, hx⟩ := get_mapM hi
      have hil : i < Pa.length := (List.getElem?_eq_some_iff.mp hx).1
      have hxd : Pa.getD i 0 = h := by rw [List.getD_eq_getElem?_getD, hx]; rfl
      have hvi := hv i hil
      rw [hxd] at hvi
      have st : Same H5 (upd H5 t (.tup [.int (i : Nat), .int h])) := Same.new ht _
      refine ⟨t, _, rfl, SqT.of upd_same, rfl, _, _, rfl, _, _, rfl, rfl, ?_⟩
      have s6 := s5.trans st
      have hD6 := st _ _ hD5
      have hW6 := st _ _ hW5
      have K6 := K5.keep fun b o e _ => st b o e
      generalize upd H5 t (.tup [.int (i : Nat), .int h]) = H6 at s6 hD6 hW6 K6
      refine ⟨_, rfl, 1, rfl, rfl, _, rfl, ?_⟩
      rw [dec_int']
      refine ite2 (fun h1 => ?_) (fun h1 => ?_)
      · have h1' : h = -1 := of_decide_eq_true h1
        have hxm : Pa.getD i 0 = -1 := by rw [hxd]; exact h1'
        refine ⟨_, rfl, _, rfl, dn, _, _, i, rfl, rfl, hD6, ixN_nat (by rw [List.length_map, dep0_length]; exact hil), ?_⟩
        have hD7 : IL (upd H6 dn (.lst (((dep0 Pa i).map V.int).set i (.int 0)))) dn (dep0 Pa (i + 1)) := upd_same.trans (by rw [← dep0_set hil hxm, List.map_set])
        have hW7 : IL (upd H6 dn (.lst (((dep0 Pa i).map V.int).set i (.int 0)))) wn (cst (kidN Pa (-1) i)) := (upd_ne nwd).trans hW6
        have K7 := K6.keep (H' := upd H6 dn (.lst (((dep0 Pa i).map V.int).set i (.int 0)))) fun b o e z => by
          rw [upd_ne]; exact e
          rcases z with z | z
          · rw [z]; exact Ne.symm ndb
          · exact fun w => ndp (w ▸ z)
        have s7 := s6.put (q := dn) (o := .lst (((dep0 Pa i).map V.int).set i (.int 0))) hd0
        generalize upd H6 dn (.lst (((dep0 Pa i).map V.int).set i (.int 0))) = H7 at hD7 hW7 K7 s7
        have hkl := kidN_length Pa (-1) i
        refine ⟨_, rfl, .inl ⟨rfl, _, SqL.of hW7⟩, _, rfl, wn, _, _, rfl, rfl, hW7, by rw [List.length_map, cst_length]; exact small100 (by omega), hil, _, _, rfl, s7.put hw0, (upd_ne (Ne.symm nwd)).trans hD7, upd_same.trans ?_, ?_⟩
        · rw [kidN_succ, if_pos hxm, cst_snoc, List.map_append]; rfl
        · have e : (fun j : Nat => kidN Pa (j : Int) (i + 1)) = fun j : Nat => kidN Pa (j : Int) i := by
            funext j
            rw [kidN_succ, if_neg (by omega)]
          rw [e]
          refine K7.keep fun b o e z => ?_
          rw [upd_ne]; exact e
          rcases z with z | z
          · rw [z]; exact Ne.symm nwb
          · exact fun w => nwp (w ▸ z)
      · have h1' : ¬ h = -1 := fun z => h1 (decide_eq_true z)
        have hxm : ¬ Pa.getD i 0 = -1 := by rw [hxd]; exact h1'
        have hjl : h.toNat < ps.length := by omega
        obtain ⟨g1, g2⟩ := K6.get hjl
        rw [show ((h.toNat : Nat) : Int) = h by omega] at g1
        have hkl := kidN_length Pa ((h.toNat : Nat) : Int) i
        have hne : ps[h.toNat] ≠ dn ∧ ps[h.toNat] ≠ wn := ⟨fun z => ndp (z ▸ List.getElem_mem hjl), fun z => nwp (z ▸ List.getElem_mem hjl)⟩
        refine ⟨_, rfl, _, rfl, bn, _, _, _, rfl, rfl, SqL.of K6.at_, g1, .inl ⟨rfl, _, SqL.of g2⟩, _, rfl, ps[h.toNat], _, _, rfl, rfl, g2, by rw [List.length_map, cst_length]; exact small100 (by omega), hil, _, _, rfl, s6.put (hps0 _ (List.getElem_mem hjl)), ?_, ?_, ?_⟩
        · rw [dep0_skip hxm]; exact (upd_ne (Ne.symm hne.1)).trans hD6
        · rw [kidN_succ, if_neg hxm]; exact (upd_ne (Ne.symm hne.2)).trans hW6
        · refine K6.grow hjl fun k hk => ?_
          rw [kidN_succ, hxd]
          by_cases hkj : k = h.toNat
          · rw [if_pos hkj, if_pos (by omega)]
          · rw [if_neg hkj, if_neg (by omega)]
    rintro σ H5 ⟨_, v4, v5, rfl, s5, hD5, hW5, K5⟩
    rw [List.length_map] at hD5 hW5 K5
    -- from above
    refine ⟨fun m σ H6 => ∃ (D : List Int) (Pd Wt : List Nat) (v4 v6 : Option V), σ = [some (.ref a), some (.ref bn), some (.ref dn), some (.ref wn), v4, v5, v6] ∧ Same H H6 ∧ IL H6 dn D ∧ IL H6 wn (cst Wt) ∧ (KL H6 bn ps fun j => kidN Pa (j : Int) Pa.length) ∧ DInv Pa D Pd Wt ∧ m = Pa.length - Pd.length,
      ⟨_, dep0 Pa Pa.length, [], kidN Pa (-1) Pa.length, v4, none, rfl, s5, hD5, hW5, K5, DInv.start Pa, rfl⟩, ?_⟩
    rintro m σ H6 ⟨D, Pd, Wt, v4, v6, rfl, s6, hD6, hW6, K6, I6, rfl⟩
    refine ⟨_, rfl, _, .inl ⟨_, SqL.of hW6, rfl⟩, ?_⟩
    rcases List.eq_nil_or_concat Wt with rfl | ⟨Wt, ab, rfl⟩
    · refine iteF ?_
      exact ⟨_, rfl, k D I6.done dn H6 hd0 s6 hD6⟩
    · rw [List.concat_eq_append] at hW6 I6
      have hem : (!((cst (Wt.concat ab)).map V.int).isEmpty) = true := by rw [List.concat_eq_append, cst_snoc]; simp
      rw [hem]
      refine iteT ⟨_, fun _ _ z => z, ?_⟩
      have few := I6.few
      obtain ⟨hal, hkd⟩ := I6.kids
      have hgl : ((cst (Wt ++ [ab])).map V.int)[((cst (Wt ++ [ab])).map V.int).length - 1]? = some (V.int (ab : Nat)) := by rw [cst_snoc, List.map_append, List.length_append]; simp
      refine ⟨_, rfl, .inl ⟨rfl, _, SqL.of hW6⟩, wn, _, _, rfl, rfl, hW6, hgl, ?_⟩
      have hW7 : IL (upd H6 wn (.lst ((cst (Wt ++ [ab])).map V.int).dropLast)) wn (cst Wt) := upd_same.trans (by rw [cst_snoc, List.map_append]; simp)
      have hD7 : IL (upd H6 wn (.lst ((cst (Wt ++ [ab])).map V.int).dropLast)) dn D := (upd_ne (Ne.symm nwd)).trans hD6
      have K7 := K6.keep (H' := upd H6 wn (.lst ((cst (Wt ++ [ab])).map V.int).dropLast)) fun b o e z => by
        rw [upd_ne]; exact e
        rcases z with z | z
        · rw [z]; exact Ne.symm nwb
        · exact fun w => nwp (w ▸ z)
      have s7 := s6.put (q := wn) (o := .lst ((cst (Wt ++ [ab])).map V.int).dropLast) hw0
      generalize upd H6 wn (.lst ((cst (Wt ++ [ab])).map V.int).dropLast) = H7 at hW7 hD7 K7 s7
      have hjl : ab < ps.length := by omega
      obtain ⟨g1, g2⟩ := K7.get hjl
      have hkl := kidN_length Pa (ab : Int) Pa.length
      have hDl := I6.len
      -- those beneath it
      have loop : ∀ H8 : Hp, Same H H8 → IL H8 wn (cst Wt) → IL H8 dn D → (KL H8 bn ps fun j => kidN Pa (j : Int) Pa.length) → IL H8 ps[ab] (cst (kidN Pa (ab : Int) Pa.length)) := fun H8 _ _ _ K8 => (K8.get hjl).2
      refine ⟨_, rfl, _, rfl, bn, _, _, _, rfl, rfl, SqL.of K7.at_, g1, ps[ab], rfl, ⟨_, SqL.of g2⟩, for_list (K := K) (a := ps[ab]) (xs := (cst (kidN Pa (ab : Int) Pa.length)).map V.int) (fun i σ H8 => i ≤ (kidN Pa (ab : Int) Pa.length).length ∧ ∃ v4 : Option V, σ = [some (.ref a), some (.ref bn), some (.ref dn), some (.ref wn), v4, v5, some (.int (ab : Nat))] ∧ Same H H8 ∧ IL H8 dn (setAll D (D.getD ab 0 + 1) ((kidN Pa (ab : Int) Pa.length).take i)) ∧ IL H8 wn (cst (Wt ++ (kidN Pa (ab : Int) Pa.length).take i)) ∧ (KL H8 bn ps fun j => kidN Pa (j : Int) Pa.length))
        ⟨Nat.zero_le _, v4, rfl, s7, hD7, by rw [List.take_zero, List.append_nil]; exact hW7, K7⟩ (fun i σ H8 _ ⟨_, _, _, _, _, _, K8⟩ => SqL.of (K8.get hjl).2) ?_ ?_⟩
      · rintro i y σ H8 hi ⟨_, v4, rfl, s8, hD8, hW8, K8⟩
        obtain ⟨z, rfl, hz⟩ := get_mapM hi
        rw [List.getElem?_map] at hz
        cases ez : (kidN Pa (ab : Int) Pa.length)[i]? with
        | none => rw [ez] at hz; cases hz
        | some c =>
          rw [ez] at hz
          cases Option.some.inj hz
          have hik : i < (kidN Pa (ab : Int) Pa.length).length := (List.getElem?_eq_some_iff.mp ez).1
          have hck := kidN_mem.mp (List.mem_of_getElem? ez)
          have hsl : (setAll D (D.getD ab 0 + 1) ((kidN Pa (ab : Int) Pa.length).take i)).length = Pa.length := by rw [setAll_length, hDl]
          have htk : (kidN Pa (ab : Int) Pa.length).take (i + 1) = (kidN Pa (ab : Int) Pa.length).take i ++ [c] := by rw [List.take_add_one, ez]; rfl
          have hva : (setAll D (D.getD ab 0 + 1) ((kidN Pa (ab : Int) Pa.length).take i)).getD ab 0 = D.getD ab 0 := by
            rw [setAll_getD _ _ _ _ (by omega), if_neg fun z => ?_]
            exact hkd ab (List.mem_of_mem_take z) (List.mem_append_right _ (List.mem_append_right _ (by simp)))
          refine ⟨_, rfl, _, rfl, dn, _, _, _, rfl, rfl, SqL.of hD8, atI_mapM (by omega), _, 1, rfl, rfl, _, rfl, _, rfl, dn, _, _, c, rfl, rfl, hD8, ixN_nat (by rw [List.length_map]; omega), ?_⟩
          rw [hva]
          have hD9 : IL (upd H8 dn (.lst (((setAll D (D.getD ab 0 + 1) ((kidN Pa (ab : Int) Pa.length).take i)).map V.int).set c (.int (D.getD ab 0 + 1))))) dn (setAll D (D.getD ab 0 + 1) ((kidN Pa (ab : Int) Pa.length).take (i + 1))) := upd_same.trans (by rw [htk, setAll_snoc, List.map_set])
          have hW9 : IL (upd H8 dn (.lst (((setAll D (D.getD ab 0 + 1) ((kidN Pa (ab : Int) Pa.length).take i)).map V.int).set c (.int (D.getD ab 0 + 1))))) wn (cst (Wt ++ (kidN Pa (ab : Int) Pa.length).take i)) := (upd_ne nwd).trans hW8
          have K9 := K8.keep (H' := upd H8 dn (.lst (((setAll D (D.getD ab 0 + 1) ((kidN Pa (ab : Int) Pa.length).take i)).map V.int).set c (.int (D.getD ab 0 + 1))))) fun b o e z => by
            rw [upd_ne]; exact e
            rcases z with z | z
            · rw [z]; exact Ne.symm ndb
            · exact fun w => ndp (w ▸ z)
          have s9 := s8.put (q := dn) (o := .lst (((setAll D (D.getD ab 0 + 1) ((kidN Pa (ab : Int) Pa.length).take i)).map V.int).set c (.int (D.getD ab 0 + 1)))) hd0
          dsimp only
          generalize upd H8 dn (.lst (((setAll D (D.getD ab 0 + 1) ((kidN Pa (ab : Int) Pa.length).take i)).map V.int).set c (.int (D.getD ab 0 + 1)))) = H9 at hD9 hW9 K9 s9
          refine ⟨_, rfl, .inl ⟨rfl, _, SqL.of hW9⟩, _, rfl, wn, _, _, rfl, rfl, hW9, ?_, hik, _, rfl, s9.put hw0, (upd_ne (Ne.symm nwd)).trans hD9, upd_same.trans ?_, ?_⟩
          · rw [List.length_map, cst_length, List.length_append, List.length_take]
            rw [List.length_append] at few
            exact small1000 (by omega)
          · rw [htk, ← List.append_assoc, cst_snoc, List.map_append]; rfl
          · refine K9.keep fun b o e z => ?_
            rw [upd_ne]; exact e
            rcases z with z | z
            · rw [z]; exact Ne.symm nwb
            · exact fun w => nwp (w ▸ z)
      · rintro σ H8 ⟨_, v4, rfl, s8, hD8, hW8, K8⟩
        have hlen : ((cst (kidN Pa (ab : Int) Pa.length)).map V.int).length = (kidN Pa (ab : Int) Pa.length).length := by rw [List.length_map, cst_length]
        rw [hlen, List.take_of_length_le (Nat.le_refl _)] at hD8 hW8
        rw [List.length_append, List.length_singleton] at few
        exact ⟨Pa.length - (ab :: Pd).length, by simp only [List.length_cons]; omega, _, ab :: Pd, _, v4, _, rfl, s8, hD8, hW8, K8, I6.step, rfl⟩
end
end Sky

namespace Sky
open PySem L2
section
variable {P : Program} {w : World} {K : PySem.W.Frag} {mg : Str → Option Value} {base : Heap}
theorem scBarsOf : FnScope ["parents", "bars"] ["parents"] (defScope sBarsOf) := ⟨rfl, rfl, rfl, by decide +kernel, rfl, by decide +kernel, by decide +kernel⟩
theorem ok_barsOf {f : Addr} {fd : FuncData} (F : Fun K "bars_of" "bars_of" sBarsOf f fd) (B : Blt mg) (cK : Callee P w K mg base 2 "check_parents" ["parents"] spChkP) (cD : Callee P w K mg base 1 "depths" ["parents"] spDepths) (cP : Callee P w K mg base 1 "parents_in_tree" ["bars"] spPar) : FnOk P w K mg base CX0 4 f fd ["parents"] spBarsOf := by
  refine F.ok scBarsOf (fun vs H Q E h => ?_) (fun cdv A outer s H vs Q E hr h => ?_)
  · obtain ⟨a, Pa, rfl, _⟩ := h
    rfl
  · obtain ⟨a, Pa, rfl, hS, hl, hv, ht, k⟩ := h
    have hu := hr.units
    refine ⟨_, (pss_cons (ps_expr (pe_fn cK (hr.mono (by decide)) rfl (pa_cons (pv 0) pa_nil)))
      (pss_cons (ps_set (i := 1) scBarsOf.nd rfl (Or.inl rfl) (pe_fn cD (hr.mono (by decide)) rfl (pa_cons (pv 0) pa_nil)))
      (pss_cons (ps_if (pt_cmpR (op_neI hu) (pe_fn cP (hr.mono (by decide)) rfl (pa_cons (pv 1) pa_nil)) (pv 0) (nomark _)) pss_never pss_nil)
      (pss_one (ps_ret (pv 1)))))), ?_⟩
    refine ⟨_, rfl, a, Pa, rfl, hS, hl, hv, fun H1 s1 => ?_⟩
    refine ⟨_, rfl, a, Pa, rfl, s1 _ _ hS, hl, hv, fun D hD l H2 nl s2 hL => ?_⟩
    have s02 := s1.trans s2
    refine ⟨_, rfl, l, D, rfl, hL, by rw [hD.1]; exact hl, fun l2 H3 nl2 s3 hL2 => ?_⟩
    have s03 := s02.trans s3
    refine ⟨_, rfl, l2, a, _, _, rfl, rfl, SqL.of hL2, SqL.of (s03 _ _ hS), _, rfl, iteNeg (ht D hD) ?_⟩
    exact ⟨_, rfl, k D hD l H3 (s1.free nl) s03 (s3 _ _ hL)⟩
end
end Sky

namespace Sky
open PySem L2
section
variable {P : Program} {w : World} {K : PySem.W.Frag} {mg : Str → Option Value} {base : Heap}
theorem scBars : FnScope ["_law_script", "_law_mixed", "_law_most", "_law_bars_here"] ["_law_script"] (defScope sBars) := ⟨rfl, rfl, rfl, by decide +kernel, rfl, by decide +kernel, by decide +kernel⟩
theorem ok_bars {f : Addr} {fd : FuncData} (F : Fun K "_law_bars" "_law_bars" sBars f fd) (B : Blt mg) : FnOk P w K mg base CX0 1 f fd ["_law_script"] (spBars K) := by
  refine F.ok scBars (fun vs H Q E h => ?_) (fun cdv A outer s H vs Q E hr h => ?_)
  · obtain ⟨a, ns, rfl, _⟩ := h
    rfl
  · obtain ⟨a, ns, rfl, hS, hl, k⟩ := h
    refine ⟨_, pss_cons (ps_set (i := 1) scBars.nd rfl (Or.inl rfl) (pe_callB (call_sum rfl) rfl B.sum boot_sum' (pa_cons (pv 0) pa_nil)))
      (pss_cons (ps_set (i := 2) scBars.nd rfl (Or.inr rfl) (pe_ix ix_tup (pe_tup (pa_cons pe_int (pa_cons pe_int (pa_cons pe_int (pa_cons pe_int pa_nil))))) (pe_op op_mod (pv 1) pe_int) (fun _ _ => rfl)))
      (pss_cons (ps_lc (i := 3) (cap := [2]) ["_law_cell"] rfl (CompOk.of (defScope sBars) ["_law_script", "_law_mixed", "_law_most", "_law_bars_here"] rfl rfl (by decide +kernel)) scBars.nd rfl (Or.inl rfl) (pi_list (pv 0)) (fun C s H fp => pg_name (i := 0) (show List.Nodup (["_law_cell", "_law_most"] : List Str) from by decide +kernel) rfl (Or.inl rfl)) (fun C s H fp => pf_nil)
        (fun C s H fp => pe_op op_mod (pv 0) (pv 1)) rfl)
      (pss_cons (ps_if (pt_cmpR op_eq (pe_op op_mod (pe_op op_fdiv (pv 1) pe_int) pe_int) pe_int (nomark _)) (pss_one (ps_ret (pe_callB call_sorted rfl B.sorted boot_sorted' (pa_cons (pv 3) pa_nil)))) pss_nil)
      (pss_one (ps_ret (pe_ifExp (pt_cmpR op_eq (pe_op op_mod (pe_op op_fdiv (pv 1) pe_int) pe_int) pe_int (nomark _)) (pe_rev (pe_callB call_sorted rfl B.sorted boot_sorted' (pa_cons (pv 3) pa_nil))) (pv 3))))))), ?_⟩
    refine ⟨_, rfl, a, ns, rfl, hS, ?_⟩
    obtain ⟨v, hv, v0, v1⟩ : ∃ v : Int, atI [V.int 3, V.int 3, V.int 10, V.int 10000001] (ns.sum % 4) = some (V.int v) ∧ 0 < v ∧ v ≤ 10000001 := by
      have h : ns.sum % 4 = 0 ∨ ns.sum % 4 = 1 ∨ ns.sum % 4 = 2 ∨ ns.sum % 4 = 3 := by omega
      rcases h with h | h | h | h
      · rw [h]; exact ⟨3, rfl, by omega, by omega⟩
      · rw [h]; exact ⟨3, rfl, by omega, by omega⟩
      · rw [h]; exact ⟨10, rfl, by omega, by omega⟩
      · rw [h]; exact ⟨10000001, rfl, by omega, by omega⟩
    refine ⟨by show 4 ≤ sizeLine; decide, fun t ht => ⟨_, rfl, _, _, rfl, rfl, (by show (0 : Int) < 4; decide), t, [V.int 3, V.int 3, V.int 10, V.int 10000001], ns.sum % 4, V.int v, rfl, rfl, SqT.of upd_same, hv, ?_⟩⟩
    have s1 : Same H (upd H t (.tup [V.int 3, V.int 3, V.int 10, V.int 10000001])) := Same.new ht _
    have hz : (ns.map V.int).length ≤ sizeLine := by rw [List.length_map]; exact Nat.le_of_lt (small100 (by omega))
    refine ⟨_, rfl, a, rfl, ⟨_, s1.seq hS⟩, fun D hD => lc_listP (fun u => match u with | .int x => .int (x % v) | _ => .non) hD (s1.seq hS) hz ?_ ?_⟩
    · intro i x ys C s H0 fp R hx hR
      obtain ⟨z, rfl, _⟩ := get_mapM hx
      exact ⟨_, rfl, _, rfl, z, v, rfl, rfl, v0, hR⟩
    have hbl : (ns.map (· % v)).length = ns.length := List.length_map _
    have hbh : Hts (ns.map (· % v)) := by
      refine ⟨by rw [hbl]; omega, fun x hx => ?_⟩
      obtain ⟨z, _, rfl⟩ := List.mem_map.mp hx
      have := Int.emod_nonneg z (by omega : v ≠ 0)
      have := Int.emod_lt_of_pos z v0
      omega
    have nD : H D = none := s1.free hD
    generalize hH2 : upd (upd H t (.tup [V.int 3, V.int 3, V.int 10, V.int 10000001])) D _ = H2
    have s2 : Same H H2 := by rw [← hH2]; exact s1.put nD
    have hB : IL H2 D (ns.map (· % v)) := by
      rw [← hH2]
      refine upd_same.trans ?_
      rw [List.map_map, List.map_map]; rfl
    have fin : ∀ l ns', H2 l = none → ns'.Perm (ns.map (· % v)) → H l = none ∧ ns'.length = ns.length ∧ Hts ns' := fun l ns' hl' hp => ⟨s2.free hl', hp.length_eq.trans hbl, by rw [hp.length_eq]; exact hbh.1, fun x hx => hbh.2 x (hp.mem_iff.mp hx)⟩
    refine ⟨_, rfl, _, _, rfl, rfl, ⟨by decide, by decide⟩, _, _, rfl, rfl, (by show (0 : Int) < 7; decide), rfl, _, rfl, ite2 (fun _ => ?_) (fun _ => ?_)⟩
    · refine ⟨_, rfl, D, ns.map (· % v), rfl, SqL.of hB, by rw [hbl]; omega, fun l ns' hl' hp _ => ?_⟩
      obtain ⟨f1, f2, f3⟩ := fin l ns' hl' hp
      exact k ns' f2 f3 l _ f1 (s2.put f1) upd_same
    · refine ⟨_, rfl, _, _, rfl, rfl, ⟨by decide, by decide⟩, _, _, rfl, rfl, (by show (0 : Int) < 7; decide), rfl, _, rfl, ite2 (fun _ => ?_) (fun _ => ?_)⟩
      · refine ⟨_, rfl, D, ns.map (· % v), rfl, SqL.of hB, by rw [hbl]; omega, fun l ns' hl' hp _ => ?_⟩
        obtain ⟨f1, f2, f3⟩ := fin l ns' hl' hp
        refine ⟨l, _, rfl, SqL.of upd_same, fun p hp' => ?_⟩
        have s3 : Same H (upd H2 l (.lst (ns'.map V.int))) := s2.put f1
        have np : H p = none := s3.free hp'
        refine k ns'.reverse (by rw [List.length_reverse]; exact f2) ⟨by rw [List.length_reverse]; exact f3.1, fun x hx => f3.2 x (List.mem_reverse.mp hx)⟩ p _ np (s3.put np) (upd_same.trans ?_)
        rw [List.map_reverse]
      · exact ⟨_, rfl, k _ hbl hbh D H2 nD s2 hB⟩
end
end Sky

namespace Sky
open PySem L2
section
variable {P : Program} {w : World} {K : PySem.W.Frag} {mg : Str → Option Value} {base : Heap}
theorem scNums : FnScope ["_law_found"] ["_law_found"] (defScope sNums) := ⟨rfl, rfl, rfl, by decide +kernel, rfl, by decide +kernel, by decide +kernel⟩
theorem ok_nums {f : Addr} {fd : FuncData} (F : Fun K "_law_numbers" "_law_numbers" sNums f fd) (B : Blt mg) : FnOk P w K mg base CX0 1 f fd ["_law_found"] spNums := by
  refine F.ok scNums (fun vs H Q E h => ?_) (fun cdv A outer s H vs Q E hr h => ?_)
  · obtain ⟨a, ns, rfl, _⟩ := h
    rfl
  · obtain ⟨a, xs, rfl, hS, hl, k⟩ := h
    refine ⟨_, pss_cons (ps_if (pt_not (pt_val (pe_callB call_isinst rfl B.isinstance boot_isinst' (pa_cons (pv 0) (pa_cons (pe_bltn rfl B.list boot_list' (v := .ty "list") rfl) pa_nil))))) pss_never pss_nil)
      (pss_one (ps_ret (pe_callB (call_all rfl) rfl B.all boot_all' (pa_cons (pe_lc (cap := []) ["_law_one"] rfl (CompOk.of (defScope sNums) ["_law_found"] rfl rfl (by decide +kernel)) (pi_list (pv 0)) (fun C s H fp => pg_name (i := 0) (show List.Nodup (["_law_one"] : List Str) from by decide +kernel) rfl (Or.inl rfl)) (fun C s H fp => pf_nil)
        (fun C s H fp => pe_and (pe_callB call_isinst rfl B.isinstance boot_isinst' (pa_cons (pv 0) (pa_cons (pe_bltn rfl B.int boot_int' (v := .ty "int") rfl) pa_nil)))
          (pe_one (pe_not (pe_callB call_isinst rfl B.isinstance boot_isinst' (pa_cons (pv 0) (pa_cons (pe_bltn rfl B.bool boot_bool' (v := .ty "bool") rfl) pa_nil))))))) pa_nil)))), ?_⟩
    refine ⟨_, rfl, _, _, _, _, _, rfl, .lst hS, rfl, kit_ll _, true, rfl, iteF ?_⟩
    refine ⟨_, rfl, a, rfl, ⟨_, SqL.of hS⟩, fun D hD => lc_listP (fun v => .bl true) hD (SqL.of hS) (by rw [List.length_map]; exact Nat.le_of_lt (small100 hl)) ?_ ?_⟩
    · intro i x ys C s H0 fp R hx hR
      obtain ⟨z, rfl, _⟩ := get_mapM hx
      refine ⟨_, rfl, _, _, _, _, _, rfl, .int z, rfl, kit_ii _, true, rfl, iteT ?_⟩
      exact ⟨_, rfl, _, _, _, _, _, rfl, .int z, rfl, kit_ib _, false, rfl, hR⟩
    · refine ⟨D, xs.map (fun _ => true), rfl, SqL.of (by rw [upd_same, List.map_map, List.map_map]; rfl), ?_⟩
      have e : (xs.map (fun _ => true)).all id = true := by
        rw [List.all_eq_true]
        intro b hb
        obtain ⟨z, hz, rfl⟩ := List.mem_map.mp hb
        rfl
      rw [e]
      exact k _ (Same.new hD _)
end
end Sky

namespace Sky
open PySem L2
section
variable {P : Program} {w : World} {K : PySem.W.Frag} {mg : Str → Option Value} {base : Heap}
theorem scParent : FnScope ["_law_bars_here", "_law_place", "_law_ahead", "_law_behind"] ["_law_bars_here", "_law_place"] (defScope sParent) := ⟨rfl, rfl, rfl, by decide +kernel, rfl, by decide +kernel, by decide +kernel⟩
theorem ok_parent {f : Addr} {fd : FuncData} (F : Fun K "_law_parent" "_law_parent" sParent f fd) (B : Blt mg)  : FnOk P w K mg base CX0 1 f fd ["_law_bars_here", "_law_place"] spParent := by
  refine F.ok scParent (fun vs H Q E h => ?_) (fun cdv A outer s H vs Q E hr h => ?_)
  · obtain ⟨a, xs, i, rfl, _⟩ := h
    rfl
  · obtain ⟨a, xs, i, rfl, hS, hi, k⟩ := h
    refine ⟨_, (pss_cons (ps_set (i := 2) scParent.nd rfl (Or.inl rfl) (pe_op op_sub (pv 1) pe_int))
      (pss_cons (ps_while PassesOwn.never (PW.pt (pw_and (pt_cmpR op_ge (pv 2) pe_int (nomark _)) (pw_and1 (pt_cmpR op_gt (pe_ix ix_list (pv 0) (pv 2) (fun _ _ => rfl)) (pe_ix ix_list (pv 0) (pv 1) (fun _ _ => rfl)) (nomark _)))))
      (pss_one (ps_set (i := 2) scParent.nd rfl (Or.inl rfl) (pe_op op_sub (pv 2) pe_int))))
      (pss_cons (ps_set (i := 3) scParent.nd rfl (Or.inl rfl) (pe_op op_add (pv 1) pe_int))
      (pss_cons (ps_while PassesOwn.never (PW.pt (pw_and (pt_cmpR op_lt (pv 3) (pe_callB call_len_seq rfl B.len PySem.boot_len (pa_cons (pv 0) pa_nil)) (nomark _)) (pw_and1 (pt_cmpR op_ge (pe_ix ix_list (pv 0) (pv 3) (fun _ _ => rfl)) (pe_ix ix_list (pv 0) (pv 1) (fun _ _ => rfl)) (nomark _)))))
      (pss_one (ps_set (i := 3) scParent.nd rfl (Or.inl rfl) (pe_op op_add (pv 3) pe_int))))
      (pss_cons (ps_if (pt_cmpR op_eq (pv 3) (pe_callB call_len_seq rfl B.len PySem.boot_len (pa_cons (pv 0) pa_nil)) (nomark _)) (pss_one (ps_ret (pv 2))) pss_nil)
      (pss_cons (ps_if (PW.pt (pw_or (pt_cmpR op_lt (pv 2) pe_int (nomark _)) (pw_or1 (pt_cmpR op_ge (pe_ix ix_list (pv 0) (pv 3) (fun _ _ => rfl)) (pe_ix ix_list (pv 0) (pv 2) (fun _ _ => rfl)) (nomark _))))) (pss_one (ps_ret (pv 3))) pss_nil)
      (pss_one (ps_ret (pv 2))))))))), ?_⟩
    have N := nb xs hi
    have hpar := N.par
    have n1 := N.a1
    have n2 := N.a2
    have nq2 := N.q2
    have hn : (((xs.map V.int).length : Nat) : Int) = (xs.length : Int) := by rw [List.length_map]
    refine ⟨_, rfl, (i : Int), 1, rfl, rfl, ?_⟩
    refine ⟨fun m σ H3 => ∃ c : Int, H3 = H ∧ σ = [some (.ref a), some (.int (i : Nat)), some (.int c), none] ∧ m = (c + 1).toNat ∧ aN xs i ≤ c ∧ c < i, ⟨_, (i : Int) - 1, rfl, rfl, rfl, by omega, by omega⟩, ?_⟩
    rintro m σ H3 ⟨c, rfl, rfl, rfl, hc1, hc2⟩
    refine ⟨_, rfl, c, 0, rfl, rfl, _, rfl, ite2 (fun h1 => ?_) (fun h1 => iteF ?_)⟩
    · have h1' : 0 ≤ c := of_decide_eq_true h1
      refine ⟨_, rfl, _, rfl, a, _, _, _, rfl, rfl, SqL.of hS, atI_map' c.toNat (by omega) (by omega), _, rfl, _, rfl, a, _, _, _, rfl, rfl, SqL.of hS, atI_mapM hi, _, _, rfl, rfl, _, rfl, ite2 (fun h2 => ?_) (fun h2 => ?_)⟩
      · have h2' : xs.getD i 0 < xs.getD c.toNat 0 := of_decide_eq_true h2
        refine ⟨_, fun _ _ z => z, ⟨_, rfl, c, 1, rfl, rfl, (c - 1 + 1).toNat, by omega, c - 1, rfl, rfl, rfl, ?_, by omega⟩⟩
        by_cases hc3 : aN xs i = c
        · have := N.a4 (by omega)
          rw [hc3] at this; omega
        · omega
      · have h2' : ¬ xs.getD i 0 < xs.getD c.toNat 0 := fun z => h2 (decide_eq_true z)
        have ec : c = aN xs i := by
          by_cases hc3 : c = aN xs i
          · exact hc3
          · exact absurd (N.a3 c.toNat (by omega) (by omega)) h2'
        rw [← ec] at hpar
        refine ⟨_, rfl, _, 1, rfl, rfl, ?_⟩
        refine ⟨fun m' σ H4 => ∃ l : Nat, H4 = H3 ∧ σ = [some (.ref a), some (.int (i : Nat)), some (.int c), some (.int (l : Int))] ∧ m' = xs.length - l ∧ i < l ∧ l ≤ bN xs i xs.length, ⟨xs.length - (i + 1), i + 1, rfl, rfl, rfl, by omega, N.q1⟩, ?_⟩
        rintro m' σ H4 ⟨l, rfl, rfl, rfl, hl1, hl2⟩
        refine ⟨_, rfl, _, rfl, a, _, rfl, .inl (SqL.of hS), _, _, rfl, rfl, _, rfl, ite2 (fun h3 => ?_) (fun h3 => iteF ?_)⟩
        · have h3' : (l : Int) < (((xs.map V.int).length : Nat) : Int) := of_decide_eq_true h3
          rw [hn] at h3'
          refine ⟨_, rfl, _, rfl, a, _, _, _, rfl, rfl, SqL.of hS, atI_mapM (by omega), _, rfl, _, rfl, a, _, _, _, rfl, rfl, SqL.of hS, atI_mapM hi, _, _, rfl, rfl, _, rfl, ite2 (fun h4 => ?_) (fun h4 => ?_)⟩
          · have h4' : xs.getD i 0 ≤ xs.getD l 0 := of_decide_eq_true h4
            refine ⟨_, fun _ _ z => z, ⟨_, rfl, _, 1, rfl, rfl, xs.length - (l + 1), by omega, l + 1, rfl, rfl, rfl, by omega, ?_⟩⟩
            by_cases hc2 : l = bN xs i xs.length
            · have := N.q4 (by omega)
              rw [← hc2] at this; omega
            · omega
          · have h4' : ¬ xs.getD i 0 ≤ xs.getD l 0 := fun z => h4 (decide_eq_true z)
            have el : l = bN xs i xs.length := by
              by_cases hc2 : l = bN xs i xs.length
              · exact hc2
              · exact absurd (N.q3 l hl1 (by omega)) h4'
            rw [← el] at hpar
            refine ⟨_, rfl, _, rfl, a, _, rfl, .inl (SqL.of hS), rfl, _, rfl, ?_⟩
            rw [dec_int', hn]
            refine ite2 (fun h5 => ?_) (fun h5 => ?_)
            · have h5' : (l : Int) = (xs.length : Int) := of_decide_eq_true h5
              rw [if_pos (by omega)] at hpar
              rw [hpar] at k
              exact ⟨_, rfl, k⟩
            have h5' : ¬ (l : Int) = (xs.length : Int) := fun z => h5 (decide_eq_true z)
            rw [if_neg (by omega)] at hpar
            refine ⟨_, rfl, _, 0, rfl, rfl, _, rfl, ite2 (fun h6 => iteT ?_) (fun h6 => ?_)⟩
            · have h6' : c < 0 := of_decide_eq_true h6
              rw [if_pos (.inl h6')] at hpar
              rw [hpar] at k
              exact ⟨_, rfl, k⟩
            have h6' : ¬ c < 0 := fun z => h6 (decide_eq_true z)
            refine ⟨_, rfl, _, rfl, a, _, _, _, rfl, rfl, SqL.of hS, atI_mapM (by omega), _, rfl, _, rfl, a, _, _, _, rfl, rfl, SqL.of hS, atI_map' c.toNat (by omega) (by omega), _, _, rfl, rfl, _, rfl, ite2 (fun h7 => ?_) (fun h7 => ?_)⟩
            · rw [if_pos (.inr (of_decide_eq_true h7))] at hpar
              rw [hpar] at k
              exact ⟨_, rfl, k⟩
            · rw [if_neg (by rintro (z | z); exact h6' z; exact h7 (decide_eq_true z))] at hpar
              rw [hpar] at k
              exact ⟨_, rfl, k⟩

        · have h3' : ¬ (l : Int) < (((xs.map V.int).length : Nat) : Int) := fun z => h3 (decide_eq_true z)
          rw [hn] at h3'
          have el : l = bN xs i xs.length := by have := N.q2; omega
          rw [← el] at hpar
          refine ⟨_, rfl, _, rfl, a, _, rfl, .inl (SqL.of hS), rfl, _, rfl, ?_⟩
          rw [dec_int', hn]
          refine ite2 (fun h5 => ?_) (fun h5 => ?_)
          · have h5' : (l : Int) = (xs.length : Int) := of_decide_eq_true h5
            rw [if_pos (by omega)] at hpar
            rw [hpar] at k
            exact ⟨_, rfl, k⟩
          have h5' : ¬ (l : Int) = (xs.length : Int) := fun z => h5 (decide_eq_true z)
          rw [if_neg (by omega)] at hpar
          refine ⟨_, rfl, _, 0, rfl, rfl, _, rfl, ite2 (fun h6 => iteT ?_) (fun h6 => ?_)⟩
          · have h6' : c < 0 := of_decide_eq_true h6
            rw [if_pos (.inl h6')] at hpar
            rw [hpar] at k
            exact ⟨_, rfl, k⟩
          have h6' : ¬ c < 0 := fun z => h6 (decide_eq_true z)
          refine ⟨_, rfl, _, rfl, a, _, _, _, rfl, rfl, SqL.of hS, atI_mapM (by omega), _, rfl, _, rfl, a, _, _, _, rfl, rfl, SqL.of hS, atI_map' c.toNat (by omega) (by omega), _, _, rfl, rfl, _, rfl, ite2 (fun h7 => ?_) (fun h7 => ?_)⟩
          · rw [if_pos (.inr (of_decide_eq_true h7))] at hpar
            rw [hpar] at k
            exact ⟨_, rfl, k⟩
          · rw [if_neg (by rintro (z | z); exact h6' z; exact h7 (decide_eq_true z))] at hpar
            rw [hpar] at k
            exact ⟨_, rfl, k⟩

    · have h1' : ¬ 0 ≤ c := fun z => h1 (decide_eq_true z)
      have ec : c = aN xs i := by omega
      rw [← ec] at hpar
      refine ⟨_, rfl, _, 1, rfl, rfl, ?_⟩
      refine ⟨fun m' σ H4 => ∃ l : Nat, H4 = H3 ∧ σ = [some (.ref a), some (.int (i : Nat)), some (.int c), some (.int (l : Int))] ∧ m' = xs.length - l ∧ i < l ∧ l ≤ bN xs i xs.length, ⟨xs.length - (i + 1), i + 1, rfl, rfl, rfl, by omega, N.q1⟩, ?_⟩
      rintro m' σ H4 ⟨l, rfl, rfl, rfl, hl1, hl2⟩
      refine ⟨_, rfl, _, rfl, a, _, rfl, .inl (SqL.of hS), _, _, rfl, rfl, _, rfl, ite2 (fun h3 => ?_) (fun h3 => iteF ?_)⟩
      · have h3' : (l : Int) < (((xs.map V.int).length : Nat) : Int) := of_decide_eq_true h3
        rw [hn] at h3'
        refine ⟨_, rfl, _, rfl, a, _, _, _, rfl, rfl, SqL.of hS, atI_mapM (by omega), _, rfl, _, rfl, a, _, _, _, rfl, rfl, SqL.of hS, atI_mapM hi, _, _, rfl, rfl, _, rfl, ite2 (fun h4 => ?_) (fun h4 => ?_)⟩
        · have h4' : xs.getD i 0 ≤ xs.getD l 0 := of_decide_eq_true h4
          refine ⟨_, fun _ _ z => z, ⟨_, rfl, _, 1, rfl, rfl, xs.length - (l + 1), by omega, l + 1, rfl, rfl, rfl, by omega, ?_⟩⟩
          by_cases hc2 : l = bN xs i xs.length
          · have := N.q4 (by omega)
            rw [← hc2] at this; omega
          · omega
        · have h4' : ¬ xs.getD i 0 ≤ xs.getD l 0 := fun z => h4 (decide_eq_true z)
          have el : l = bN xs i xs.length := by
            by_cases hc2 : l = bN xs i xs.length
            · exact hc2
            · exact absurd (N.q3 l hl1 (by omega)) h4'
          rw [← el] at hpar
          refine ⟨_, rfl, _, rfl, a, _, rfl, .inl (SqL.of hS), rfl, _, rfl, ?_⟩
          rw [dec_int', hn]
          refine ite2 (fun h5 => ?_) (fun h5 => ?_)
          · have h5' : (l : Int) = (xs.length : Int) := of_decide_eq_true h5
            rw [if_pos (by omega)] at hpar
            rw [hpar] at k
            exact ⟨_, rfl, k⟩
          have h5' : ¬ (l : Int) = (xs.length : Int) := fun z => h5 (decide_eq_true z)
          rw [if_neg (by omega)] at hpar
          refine ⟨_, rfl, _, 0, rfl, rfl, _, rfl, ite2 (fun h6 => iteT ?_) (fun h6 => ?_)⟩
          · have h6' : c < 0 := of_decide_eq_true h6
            rw [if_pos (.inl h6')] at hpar
            rw [hpar] at k
            exact ⟨_, rfl, k⟩
          have h6' : ¬ c < 0 := fun z => h6 (decide_eq_true z)
          refine ⟨_, rfl, _, rfl, a, _, _, _, rfl, rfl, SqL.of hS, atI_mapM (by omega), _, rfl, _, rfl, a, _, _, _, rfl, rfl, SqL.of hS, atI_map' c.toNat (by omega) (by omega), _, _, rfl, rfl, _, rfl, ite2 (fun h7 => ?_) (fun h7 => ?_)⟩
          · rw [if_pos (.inr (of_decide_eq_true h7))] at hpar
            rw [hpar] at k
            exact ⟨_, rfl, k⟩
          · rw [if_neg (by rintro (z | z); exact h6' z; exact h7 (decide_eq_true z))] at hpar
            rw [hpar] at k
            exact ⟨_, rfl, k⟩

      · have h3' : ¬ (l : Int) < (((xs.map V.int).length : Nat) : Int) := fun z => h3 (decide_eq_true z)
        rw [hn] at h3'
        have el : l = bN xs i xs.length := by have := N.q2; omega
        rw [← el] at hpar
        refine ⟨_, rfl, _, rfl, a, _, rfl, .inl (SqL.of hS), rfl, _, rfl, ?_⟩
        rw [dec_int', hn]
        refine ite2 (fun h5 => ?_) (fun h5 => ?_)
        · have h5' : (l : Int) = (xs.length : Int) := of_decide_eq_true h5
          rw [if_pos (by omega)] at hpar
          rw [hpar] at k
          exact ⟨_, rfl, k⟩
        have h5' : ¬ (l : Int) = (xs.length : Int) := fun z => h5 (decide_eq_true z)
        rw [if_neg (by omega)] at hpar
        refine ⟨_, rfl, _, 0, rfl, rfl, _, rfl, ite2 (fun h6 => iteT ?_) (fun h6 => ?_)⟩
        · have h6' : c < 0 := of_decide_eq_true h6
          rw [if_pos (.inl h6')] at hpar
          rw [hpar] at k
          exact ⟨_, rfl, k⟩
        have h6' : ¬ c < 0 := fun z => h6 (decide_eq_true z)
        refine ⟨_, rfl, _, rfl, a, _, _, _, rfl, rfl, SqL.of hS, atI_mapM (by omega), _, rfl, _, rfl, a, _, _, _, rfl, rfl, SqL.of hS, atI_map' c.toNat (by omega) (by omega), _, _, rfl, rfl, _, rfl, ite2 (fun h7 => ?_) (fun h7 => ?_)⟩
        · rw [if_pos (.inr (of_decide_eq_true h7))] at hpar
          rw [hpar] at k
          exact ⟨_, rfl, k⟩
        · rw [if_neg (by rintro (z | z); exact h6' z; exact h7 (decide_eq_true z))] at hpar
          rw [hpar] at k
          exact ⟨_, rfl, k⟩
end
end Sky

namespace Sky
open PySem L2
section
variable {P : Program} {w : World} {K : PySem.W.Frag} {mg : Str → Option Value} {base : Heap}
theorem scDeep : FnScope ["_law_parents", "_law_place", "_law_many"] ["_law_parents", "_law_place"] (defScope sDeep) := ⟨rfl, rfl, rfl, by decide +kernel, rfl, by decide +kernel, by decide +kernel⟩
theorem ok_deep {f : Addr} {fd : FuncData} (F : Fun K "_law_deep" "_law_deep" sDeep f fd) (B : Blt mg)  : FnOk P w K mg base CX0 1 f fd ["_law_parents", "_law_place"] spDeep6 := by
  refine F.ok scDeep (fun vs H Q E h => ?_) (fun cdv A outer s H vs Q E hr h => ?_)
  · obtain ⟨a, Pa, i, d, rfl, _⟩ := h
    rfl
  · obtain ⟨a, Pa, i, d, rfl, hS, hd, k⟩ := h
    refine ⟨_, (pss_cons (ps_set (i := 2) scDeep.nd rfl (Or.inl rfl) pe_int)
      (pss_cons (ps_while PassesOwn.never (pt_cmpR op_ge (pe_ix ix_list (pv 0) (pv 1) (fun _ _ => rfl)) pe_int (nomark _))
      (pss_cons (ps_set (i := 1) scDeep.nd rfl (Or.inl rfl) (pe_ix ix_list (pv 0) (pv 1) (fun _ _ => rfl)))
      (pss_one (ps_set (i := 2) scDeep.nd rfl (Or.inl rfl) (pe_op op_add (pv 2) pe_int)))))
      (pss_one (ps_ret (pv 2))))), ?_⟩
    refine ⟨fun m σ H3 => ∃ j e : Nat, H3 = H ∧ σ = [some (.ref a), some (.int (j : Nat)), some (.int ((d - e : Nat) : Int))] ∧ m = e ∧ e ≤ d ∧ Dep Pa j e, ⟨d, i, d, rfl, by rw [Nat.sub_self]; rfl, rfl, Nat.le_refl _, hd⟩, ?_⟩
    rintro m σ H3 ⟨j, e, rfl, rfl, rfl, he, hde⟩
    have hj := hde.lt
    refine ⟨_, rfl, _, rfl, a, _, _, _, rfl, rfl, SqL.of hS, atI_mapM hj, _, 0, rfl, rfl, _, rfl, ?_⟩
    cases hde with
    | root _ h =>
      rw [h]
      exact iteD (by omega) ⟨_, rfl, k⟩
    | @under _ j2 e2 _ h t =>
      rw [h]
      refine iteE (by omega) ⟨_, fun _ _ z => z, ⟨_, rfl, _, rfl, a, _, _, _, rfl, rfl, SqL.of hS, atI_mapM hj, _, rfl, _, 1, rfl, rfl, e2, by omega, j2, e2, rfl, ?_, rfl, by omega, t⟩⟩
      show ([some (V.ref a), some (V.int (Pa.getD j 0)), some (V.int (((d - (e2 + 1) : Nat) : Int) + 1))] : St) = _
      rw [h, show ((d - (e2 + 1) : Nat) : Int) + 1 = ((d - e2 : Nat) : Int) by omega]
end
end Sky

namespace Sky
open PySem L2
section
variable {P : Program} {w : World} {K : PySem.W.Frag} {mg : Str → Option Value} {base : Heap}
abbrev nLaw : List Str := ["_law_script", "_law_bars_here", "_law_due", "_law_deep_here", "_law_handed", "_law_again", "_law_found", "_law_made"]
theorem scLaw : FnScope nLaw ["_law_script"] (defScope sLaw) := ⟨rfl, rfl, rfl, by decide +kernel, rfl, by decide +kernel, by decide +kernel⟩
theorem ok_law {f : Addr} {fd : FuncData} (F : Fun K "law" "law" sLaw f fd) (B : Blt mg) (cB : Callee P w K mg base 1 "_law_bars" ["_law_script"] (spBars K)) (cN : Callee P w K mg base 1 "_law_numbers" ["_law_found"] spNums) (cP : Callee P w K mg base 1 "_law_parent" ["_law_bars_here", "_law_place"] spParent) (cD : Callee P w K mg base 1 "_law_deep" ["_law_parents", "_law_place"] spDeep6) (cT : Callee P w K mg base 4 "tree" ["bars"] spTree) (cO : Callee P w K mg base 4 "bars_of" ["parents"] spBarsOf) : FnOk P w K mg base CX0 5 f fd ["_law_script"] (spLaw K) := by
  refine F.ok scLaw (fun vs H Q E h => ?_) (fun cdv A outer s H vs Q E hr h => ?_)
  · obtain ⟨a, ns, rfl, _⟩ := h
    rfl
  · obtain ⟨a, ns, rfl, hS, hl, k⟩ := h
    have hr1 : Room 1 _ := hr.mono (by decide)
    have hu := hr.units
    refine ⟨_, (pss_cons (ps_set (i := 1) scLaw.nd rfl (Or.inr rfl) (pe_fn cB hr1 rfl (pa_cons (pv 0) pa_nil)))
      (pss_cons (ps_set (i := 2) scLaw.nd rfl (Or.inr rfl) (pe_lc (cap := [1]) ["_law_place"] rfl (CompOk.of (defScope sLaw) nLaw rfl rfl (by decide +kernel)) (pi_range1 rfl B.range (pa_cons (pe_callB call_len_seq rfl B.len PySem.boot_len (pa_cons (pv 1) pa_nil)) pa_nil)) (fun C s H fp => (pg_name (i := 0) (show List.Nodup (["_law_place", "_law_bars_here"] : List Str) from by decide +kernel) rfl (Or.inl rfl))) (fun C s H fp => pf_nil)
        (fun C s H fp => (pe_fn cP hr1 rfl (pa_cons (pv 1) (pa_cons (pv 0) pa_nil))))))
      (pss_cons (ps_lc (i := 3) (cap := [2]) ["_law_place"] rfl (CompOk.of (defScope sLaw) nLaw rfl rfl (by decide +kernel)) scLaw.nd rfl (Or.inl rfl) (pi_range1 rfl B.range (pa_cons (pe_callB call_len_seq rfl B.len PySem.boot_len (pa_cons (pv 1) pa_nil)) pa_nil)) (fun C s H fp => (pg_name (i := 0) (show List.Nodup (["_law_place", "_law_due"] : List Str) from by decide +kernel) rfl (Or.inl rfl))) (fun C s H fp => pf_nil)
        (fun C s H fp => (pe_fn cD hr1 rfl (pa_cons (pv 1) (pa_cons (pv 0) pa_nil)))) rfl)
      (pss_cons (ps_set (i := 4) scLaw.nd rfl (Or.inl rfl) (pe_callTy call_list_of rfl B.list boot_list' (pa_cons (pv 1) pa_nil)))
      (pss_cons (ps_for PassesOwn.never rfl (pi_range1 rfl B.range (pa_cons pe_int pa_nil)) (pg_name (i := 5) scLaw.nd rfl (Or.inl rfl))
      (pss_cons (ps_set (i := 6) scLaw.nd rfl (Or.inl rfl) (pe_fn cT hr rfl (pa_cons (pv 4) pa_nil)))
      (pss_cons (ps_if (PW.pt (pw_or (pt_not (pt_val (pe_fn cN hr1 rfl (pa_cons (pv 6) pa_nil)))) (pw_or (pt_cmpR (op_neI hu) (pv 6) (pv 2) (nomark _)) (pw_or1 (pt_cmpR (op_neI hu) (pv 4) (pv 1) (nomark _)))))) pss_never pss_nil)
      (pss_cons (ps_set (i := 7) scLaw.nd rfl (Or.inl rfl) (pe_fn cO hr rfl (pa_cons (pv 6) pa_nil)))
      (pss_cons (ps_if (PW.pt (pw_or (pt_not (pt_val (pe_fn cN hr1 rfl (pa_cons (pv 7) pa_nil)))) (pw_or (pt_cmpR (op_neI hu) (pv 7) (pv 3) (nomark _)) (pw_or (pt_cmpR (op_neI hu) (pv 6) (pv 2) (nomark _)) (pw_or1 (pt_cmpR (op_neI hu) (pe_fn cT hr rfl (pa_cons (pv 7) pa_nil)) (pv 2) (nomark _))))))) pss_never pss_nil)
      (pss_cons (ps_expr (pe_bm PySem.F.plainAttrs_list PySem.F.slot_list_append PySem.F.type_list_append mt_append (pv 7) (pa_cons pe_int pa_nil)))
      (pss_one (ps_expr (pe_bm PySem.F.plainAttrs_list PySem.F.slot_list_append PySem.F.type_list_append mt_append (pv 6) (pa_cons pe_int pa_nil))))))))))
      (pss_one (ps_ret pe_bl))))))), ?_⟩
    refine ⟨_, rfl, a, ns, rfl, hS, hl, fun xs hxl hh b H1 nb s1 hB => ?_⟩
    have hx := hh.1
    have hge : ∀ i, i < xs.length → -1 ≤ xs.getD i 0 := fun i hi => by have := getD_ht hh hi; omega
    have htl : (treeL xs).length = xs.length := treeL_length xs
    -- what is due
    refine ⟨_, rfl, b, _, rfl, .inl (SqL.of hB), ((xs.map V.int).length : Int), rfl, by omega, by rw [List.length_map]; omega, fun D hD => ?_⟩
    rw [show (((xs.map V.int).length : Int)).toNat = xs.length by rw [List.length_map]; rfl]
    refine lc_range (fun i H2 ys => Same H1 H2 ∧ H2 D = some (.lst ys) ∧ ys = ((treeL xs).take i).map V.int) ⟨Same.new hD _, upd_same, by simp⟩ (fun i H2 ys _ h => h.2.1) ?_ ?_
    · rintro i H2 ys hi ⟨s2, hD2, rfl⟩ C s H0 fp
      refine ⟨_, rfl, _, rfl, b, xs, i, by simp, s2 _ _ hB, hi, hD2, by rw [List.length_map, List.length_take]; exact small100 (by omega), s2.put hD, upd_same, ?_⟩
      rw [List.take_add_one, treeL_get hi, List.map_append]; rfl
    rintro H2 ys ⟨s2, hD2, rfl⟩
    rw [List.take_of_length_le (by omega)] at hD2
    have hB2 : IL H2 b xs := s2 _ _ hB
    -- how deep
    obtain ⟨E1, hE⟩ := dep_list (treeL xs)
    obtain ⟨hE1, hE2⟩ := tree_back hge hE
    have hEl : E1.length = xs.length := by rw [hE.1, htl]
    refine ⟨_, rfl, b, _, rfl, .inl (SqL.of hB2), ((xs.map V.int).length : Int), rfl, by omega, by rw [List.length_map]; omega, fun G hG => ?_⟩
    rw [show (((xs.map V.int).length : Int)).toNat = xs.length by rw [List.length_map]; rfl]
    refine lc_range (fun i H3 ys => Same H2 H3 ∧ H3 G = some (.lst ys) ∧ ys = (E1.take i).map V.int) ⟨Same.new hG _, upd_same, by simp⟩ (fun i H3 ys _ h => h.2.1) ?_ ?_
    · rintro i H3 ys hi ⟨s3, hG3, rfl⟩ C s H0 fp
      obtain ⟨d, hd, ed⟩ := hE2 i hi
      refine ⟨_, rfl, _, rfl, D, treeL xs, i, d, by simp, s3 _ _ hD2, hd, hG3, by rw [List.length_map, List.length_take]; exact small100 (by omega), s3.put hG, upd_same, ?_⟩
      rw [List.take_add_one, getD_get (by omega), ed, List.map_append]; rfl
    rintro H3 ys ⟨s3, hG3, rfl⟩
    rw [List.take_of_length_le (by omega)] at hG3
    have hB3 : IL H3 b xs := s3 _ _ hB2
    have hD3 : IL H3 D (treeL xs) := s3 _ _ hD2
    -- list(bars)
    refine ⟨_, rfl, b, _, rfl, .inl (SqL.of hB3), fun h hh0 => ?_⟩
    have s4 := Same.new hh0 (.lst (xs.map V.int))
    have hH4 : IL (upd H3 h (.lst (xs.map V.int))) h xs := upd_same
    generalize upd H3 h (.lst (xs.map V.int)) = H4 at s4 hH4
    have hB4 : IL H4 b xs := s4 _ _ hB3
    have hD4 : IL H4 D (treeL xs) := s4 _ _ hD3
    have hG4 : IL H4 G E1 := s4 _ _ hG3
    -- twice
    refine ⟨2, rfl, by decide, by decide, for_range (n := 2) (fun i σ H5 => ∃ v5 v6 v7, σ = [some (.ref a), some (.ref b), some (.ref D), some (.ref G), some (.ref h), v5, v6, v7] ∧ Same H4 H5) ⟨none, none, none, rfl, Same.refl _⟩ ?_ ?_⟩
    · rintro i σ H5 _ ⟨v5, v6, v7, rfl, s5⟩
      refine ⟨_, rfl, h, xs, rfl, s5 _ _ hH4, hh, fun l H6 nl s6 hL => ?_⟩
      have nl4 : H4 l = none := s5.free nl
      refine ⟨_, rfl, l, _, rfl, hL, by omega, fun H7 s7 => ⟨true, rfl, iteF ?_⟩⟩
      have s47 := (s5.trans s6).trans s7
      have hL7 := s7 _ _ hL
      refine ⟨_, rfl, _, rfl, l, D, _, _, rfl, rfl, SqL.of hL7, SqL.of (s47 _ _ hD4), _, rfl, iteNeg rfl ?_⟩
      refine ⟨_, rfl, _, rfl, h, b, xs, xs, rfl, rfl, SqL.of (s47 _ _ hH4), SqL.of (s47 _ _ hB4), _, rfl, iteNeg rfl ?_⟩
      refine ⟨_, rfl, l, treeL xs, rfl, hL7, by omega, treeL_pv, fun D2 hD2 => (tree_back hge hD2).1, fun D2 hD2 l2 H8 nl2 s8 hL2 => ?_⟩
      have eD : D2 = E1 := hD2.uniq hE
      subst eD
      have s48 := s47.trans s8
      have nl24 : H4 l2 = none := s47.free nl2
      have hL8 := s8 _ _ hL7
      refine ⟨_, rfl, l2, _, rfl, hL2, by omega, fun H9 s9 => ⟨true, rfl, iteF ?_⟩⟩
      have s49 := s48.trans s9
      have hL29 := s9 _ _ hL2
      have hL9 := s9 _ _ hL8
      refine ⟨_, rfl, _, rfl, l2, G, _, _, rfl, rfl, SqL.of hL29, SqL.of (s49 _ _ hG4), _, rfl, iteNeg rfl ?_⟩
      refine ⟨_, rfl, _, rfl, l, D, _, _, rfl, rfl, SqL.of hL9, SqL.of (s49 _ _ hD4), _, rfl, iteNeg rfl ?_⟩
      refine ⟨_, rfl, l2, D2, rfl, hL29, hE.hts hge hx, fun l3 H10 nl3 s10 hL3 => ⟨_, rfl, l3, D, _, _, rfl, rfl, SqL.of hL3, SqL.of (s10 _ _ (s49 _ _ hD4)), _, rfl, iteNeg hE1 ?_⟩⟩
      have s410 := s49.trans s10
      have hL210 := s10 _ _ hL29
      have hL10 := s10 _ _ hL9
      have nll : l ≠ l2 := ne_of_none hL7 nl2
      refine ⟨_, rfl, .inl ⟨rfl, _, SqL.of hL210⟩, l2, _, _, rfl, rfl, hL210, by rw [List.length_map]; exact small100 (by omega), ?_⟩
      have hL11 : (upd H10 l2 (.lst (D2.map V.int ++ [.int 0]))) l = some (.lst ((treeL xs).map V.int)) := (upd_ne nll).trans hL10
      exact ⟨_, rfl, .inl ⟨rfl, _, SqL.of hL11⟩, l, _, _, rfl, rfl, hL11, by rw [List.length_map]; exact small100 (by omega), _, _, _, rfl, (s410.put nl24).put nl4⟩
    · rintro σ H5 ⟨v5, v6, v7, rfl, s5⟩
      exact k _
end
end Sky

namespace Sky
open PySem L2
theorem all_mk {l : PySem.W.OpenLaw} {w : World} {K : PySem.W.Frag} {h : Heap} {mg : Str → Option Value} {fa fL f__law_bars f__law_numbers f__law_parent f__law_deep6 f_is_whole_within f_check_bars f_parents_in_tree f_tree f_check_parents f_depths f_bars_of : Addr} (X : K.In h) (G : h.Ns mainGlobals mg) (hfa : mg "law" = some (.ref fa))
    (d__law_bars : DefIn K "_law_bars" sBars f__law_bars)
    (d__law_numbers : DefIn K "_law_numbers" sNums f__law_numbers)
    (d__law_parent : DefIn K "_law_parent" sParent f__law_parent)
    (d__law_deep6 : DefIn K "_law_deep" sDeep f__law_deep6)
    (d_is_whole_within : DefIn K "is_whole_within" sWithin f_is_whole_within)
    (d_check_bars : DefIn K "check_bars" sChk f_check_bars)
    (d_parents_in_tree : DefIn K "parents_in_tree" sPar f_parents_in_tree)
    (d_tree : DefIn K "tree" sTree f_tree)
    (d_check_parents : DefIn K "check_parents" sChkP f_check_parents)
    (d_depths : DefIn K "depths" sDepths f_depths)
    (d_bars_of : DefIn K "bars_of" sBarsOf f_bars_of)
    {oc : Value} {od an : Option Addr} {osl : Array (Option Value)} {kV doc pm cdv ct : Value} (aL : PySem.W.nsIn K mainGlobals "law" = some (some (.ref fL)))
    (lL : K.lookup fL = some ⟨oc, od, .func (PySem.W.fnOf "law" "law" (defArgs sLaw) (defBody sLaw) (defScope sLaw) .none kV doc pm an cdv ct), osl⟩) (cL : PySem.W.codeIn K cdv "law" = true) (kL : PySem.W.keepIn K (.ref fL) = true)
    {t : Tok} (hh : PySem.W.nsIn K mainGlobals "HIGHEST" = some (some (.int 10000000 t)))
    (z1 : PySem.W.nsIn K mainGlobals "isinstance" = some none)
    (z2 : PySem.W.nsIn K mainGlobals "int" = some none)
    (z3 : PySem.W.nsIn K mainGlobals "bool" = some none)
    (z4 : PySem.W.nsIn K mainGlobals "list" = some none)
    (z5 : PySem.W.nsIn K mainGlobals "len" = some none)
    (z6 : PySem.W.nsIn K mainGlobals "range" = some none)
    (z7 : PySem.W.nsIn K mainGlobals "enumerate" = some none)
    (z8 : PySem.W.nsIn K mainGlobals "reversed" = some none)
    (z9 : PySem.W.nsIn K mainGlobals "min" = some none)
    (z10 : PySem.W.nsIn K mainGlobals "max" = some none)
    (z11 : PySem.W.nsIn K mainGlobals "sum" = some none)
    (z12 : PySem.W.nsIn K mainGlobals "all" = some none)
    (z13 : PySem.W.nsIn K mainGlobals "sorted" = some none)
    (z14 : PySem.W.nsIn K mainGlobals "zip" = some none)
    (z15 : PySem.W.nsIn K mainGlobals "any" = some none)
    (z16 : PySem.W.nsIn K mainGlobals "tuple" = some none)
    : ∃ fd : FuncData, (∀ (s : Shared) (v : Value), BindsTo s fd ⟨[v], []⟩ [("_law_script", v)]) ∧ ∀ base : Heap, K.In base → base.Ns mainGlobals mg → FnOk l.prog w K mg base CX0 5 fa fd ["_law_script"] (spLaw K) := by
  have e := hfa.symm.trans (PySem.W.mg_of X G aL)
  cases e
  have B : Blt mg := ⟨PySem.W.mg_none_of X G z1, PySem.W.mg_none_of X G z2, PySem.W.mg_none_of X G z3, PySem.W.mg_none_of X G z4, PySem.W.mg_none_of X G z5, PySem.W.mg_none_of X G z6, PySem.W.mg_none_of X G z7, PySem.W.mg_none_of X G z8, PySem.W.mg_none_of X G z9, PySem.W.mg_none_of X G z10, PySem.W.mg_none_of X G z11, PySem.W.mg_none_of X G z12, PySem.W.mg_none_of X G z13, PySem.W.mg_none_of X G z14, PySem.W.mg_none_of X G z15, PySem.W.mg_none_of X G z16⟩
  have HI : Hi mg := ⟨t, PySem.W.mg_of X G hh⟩
  obtain ⟨g__law_bars, fd__law_bars, F__law_bars⟩ := d__law_bars
  obtain ⟨g__law_numbers, fd__law_numbers, F__law_numbers⟩ := d__law_numbers
  obtain ⟨g__law_parent, fd__law_parent, F__law_parent⟩ := d__law_parent
  obtain ⟨g__law_deep6, fd__law_deep6, F__law_deep6⟩ := d__law_deep6
  obtain ⟨g_is_whole_within, fd_is_whole_within, F_is_whole_within⟩ := d_is_whole_within
  obtain ⟨g_check_bars, fd_check_bars, F_check_bars⟩ := d_check_bars
  obtain ⟨g_parents_in_tree, fd_parents_in_tree, F_parents_in_tree⟩ := d_parents_in_tree
  obtain ⟨g_tree, fd_tree, F_tree⟩ := d_tree
  obtain ⟨g_check_parents, fd_check_parents, F_check_parents⟩ := d_check_parents
  obtain ⟨g_depths, fd_depths, F_depths⟩ := d_depths
  obtain ⟨g_bars_of, fd_bars_of, F_bars_of⟩ := d_bars_of
  have FL := fun_mk (st := sLaw) lL cL kL
  refine ⟨PySem.W.fnOf "law" "law" (defArgs sLaw) (defBody sLaw) (defScope sLaw) .none kV doc pm an cdv ct, fun s v => .of_eq rfl, fun base _ _ => ?_⟩
  have c__law_bars : Callee l.prog w K mg base 1 "_law_bars" ["_law_script"] (spBars K) := Callee.of F__law_bars (ok_bars F__law_bars B) (PySem.W.mg_of X G g__law_bars) (F__law_bars.binds fun _ _ _ _ _ _ us hl => match us, hl with | [_], _ => rfl)
  have c__law_numbers : Callee l.prog w K mg base 1 "_law_numbers" ["_law_found"] spNums := Callee.of F__law_numbers (ok_nums F__law_numbers B) (PySem.W.mg_of X G g__law_numbers) (F__law_numbers.binds fun _ _ _ _ _ _ us hl => match us, hl with | [_], _ => rfl)
  have c__law_parent : Callee l.prog w K mg base 1 "_law_parent" ["_law_bars_here", "_law_place"] spParent := Callee.of F__law_parent (ok_parent F__law_parent B) (PySem.W.mg_of X G g__law_parent) (F__law_parent.binds fun _ _ _ _ _ _ us hl => match us, hl with | [_, _], _ => rfl)
  have c__law_deep6 : Callee l.prog w K mg base 1 "_law_deep" ["_law_parents", "_law_place"] spDeep6 := Callee.of F__law_deep6 (ok_deep F__law_deep6 B) (PySem.W.mg_of X G g__law_deep6) (F__law_deep6.binds fun _ _ _ _ _ _ us hl => match us, hl with | [_, _], _ => rfl)
  have c_is_whole_within : Callee l.prog w K mg base 1 "is_whole_within" ["value", "least", "most"] spWithin := Callee.of F_is_whole_within (ok_within F_is_whole_within B) (PySem.W.mg_of X G g_is_whole_within) (F_is_whole_within.binds fun _ _ _ _ _ _ us hl => match us, hl with | [_, _, _], _ => rfl)
  have c_check_bars : Callee l.prog w K mg base 3 "check_bars" ["bars"] spChk := Callee.of F_check_bars (ok_chk F_check_bars B HI c_is_whole_within) (PySem.W.mg_of X G g_check_bars) (F_check_bars.binds fun _ _ _ _ _ _ us hl => match us, hl with | [_], _ => rfl)
  have c_parents_in_tree : Callee l.prog w K mg base 1 "parents_in_tree" ["bars"] spPar := Callee.of F_parents_in_tree (ok_par F_parents_in_tree B) (PySem.W.mg_of X G g_parents_in_tree) (F_parents_in_tree.binds fun _ _ _ _ _ _ us hl => match us, hl with | [_], _ => rfl)
  have c_tree : Callee l.prog w K mg base 4 "tree" ["bars"] spTree := Callee.of F_tree (ok_tree F_tree B c_check_bars c_parents_in_tree) (PySem.W.mg_of X G g_tree) (F_tree.binds fun _ _ _ _ _ _ us hl => match us, hl with | [_], _ => rfl)
  have c_check_parents : Callee l.prog w K mg base 2 "check_parents" ["parents"] spChkP := Callee.of F_check_parents (ok_chkP F_check_parents B c_is_whole_within) (PySem.W.mg_of X G g_check_parents) (F_check_parents.binds fun _ _ _ _ _ _ us hl => match us, hl with | [_], _ => rfl)
  have c_depths : Callee l.prog w K mg base 1 "depths" ["parents"] spDepths := Callee.of F_depths (ok_depths F_depths B) (PySem.W.mg_of X G g_depths) (F_depths.binds fun _ _ _ _ _ _ us hl => match us, hl with | [_], _ => rfl)
  have c_bars_of : Callee l.prog w K mg base 4 "bars_of" ["parents"] spBarsOf := Callee.of F_bars_of (ok_barsOf F_bars_of B c_check_parents c_depths c_parents_in_tree) (PySem.W.mg_of X G g_bars_of) (F_bars_of.binds fun _ _ _ _ _ _ us hl => match us, hl with | [_], _ => rfl)
  exact ok_law FL B c__law_bars c__law_numbers c__law_parent c__law_deep6 c_tree c_bars_of
end Sky
open PySem PySem.W PyProof.Rows
set_option maxRecDepth 100000 in
set_option maxHeartbeats 0 in
theorem PySem.Challenge.cw_skybars_k06_whole_tree_holds : PySem.Challenge.rw_skybars_k06_whole_tree.Holds := by
  w_on; o_law; k_head; (case hw => w_witness2)
  k_fill
  refine Sky.walk 5 (l := PySem.Challenge.rw_skybars_k06_whole_tree) ⟨rfl, by decide, by decide⟩ rfl rfl (fun w h Y => PySem.W.kIn_of Y) ?F
  case F =>
    intro w mg fa h KX G hmg
    refine' Sky.all_mk KX G hmg (Sky.def_mk ?a__law_bars ?l__law_bars ?c__law_bars ?k__law_bars) (Sky.def_mk ?a__law_numbers ?l__law_numbers ?c__law_numbers ?k__law_numbers) (Sky.def_mk ?a__law_parent ?l__law_parent ?c__law_parent ?k__law_parent) (Sky.def_mk ?a__law_deep6 ?l__law_deep6 ?c__law_deep6 ?k__law_deep6) (Sky.def_mk ?a_is_whole_within ?l_is_whole_within ?c_is_whole_within ?k_is_whole_within) (Sky.def_mk ?a_check_bars ?l_check_bars ?c_check_bars ?k_check_bars) (Sky.def_mk ?a_parents_in_tree ?l_parents_in_tree ?c_parents_in_tree ?k_parents_in_tree) (Sky.def_mk ?a_tree ?l_tree ?c_tree ?k_tree) (Sky.def_mk ?a_check_parents ?l_check_parents ?c_check_parents ?k_check_parents) (Sky.def_mk ?a_depths ?l_depths ?c_depths ?k_depths) (Sky.def_mk ?a_bars_of ?l_bars_of ?c_bars_of ?k_bars_of) ?aL ?lL ?cL ?kL ?hh ?z1 ?z2 ?z3 ?z4 ?z5 ?z6 ?z7 ?z8 ?z9 ?z10 ?z11 ?z12 ?z13 ?z14 ?z15 ?z16
    (case a__law_bars => k_is); (case l__law_bars => k_is); (case c__law_bars => k_is); (case k__law_bars => k_is)
    (case a__law_numbers => k_is); (case l__law_numbers => k_is); (case c__law_numbers => k_is); (case k__law_numbers => k_is)
    (case a__law_parent => k_is); (case l__law_parent => k_is); (case c__law_parent => k_is); (case k__law_parent => k_is)
    (case a__law_deep6 => k_is); (case l__law_deep6 => k_is); (case c__law_deep6 => k_is); (case k__law_deep6 => k_is)
    (case a_is_whole_within => k_is); (case l_is_whole_within => k_is); (case c_is_whole_within => k_is); (case k_is_whole_within => k_is)
    (case a_check_bars => k_is); (case l_check_bars => k_is); (case c_check_bars => k_is); (case k_check_bars => k_is)
    (case a_parents_in_tree => k_is); (case l_parents_in_tree => k_is); (case c_parents_in_tree => k_is); (case k_parents_in_tree => k_is)
    (case a_tree => k_is); (case l_tree => k_is); (case c_tree => k_is); (case k_tree => k_is)
    (case a_check_parents => k_is); (case l_check_parents => k_is); (case c_check_parents => k_is); (case k_check_parents => k_is)
    (case a_depths => k_is); (case l_depths => k_is); (case c_depths => k_is); (case k_depths => k_is)
    (case a_bars_of => k_is); (case l_bars_of => k_is); (case c_bars_of => k_is); (case k_bars_of => k_is)
    (case aL => k_is); (case lL => k_is); (case cL => k_is); (case kL => k_is)
    (case hh => k_is); (case z1 => k_is); (case z2 => k_is); (case z3 => k_is)
    (case z4 => k_is); (case z5 => k_is); (case z6 => k_is); (case z7 => k_is)
    (case z8 => k_is); (case z9 => k_is); (case z10 => k_is); (case z11 => k_is)
    (case z12 => k_is); (case z13 => k_is); (case z14 => k_is); (case z15 => k_is)
    (case z16 => k_is)
