import PyProof.Rows.All
import Wide.All
import OpenK.AllK
import Wide.FinOn
import Lean
import PyProof.EqAt
import PyProof.EqKinds
import PyProof.TupleCall
import PySem.Challenge.RW_stillpoint_k10_refusals_apart
-- CHANGE: your row's module here, as the last of these rows
set_option Elab.async false
set_option linter.all false
set_option maxRecDepth 100000
/-! THE HAND LAYER, for ints, bools, texts, own classes, LISTS and tuples (index, slices, in, append, pop ..), calls, loops. Paste it whole ahead of your own text; what your proof does not reach may be deleted. -/
namespace L2
open PySem PySem.Spec PyProof.Rows

/-- a key: an int or a str -/
abbrev Key := Sum Int Str
def keyIs : Key → Value → Bool
  | .inl k, v => Value.isInt k v
  | .inr x, v => Value.isStrOf x v
def keyH (w : World) : Key → Int
  | .inl k => hashInt k
  | .inr x => hashStr w x
theorem keyIs_shape : ∀ {k : Key} {v : Value}, keyIs k v = true → (∃ i t, k = Sum.inl i ∧ v = Value.int i t) ∨ (∃ x t, k = Sum.inr x ∧ v = Value.str x t)
  | .inl i, v, h => by
    obtain ⟨t, e⟩ := Value.isInt_shape (k := i) (v := v) h
    exact .inl ⟨i, t, rfl, e⟩
  | .inr x, v, h => by
    obtain ⟨t, e⟩ := Value.isStrOf_shape (x := x) (v := v) h
    exact .inr ⟨x, t, rfl, e⟩
theorem keyIs_int (i : Int) (t : Tok) : keyIs (.inl i) (.int i t) = true := by simp [keyIs, Value.isInt]
theorem keyIs_str (x : Str) (t : Tok) : keyIs (.inr x) (.str x t) = true := by simp [keyIs, Value.isStrOf]
theorem key_ll (a b : Int) : decide ((Sum.inl a : Key) = Sum.inl b) = (a == b) := by
  by_cases e : a = b
  · subst e; simp
  · have h : ¬ (Sum.inl a : Key) = Sum.inl b := fun q => e (Sum.inl.inj q)
    rw [decide_eq_false h]
    exact (beq_eq_false_iff_ne.mpr e).symm
theorem key_rr (a b : Str) : decide ((Sum.inr a : Key) = Sum.inr b) = decide (a = b) := by
  by_cases e : a = b
  · subst e; simp
  · have h : ¬ (Sum.inr a : Key) = Sum.inr b := fun q => e (Sum.inr.inj q)
    rw [decide_eq_false h, decide_eq_false e]
theorem key_lr (a : Int) (b : Str) : decide ((Sum.inl a : Key) = Sum.inr b) = false := decide_eq_false (fun q => nomatch q)
theorem key_rl (a : Str) (b : Int) : decide ((Sum.inr a : Key) = Sum.inl b) = false := decide_eq_false (fun q => nomatch q)

def mixKind (prog : Program) (w : World) : PySem.KeyKind prog w Key where
  is := keyIs
  hash := keyH w
  inj := fun v a b ha hb => by
    rcases keyIs_shape ha with ⟨i, t, rfl, rfl⟩ | ⟨x, t, rfl, rfl⟩
    · rcases keyIs_shape hb with ⟨j, u, rfl, e⟩ | ⟨y, u, rfl, e⟩
      · injection e with e1 _; rw [e1]
      · exact nomatch e
    · rcases keyIs_shape hb with ⟨j, u, rfl, e⟩ | ⟨y, u, rfl, e⟩
      · exact nomatch e
      · injection e with e1 _; rw [e1]
  byValue := fun k v h => by
    rcases keyIs_shape h with ⟨i, t, rfl, rfl⟩ | ⟨x, t, rfl, rfl⟩ <;> rfl
  pyHash := fun hv h => by
    rcases keyIs_shape hv with ⟨i, t, rfl, rfl⟩ | ⟨x, t, rfl, rfl⟩
    · exact wpAny_pyHash_int h
    · exact wpAny_pyHash_str h
  eqBool := fun hu hv h => by
    rcases keyIs_shape hu with ⟨i, t, rfl, rfl⟩ | ⟨x, t, rfl, rfl⟩
    · rcases keyIs_shape hv with ⟨j, u, rfl, rfl⟩ | ⟨y, u, rfl, rfl⟩
      · rw [key_ll] at h; exact wpAny_eqBool_int h
      · rw [key_lr] at h; exact SeqAt.EqAt.int_str i t y u _ _ _ _ h
    · rcases keyIs_shape hv with ⟨j, u, rfl, rfl⟩ | ⟨y, u, rfl, rfl⟩
      · rw [key_rl] at h; exact SeqAt.EqAt.str_int x t j u _ _ _ _ h
      · rw [key_rr] at h; exact wpAny_eqBool_str h
  «strs» := fun k x t v h => by
    rcases keyIs_shape h with ⟨i, u, rfl, e⟩ | ⟨y, u, rfl, e⟩
    · exact nomatch e
    · injection e with e1 _
      subst e1
      cases v <;> rfl

theorem mixKind_is (prog : Program) (w : World) (k : Key) (v : Value) : (mixKind prog w).is k v = keyIs k v := rfl
theorem mixKind_int (prog : Program) (w : World) (i : Int) (t : Tok) : (mixKind prog w).is (.inl i) (.int i t) = true := keyIs_int i t
theorem mixKind_str (prog : Program) (w : World) (x : Str) (t : Tok) : (mixKind prog w).is (.inr x) (.str x t) = true := keyIs_str x t
end L2

namespace L2
open PySem PySem.Spec PyProof.Rows

/-- a value, without the heap -/
inductive V where
  | non | bl (b : Bool) | int (i : Int) | str (x : Str) | byt (b : Array UInt8) | flt (b : UInt64) | ref (a : Addr) | ty (n : String)
  deriving DecidableEq

def RelV : V → Value → Prop
  | .non, u => u = Value.none
  | .bl b, u => u = Value.bool b
  | .int i, u => ∃ t, u = Value.int i t
  | .str x, u => ∃ t, u = Value.str x t
  | .byt b, u => ∃ t, u = Value.bytes b t
  | .flt b, u => ∃ t, u = Value.float b t
  | .ref a, u => u = Value.ref a
  | .ty n, u => u = Value.type n

abbrev Vals : List V → List Value → Prop := Paired RelV
theorem Vals.length {xs : List V} {us : List Value} (r : Vals xs us) : xs.length = us.length := Paired.length r
theorem Vals.get : ∀ {xs : List V} {us : List Value} {i : Nat} {x : V}, Vals xs us → xs[i]? = some x → ∃ u, us[i]? = some u ∧ RelV x u
  | _, _, _, _, .nil, e => by simp at e
  | _, _, 0, _, .cons r _, e => by simp at e; subst e; exact ⟨_, rfl, r⟩
  | _, _, i + 1, x, .cons _ t, e => by
    obtain ⟨u, h1, h2⟩ := Vals.get (i := i) (x := x) t (by simpa using e)
    exact ⟨u, by simpa using h1, h2⟩
theorem Vals.set {x : V} {u : Value} (r : RelV x u) : ∀ {xs : List V} {us : List Value} (i : Nat), Vals xs us → Vals (xs.set i x) (us.set i u)
  | _, _, _, .nil => .nil
  | _, _, 0, .cons _ t => .cons r t
  | _, _, i + 1, .cons q t => .cons q (Vals.set r i t)
theorem Vals.append : ∀ {xs ys : List V} {us ws : List Value}, Vals xs us → Vals ys ws → Vals (xs ++ ys) (us ++ ws)
  | _, _, _, _, .nil, s => s
  | _, _, _, _, .cons r t, s => .cons r (Vals.append t s)
theorem Vals.take : ∀ {xs : List V} {us : List Value} (n : Nat), Vals xs us → Vals (xs.take n) (us.take n)
  | _, _, 0, _ => .nil
  | _, _, _ + 1, .nil => .nil
  | _, _, n + 1, .cons r t => .cons r (Vals.take n t)
theorem Vals.drop : ∀ {xs : List V} {us : List Value} (n : Nat), Vals xs us → Vals (xs.drop n) (us.drop n)
  | _, _, 0, r => r
  | _, _, _ + 1, .nil => .nil
  | _, _, n + 1, .cons _ t => Vals.drop n t
theorem Vals.none_of : ∀ {xs : List V} {us : List Value} {i : Nat}, Vals xs us → xs[i]? = none → us[i]? = none := fun {xs us i} r e => by
  have h1 := r.length
  have h2 : xs.length ≤ i := List.getElem?_eq_none_iff.mp e
  exact List.getElem?_eq_none_iff.mpr (by omega)

def RelO : Option V → Option Value → Prop
  | some v, some u => RelV v u
  | none, none => True
  | _, _ => False
def KV {κ : Type} : List (κ × V) → List (κ × Value) → Prop := Paired fun (p : κ × V) (q : κ × Value) => p.1 = q.1 ∧ RelV p.2 q.2

/-- a key of a dict (00_mix): an int or a text -/
def kV : Key → V
  | .inl i => .int i
  | .inr x => .str x

/-- what stands at a tracked address -/
inductive HO where
  /-- a list -/
  | lst (xs : List V)
  /-- a tuple (never changes) -/
  | tup (xs : List V)
  /-- a dict whose keys are ints and texts; one whose keys are tuples of ints and texts (the empty one is both) -/
  | dK (kvs : List (Key × V)) | dT (kvs : List (List Key × V))
  /-- a set of ints: its members, its size -/
  | set (S : Int → Bool) (n : Nat)
  /-- an instance of the class at C, its dict at dx, its attributes -/
  | ins (C dx : Addr) (fs : List (Str × V))
  /-- the dict of the instance at x -/
  | own (x : Addr)
  /-- the dict of an exception -/
  | xd (fs : List (Str × V))
  /-- a bound method, f of x -/
  | met (f x : Addr)
  /-- a range object lo, lo + 1, .. below hi -/
  | rng (lo hi : Int)
  /-- a thing that is known to the object (the script; a dict while a loop walks it): read, never written while it is so -/
  | frz (o : Obj) (u : HO)
  /-- a code object's table -/
  | tbl (ps : Array Value)
  /-- any other thing, by what is true of its one object (a def of one's own: SetO a S n := HO.ext fun h => ..) -/
  | ext (φ : Heap → Prop)

abbrev Hp := Addr → Option HO
def upd (H : Hp) (a : Addr) (o : HO) : Hp := fun b => if b = a then some o else H b
theorem upd_same {H : Hp} {a : Addr} {o : HO} : upd H a o a = some o := by unfold upd; rw [if_pos rfl]
theorem upd_ne {H : Hp} {a b : Addr} {o : HO} (h : b ≠ a) : upd H a o b = H b := by unfold upd; rw [if_neg h]
theorem upd_upd {H : Hp} {a : Addr} {o u : HO} : upd (upd H a o) a u = upd H a u := by
  funext b; unfold upd; split <;> rfl
/-- two objects of different content stand apart -/
theorem ne_of {H : Hp} {a b : Addr} {o u : HO} (h : H a = some o) (h' : H b = some u) (d : o ≠ u) : a ≠ b := by
  intro e; subst e; rw [h] at h'; exact d (Option.some.inj h')
theorem ne_of_none {H : Hp} {a b : Addr} {o : HO} (h : H a = some o) (h' : H b = none) : a ≠ b := by
  intro e; subst e; rw [h] at h'; cases h'

section
variable (P : Program) (w : World)
def ObjOk (H : Hp) (h : Heap) (a : Addr) : HO → Prop
  | .lst xs => xs.length ≤ sizeLine ∧ ∃ (its : List Value) (n : Nat), Vals xs its ∧ h.get? a = some { cls := .type "list", data := .seq its.toArray n }
  | .tup xs => xs.length ≤ sizeLine ∧ ∃ its : List Value, Vals xs its ∧ IsTup h a its.toArray
  | .dK kvs => kvs.length ≤ sizeLine ∧ (a == sysModules) = false ∧ ∃ vs, KV kvs vs ∧ h.DictOf (mixKind P w) a vs
  | .dT kvs => kvs.length ≤ sizeLine ∧ (a == sysModules) = false ∧ ∃ xs : List (List Key × Addr × Value),
      Paired (fun (p : List Key × V) (q : List Key × Addr × Value) => p.1 = q.1 ∧ H q.2.1 = some (.tup (p.1.map kV)) ∧ RelV p.2 q.2.2) kvs xs ∧
      ∃ o es ep, h.get? a = some o ∧ o.ExactDict ∧ o.data = .dict es ep ∧ es.toList = xs.map (entryOfKey (tupleKind (mixKind P w))) ∧ (xs.map (·.1)).Nodup
  | .set S n => h.SetOf (intKind P w) a S n
  | .ins C dx fs => H dx = some (.own a) ∧ fs.length ≤ 1000 ∧ dx ≠ a ∧ h.get? a = some (PySem.W.instObj C dx) ∧
      ∃ mA, h.Ns1 dx mA ∧ (∀ f, RelO (fs.lookup f) (mA f)) ∧ PySem.Within mA (fs.map (·.1))
  | .own _ => ∃ o, h.get? a = some o
  | .xd fs => ∃ mA, h.Ns1 a mA ∧ ∀ f, RelO (fs.lookup f) (mA f)
  | .rng lo hi => ∃ t u v, h.get? a = some { cls := .type "range", data := .fields #[.int lo t, .int hi u, .int 1 v] }
  | .frz o u => h.get? a = some o ∧ ObjOk H h a u
  | .tbl ps => h.get? a = some { cls := .none, data := .fields ps }
  | .met f x => h.get? a = some (PySem.W.methodObj (.ref f) (.ref x))
  | .ext φ => φ h ∧ (∃ o, h.get? a = some o) ∧ ∀ h1 h2 : Heap, φ h1 → (∀ o, h1.get? a = some o → h2.get? a = some o) → φ h2
/-- the abstract heap is held -/
def HOk (H : Hp) (h : Heap) : Prop := ∀ a o, H a = some o → ObjOk P w H h a o
end

section
variable {P : Program} {w : World} {H H' : Hp} {h h' : Heap} {a : Addr} {o : HO}
theorem ObjOk.lt (x : ObjOk P w H h a o) : a < h.objs.size := by
  cases o with
  | lst xs => obtain ⟨_, _, _, _, e⟩ := x; exact Heap.lt_size e
  | tup xs => obtain ⟨_, _, _, p⟩ := x; exact p.lt
  | dK kvs => obtain ⟨_, _, _, _, o, _, _, e, _⟩ := x; exact Heap.lt_size e
  | dT kvs => obtain ⟨_, _, _, _, o, _, _, e, _⟩ := x; exact Heap.lt_size e
  | set S n => obtain ⟨o, _, _, _, e, _⟩ := x; exact Heap.lt_size e
  | ins C dx fs => obtain ⟨_, _, _, e, _⟩ := x; exact Heap.lt_size e
  | own y => obtain ⟨_, e⟩ := x; exact Heap.lt_size e
  | xd fs => obtain ⟨_, ⟨_, _, _, e, _⟩, _⟩ := x; exact Heap.lt_size e
  | rng lo hi => obtain ⟨_, _, _, e⟩ := x; exact Heap.lt_size e
  | frz ob u => obtain ⟨e, _⟩ := x; exact Heap.lt_size e
  | tbl ps => exact Heap.lt_size (show h.get? a = some _ from x)
  | met f y => exact Heap.lt_size (show h.get? a = some _ from x)
  | ext φ => obtain ⟨_, ⟨_, e⟩, _⟩ := x; exact Heap.lt_size e
theorem Paired.mapP {α β : Type} {F G : α → β → Prop} : ∀ {l₁ : List α} {l₂ : List β}, Paired F l₁ l₂ → (∀ a b, F a b → G a b) → Paired G l₁ l₂
  | _, _, .nil, _ => .nil
  | _, _, .cons r t, f => .cons (f _ _ r) (Paired.mapP t f)
theorem Paired.imp' {α β : Type} {F G : α → β → Prop} (f : ∀ a b, F a b → G a b) {l₁ : List α} {l₂ : List β} (r : Paired F l₁ l₂) : Paired G l₁ l₂ := Paired.mapP r f
/-- what an object's description leans on: its own object, its own dict, the tuples -/
theorem ObjOk.stay (x : ObjOk P w H h a o) (k : ∀ b u, (b = a ∨ H b = some (.own a)) → h.get? b = some u → h'.get? b = some u)
    (ho : ∀ b, H b = some (.own a) → H' b = some (.own a)) (ht : ∀ b xs, H b = some (.tup xs) → H' b = some (.tup xs)) : ObjOk P w H' h' a o := by
  induction o with
  | lst xs => obtain ⟨z, its, n, r, e⟩ := x; exact ⟨z, its, n, r, k _ _ (.inl rfl) e⟩
  | tup xs => obtain ⟨z, its, r, ob, e, c⟩ := x; exact ⟨z, its, r, ob, k _ _ (.inl rfl) e, c⟩
  | dK kvs => obtain ⟨z, y, vs, r, ob, es, ep, e, c⟩ := x; exact ⟨z, y, vs, r, ob, es, ep, k _ _ (.inl rfl) e, c⟩
  | dT kvs =>
    obtain ⟨z, y, xs, r, ob, es, ep, e, c⟩ := x
    exact ⟨z, y, xs, Paired.mapP r fun p q z => ⟨z.1, ht _ _ z.2.1, z.2.2⟩, ob, es, ep, k _ _ (.inl rfl) e, c⟩
  | set S n => obtain ⟨ob, es, ep, t, e, c⟩ := x; exact ⟨ob, es, ep, t, k _ _ (.inl rfl) e, c⟩
  | ins C dx fs =>
    obtain ⟨d, z, ne, e, mA, ⟨od, es, ep, e2, c⟩, r⟩ := x
    exact ⟨ho _ d, z, ne, k _ _ (.inl rfl) e, mA, ⟨od, es, ep, k _ _ (.inr d) e2, c⟩, r⟩
  | own y => obtain ⟨ob, e⟩ := x; exact ⟨ob, k _ _ (.inl rfl) e⟩
  | xd fs => obtain ⟨mA, ⟨od, es, ep, e, c⟩, r⟩ := x; exact ⟨mA, ⟨od, es, ep, k _ _ (.inl rfl) e, c⟩, r⟩
  | rng lo hi => obtain ⟨t, u, v, e⟩ := x; exact ⟨t, u, v, k _ _ (.inl rfl) e⟩
  | frz ob u ih => obtain ⟨e, q⟩ := x; exact ⟨k _ _ (.inl rfl) e, ih q⟩
  | tbl ps =>
    have e : h.get? a = some { cls := .none, data := .fields ps } := x
    show h'.get? a = some { cls := .none, data := .fields ps }
    exact k a _ (.inl rfl) e
  | met f y =>
    have e : h.get? a = some (PySem.W.methodObj (.ref f) (.ref y)) := x
    show h'.get? a = some (PySem.W.methodObj (.ref f) (.ref y))
    exact k a _ (.inl rfl) e
  | ext φ => obtain ⟨p, ⟨o, e⟩, st⟩ := x; exact ⟨st _ _ p fun o q => k _ _ (.inl rfl) q, ⟨o, k _ _ (.inl rfl) e⟩, st⟩
theorem HOk.lt (x : HOk P w H h) (e : H a = some o) : a < h.objs.size := (x a o e).lt
theorem HOk.fresh (x : HOk P w H h) (e : h.objs.size ≤ a) : H a = none := by
  cases q : H a with
  | none => rfl
  | some u => exact absurd (Nat.lt_of_lt_of_le (x.lt q) e) (Nat.lt_irrefl _)
/-- every object of the heap is kept -/
theorem HOk.kept (x : HOk P w H h) (k : ∀ b u, h.get? b = some u → h'.get? b = some u) : HOk P w H h' := fun a o e =>
  (x a o e).stay (fun b u _ q => k b u q) (fun _ q => q) fun _ _ q => q
/-- a new object is laid and tracked -/
theorem HOk.laid (x : HOk P w H h) (k : ∀ b u, h.get? b = some u → h'.get? b = some u) (hp : h.objs.size ≤ a) (new : ObjOk P w (upd H a o) h' a o) : HOk P w (upd H a o) h' := fun b u e => by
  have hn := x.fresh hp
  by_cases hb : b = a
  · subst hb; rw [upd_same] at e; cases e; exact new
  · rw [upd_ne hb] at e
    exact (x b u e).stay (fun c v _ q => k c v q) (fun c q => by rw [upd_ne (ne_of_none q hn)]; exact q) fun c xs q => by rw [upd_ne (ne_of_none q hn)]; exact q
end

/-- what may be read as u: it is u, or a known u -/
def Rd (H : Hp) (a : Addr) (u : HO) : Prop := H a = some u ∨ ∃ o, H a = some (.frz o u)
theorem Rd.of {H : Hp} {a : Addr} {u : HO} (h : H a = some u) : Rd H a u := .inl h
theorem Rd.ok {P : Program} {w : World} {H : Hp} {h : Heap} {a : Addr} {u : HO} (r : Rd H a u) (x : HOk P w H h) : ObjOk P w H h a u := by
  rcases r with r | ⟨o, r⟩
  · exact x a u r
  · obtain ⟨_, q⟩ := x a _ r
    exact q
/-- what may be written -/
def Mut : Option HO → Prop
  | some (.lst _) => True
  | some (.dK _) => True
  | some (.dT _) => True
  | some (.set _ _) => True
  | some (.ins _ _ _) => True
  | some (.ext _) => True
  | _ => False
section
variable {P : Program} {w : World} {H : Hp} {h h' : Heap} {x e : Addr} {o' : HO}
/-- the object at e is changed: x itself, or the dict of the instance x -/
theorem HOk.write (ok : HOk P w H h) (mu : Mut (H x)) (he : e = x ∨ H e = some (.own x)) (k : ∀ b u, b ≠ e → h.get? b = some u → h'.get? b = some u) (heo : ∃ u, h'.get? e = some u)
    (new : ObjOk P w (upd H x o') h' x o') : HOk P w (upd H x o') h' := fun b u q => by
  have nown : ∀ c y, H c = some (.own y) → c ≠ x := fun c y r z => by subst z; rw [r] at mu; exact mu
  have ntup : ∀ c xs, H c = some (.tup xs) → c ≠ x := fun c xs r z => by subst z; rw [r] at mu; exact mu
  by_cases hb : b = x
  · subst hb; rw [upd_same] at q; cases q; exact new
  · rw [upd_ne hb] at q
    by_cases hbe : b = e
    · have q' : H b = some (.own x) := by
        rcases he with z | z
        · exact absurd (hbe.trans z) hb
        · rw [hbe]; exact z
      rw [q] at q'; cases q'
      obtain ⟨v, hv⟩ := heo
      exact ⟨v, by rw [hbe]; exact hv⟩
    · refine (ok b u q).stay (fun c v hc r => k c v ?_ r) (fun c r => by rw [upd_ne (nown c b r)]; exact r) fun c xs r => by rw [upd_ne (ntup c xs r)]; exact r
      rcases hc with rfl | hc
      · exact hbe
      · rintro rfl
        rcases he with z | z
        · exact nown c b hc z
        · rw [hc] at z; cases z; exact hb rfl
end

/-! ### kept unless tracked; of the frames at fs (the callers') the slots may change (an exception that passes writes there); of the records at ex (iterators) nothing is said -/
structure Un (fs ex : List Addr) (H H' : Hp) (h h' : Heap) : Prop where
  keep : ∀ b o, h.get? b = some o → H b = none → b ∉ fs → b ∉ ex → h'.get? b = some o
  slot : ∀ b o, h.get? b = some o → H b = none → b ∈ fs → b ∉ ex → ∃ sl, h'.get? b = some { o with slots := sl }
  free : ∀ b o, h.get? b = some o → H b = none → b ∉ ex → H' b = none
  there : ∀ b o, h.get? b = some o → b ∉ ex → ∃ o', h'.get? b = some o'
  tups : ∀ b xs, H b = some (.tup xs) → H' b = some (.tup xs)
  frzs : ∀ b o u, H b = some (.frz o u) → H' b = some (.frz o u)
  tbls : ∀ b ps, H b = some (.tbl ps) → ∃ more, H' b = some (.tbl (ps ++ more))
section
variable {fs fs' ex ex' : List Addr} {H H1 H2 : Hp} {h h1 h2 h' : Heap} {a x e : Addr} {o : HO}
theorem Un.any (u : Un fs ex H H1 h h1) {b : Addr} {ob : Obj} (q : h.get? b = some ob) (n : H b = none) (hx : b ∉ ex) : ∃ sl, h1.get? b = some { ob with slots := sl } := by
  by_cases hb : b ∈ fs
  · exact u.slot b ob q n hb hx
  · exact ⟨ob.slots, u.keep b ob q n hb hx⟩
theorem Un.trans (a : Un fs ex H H1 h h1) (b : Un fs ex H1 H2 h1 h2) : Un fs ex H H2 h h2 where
  keep := fun c ob q n hc hx => b.keep c ob (a.keep c ob q n hc hx) (a.free c ob q n hx) hc hx
  slot := fun c ob q n hc hx => by
    obtain ⟨sl, e1⟩ := a.slot c ob q n hc hx
    obtain ⟨sl', e2⟩ := b.slot c _ e1 (a.free c ob q n hx) hc hx
    exact ⟨sl', e2⟩
  free := fun c ob q n hx => by
    obtain ⟨o', e1⟩ := a.there c ob q hx
    exact b.free c o' e1 (a.free c ob q n hx) hx
  there := fun c ob q hx => by
    obtain ⟨o', e1⟩ := a.there c ob q hx
    exact b.there c o' e1 hx
  tups := fun c xs q => b.tups c xs (a.tups c xs q)
  frzs := fun c ob xs q => b.frzs c ob xs (a.frzs c ob xs q)
  tbls := fun c ps q => by
    obtain ⟨m1, e1⟩ := a.tbls c ps q
    obtain ⟨m2, e2⟩ := b.tbls c _ e1
    exact ⟨m1 ++ m2, by rw [e2, Array.append_assoc]⟩
theorem Un.kept (k : ∀ b u, h.get? b = some u → h'.get? b = some u) : Un fs ex H H h h' :=
  ⟨fun b ob q _ _ _ => k b ob q, fun b ob q _ _ _ => ⟨ob.slots, k b ob q⟩, fun _ _ _ n _ => n, fun b ob q _ => ⟨ob, k b ob q⟩, fun _ _ q => q, fun _ _ _ q => q, fun _ ps q => ⟨#[], by rw [q]; simp⟩⟩
theorem Un.refl : Un fs ex H H h h := Un.kept fun _ _ q => q
theorem Un.laid (k : ∀ b u, h.get? b = some u → h'.get? b = some u) (hp : h.objs.size ≤ a) (hn : H a = none) : Un fs ex H (upd H a o) h h' where
  keep := fun b u q _ _ _ => k b u q
  slot := fun b u q _ _ _ => ⟨u.slots, k b u q⟩
  free := fun b u q n _ => by rw [upd_ne (Nat.ne_of_lt (Nat.lt_of_lt_of_le (Heap.lt_size q) hp))]; exact n
  there := fun b u q _ => ⟨u, k b u q⟩
  tups := fun b xs q => by rw [upd_ne (ne_of_none q hn)]; exact q
  frzs := fun b u xs q => by rw [upd_ne (ne_of_none q hn)]; exact q
  tbls := fun b ps q => ⟨#[], by rw [upd_ne (ne_of_none q hn), q]; simp⟩
theorem Un.write (mu : Mut (H x)) (he : e = x ∨ H e = some (.own x)) (k : ∀ b u, b ≠ e → h.get? b = some u → h'.get? b = some u) (heo : ∃ u, h'.get? e = some u) : Un fs ex H (upd H x o) h h' := by
  have hx : ∀ b, H b = none → b ≠ x := fun b n z => by subst z; rw [n] at mu; exact mu
  have hb : ∀ b, H b = none → b ≠ e := fun b n z => by
    subst z
    rcases he with r | r
    · exact hx b n r
    · rw [n] at r; cases r
  have hm : ∀ b u, H b = some u → ¬ Mut (some u) → b ≠ x := fun b u q nm z => by subst z; rw [q] at mu; exact nm mu
  refine ⟨fun b u q n _ _ => k b u (hb b n) q, fun b u q n _ _ => ⟨u.slots, k b u (hb b n) q⟩, fun b u q n _ => by rw [upd_ne (hx b n)]; exact n, fun b u q _ => ?_,
    fun b xs q => by rw [upd_ne (hm b _ q fun z => z)]; exact q, fun b u xs q => by rw [upd_ne (hm b _ q fun z => z)]; exact q, fun b ps q => ⟨#[], by rw [upd_ne (hm b _ q fun z => z), q]; simp⟩⟩
  by_cases hbe : b = e
  · subst hbe; exact heo
  · exact ⟨u, k b u hbe q⟩
theorem Un.mono (u : Un fs ex H H1 h h1) (hs : ∀ b ∈ fs, b ∈ fs') (hx : ∀ b ∈ ex, b ∈ ex') : Un fs' ex' H H1 h h1 :=
  ⟨fun b ob q n hb he => u.keep b ob q n (fun z => hb (hs b z)) fun z => he (hx b z), fun _ _ q n _ he => u.any q n fun z => he (hx _ z), fun b ob q n he => u.free b ob q n fun z => he (hx b z), fun b ob q he => u.there b ob q fun z => he (hx b z), u.tups, u.frzs, u.tbls⟩
end

/-! ### the heap without what is tracked -/
def trk (h : Heap) (H : Hp) : List Addr := (List.range h.objs.size).filter fun a => (H a).isSome
def hidT (h : Heap) (H : Hp) : Heap := PySem.W.hideAll h (trk h H)
theorem hidT_size (h : Heap) (H : Hp) : (hidT h H).objs.size = h.objs.size := PySem.W.hideAll_size _ _
theorem hidT_get {h : Heap} {H : Hp} {b : Addr} {o : Obj} (e : h.get? b = some o) (n : H b = none) : (hidT h H).get? b = some o :=
  PySem.W.hideAll_get _ e fun hm => by
    have q : (H b).isSome = true := (List.mem_filter.mp hm).2
    rw [n] at q; simp at q
theorem of_hidT {h : Heap} {H : Hp} {b : Addr} {o : Obj} (e : (hidT h H).get? b = some o) : h.get? b = some o ∧ H b = none := by
  have e' : h.get? b = some o := PySem.W.of_hideAll (trk h H) e
  refine ⟨e', ?_⟩
  cases q : H b with
  | none => rfl
  | some x =>
    have hm : b ∈ trk h H := List.mem_filter.mpr ⟨List.mem_range.mpr (Heap.lt_size e'), by simp [q]⟩
    have z : (hidT h H).get? b = none := PySem.W.hideAll_none (trk h H) hm
    rw [z] at e; cases e

/-! ### OpenK's ledger, filled with every new object but one -/
def allNews (g h : Heap) (L : Addr) : List (Addr × Obj) := (List.range h.objs.size).filterMap fun a => if a = L ∨ (g.get? a).isSome = true then none else (h.get? a).map fun o => (a, o)
theorem mem_allNews {g h : Heap} {L a : Addr} {o : Obj} (h1 : a ≠ L) (h2 : g.get? a = none) (h3 : h.get? a = some o) : (a, o) ∈ allNews g h L :=
  List.mem_filterMap.mpr ⟨a, List.mem_range.mpr (Heap.lt_size h3), by simp [h1, h2, h3]⟩
theorem of_mem_allNews {g h : Heap} {L : Addr} {p : Addr × Obj} (hp : p ∈ allNews g h L) : p.1 ≠ L ∧ g.get? p.1 = none ∧ h.get? p.1 = some p.2 := by
  obtain ⟨b, _, e⟩ := List.mem_filterMap.mp hp
  split at e
  · cases e
  · rename_i hn
    cases q : h.get? b with
    | none => rw [q] at e; simp at e
    | some u =>
      rw [q] at e
      simp only [Option.map_some, Option.some.injEq] at e
      subst e
      refine ⟨fun z => hn (.inl z), ?_, q⟩
      show g.get? b = none
      cases r : g.get? b with
      | none => rfl
      | some v => exact (hn (.inr (by simp [r]))).elim
def rest (g h : Heap) (L d : Addr) : List (Addr × Obj) := (allNews g h L).filter fun p => decide (p.1 ≠ d)
theorem rest_ne {g h : Heap} {L d : Addr} : ∀ p ∈ rest g h L d, p.1 ≠ d := fun p hp => of_decide_eq_true (List.mem_filter.mp hp).2
theorem mem_rest {g h : Heap} {L d a : Addr} {o : Obj} (h1 : a ≠ L) (h2 : g.get? a = none) (h3 : h.get? a = some o) (h4 : a ≠ d) : (a, o) ∈ rest g h L d :=
  List.mem_filter.mpr ⟨mem_allNews h1 h2 h3, decide_eq_true h4⟩
theorem news_all {g h : Heap} {L : Addr} : News g L h (allNews g h L) := fun p hp => let ⟨a, b, c⟩ := of_mem_allNews hp; ⟨c, a, b⟩
theorem news_at {g h : Heap} {L d : Addr} {o : Obj} (h1 : d ≠ L) (h2 : g.get? d = none) (h3 : h.get? d = some o) : News g L h ((d, o) :: rest g h L d) := fun p hp => by
  rcases List.mem_cons.mp hp with rfl | hp
  · exact ⟨h3, h1, h2⟩
  · exact news_all p (List.mem_filter.mp hp).1
/-- behind a rule that changed d alone: all else but the frame is kept -/
theorem kept_of_news {g h h' : Heap} {L d : Addr} {m : Str → Option Value} (k : ∀ b o, g.get? b = some o → h.get? b = some o) (F : Fr g L h' m) (N : News g L h' (rest g h L d)) :
    ∀ b o, b ≠ L → b ≠ d → h.get? b = some o → h'.get? b = some o := fun b o h1 h2 e => by
  cases q : g.get? b with
  | some u =>
    have := k b u q
    rw [e] at this; cases this
    exact F.keep b _ q
  | none => exact (N (b, o) (mem_rest h1 q e h2)).1
end L2

namespace L2
open PySem PySem.Spec PyProof.Rows

/-- the module's facts, over the base: the heap at the law's entry without what is tracked there -/
structure Mod (K : PySem.W.Frag) (mg : Str → Option Value) (base : Heap) : Prop where
  kin : K.In base
  glob : base.Ns mainGlobals mg
  blt : ∃ mb, base.Ns builtinsNs mb ∧ ∀ x : Str, x ≠ "__name__" → mb x = bootBuiltins x
  nolimit : base.NoLimit

/-- the context: a def's body (or a comprehension's block) running. base: fixed through the whole law; s₀, H₀: the entry; outer: the frames whose slots others may change (a def's callers); stack: all frames that run;
   ex: iterators that were made ahead of the entry and are walked here (a comprehension's); fn: the names whose cells were made at the entry (a def: all; a comprehension's block: its own); calm: not within an except suite; pn: pins that every state bears; xe: what is wanted of an exception that leaves the code -/
structure Cx where
  prog : Program
  w : World
  K : PySem.W.Frag
  mg : Str → Option Value
  base : Heap
  A : Around
  N : List Str
  s₀ : Shared
  H₀ : Hp
  env : Env
  outer : List Env
  stack : List Env
  ex : List Addr
  fn : Str → Bool
  calm : Bool
  pn : List (Addr × Obj)
  xe : Value → Shared → Prop
/-- the callers' frames -/
def frs (l : List Env) : List Addr := l.filterMap (·.frame)
abbrev Cx.fs (X : Cx) : List Addr := frs X.outer

def Vis (sc : Scope) (x : Str) : Prop := sc.names.lookup x = some .local ∨ sc.names.lookup x = some .cell ∨ sc.names.lookup x = some .free
def Loc (sc : Scope) (x : Str) : Prop := sc.names.lookup x = some .local ∨ sc.names.lookup x = some .cell
def Look (env : Env) (h : Heap) (m : Str → Option Value) (x : Str) (u : Value) : Prop :=
  (env.kindOf x = some .local ∧ m x = some u) ∨ ((env.kindOf x = some .cell ∨ env.kindOf x = some .free) ∧ ∃ c, env.cells.lookup x = some c ∧ h.IsCell c (some u))

structure Cx.Ok (X : Cx) : Prop where
  mod : Mod X.K X.mg X.base
  kind : X.env.scope.kind = .function
  glob : X.env.globals = mainGlobals
  blt : X.env.builtins = builtinsNs
  above : X.s₀.heap.objs.size ≤ X.env.locals
  inj : ∀ x y c, X.env.cells.lookup x = some c → X.env.cells.lookup y = some c → x = y
  has : ∀ x, (X.env.kindOf x = some .cell ∨ X.env.kindOf x = some .free) → ∃ c, X.env.cells.lookup x = some c
  cab : ∀ x c, X.fn x = true → X.env.cells.lookup x = some c → X.s₀.heap.objs.size ≤ c
  hd : X.calm = true → X.A.handled = none
  frames : X.A.frames = some X.stack
  stk : X.stack = X.outer ∨ (X.stack = X.env :: X.outer ∧ X.env.frame = some X.env.locals)
  exf : ∀ b ∈ X.ex, b ≠ X.env.locals ∧ ∀ x c, X.env.cells.lookup x = some c → c ≠ b
  bs : ∀ b o, X.base.get? b = some o → X.s₀.heap.get? b = some o ∧ X.H₀ b = none
  bsz : X.base.objs.size ≤ X.s₀.heap.objs.size
  noex : ∀ b o, X.base.get? b = some o → b ∉ X.ex
  exfs : ∀ b ∈ X.ex, b ∉ X.fs
  funs : X.s₀.heap.FunFrames X.base X.outer
  frf : ∀ b ∈ X.fs, X.H₀ b = none

structure Inv (X : Cx) (pins : List (Addr × Obj)) (σ : List (Option V)) (H : Hp) (s : Shared) : Prop where
  ok : X.Ok
  os : s.os = X.s₀.os
  bare : AllBare s.gens
  base : Un X.fs X.ex X.H₀ H X.s₀.heap s.heap
  loc : ∃ m, s.heap.Ns X.env.locals m ∧ ∀ (i : Nat) (x : Str) (v : V), X.N[i]? = some x → σ[i]? = some (some v) → Vis X.env.scope x → ∃ u, RelV v u ∧ Look X.env s.heap m x u
  cell : ∀ x c, X.env.cells.lookup x = some c → ∃ v, s.heap.IsCell c v
  free : H X.env.locals = none
  freeC : ∀ x c, X.env.cells.lookup x = some c → H c = none
  pin : ∀ p ∈ X.pn ++ pins, s.heap.get? p.1 = some p.2 ∧ H p.1 = none ∧ p.1 ≠ X.env.locals ∧ p.1 ∉ X.fs ∧ ∀ v, p.2.data ≠ .cell v
  hok : HOk X.prog X.w H s.heap
  len : σ.length = X.N.length

section
variable {X : Cx} {pins : List (Addr × Obj)} {σ : List (Option V)} {H H' : Hp} {s : Shared} {h' : Heap}

theorem Cx.Ok.nofr (ok : X.Ok) {b : Addr} {o : Obj} (e : X.base.get? b = some o) : b ∉ X.fs := fun hb => by
  have := (ok.funs.mem hb).1
  rw [e] at this; cases this
theorem Inv.bs (I : Inv X pins σ H s) : ∀ b o, X.base.get? b = some o → s.heap.get? b = some o ∧ H b = none := fun b o e =>
  ⟨I.base.keep b o (I.ok.bs b o e).1 (I.ok.bs b o e).2 (I.ok.nofr e) (I.ok.noex b o e), I.base.free b o (I.ok.bs b o e).1 (I.ok.bs b o e).2 (I.ok.noex b o e)⟩
theorem Inv.bk (I : Inv X pins σ H s) : ∀ b o, X.base.get? b = some o → s.heap.get? b = some o := fun b o e => (I.bs b o e).1
theorem Inv.mod (I : Inv X pins σ H s) : Mod X.K X.mg X.base := I.ok.mod
theorem Inv.kIn (I : Inv X pins σ H s) : X.K.In s.heap := I.ok.mod.kin.keeps I.bk
theorem Inv.nolimit (I : Inv X pins σ H s) : s.heap.NoLimit := I.ok.mod.nolimit.keeps I.bk
/-- the frame over the base: for OpenK's rules (K.In X.base is I.mod.kin) -/
theorem Inv.fr (I : Inv X pins σ H s) : ∃ m, Fr X.base X.env.locals s.heap m :=
  let ⟨m, hn, _⟩ := I.loc
  ⟨m, hn, I.bk, Nat.le_trans I.ok.bsz I.ok.above⟩
theorem Inv.lt (I : Inv X pins σ H s) : X.env.locals < s.heap.objs.size := let ⟨_, hn, _⟩ := I.loc; hn.lt
theorem Inv.sz (I : Inv X pins σ H s) : X.s₀.heap.objs.size ≤ s.heap.objs.size := Nat.le_trans I.ok.above (Nat.le_of_lt I.lt)
theorem Inv.nofs (I : Inv X pins σ H s) {a : Addr} (h : s.heap.objs.size ≤ a) : a ∉ X.fs := fun hb => by
  obtain ⟨_, o, ho, _⟩ := I.ok.funs.mem hb
  exact absurd (Nat.lt_of_lt_of_le (Heap.lt_size ho) (Nat.le_trans I.sz h)) (Nat.lt_irrefl _)
theorem Inv.cne (I : Inv X pins σ H s) : ∀ x c, X.env.cells.lookup x = some c → c ≠ X.env.locals := fun x c e z => by
  obtain ⟨v, o, ho, hd⟩ := I.cell x c e
  obtain ⟨m, ⟨o', es, ep, ho', hd', _⟩, _⟩ := I.loc
  rw [z, ho'] at ho; cases ho; rw [hd'] at hd; cases hd
theorem Inv.funs (I : Inv X pins σ H s) : s.heap.FunFrames X.base X.outer := by
  have all : ∀ (l : List Env), (∀ b ∈ frs l, b ∈ X.fs) → X.s₀.heap.FunFrames X.base l → s.heap.FunFrames X.base l := by
    intro l
    induction l with
    | nil => intro _ _; trivial
    | cons env r ih =>
      intro hs hl
      obtain ⟨hk, ⟨L, o, hf, hn, ho, hd⟩, hr⟩ := hl
      have hL : L ∈ X.fs := hs L (by unfold frs; rw [List.filterMap_cons, hf]; exact List.mem_cons_self)
      obtain ⟨sl, e⟩ := I.base.slot L o ho (I.ok.frf L hL) hL fun z => I.ok.exfs L z hL
      exact ⟨hk, ⟨L, _, hf, hn, e, hd⟩, ih (fun b hb => hs b (by unfold frs; rw [List.filterMap_cons, hf]; exact List.mem_cons_of_mem _ hb)) hr⟩
  exact all X.outer (fun _ hb => hb) I.ok.funs

/-- the frames that run, for a call -/
theorem Inv.stack (I : Inv X pins σ H s) : s.heap.FunFrames X.base X.stack := by
  rcases I.ok.stk with e | ⟨e, hf⟩
  · rw [e]; exact I.funs
  · rw [e]
    obtain ⟨m, hn, _⟩ := I.loc
    refine .cons (by rw [I.ok.kind]; decide) hf hn ?_ I.funs
    exact Heap.get?_none_of_le (Nat.le_trans I.ok.bsz I.ok.above)
theorem Inv.stkSub (I : Inv X pins σ H s) : ∀ b ∈ frs X.stack, b ∈ X.env.locals :: X.fs := fun b hb => by
  rcases I.ok.stk with e | ⟨e, hf⟩
  · rw [e] at hb; exact List.mem_cons_of_mem _ hb
  · rw [e] at hb
    unfold frs at hb
    rw [List.filterMap_cons, hf] at hb
    exact hb
theorem Inv.stkFree (I : Inv X pins σ H s) : ∀ b ∈ frs X.stack, H b = none := fun b hb => by
  rcases List.mem_cons.mp (I.stkSub b hb) with e | hb
  · rw [e]; exact I.free
  · obtain ⟨_, o, ho, _⟩ := I.ok.funs.mem hb
    exact I.base.free b o ho (I.ok.frf b hb) fun z => I.ok.exfs b z hb

/-- THE STEP: the untracked objects but the frame and the records at ch are kept (the callers' frames up to slots), the frame's map is kept, the new abstract heap is held -/
theorem Inv.step {g' : Array GenState} {t' : Nat} {d' : Drawn} {ch : List Addr} (I : Inv X pins σ H s)
    (hch : ∀ b ∈ ch, (b ∈ X.ex ∨ X.s₀.heap.objs.size ≤ b) ∧ b ≠ X.env.locals ∧ (∀ x c, X.env.cells.lookup x = some c → c ≠ b) ∧ ∀ p ∈ X.pn ++ pins, p.1 ≠ b)
    (keep : ∀ b o, b ≠ X.env.locals → b ∉ X.fs → b ∉ ch → s.heap.get? b = some o → H b = none → h'.get? b = some o)
    (slot : ∀ b o, b ≠ X.env.locals → b ∈ X.fs → b ∉ ch → s.heap.get? b = some o → H b = none → ∃ sl, h'.get? b = some { o with slots := sl }) (free : ∀ b o, b ∉ ch → s.heap.get? b = some o → H b = none → H' b = none)
    (there : ∀ b o, b ∉ ch → s.heap.get? b = some o → ∃ o', h'.get? b = some o')
    (tups : ∀ b xs, H b = some (.tup xs) → H' b = some (.tup xs)) (frzs : ∀ b o u, H b = some (.frz o u) → H' b = some (.frz o u)) (tbls : ∀ b ps, H b = some (.tbl ps) → ∃ more, H' b = some (.tbl (ps ++ more)))
    (ns : ∀ m, s.heap.Ns X.env.locals m → h'.Ns X.env.locals m) (hok : HOk X.prog X.w H' h') (hg : AllBare g') :
    Inv X pins σ H' { s with heap := h', gens := g', drawn := d', toks := t' } := by
  have neL : ∀ b o, X.s₀.heap.get? b = some o → b ≠ X.env.locals := fun b o e => Nat.ne_of_lt (Nat.lt_of_lt_of_le (Heap.lt_size e) I.ok.above)
  have neC : ∀ b o, X.s₀.heap.get? b = some o → b ∉ X.ex → b ∉ ch := fun b o e hx hb => by
    rcases (hch b hb).1 with z | z
    · exact hx z
    · exact absurd (Nat.lt_of_lt_of_le (Heap.lt_size e) z) (Nat.lt_irrefl _)
  have cellK : ∀ x c, X.env.cells.lookup x = some c → ∀ v, s.heap.IsCell c v → h'.IsCell c v := fun x c e v ⟨o, ho, hd⟩ => by
    have nch : c ∉ ch := fun z => (hch c z).2.2.1 x c e rfl
    by_cases hc : c ∈ X.fs
    · obtain ⟨sl, q⟩ := slot c o (I.cne x c e) hc nch ho (I.freeC x c e)
      exact ⟨_, q, hd⟩
    · exact ⟨o, keep c o (I.cne x c e) hc nch ho (I.freeC x c e), hd⟩
  refine ⟨I.ok, I.os, hg, ⟨fun b o e n hb hx => ?_, fun b o e n hb hx => ?_, fun b o e n hx => ?_, fun b o e hx => ?_, fun b xs e => tups b xs (I.base.tups b xs e), fun b o xs e => frzs b o xs (I.base.frzs b o xs e), fun b ps e => ?_⟩, ?_, fun x c e => ?_, ?_, fun x c e => ?_, fun p hp => ?_, hok, I.len⟩
  · exact keep b o (neL b o e) hb (neC b o e hx) (I.base.keep b o e n hb hx) (I.base.free b o e n hx)
  · obtain ⟨sl, e1⟩ := I.base.slot b o e n hb hx
    obtain ⟨sl', e2⟩ := slot b _ (neL b o e) hb (neC b o e hx) e1 (I.base.free b o e n hx)
    exact ⟨sl', e2⟩
  · obtain ⟨o', e1⟩ := I.base.there b o e hx
    exact free b o' (neC b o e hx) e1 (I.base.free b o e n hx)
  · obtain ⟨o', e1⟩ := I.base.there b o e hx
    exact there b o' (neC b o e hx) e1
  · obtain ⟨m1, e1⟩ := I.base.tbls b ps e
    obtain ⟨m2, e2⟩ := tbls b _ e1
    exact ⟨m1 ++ m2, by rw [e2, Array.append_assoc]⟩
  · obtain ⟨m, hn, hl⟩ := I.loc
    refine ⟨m, ns m hn, fun i x v e1 e2 e3 => ?_⟩
    obtain ⟨u, r, l⟩ := hl i x v e1 e2 e3
    refine ⟨u, r, ?_⟩
    rcases l with l | ⟨k, c, e, z⟩
    · exact .inl l
    · exact .inr ⟨k, c, e, cellK x c e _ z⟩
  · obtain ⟨v, z⟩ := I.cell x c e
    exact ⟨v, cellK x c e v z⟩
  · obtain ⟨m, ⟨o, _, _, ho, _⟩, _⟩ := I.loc
    exact free _ o (fun z => (hch _ z).2.1 rfl) ho I.free
  · obtain ⟨v, o, ho, hd⟩ := I.cell x c e
    exact free c o (fun z => (hch c z).2.2.1 x c e rfl) ho (I.freeC x c e)
  · obtain ⟨e, n, ne, nf, d⟩ := I.pin p hp
    have nch : p.1 ∉ ch := fun z => (hch p.1 z).2.2.2 p hp rfl
    exact ⟨keep p.1 p.2 ne nf nch e n, free p.1 p.2 nch e n, ne, nf, d⟩
/-- .. where the frame's own object is kept too -/
theorem Inv.un {t' : Nat} (I : Inv X pins σ H s) (u : Un X.fs [] H H' s.heap h') (hok : HOk X.prog X.w H' h') : Inv X pins σ H' { s with heap := h', toks := t' } := by
  obtain ⟨m, ⟨o, es, ep, ho, r⟩, _⟩ := id I.loc
  obtain ⟨sl, hL⟩ := u.any ho I.free (by simp)
  exact I.step (g' := s.gens) (d' := s.drawn) (ch := []) (fun _ z => nomatch z) (fun b o _ hb _ e n => u.keep b o e n hb (by simp)) (fun b o _ hb _ e n => u.slot b o e n hb (by simp)) (fun b o _ e n => u.free b o e n (by simp)) (fun b o _ e => u.there b o e (by simp)) u.tups u.frzs u.tbls (fun m' hm => by
    obtain ⟨o', es', ep', ho', r'⟩ := hm
    rw [ho] at ho'; cases ho'
    exact ⟨_, es', ep', hL, r'⟩) hok I.bare
/-- behind a call (or a comprehension's block): the slots of this frame may have changed too, the records at ch may have turned -/
theorem Inv.call {g' : Array GenState} {t' : Nat} {d' : Drawn} {ch : List Addr} (I : Inv X pins σ H s) (u : Un (frs X.stack) ch H H' s.heap h') (hok : HOk X.prog X.w H' h') (hg : AllBare g')
    (hch : ∀ b ∈ ch, (b ∈ X.ex ∨ X.s₀.heap.objs.size ≤ b) ∧ b ≠ X.env.locals ∧ (∀ x c, X.env.cells.lookup x = some c → c ≠ b) ∧ ∀ p ∈ X.pn ++ pins, p.1 ≠ b) :
    Inv X pins σ H' { s with heap := h', gens := g', drawn := d', toks := t' } := by
  obtain ⟨m, ⟨o, es, ep, ho, r⟩, _⟩ := id I.loc
  obtain ⟨sl, hL⟩ := u.any ho I.free fun z => (hch _ z).2.1 rfl
  exact I.step (ch := ch) hch (fun b o hL hb hc e n => u.keep b o e n (fun z => (List.mem_cons.mp (I.stkSub b z)).elim hL hb) hc) (fun b o _ _ hc e n => u.any e n hc) (fun b o hc e n => u.free b o e n hc) (fun b o hc e => u.there b o e hc) u.tups u.frzs u.tbls (fun m' hm => by
    obtain ⟨o', es', ep', ho', r'⟩ := hm
    rw [ho] at ho'; cases ho'
    exact ⟨_, es', ep', hL, r'⟩) hok hg
/-- an untracked record of ours (an iterator) has turned -/
theorem Inv.turned {t' : Nat} {it : Addr} (I : Inv X pins σ H s) (k : ∀ b o, b ≠ it → s.heap.get? b = some o → h'.get? b = some o) (hn : H it = none) (hL : it ≠ X.env.locals)
    (h1 : it ∈ X.ex ∨ X.s₀.heap.objs.size ≤ it) (h2 : ∀ x c, X.env.cells.lookup x = some c → c ≠ it) (h3 : ∀ p ∈ X.pn ++ pins, p.1 ≠ it) : Inv X pins σ H { s with heap := h', toks := t' } := by
  have nit : ∀ b u, H b = some u → b ≠ it := fun b u e z => by rw [z, hn] at e; cases e
  refine I.step (g' := s.gens) (d' := s.drawn) (ch := [it]) (fun b hb => ?_) (fun b o _ _ hc e _ => k b o (fun z => hc (by simp [z])) e) (fun b o _ _ hc e _ => ⟨o.slots, k b o (fun z => hc (by simp [z])) e⟩) (fun _ _ _ _ n => n)
    (fun b o hc e => ⟨o, k b o (fun z => hc (by simp [z])) e⟩) (fun _ _ e => e) (fun _ _ _ e => e) (fun b ps e => ⟨#[], by rw [e]; simp⟩) (fun m hm => ?_) (fun b u e => ?_) I.bare
  · have e : b = it := by simpa using hb
    subst e
    exact ⟨h1, hL, h2, h3⟩
  · obtain ⟨o, es, ep, ho, r⟩ := hm
    exact ⟨o, es, ep, k _ o (Ne.symm hL) ho, r⟩
  · refine (I.hok b u e).stay (fun c v hc q => k c v ?_ q) (fun _ q => q) fun _ _ q => q
    rcases hc with z | z
    · rw [z]; exact nit b u e
    · exact nit c _ z
theorem Inv.tok (I : Inv X pins σ H s) (t : Nat) : Inv X pins σ H { s with toks := t } := I.un (h' := s.heap) (t' := t) Un.refl I.hok
/-- all objects kept -/
theorem Inv.kept {t' : Nat} (I : Inv X pins σ H s) (k : ∀ b u, s.heap.get? b = some u → h'.get? b = some u) : Inv X pins σ H { s with heap := h', toks := t' } := I.un (Un.kept k) (I.hok.kept k)
/-- a new object laid and tracked -/
theorem Inv.laid {a : Addr} {o : HO} {t' : Nat} (I : Inv X pins σ H s) (k : ∀ b u, s.heap.get? b = some u → h'.get? b = some u) (hp : s.heap.objs.size ≤ a) (new : ObjOk X.prog X.w (upd H a o) h' a o) :
    Inv X pins σ (upd H a o) { s with heap := h', toks := t' } := I.un (Un.laid k hp (I.hok.fresh hp)) (I.hok.laid k hp new)
/-- an object written -/
theorem Inv.write {x e : Addr} {o : HO} {t' : Nat} (I : Inv X pins σ H s) (mu : Mut (H x)) (he : e = x ∨ H e = some (.own x)) (k : ∀ b u, b ≠ e → s.heap.get? b = some u → h'.get? b = some u) (heo : ∃ u, h'.get? e = some u)
    (new : ObjOk X.prog X.w (upd H x o) h' x o) : Inv X pins σ (upd H x o) { s with heap := h', toks := t' } := I.un (Un.write mu he k heo) (I.hok.write mu he k heo new)
/-- forgetting slots, pins -/
theorem Inv.weak {σ' : List (Option V)} (I : Inv X pins σ H s) (hl : σ'.length = σ.length) (w : ∀ (i : Nat) v, σ'[i]? = some (some v) → σ[i]? = some (some v)) : Inv X pins σ' H s :=
  ⟨I.ok, I.os, I.bare, I.base, let ⟨m, hn, hl'⟩ := I.loc; ⟨m, hn, fun i x v e1 e2 e3 => hl' i x v e1 (w i v e2) e3⟩, I.cell, I.free, I.freeC, I.pin, I.hok, hl.trans I.len⟩
theorem Inv.pins_of {pins' : List (Addr × Obj)} (I : Inv X pins σ H s) (h : ∀ p ∈ pins', s.heap.get? p.1 = some p.2 ∧ H p.1 = none ∧ p.1 ≠ X.env.locals ∧ p.1 ∉ X.fs ∧ ∀ v, p.2.data ≠ .cell v) : Inv X pins' σ H s :=
  ⟨I.ok, I.os, I.bare, I.base, I.loc, I.cell, I.free, I.freeC, fun p hp => (List.mem_append.mp hp).elim (fun z => I.pin p (List.mem_append_left _ z)) (h p), I.hok, I.len⟩

theorem nodup_ix {N : List Str} (hN : N.Nodup) {i j : Nat} {x : Str} (a : N[i]? = some x) (b : N[j]? = some x) : i = j := by
  obtain ⟨h1, e1⟩ := List.getElem?_eq_some_iff.mp a
  obtain ⟨h2, e2⟩ := List.getElem?_eq_some_iff.mp b
  exact (List.getElem_inj hN).mp (e1.trans e2.symm)

/-- a name is stored; what changed -/
theorem store_ok2 {M : Model} {A : Around} {E : Value → Shared → Prop} {i : Nat} {x : Str} {v : V} {u : Value} {Q : Unit → Shared → Prop} (I : Inv X pins σ H s) (hN : X.N.Nodup) (hi : X.N[i]? = some x) (hx : Loc X.env.scope x) (r : RelV v u)
    (h : ∀ s', Inv X pins (σ.set i (some v)) H s' → (∃ a, Heap.SameBut a s.heap s'.heap ∧ (a = X.env.locals ∨ X.env.cells.lookup x = some a)) → Q () s') (hf : X.fn x = true ∨ X.env.scope.names.lookup x = some .local := by first | exact .inl rfl | exact .inr rfl | assumption) : wpAny M A (storeName X.env x u) Q E s := by
  obtain ⟨m, hn, hl⟩ := id I.loc
  have hcls : (X.env.scope.kind == .class || (X.env.scope.kind == .module && X.env.locals != X.env.globals)) = false := by rw [I.ok.kind]; rfl
  have hiσ : i < σ.length := by rw [I.len]; exact (List.getElem?_eq_some_iff.mp hi).1
  have cne := I.cne
  have tracked : ∀ {a : Addr} {h' : Heap}, (∃ o, s.heap.get? a = some o ∧ H a = none) → Heap.SameBut a s.heap h' → HOk X.prog X.w H h' := fun {a h'} ha hs b ob e => by
    obtain ⟨_, _, hfree⟩ := ha
    refine (I.hok b ob e).stay (fun c w' hc q => (hs.2 c ?_).trans q) (fun _ q => q) fun _ _ q => q
    rintro rfl
    rcases hc with rfl | hc
    · rw [hfree] at e; cases e
    · rw [hfree] at hc; cases hc
  rcases hx with hk | hk
  · refine wpAny_storeName_local hk hn (fun h' hn' hs => ?_) hcls
    obtain ⟨oL, _, _, hoL, _⟩ := id hn
    refine h _ ⟨I.ok, I.os, I.bare, ⟨fun b o e n hb hx => ?_, fun b o e n hb hx => ?_, I.base.free, fun b o e hx => ?_, I.base.tups, I.base.frzs, I.base.tbls⟩, ⟨_, hn', fun j y v' e1 e2 e3 => ?_⟩, fun y c e => ?_, I.free, I.freeC, fun p hp => ?_, tracked ⟨oL, hoL, I.free⟩ hs, by simpa using I.len⟩ ⟨_, hs, .inl rfl⟩
    · exact (hs.2 b (Nat.ne_of_lt (Nat.lt_of_lt_of_le (Heap.lt_size e) I.ok.above))).trans (I.base.keep b o e n hb hx)
    · obtain ⟨sl, e1⟩ := I.base.slot b o e n hb hx
      exact ⟨sl, (hs.2 b (Nat.ne_of_lt (Nat.lt_of_lt_of_le (Heap.lt_size e) I.ok.above))).trans e1⟩
    · obtain ⟨o', e1⟩ := I.base.there b o e hx
      exact ⟨o', (hs.2 b (Nat.ne_of_lt (Nat.lt_of_lt_of_le (Heap.lt_size e) I.ok.above))).trans e1⟩
    · by_cases hj : j = i
      · subst hj
        rw [hi] at e1; cases e1
        rw [List.getElem?_set_self hiσ] at e2
        cases e2
        exact ⟨u, r, .inl ⟨hk, by simp⟩⟩
      · rw [List.getElem?_set_ne (Ne.symm hj)] at e2
        obtain ⟨u', r', q⟩ := hl j y v' e1 e2 e3
        refine ⟨u', r', ?_⟩
        rcases q with ⟨k, e⟩ | ⟨k, c, e, z⟩
        · refine .inl ⟨k, ?_⟩
          have : y ≠ x := fun e => hj (nodup_ix hN e1 (e ▸ hi))
          simp [this, e]
        · exact .inr ⟨k, c, e, z.sameBut hs (cne y c e)⟩
    · obtain ⟨w', z⟩ := I.cell y c e
      exact ⟨w', z.sameBut hs (cne y c e)⟩
    · obtain ⟨e, n, ne, nf, d⟩ := I.pin p hp
      exact ⟨(hs.2 p.1 ne).trans e, n, ne, nf, d⟩
  · have hfn : X.fn x = true := by
      rcases hf with z | z
      · exact z
      · rw [z] at hk; cases hk
    obtain ⟨c, hc⟩ := I.ok.has x (.inl hk)
    obtain ⟨w', z⟩ := I.cell x c hc
    refine wpAny_storeName_cell I.ok.kind hk hc z (fun h' hc' hs => ?_)
    obtain ⟨oc, hoc, hocd⟩ := id z
    refine h { s with heap := h' } ⟨I.ok, I.os, I.bare, ⟨fun b o e n hb hx => ?_, fun b o e n hb hx => ?_, I.base.free, fun b o e hx => ?_, I.base.tups, I.base.frzs, I.base.tbls⟩, ⟨m, hn.sameBut hs (Ne.symm (cne x c hc)), fun j y v' e1 e2 e3 => ?_⟩, fun y c' e => ?_, I.free, I.freeC, fun p hp => ?_, tracked ⟨oc, hoc, I.freeC x c hc⟩ hs, by simpa using I.len⟩ ⟨c, hs, .inr hc⟩
    · exact (hs.2 b (Nat.ne_of_lt (Nat.lt_of_lt_of_le (Heap.lt_size e) (I.ok.cab x c hfn hc)))).trans (I.base.keep b o e n hb hx)
    · obtain ⟨sl, e1⟩ := I.base.slot b o e n hb hx
      exact ⟨sl, (hs.2 b (Nat.ne_of_lt (Nat.lt_of_lt_of_le (Heap.lt_size e) (I.ok.cab x c hfn hc)))).trans e1⟩
    · obtain ⟨o', e1⟩ := I.base.there b o e hx
      exact ⟨o', (hs.2 b (Nat.ne_of_lt (Nat.lt_of_lt_of_le (Heap.lt_size e) (I.ok.cab x c hfn hc)))).trans e1⟩
    · by_cases hj : j = i
      · subst hj
        rw [hi] at e1; cases e1
        rw [List.getElem?_set_self hiσ] at e2
        cases e2
        exact ⟨u, r, .inr ⟨.inl hk, c, hc, hc'⟩⟩
      · rw [List.getElem?_set_ne (Ne.symm hj)] at e2
        obtain ⟨u', r', q⟩ := hl j y v' e1 e2 e3
        refine ⟨u', r', ?_⟩
        rcases q with q | ⟨k, c', e, z'⟩
        · exact .inl q
        · refine .inr ⟨k, c', e, z'.sameBut hs ?_⟩
          rintro rfl
          exact hj (nodup_ix hN e1 (I.ok.inj _ _ _ e hc ▸ hi))
    · by_cases hcc : c' = c
      · subst hcc; exact ⟨_, hc'⟩
      · obtain ⟨w2, z2⟩ := I.cell y c' e
        exact ⟨w2, z2.sameBut hs hcc⟩
    · obtain ⟨e, n, ne, nf, d⟩ := I.pin p hp
      refine ⟨(hs.2 p.1 ?_).trans e, n, ne, nf, d⟩
      intro q
      rw [q, hoc] at e
      have q' : oc = p.2 := Option.some.inj e
      exact d w' (by rw [← q']; exact hocd)
theorem store_ok {M : Model} {A : Around} {E : Value → Shared → Prop} {i : Nat} {x : Str} {v : V} {u : Value} {Q : Unit → Shared → Prop} (I : Inv X pins σ H s) (hN : X.N.Nodup) (hi : X.N[i]? = some x) (hx : Loc X.env.scope x) (r : RelV v u)
    (h : ∀ s', Inv X pins (σ.set i (some v)) H s' → Q () s') (hf : X.fn x = true ∨ X.env.scope.names.lookup x = some .local := by first | exact .inl rfl | exact .inr rfl | assumption) : wpAny M A (storeName X.env x u) Q E s :=
  store_ok2 I hN hi hx r (fun s' I' _ => h s' I') hf
/-- behind a call or a block, the state as it is -/
theorem Inv.call' {s' : Shared} {ch : List Addr} (I : Inv X pins σ H s) (ho : s'.os = s.os) (u : Un (frs X.stack) ch H H' s.heap s'.heap) (hok : HOk X.prog X.w H' s'.heap) (hg : AllBare s'.gens)
    (hch : ∀ b ∈ ch, (b ∈ X.ex ∨ X.s₀.heap.objs.size ≤ b) ∧ b ≠ X.env.locals ∧ (∀ x c, X.env.cells.lookup x = some c → c ≠ b) ∧ ∀ p ∈ X.pn ++ pins, p.1 ≠ b) : Inv X pins σ H' s' := by
  obtain ⟨h', g', d', t', o'⟩ := s'
  have e : o' = s.os := ho
  subst e
  exact I.call (g' := g') (t' := t') (d' := d') u hok hg hch
end

/-! ### the judgements -/
/-- an exception: its class, its own dict's address (where it has one), the abstract heap behind it -/
abbrev XK := Value → Option Addr → Hp → Prop
abbrev St := List (Option V)
abbrev VK := V → Hp → Prop
/-- an expression's reading; a test's; an argument list's -/
abbrev TE := St → Hp → VK → Prop
abbrev TT := St → Hp → (Bool → Hp → Prop) → Prop
abbrev TA := St → Hp → (List V → Hp → Prop) → Prop
/-- what is wanted behind a statement -/
structure Ends where
  nx : St → Hp → Prop
  rt : VK
  bk : St → Hp → Prop := fun _ _ => False
  ct : St → Hp → Prop := fun _ _ => False
abbrev TS := Ends → St → Hp → Prop

def EP (X : Cx) (pins : List (Addr × Obj)) (σ : St) (Q : VK) (u : Value) (s' : Shared) : Prop := ∃ v H', Inv X pins σ H' s' ∧ RelV v u ∧ Q v H'
def TP (X : Cx) (pins : List (Addr × Obj)) (σ : St) (Q : Bool → Hp → Prop) (b : Bool) (s' : Shared) : Prop := ∃ H', Inv X pins σ H' s' ∧ Q b H'
def AP (X : Cx) (pins : List (Addr × Obj)) (σ : St) (Q : List V → Hp → Prop) (us : List Value) (s' : Shared) : Prop := ∃ vs H', Inv X pins σ H' s' ∧ Vals vs us ∧ Q vs H'
def SP (X : Cx) (pins : List (Addr × Obj)) (D : Ends) (f : Flow) (s' : Shared) : Prop :=
  match f with
  | .next => ∃ σ' H', Inv X pins σ' H' s' ∧ D.nx σ' H'
  | .brk => ∃ σ' H', Inv X pins σ' H' s' ∧ D.bk σ' H'
  | .cont => ∃ σ' H', Inv X pins σ' H' s' ∧ D.ct σ' H'
  | .ret u => ∃ v σ' H', Inv X pins σ' H' s' ∧ RelV v u ∧ D.rt v H'

def PE (X : Cx) (e : Expr) (t : TE) : Prop :=
  ∀ (pins : List (Addr × Obj)) (s : Shared) (σ : St) (H : Hp) (Q : VK), Inv X pins σ H s → t σ H Q → wpAny (model X.prog X.w) X.A (eval e X.env) (EP X pins σ Q) X.xe s
def PT (X : Cx) (e : Expr) (t : TT) : Prop :=
  ∀ (pins : List (Addr × Obj)) (s : Shared) (σ : St) (H : Hp) (Q : Bool → Hp → Prop), Inv X pins σ H s → t σ H Q → wpAny (model X.prog X.w) X.A (isTrue e X.env (eval e X.env)) (TP X pins σ Q) X.xe s
/-- a test whatever its 'whole' is (and, or) -/
def PW (X : Cx) (e : Expr) (t : TT) : Prop :=
  ∀ (whole : Sem Value) (pins : List (Addr × Obj)) (s : Shared) (σ : St) (H : Hp) (Q : Bool → Hp → Prop), Inv X pins σ H s → t σ H Q → wpAny (model X.prog X.w) X.A (isTrue e X.env whole) (TP X pins σ Q) X.xe s
theorem PW.pt {X : Cx} {e : Expr} {t : TT} (h : PW X e t) : PT X e t := h _
/-- an argument list (no star), from the left -/
def PA (X : Cx) (es : List Expr) (t : TA) : Prop :=
  ∀ (pos : Pos) (pins : List (Addr × Obj)) (s : Shared) (σ : St) (H : Hp) (Q : List V → Hp → Prop), Inv X pins σ H s → t σ H Q → wpAny (model X.prog X.w) X.A (spliced (backTo pos (starEach es X.env))) (AP X pins σ Q) X.xe s
def PS (X : Cx) (st : Stmt) (t : TS) : Prop :=
  ∀ (pins : List (Addr × Obj)) (s : Shared) (σ : St) (H : Hp) (D : Ends), Inv X pins σ H s → t D σ H → wpAny (model X.prog X.w) X.A (exec st X.env) (SP X pins D) X.xe s
def PSs (X : Cx) (st : List Stmt) (t : TS) : Prop :=
  ∀ (pins : List (Addr × Obj)) (s : Shared) (σ : St) (H : Hp) (D : Ends), Inv X pins σ H s → t D σ H → wpAny (model X.prog X.w) X.A (execs st X.env) (SP X pins D) X.xe s
/-- weaken the end -/
theorem thn {α : Type} {t : Sem α} {Q Q' : α → Shared → Prop} {M : Model} {A : Around} {E : Value → Shared → Prop} {s : Shared} (h : wpAny M A t Q E s) (hQ : ∀ a s, Q a s → Q' a s) : wpAny M A t Q' E s := wpAny_mono h hQ fun _ _ x => x
end L2

namespace L2
open PySem PySem.Spec PyProof.Rows
section
variable {X : Cx}

/-- two expressions in a row -/
theorem bin {a b : Expr} {ta tb : TE} (ha : PE X a ta) (hb : PE X b tb) {pins : List (Addr × Obj)} {s : Shared} {σ : St} {H : Hp} {R : V → V → Hp → Prop} (I : Inv X pins σ H s) (h : ta σ H fun x H1 => tb σ H1 fun y H2 => R x y H2)
    {α : Type} {Q : α → Shared → Prop} {f : Value → Value → Sem α}
    (hf : ∀ v u s2 x y H2, Inv X pins σ H2 s2 → RelV x v → RelV y u → R x y H2 → wpAny (model X.prog X.w) X.A (f v u) Q X.xe s2) :
    wpAny (model X.prog X.w) X.A (eval a X.env) (fun v s₁ => wpAny (model X.prog X.w) X.A (eval b X.env) (fun u s₂ => wpAny (model X.prog X.w) X.A (f v u) Q X.xe s₂) X.xe s₁) X.xe s := by
  refine thn (ha pins s σ H _ I h) fun v s1 ⟨x, H1, I1, r1, q1⟩ => ?_
  refine thn (hb pins s1 σ H1 _ I1 q1) fun u s2 ⟨y, H2, I2, r2, q2⟩ => ?_
  exact hf v u s2 x y H2 I2 r1 r2 q2

/-! ### names and constants -/
def tVar (i : Nat) : TE := fun σ H Q => ∃ v, σ[i]? = some (some v) ∧ Q v H
def tC (v : V) : TE := fun _ H Q => Q v H
theorem pe_var {i : Nat} {x : Str} {pos : Pos} (hN : X.N[i]? = some x) (hv : Vis X.env.scope x) (hd : (x == ("__debug__" : Str)) = false := by decide) (hcd : (x == ("__classdict__" : Str)) = false := by decide) : PE X (.Name x pos) (tVar i) := by
  intro pins s σ H Q I h
  obtain ⟨v, e, h⟩ := h
  obtain ⟨m, hn, hl⟩ := I.loc
  obtain ⟨u, r, l⟩ := hl i x v hN e hv
  have fin : EP X pins σ Q u s := ⟨v, H, I, r, h⟩
  rcases l with ⟨hk, hm⟩ | ⟨hk, c, hc, hcell⟩
  · exact wpAny_Name (wpAny_loadName_local I.ok.kind hk hn hm fin) hd
  · rcases hk with hk | hk
    · exact wpAny_Name (wpAny_loadName_cell I.ok.kind hk hc hcell fin) hd
    · exact wpAny_Name (wpAny_loadName_free I.ok.kind hk hc hcell fin hcd) hd
theorem pe_int {i j pos} : PE X (.Constant (.int i) j pos) (tC (.int i)) := fun _ _ _ H _ I h => wpAny_Constant_int ⟨.int i, H, I.tok _, ⟨_, rfl⟩, h⟩
theorem pe_bl {b j pos} : PE X (.Constant (.bool b) j pos) (tC (.bl b)) := fun _ _ _ H _ I h => Constant_bool ⟨.bl b, H, I, rfl, h⟩
theorem pe_non {j pos} : PE X (.Constant .none j pos) (tC .non) := fun _ _ _ H _ I h => Constant_none ⟨.non, H, I, rfl, h⟩
theorem pe_str {x j pos} : PE X (.Constant (.str x) j pos) (tC (.str x)) := fun _ _ _ H _ I h => Calls.Constant_str ⟨.str x, H, I.tok _, ⟨_, rfl⟩, h⟩

/-- a global name of the def -/
def Gl (X : Cx) (x : Str) : Prop := X.env.kindOf x = some .globalImplicit
theorem ld_glob {E : Value → Shared → Prop} {pins : List (Addr × Obj)} {s : Shared} {σ : St} {H : Hp} {x : Str} {u : Value} {pos : Pos} {Q : Value → Shared → Prop} (I : Inv X pins σ H s) (hg : Gl X x) (hm : X.mg x = some u) (h : Q u s)
    (hd : (x == ("__debug__" : Str)) = false := by decide) : wpAny (model X.prog X.w) X.A (eval (.Name x pos) X.env) Q E s :=
  Calls.Name_function_global I.ok.kind hg (Calls.loadGlobal_global (by rw [I.ok.glob]; exact I.mod.glob.keeps I.bk) hm h) hd
theorem ld_blt {E : Value → Shared → Prop} {pins : List (Addr × Obj)} {s : Shared} {σ : St} {H : Hp} {x : Str} {u : Value} {pos : Pos} {Q : Value → Shared → Prop} (I : Inv X pins σ H s) (hg : Gl X x) (hm : X.mg x = none) (hv : bootBuiltins x = some u) (h : Q u s)
    (hn : x ≠ "__name__" := by decide) (hd : (x == ("__debug__" : Str)) = false := by decide) : wpAny (model X.prog X.w) X.A (eval (.Name x pos) X.env) Q E s := by
  obtain ⟨mb, h1, h2⟩ := I.mod.blt
  exact Calls.Name_function_global I.ok.kind hg (Calls.loadGlobal_builtin (by rw [I.ok.glob]; exact I.mod.glob.keeps I.bk) hm (by rw [I.ok.blt]; exact h1.keeps I.bk) ((h2 x hn).trans hv) h) hd
/-- a module's constant, a class, a function, as a value -/
theorem pe_glob {x : Str} {v : V} {u : Value} {pos : Pos} (hg : Gl X x) (hm : X.mg x = some u) (r : RelV v u) (hd : (x == ("__debug__" : Str)) = false := by decide) : PE X (.Name x pos) (tC v) :=
  fun _ _ _ H _ I h => ld_glob I hg hm ⟨v, H, I, r, h⟩ hd
theorem pe_bltn {x : Str} {v : V} {u : Value} {pos : Pos} (hg : Gl X x) (hm : X.mg x = none) (hv : bootBuiltins x = some u) (r : RelV v u) (hn : x ≠ "__name__" := by decide) (hd : (x == ("__debug__" : Str)) = false := by decide) : PE X (.Name x pos) (tC v) :=
  fun _ _ _ H _ I h => ld_blt I hg hm hv ⟨v, H, I, r, h⟩ hn hd

/-! ### arithmetic -/
/-- two ints -/
def t2I (ta tb : TE) (k : Int → Int → Hp → Prop) : St → Hp → Prop := fun σ H => ta σ H fun x H1 => tb σ H1 fun y H2 => ∃ i j, x = .int i ∧ y = .int j ∧ k i j H2
def tAdd (ta tb : TE) : TE := fun σ H Q => t2I ta tb (fun i j H2 => Q (.int (i + j)) H2) σ H
def tSub (ta tb : TE) : TE := fun σ H Q => t2I ta tb (fun i j H2 => Q (.int (i - j)) H2) σ H
/-- the left factor below 2^64 -/
def tMul (ta tb : TE) : TE := fun σ H Q => t2I ta tb (fun i j H2 => (-(2 ^ 64) < i ∧ i < 2 ^ 64) ∧ Q (.int (i * j)) H2) σ H
variable {a b : Expr} {ta tb : TE} {pos : Pos}
theorem pe_add (ha : PE X a ta) (hb : PE X b tb) : PE X (.BinOp a .Add b pos) (tAdd ta tb) := by
  intro pins s σ H Q I h
  refine wpAny_BinOp (bin ha hb I h fun v u s2 x y H2 I2 rx ry q => ?_)
  obtain ⟨i, j, rfl, rfl, q⟩ := q
  obtain ⟨t, rfl⟩ := rx
  obtain ⟨t', rfl⟩ := ry
  exact add_int ⟨.int _, H2, I2.tok _, ⟨_, rfl⟩, q⟩
theorem pe_sub (ha : PE X a ta) (hb : PE X b tb) : PE X (.BinOp a .Sub b pos) (tSub ta tb) := by
  intro pins s σ H Q I h
  refine wpAny_BinOp (bin ha hb I h fun v u s2 x y H2 I2 rx ry q => ?_)
  obtain ⟨i, j, rfl, rfl, q⟩ := q
  obtain ⟨t, rfl⟩ := rx
  obtain ⟨t', rfl⟩ := ry
  exact sub_int ⟨.int _, H2, I2.tok _, ⟨_, rfl⟩, q⟩
theorem pe_mul (ha : PE X a ta) (hb : PE X b tb) : PE X (.BinOp a .Mult b pos) (tMul ta tb) := by
  intro pins s σ H Q I h
  refine wpAny_BinOp (bin ha hb I h fun v u s2 x y H2 I2 rx ry q => ?_)
  obtain ⟨i, j, rfl, rfl, ⟨q1, q2⟩, q⟩ := q
  obtain ⟨t, rfl⟩ := rx
  obtain ⟨t', rfl⟩ := ry
  exact mul_int ⟨.int _, H2, I2.tok _, ⟨_, rfl⟩, q⟩ (.of_left (intBits_le_64 q1 q2))

/-! ### comparisons -/
def PC (X : Cx) (op : CmpOp) (a b : Expr) (t : TE) : Prop :=
  ∀ (pins : List (Addr × Obj)) (s : Shared) (σ : St) (H : Hp) (Q : VK), Inv X pins σ H s → t σ H Q →
    wpAny (model X.prog X.w) X.A (eval a X.env) (fun v s₁ => wpAny (model X.prog X.w) X.A (eval b X.env) (fun u s₂ => wpAny (model X.prog X.w) X.A (compareOp op v u) (EP X pins σ Q) X.xe s₂) X.xe s₁) X.xe s
theorem nobehind (b : Expr) {op : CmpOp} (h : op ≠ .In) (h2 : op ≠ .NotIn) : behindInMarks op b = false := by
  have e1 : (op == CmpOp.In) = false := by cases op <;> first | rfl | exact absurd rfl h
  have e2 : (op == CmpOp.NotIn) = false := by cases op <;> first | rfl | exact absurd rfl h2
  cases b <;> simp [behindInMarks, e1, e2]
def tCmp (p : Int → Int → Bool) (ta tb : TE) : TE := fun σ H Q => t2I ta tb (fun i j H2 => Q (.bl (p i j)) H2) σ H
abbrev tLt : TE → TE → TE := tCmp fun i j => decide (i < j)
abbrev tLe : TE → TE → TE := tCmp fun i j => decide (i ≤ j)
abbrev tGt : TE → TE → TE := tCmp fun i j => decide (j < i)
abbrev tGe : TE → TE → TE := tCmp fun i j => decide (j ≤ i)
abbrev tEqI : TE → TE → TE := tCmp fun i j => decide (i = j)
abbrev tNeI : TE → TE → TE := tCmp fun i j => !decide (i = j)
/-- a comparison of two ints, by its rule -/
theorem pc_int {op : CmpOp} {p : Int → Int → Bool} (ha : PE X a ta) (hb : PE X b tb)
    (rule : ∀ (i j : Int) (t u : Tok) (Q : Value → Shared → Prop) (s : Shared), Q (.bool (p i j)) s → wpAny (model X.prog X.w) X.A (compareOp op (.int i t) (.int j u)) Q X.xe s) : PC X op a b (tCmp p ta tb) := by
  intro pins s σ H Q I h
  refine bin ha hb I h fun v u s2 x y H2 I2 rx ry q => ?_
  obtain ⟨i, j, rfl, rfl, q⟩ := q
  obtain ⟨t, rfl⟩ := rx
  obtain ⟨t', rfl⟩ := ry
  exact rule i j t t' _ s2 ⟨.bl _, H2, I2, rfl, q⟩
theorem pc_lt (ha : PE X a ta) (hb : PE X b tb) : PC X .Lt a b (tLt ta tb) := pc_int ha hb fun _ _ _ _ _ _ h => lt_int h
theorem pc_le (ha : PE X a ta) (hb : PE X b tb) : PC X .LtE a b (tLe ta tb) := pc_int ha hb fun _ _ _ _ _ _ h => le_int h
theorem pc_gt (ha : PE X a ta) (hb : PE X b tb) : PC X .Gt a b (tGt ta tb) := pc_int ha hb fun _ _ _ _ _ _ h => gt_int h
theorem pc_ge (ha : PE X a ta) (hb : PE X b tb) : PC X .GtE a b (tGe ta tb) := pc_int ha hb fun _ _ _ _ _ _ h => ge_int h
theorem pc_eqI (ha : PE X a ta) (hb : PE X b tb) : PC X .Eq a b (tEqI ta tb) := pc_int ha hb fun _ _ _ _ _ _ h => eq_int (by rw [Bool.beq_eq_decide_eq]; exact h)
theorem pc_neI (ha : PE X a ta) (hb : PE X b tb) : PC X .NotEq a b (tNeI ta tb) := pc_int ha hb fun _ _ _ _ _ _ h => ne_int (by rw [bne, Bool.beq_eq_decide_eq]; exact h)
/-- is None -/
def tIsN (ta : TE) : TE := fun σ H Q => ta σ H fun x H1 => Q (.bl (decide (x = .non))) H1
def tNotN (ta : TE) : TE := fun σ H Q => ta σ H fun x H1 => Q (.bl (!decide (x = .non))) H1
theorem RelV.none_iff {x : V} {v : Value} (r : RelV x v) : (v == Value.none) = decide (x = .non) := by
  cases x with
  | non => cases r; rfl
  | bl _ => cases r; rfl
  | int _ => obtain ⟨t, rfl⟩ := r; rfl
  | str _ => obtain ⟨t, rfl⟩ := r; rfl
  | byt _ => obtain ⟨t, rfl⟩ := r; rfl
  | flt _ => obtain ⟨t, rfl⟩ := r; rfl
  | ref _ => cases r; rfl
  | ty _ => cases r; rfl
theorem pc_isN {j pos'} (ha : PE X a ta) : PC X .Is a (.Constant .none j pos') (tIsN ta) := by
  intro pins s σ H Q I h
  refine thn (ha pins s σ H _ I h) fun v s1 ⟨x, H1, I1, r1, q1⟩ => ?_
  exact Constant_none (is_none_gen ⟨.bl _, H1, I1, by rw [r1.none_iff]; rfl, q1⟩)
theorem pc_notN {j pos'} (ha : PE X a ta) : PC X .IsNot a (.Constant .none j pos') (tNotN ta) := by
  intro pins s σ H Q I h
  refine thn (ha pins s σ H _ I h) fun v s1 ⟨x, H1, I1, r1, q1⟩ => ?_
  exact Constant_none (isnot_none_gen ⟨.bl _, H1, I1, by rw [r1.none_iff]; rfl, q1⟩)
/-- a comparison as a value, as a test -/
def tB (t : TE) : TT := fun σ H Q => t σ H fun x H1 => ∃ c, x = .bl c ∧ Q c H1
theorem pe_cmp {op : CmpOp} {t : TE} (h : PC X op a b t) (h1 : behindInMarks op b = false := by first | exact nobehind _ (by decide) (by decide) | rfl) : PE X (.Compare a [op] [b] pos) t := fun pins s σ H Q I hw => wpAny_Compare1 (h pins s σ H Q I hw) h1
theorem pt_cmp {op : CmpOp} {t : TE} (h : PC X op a b t) (h1 : behindInMarks op b = false := by first | exact nobehind _ (by decide) (by decide) | rfl) : PT X (.Compare a [op] [b] pos) (tB t) := by
  intro pins s σ H Q I hw
  refine wpAny_isTrue_Compare1 (thn (h pins s σ H _ I hw) fun v s1 h1 => thn h1 fun u s2 h2 => thn h2 fun c s3 ⟨x, H1, I1, r1, q1⟩ => ?_) h1
  obtain ⟨d, rfl, q⟩ := q1
  cases r1
  exact wpAny_truthy_bool ⟨H1, I1, q⟩
/-- an expression whose value is a bool, as a test -/
theorem pt_val {e : Expr} {t : TE} (h : PE X e t) (he : ∀ whole, isTrue e X.env whole = (do let v ← whole; standAt e.pos; holding [v] (truthy v)) := by intro _; rfl) : PT X e (tB t) := by
  intro pins s σ H Q I hw
  refine isTrue_plain (thn (h pins s σ H _ I hw) fun v s1 ⟨x, H1, I1, r1, q1⟩ => ?_) (he _)
  obtain ⟨d, rfl, q⟩ := q1
  cases r1
  exact wpAny_truthy_bool ⟨H1, I1, q⟩

/-! ### and, or, not -/
variable {tA tB' : TT} {rest : List Expr}
def tAnd (t u : TT) : TT := fun σ H Q => t σ H fun c H1 => if c = true then u σ H1 Q else Q false H1
def tOr (t u : TT) : TT := fun σ H Q => t σ H fun c H1 => if c = true then Q true H1 else u σ H1 Q
def tNot (t : TT) : TT := fun σ H Q => t σ H fun c H1 => Q (!c) H1
theorem pw_and1 (ha : PT X a tA) : PW X (.BoolOp .And [a] pos) tA := by
  intro wh pins s σ H Q I h
  refine isTrue_and (thn (ha pins s σ H Q I h) fun c s1 e => ?_)
  cases c with
  | true => exact isTrue_and_nil e
  | false => exact e
theorem pw_or1 (ha : PT X a tA) : PW X (.BoolOp .Or [a] pos) tA := by
  intro wh pins s σ H Q I h
  refine isTrue_or (thn (ha pins s σ H Q I h) fun c s1 e => ?_)
  cases c with
  | false => exact isTrue_or_nil e
  | true => exact e
theorem pw_and (ha : PT X a tA) (hb : PW X (.BoolOp .And (b :: rest) pos) tB') : PW X (.BoolOp .And (a :: b :: rest) pos) (tAnd tA tB') := by
  intro wh pins s σ H Q I h
  refine isTrue_and (thn (ha pins s σ H _ I h) fun c s1 ⟨H1, I1, q1⟩ => ?_)
  cases c with
  | true => exact hb wh pins s1 σ H1 Q I1 q1
  | false => exact ⟨H1, I1, q1⟩
theorem pw_or (ha : PT X a tA) (hb : PW X (.BoolOp .Or (b :: rest) pos) tB') : PW X (.BoolOp .Or (a :: b :: rest) pos) (tOr tA tB') := by
  intro wh pins s σ H Q I h
  refine isTrue_or (thn (ha pins s σ H _ I h) fun c s1 ⟨H1, I1, q1⟩ => ?_)
  cases c with
  | true => exact ⟨H1, I1, q1⟩
  | false => exact hb wh pins s1 σ H1 Q I1 q1
theorem pt_not (ha : PT X a tA) : PT X (.UnaryOp .Not a pos) (tNot tA) := by
  intro pins s σ H Q I h
  exact isTrue_not (ha pins s σ H (fun c H1 => Q (!c) H1) I h)
/-- .. as values (bools) -/
def tAndV (ta tb : TE) : TE := fun σ H Q => ta σ H fun x H1 => ∃ c, x = .bl c ∧ if c = true then tb σ H1 Q else Q (.bl false) H1
def tOrV (ta tb : TE) : TE := fun σ H Q => ta σ H fun x H1 => ∃ c, x = .bl c ∧ if c = true then Q (.bl true) H1 else tb σ H1 Q
def tNotV (ta : TE) : TE := fun σ H Q => ta σ H fun x H1 => ∃ c, x = .bl c ∧ Q (.bl (!c)) H1
theorem pe_one {op} {t : TE} (h : PE X a t) : PE X (.BoolOp op [a] pos) t := fun pins s σ H Q I hw => BoolOp_one (h pins s σ H Q I hw)
theorem pe_and (ha : PE X a ta) (hb : PE X (.BoolOp .And (b :: rest) pos) tb) : PE X (.BoolOp .And (a :: b :: rest) pos) (tAndV ta tb) := by
  intro pins s σ H Q I h
  refine BoolOp_and (thn (ha pins s σ H _ I h) fun v s1 ⟨x, H1, I1, r1, q1⟩ => ?_)
  obtain ⟨c, rfl, q1⟩ := q1
  cases r1
  refine wpAny_truthy_bool ?_
  cases c with
  | true => exact hb pins s1 σ H1 Q I1 q1
  | false => exact ⟨.bl false, H1, I1, rfl, q1⟩
theorem pe_or (ha : PE X a ta) (hb : PE X (.BoolOp .Or (b :: rest) pos) tb) : PE X (.BoolOp .Or (a :: b :: rest) pos) (tOrV ta tb) := by
  intro pins s σ H Q I h
  refine BoolOp_or (thn (ha pins s σ H _ I h) fun v s1 ⟨x, H1, I1, r1, q1⟩ => ?_)
  obtain ⟨c, rfl, q1⟩ := q1
  cases r1
  refine wpAny_truthy_bool ?_
  cases c with
  | false => exact hb pins s1 σ H1 Q I1 q1
  | true => exact ⟨.bl true, H1, I1, rfl, q1⟩
theorem pe_not (ha : PE X a ta) : PE X (.UnaryOp .Not a pos) (tNotV ta) := by
  intro pins s σ H Q I h
  refine UnaryOp_ (thn (ha pins s σ H _ I h) fun v s1 ⟨x, H1, I1, r1, q1⟩ => ?_)
  obtain ⟨c, rfl, q1⟩ := q1
  cases r1
  exact not_of (wpAny_truthy_bool ⟨.bl (!c), H1, I1, rfl, q1⟩)
/-- a if t else b -/
def tIf (t : TT) (ta tb : TE) : TE := fun σ H Q => t σ H fun c H1 => if c = true then ta σ H1 Q else tb σ H1 Q
theorem pe_ifExp {c : Expr} (hc : PT X c tA) (ha : PE X a ta) (hb : PE X b tb) : PE X (.IfExp c a b pos) (tIf tA ta tb) := by
  intro pins s σ H Q I h
  refine wpAny_IfExp (thn (hc pins s σ H _ I h) fun d s1 ⟨H1, I1, q1⟩ => ?_)
  cases d with
  | true => exact ha pins s1 σ H1 Q I1 q1
  | false => exact hb pins s1 σ H1 Q I1 q1
end
end L2

namespace L2
open PySem PySem.Spec PyProof.Rows

/-! ### a list, a tuple that is read: tracked, frozen, or an object of the module -/
def SqL (K : PySem.W.Frag) (H : Hp) (a : Addr) (xs : List V) : Prop :=
  Rd H a (.lst xs) ∨
    ∃ (o : Obj) (its : Array Value) (n : Nat), K.lookup a = some o ∧ o.cls = .type "list" ∧ o.dict = none ∧ o.data = .seq its n ∧ its.size ≤ sizeLine ∧ Vals xs its.toList
def SqT (K : PySem.W.Frag) (H : Hp) (a : Addr) (xs : List V) : Prop :=
  Rd H a (.tup xs) ∨
    ∃ (o : Obj) (its : Array Value) (n : Nat), K.lookup a = some o ∧ o.cls = .type "tuple" ∧ o.data = .seq its n ∧ its.size ≤ sizeLine ∧ Vals xs its.toList
def absV : Value → Option V
  | .none => some .non
  | .bool b => some (.bl b)
  | .int i _ => some (.int i)
  | .str x _ => some (.str x)
  | .bytes b _ => some (.byt b)
  | .float b _ => some (.flt b)
  | .ref a => some (.ref a)
  | .type n => some (.ty n)
  | _ => none
theorem RelV.abs {x : V} {u : Value} (r : RelV x u) : absV u = some x := by
  cases x with
  | non => cases r; rfl
  | bl _ => cases r; rfl
  | int _ => obtain ⟨t, rfl⟩ := r; rfl
  | str _ => obtain ⟨t, rfl⟩ := r; rfl
  | byt _ => obtain ⟨t, rfl⟩ := r; rfl
  | flt _ => obtain ⟨t, rfl⟩ := r; rfl
  | ref _ => cases r; rfl
  | ty _ => cases r; rfl
theorem RelV.inj {x y : V} {u : Value} (r : RelV x u) (q : RelV y u) : x = y := Option.some.inj (r.abs.symm.trans q.abs)
theorem Vals.inj : ∀ {xs ys : List V} {us : List Value}, Vals xs us → Vals ys us → xs = ys
  | _, _, _, .nil, .nil => rfl
  | _, _, _, .cons r t, .cons r' t' => by rw [r.inj r', Vals.inj t t']
section
variable {X : Cx} {pins : List (Addr × Obj)} {σ : St} {H : Hp} {s : Shared} {a : Addr} {xs ys : List V}
theorem SqL.of {K : PySem.W.Frag} (h : H a = some (.lst xs)) : SqL K H a xs := .inl (.inl h)
theorem SqT.of {K : PySem.W.Frag} (h : H a = some (.tup xs)) : SqT K H a xs := .inl (.inl h)
theorem Inv.list (I : Inv X pins σ H s) (h : SqL X.K H a xs) : ∃ its : List Value, Vals xs its ∧ PlainL s.heap a its.toArray ∧ xs.length ≤ sizeLine := by
  rcases h with h | ⟨o, its, n, hk, hc, hd, hs, hz, r⟩
  · obtain ⟨z, its, n, r, e⟩ := h.ok I.hok
    exact ⟨its, r, ⟨_, n, e, rfl, rfl, rfl⟩, z⟩
  · refine ⟨its.toList, r, ⟨o, n, I.kIn a o hk, hc, hd, by simpa using hs⟩, ?_⟩
    have e := r.length
    simp only [Array.length_toList] at e
    omega
theorem Inv.tuple (I : Inv X pins σ H s) (h : SqT X.K H a xs) : ∃ its : List Value, Vals xs its ∧ IsTup s.heap a its.toArray ∧ xs.length ≤ sizeLine := by
  rcases h with h | ⟨o, its, n, hk, hc, hs, hz, r⟩
  · obtain ⟨z, its, r, p⟩ := h.ok I.hok
    exact ⟨its, r, p, z⟩
  · refine ⟨its.toList, r, ⟨o, I.kIn a o hk, hc, n, by simpa using hs⟩, ?_⟩
    have e := r.length
    simp only [Array.length_toList] at e
    omega
theorem Inv.list_inj (I : Inv X pins σ H s) (h : SqL X.K H a xs) (h' : SqL X.K H a ys) : xs = ys := by
  obtain ⟨its, r, ⟨o, n, e, _, _, d⟩, _⟩ := I.list h
  obtain ⟨its', r', ⟨o', n', e', _, _, d'⟩, _⟩ := I.list h'
  rw [e] at e'; cases e'
  rw [d] at d'
  injection d' with d1 _
  have : its = its' := by simpa using congrArg Array.toList d1
  subst this
  exact r.inj r'
theorem Inv.tuple_inj (I : Inv X pins σ H s) (h : SqT X.K H a xs) (h' : SqT X.K H a ys) : xs = ys := by
  obtain ⟨its, r, ⟨o, e, _, n, d⟩, _⟩ := I.tuple h
  obtain ⟨its', r', ⟨o', e', _, n', d'⟩, _⟩ := I.tuple h'
  rw [e] at e'; cases e'
  rw [d] at d'
  injection d' with d1 _
  have : its = its' := by simpa using congrArg Array.toList d1
  subst this
  exact r.inj r'
end

/-! ### another wish about exceptions -/
abbrev Cx.wish (X : Cx) (E : Value → Shared → Prop) : Cx := { X with xe := E }
/-- no exception leaves -/
abbrev Cx.nox (X : Cx) : Cx := X.wish fun _ _ => False
theorem Cx.Ok.wish {X : Cx} (ok : X.Ok) (E : Value → Shared → Prop) : (X.wish E).Ok :=
  ⟨ok.mod, ok.kind, ok.glob, ok.blt, ok.above, ok.inj, ok.has, ok.cab, ok.hd, ok.frames, ok.stk, ok.exf, ok.bs, ok.bsz, ok.noex, ok.exfs, ok.funs, ok.frf⟩
theorem Cx.Ok.unwish {X : Cx} {E : Value → Shared → Prop} (ok : (X.wish E).Ok) : X.Ok :=
  ⟨ok.mod, ok.kind, ok.glob, ok.blt, ok.above, ok.inj, ok.has, ok.cab, ok.hd, ok.frames, ok.stk, ok.exf, ok.bs, ok.bsz, ok.noex, ok.exfs, ok.funs, ok.frf⟩
section
variable {X : Cx} {pins : List (Addr × Obj)} {σ : St} {H : Hp} {s : Shared} {E : Value → Shared → Prop}
theorem Inv.wish (I : Inv X pins σ H s) (E : Value → Shared → Prop) : Inv (X.wish E) pins σ H s := ⟨I.ok.wish E, I.os, I.bare, I.base, I.loc, I.cell, I.free, I.freeC, I.pin, I.hok, I.len⟩
theorem Inv.unwish (I : Inv (X.wish E) pins σ H s) : Inv X pins σ H s := ⟨I.ok.unwish, I.os, I.bare, I.base, I.loc, I.cell, I.free, I.freeC, I.pin, I.hok, I.len⟩
theorem SP.unwish {D : Ends} {f : Flow} {s' : Shared} (h : SP (X.wish E) pins D f s') : SP X pins D f s' := by
  cases f with
  | next => obtain ⟨σ', H', I, q⟩ := h; exact ⟨σ', H', I.unwish, q⟩
  | brk => obtain ⟨σ', H', I, q⟩ := h; exact ⟨σ', H', I.unwish, q⟩
  | cont => obtain ⟨σ', H', I, q⟩ := h; exact ⟨σ', H', I.unwish, q⟩
  | ret u => obtain ⟨v, σ', H', I, r, q⟩ := h; exact ⟨v, σ', H', I.unwish, r, q⟩
theorem PE.nox {e : Expr} {t : TE} (h : PE X.nox e t) : PE X e t := fun pins s σ H Q I hw =>
  wpAny_mono (h pins s σ H Q (I.wish _) hw) (fun _ _ ⟨v, H', I', r, q⟩ => ⟨v, H', I'.unwish, r, q⟩) fun _ _ z => False.elim z
theorem PT.nox {e : Expr} {t : TT} (h : PT X.nox e t) : PT X e t := fun pins s σ H Q I hw =>
  wpAny_mono (h pins s σ H Q (I.wish _) hw) (fun _ _ ⟨H', I', q⟩ => ⟨H', I'.unwish, q⟩) fun _ _ z => False.elim z
theorem PSs.nox {st : List Stmt} {t : TS} (h : PSs X.nox st t) : PSs X st t := fun pins s σ H D I hw =>
  wpAny_mono (h pins s σ H D (I.wish _) hw) (fun _ _ q => q.unwish) fun _ _ z => False.elim z
end

/-! ### blocks and small statements -/
section
variable {X : Cx} {st : Stmt} {rest : List Stmt} {t u : TS} {e : Expr} {te : TE} {pos : Pos}
def tNext : TS := fun D σ H => D.nx σ H
def tSeq (t u : TS) : TS := fun D σ H => t { D with nx := u D } σ H
theorem pss_nil : PSs X [] tNext := fun _ _ σ H _ I h => wpAny_execs_nil ⟨σ, H, I, h⟩
theorem pss_cons (h1 : PS X st t) (h2 : PSs X rest u) : PSs X (st :: rest) (tSeq t u) := by
  intro pins s σ H D I h
  refine wpAny_execs_cons (thn (h1 pins s σ H { D with nx := u D } I h) fun f s1 q => ?_)
  cases f with
  | next =>
    obtain ⟨σ', H', I', q⟩ := q
    exact h2 pins s1 σ' H' D I' q
  | ret v => exact q
  | brk => exact q
  | cont => exact q
theorem pss_one (h1 : PS X st t) : PSs X [st] t := by
  intro pins s σ H D I h
  refine wpAny_execs_cons (thn (h1 pins s σ H D I h) fun f s1 q => ?_)
  cases f with
  | next => exact wpAny_execs_nil q
  | ret v => exact q
  | brk => exact q
  | cont => exact q
def tBreak : TS := fun D σ H => D.bk σ H
def tCont : TS := fun D σ H => D.ct σ H
theorem ps_pass : PS X (.Pass pos) tNext := fun _ _ σ H _ I h => wpAny_Pass ⟨σ, H, I, h⟩
theorem ps_break : PS X (.Break pos) tBreak := fun _ _ σ H _ I h => wpAny_Break ⟨σ, H, I, h⟩
theorem ps_continue : PS X (.Continue pos) tCont := fun _ _ σ H _ I h => wpAny_Continue ⟨σ, H, I, h⟩
/-- in a def's body nothing is shown -/
theorem Inv.quiet {pins : List (Addr × Obj)} {σ : St} {H : Hp} {s : Shared} (I : Inv X pins σ H s) : interactive X.env = false := by simp [interactive, I.ok.kind]
/-- a docstring -/
theorem ps_doc {x j pos pos'} : PS X (.Expr (.Constant (.str x) j pos) pos') tNext := fun _ s σ H _ I h => wpAny_Expr (Calls.Constant_str (show SP X _ _ .next { s with toks := s.toks + 1 } from ⟨σ, H, I.tok _, h⟩)) I.quiet
/-- an expression whose value is dropped -/
def tDrop (te : TE) : TS := fun D σ H => te σ H fun _ H1 => D.nx σ H1
theorem ps_expr (he : PE X e te) (hs : swapsWith e none pos.line X.env = pure false := by rfl) : PS X (.Expr e pos) (tDrop te) := by
  intro pins s σ H D I h
  exact wpAny_Expr_any (thn (he pins s σ H _ I h) fun v s1 ⟨x, H1, I1, r1, q1⟩ => ⟨σ, H1, I1, q1⟩) I.quiet hs
def tRet (te : TE) : TS := fun D σ H => te σ H D.rt
theorem ps_ret (he : PE X e te) : PS X (.Return (some e) pos) (tRet te) := by
  intro pins s σ H D I h
  exact wpAny_Return_some (thn (he pins s σ H _ I h) fun v s1 ⟨x, H1, I1, r1, q1⟩ => ⟨x, σ, H1, I1, r1, q1⟩)
def tRetN : TS := fun D _ H => D.rt .non H
theorem ps_retN : PS X (.Return none pos) tRetN := fun _ _ σ H _ I h => wpAny_Return_none ⟨.non, σ, H, I, rfl, h⟩
def tIfS (c : TT) (t u : TS) : TS := fun D σ H => c σ H fun b H1 => if b = true then t D σ H1 else u D σ H1
theorem ps_if {c : Expr} {a b : List Stmt} {tc : TT} (hc : PT X c tc) (ha : PSs X a t) (hb : PSs X b u) : PS X (.If c a b pos) (tIfS tc t u) := by
  intro pins s σ H D I h
  refine wpAny_If (thn (hc pins s σ H _ I h) fun d s1 ⟨H1, I1, q1⟩ => ?_)
  cases d with
  | true => exact ha pins s1 σ H1 D I1 q1
  | false => exact hb pins s1 σ H1 D I1 q1
/-- code that the proof never comes to -/
def tNever : TS := fun _ _ _ => False
theorem ps_never : PS X st tNever := fun _ _ _ _ _ _ h => h.elim
theorem pss_never {sts : List Stmt} : PSs X sts tNever := fun _ _ _ _ _ _ h => h.elim
end

/-! ### targets -/
abbrev TG := V → St → Hp → (St → Hp → Prop) → Prop
abbrev TGs := List V → St → Hp → (St → Hp → Prop) → Prop
def PG (X : Cx) (target : Expr) (t : TG) : Prop :=
  ∀ (pins : List (Addr × Obj)) (s : Shared) (σ : St) (H : Hp) (v : V) (u : Value) (Q : St → Hp → Prop), Inv X pins σ H s → RelV v u → t v σ H Q →
    wpAny (model X.prog X.w) X.A (assign target X.env u) (fun _ s' => ∃ σ' H', Inv X pins σ' H' s' ∧ Q σ' H') X.xe s
/-- several targets, one after another -/
def PGs (X : Cx) (ts : List Expr) (t : TGs) : Prop :=
  ∀ (pins : List (Addr × Obj)) (s : Shared) (σ : St) (H : Hp) (vs : List V) (us : List Value) (Q : St → Hp → Prop), Inv X pins σ H s → Vals vs us → t vs σ H Q →
    wpAny (model X.prog X.w) X.A (assignInOrder ((assignEach ts X.env).map (·.2)) us) (fun _ s' => ∃ σ' H', Inv X pins σ' H' s' ∧ Q σ' H') X.xe s
/-- o[i] = v, by values -/
abbrev TSet := V → V → V → Hp → (Hp → Prop) → Prop
def PSet (X : Cx) (t : TSet) : Prop :=
  ∀ (pins : List (Addr × Obj)) (s : Shared) (σ : St) (H : Hp) (o i v : V) (ov iv u : Value) (Q : Hp → Prop), Inv X pins σ H s → RelV o ov → RelV i iv → RelV v u → t o i v H Q →
    wpAny (model X.prog X.w) X.A (setItem ov iv u) (fun _ s' => ∃ H', Inv X pins σ H' s' ∧ Q H') X.xe s
/-- a op= b, by values -/
abbrev TIp := V → V → Hp → VK → Prop
def PIp (X : Cx) (op : Operator) (t : TIp) : Prop :=
  ∀ (pins : List (Addr × Obj)) (s : Shared) (σ : St) (H : Hp) (x y : V) (v u : Value) (Q : VK), Inv X pins σ H s → RelV x v → RelV y u → t x y H Q →
    wpAny (model X.prog X.w) X.A (inplaceOp op v u) (EP X pins σ Q) X.xe s
section
variable {X : Cx} {pos : Pos}
def gName (i : Nat) : TG := fun v σ H Q => Q (σ.set i (some v)) H
theorem pg_name {i : Nat} {x : Str} (hN : X.N.Nodup) (hi : X.N[i]? = some x) (hx : Loc X.env.scope x) (hf : X.fn x = true ∨ X.env.scope.names.lookup x = some .local := by first | exact .inl rfl | exact .inr rfl | assumption) : PG X (.Name x pos) (gName i) := by
  intro pins s σ H v u Q I r h
  exact wpAny_assign_Name (store_ok I hN hi hx r (fun s' I' => ⟨_, H, I', h⟩) hf)
def gNil : TGs := fun vs σ H Q => vs = [] ∧ Q σ H
def gCons (t : TG) (u : TGs) : TGs := fun vs σ H Q => ∃ v r, vs = v :: r ∧ t v σ H fun σ' H' => u r σ' H' Q
theorem pgs_nil : PGs X [] gNil := by
  intro pins s σ H vs us Q I r h
  obtain ⟨e, h⟩ := h
  subst e
  cases r
  exact assignInOrder_nil ⟨σ, H, I, h⟩
theorem pgs_cons {e : Expr} {es : List Expr} {t : TG} {u : TGs} (h1 : PG X e t) (h2 : PGs X es u)
    (hs : (assignEach (e :: es) X.env).map (·.2) = assign e X.env :: (assignEach es X.env).map (·.2) := by rfl) : PGs X (e :: es) (gCons t u) := by
  intro pins s σ H vs us Q I r h
  obtain ⟨v, vr, e1, h⟩ := h
  subst e1
  cases r with
  | cons r rr =>
    rw [hs]
    refine assignInOrder_cons (thn (h1 pins s σ H _ _ _ I r h) fun _ s1 ⟨σ1, H1, I1, q1⟩ => ?_)
    exact h2 pins s1 σ1 H1 _ _ Q I1 rr q1
/-- (a, b, ..) = a tuple of that length -/
def gTup (K : PySem.W.Frag) (n : Nat) (t : TGs) : TG := fun v σ H Q => ∃ a xs, v = .ref a ∧ SqT K H a xs ∧ xs.length = n ∧ t xs σ H Q
theorem pg_tup {es : List Expr} {k : Nat} {t : TGs} {n : Nat} (hc : X.calm = true) (h : PGs X es t)
    (hn : (assignEach es X.env).length = n := by rfl) (hst : (assignEach es X.env).findIdx? (·.1) = none := by rfl) : PG X (.Tuple es k pos) (gTup X.K n t) := by
  intro pins s σ H v u Q I r hw
  obtain ⟨a, xs, e1, hq, hl, hw⟩ := hw
  subst e1
  cases r
  obtain ⟨its, rv, ht, hz⟩ := I.tuple hq
  refine assign_Tuple_tuple (I.ok.hd hc) ht (by simp [hn, ← hl, rv.length]) hst fun h' hx => ?_
  have I1 : Inv X pins σ H { s with heap := h' } := I.kept (t' := s.toks) fun b o e => hx b o (Nat.ne_of_lt (Heap.lt_size e)) e
  exact h pins _ σ H xs _ Q I1 (by simpa using rv) hw
/-- o[i] = .. -/
def gSub (to ti : TE) (t : TSet) : TG := fun v σ H Q => to σ H fun o H1 => ti σ H1 fun i H2 => t o i v H2 fun H3 => Q σ H3
theorem pg_sub {o i : Expr} {to ti : TE} {t : TSet} (ho : PE X o to) (hi : PE X i ti) (hs : PSet X t)
    (ha : ∀ v, assign (.Subscript o i pos) X.env v = (do
      let ov ← holding [v] (eval o X.env)
      let iv ← holding [v, ov] (eval i X.env)
      standAt pos
      holding [v, ov, iv] (setItem ov iv v)
      release [v, ov, iv] []) := by intro _; rfl) : PG X (.Subscript o i pos) (gSub to ti t) := by
  intro pins s σ H v u Q I r h
  rw [ha]
  refine wpAny_bind (wpAny_holding (thn (ho pins s σ H _ I h) fun ov s1 ⟨x, H1, I1, r1, q1⟩ => ?_))
  refine wpAny_bind (wpAny_holding (thn (hi pins s1 σ H1 _ I1 q1) fun iv s2 ⟨y, H2, I2, r2, q2⟩ => ?_))
  refine wpAny_bind (wpAny_standAt (wpAny_bind (wpAny_holding (thn (hs pins s2 σ H2 x y v ov iv u _ I2 r1 r2 r q2) fun _ s3 ⟨H3, I3, q3⟩ => ?_))))
  exact wpAny_release ⟨σ, H3, I3, q3⟩
/-- target = value -/
def tAsg (te : TE) (g : TG) : TS := fun D σ H => te σ H fun x H1 => g x σ H1 D.nx
theorem ps_asg {tg e : Expr} {te : TE} {g : TG} (he : PE X e te) (hg : PG X tg g) (hs : swapsWithSole [tg] e pos.line X.env = pure false := by rfl) (hw : swappedStores [tg] e X.env = pure none := by rfl)
    (h1 : (assignEach [tg] X.env).map (·.2) = [assign tg X.env] := by rfl) : PS X (.Assign [tg] e pos) (tAsg te g) := by
  intro pins s σ H D I h
  refine wpAny_Assign_stores (thn (he pins s σ H _ I h) fun v s1 ⟨x, H1, I1, r1, q1⟩ => ?_) hs hw
  rw [h1]
  exact thn (hg pins s1 σ H1 x v _ I1 r1 q1) fun _ s2 q => q
/-- name = value -/
theorem ps_set {i : Nat} {x : Str} {e : Expr} {te : TE} {pos' : Pos} (hN : X.N.Nodup) (hi : X.N[i]? = some x) (hx : Loc X.env.scope x) (he : PE X e te) (hs : swapsWith e (some (.Name x pos')) pos.line X.env = pure false := by rfl) (hf : X.fn x = true ∨ X.env.scope.names.lookup x = some .local := by first | exact .inl rfl | exact .inr rfl | assumption) :
    PS X (.Assign [.Name x pos'] e pos) (tAsg te (gName i)) := by
  intro pins s σ H D I h
  refine wpAny_Assign_Name (thn (he pins s σ H _ I h) fun v s1 ⟨y, H1, I1, r1, q1⟩ => ?_) hs
  exact store_ok I1 hN hi hx r1 (fun s2 I2 => ⟨_, H1, I2, q1⟩) hf
/-- a, b = x, y with plain local names: stored from the right; the pair itself is not tracked (the opening rows as in PyProof/Rows/TupAssign.lean:23) -/
def tPar (i j : Nat) (ta : TA) : TS := fun D σ H => ta σ H fun vs H1 => ∃ v w, vs = [v, w] ∧ D.nx ((σ.set i (some v)).set j (some w)) H1
theorem ps_par {i j : Nat} {x y : Str} {a b : Expr} {ta : TA} {px py pt : Pos} {kt k2 pt2} (hc : X.calm = true) (hN : X.N.Nodup) (hi : X.N[i]? = some x) (hj : X.N[j]? = some y) (hij : i ≠ j)
    (hx : X.env.scope.names.lookup x = some .local) (hy : X.env.scope.names.lookup y = some .local) (ha : PA X [a, b] ta)
    (hw : swappedStores [.Tuple [.Name x px, .Name y py] kt pt] (.Tuple [a, b] k2 pt2) X.env = pure (some [x, y]))
    (hs : swapsWithSole [.Tuple [.Name x px, .Name y py] kt pt] (.Tuple [a, b] k2 pt2) pos.line X.env = pure false := by rfl) :
    PS X (.Assign [.Tuple [.Name x px, .Name y py] kt pt] (.Tuple [a, b] k2 pt2) pos) (tPar i j ta) := by
  intro pins s σ H D I h
  rw [exec_Assign_arm]
  refine wpAny_bind (wpAny_standAt ?_)
  rw [hs]
  refine wpAny_bind (wpAny_pure ?_)
  rw [if_neg (by decide)]
  refine wpAny_bind (Tuple_ (thn (ha _ pins s σ H _ I h) fun us s1 ⟨vs, H1, I1, r1, q1⟩ => ?_))
  obtain ⟨v, w, e1, q1⟩ := q1
  subst e1
  obtain ⟨u1, u2, rfl, rv, rw'⟩ : ∃ u1 u2, us = [u1, u2] ∧ RelV v u1 ∧ RelV w u2 := by
    cases r1 with
    | cons p q =>
      cases q with
      | cons p' q' =>
        cases q'
        exact ⟨_, _, rfl, p, p'⟩
  refine wpAny_newObj_type ?_ (by show 2 ≤ sizeLine; decide)
  have I2 : Inv X pins σ H1 { s1 with heap := s1.heap.push { cls := .type "tuple", data := .seq [u1, u2].toArray } } := I1.kept (t' := s1.toks) fun b o e => Heap.get?_push_of_some _ e
  rw [hw]
  refine wpAny_bind (wpAny_pure ?_)
  show wpAny (model X.prog X.w) X.A (do rule "assign.swapped-stores"; let items ← unpackItems (.ref s1.heap.objs.size) 2 none; assignInOrder [fun v => bindName X.env y v, fun v => bindName X.env x v] items.reverse; pure Flow.next) _ _ _
  refine wpAny_bind (wpAny_rule (wpAny_bind (unpackItems_tuple (items := #[u1, u2]) (I.ok.hd hc) (IsTup.new s1.heap _) fun h' hx' => ?_)))
  have I3 := I2.kept (h' := h') (t' := s1.toks) fun b o e => hx' b o (Nat.ne_of_lt (Heap.lt_size e)) e
  show wpAny _ _ (assignInOrder [fun v => bindName X.env y v, fun v => bindName X.env x v] [u2, u1] >>= fun _ => pure Flow.next) _ _ _
  refine wpAny_bind (assignInOrder_cons (wpAny_bindName (store_ok I3 hN hj (.inl hy) rw' (fun s2 I4 => ?_) (.inr hy))))
  refine assignInOrder_cons (wpAny_bindName (store_ok I4 hN hi (.inl hx) rv (fun s3 I5 => assignInOrder_nil (wpAny_pure ?_)) (.inr hx)))
  rw [List.set_comm _ _ (Ne.symm hij)] at I5
  exact ⟨_, H1, I5, q1⟩
/-- name op= e -/
def tAug (i : Nat) (te : TE) (ti : TIp) : TS := fun D σ H => ∃ x, σ[i]? = some (some x) ∧ te σ H fun y H1 => ti x y H1 fun z H2 => D.nx (σ.set i (some z)) H2
theorem ps_aug {i : Nat} {x : Str} {e : Expr} {te : TE} {op : Operator} {ti : TIp} {pos' : Pos} (hN : X.N.Nodup) (hi : X.N[i]? = some x) (hx : Loc X.env.scope x) (he : PE X e te) (ho : PIp X op ti) (hf : X.fn x = true ∨ X.env.scope.names.lookup x = some .local := by first | exact .inl rfl | exact .inr rfl | assumption) :
    PS X (.AugAssign (.Name x pos') op e pos) (tAug i te ti) := by
  intro pins s σ H D I h
  obtain ⟨v, e1, h⟩ := h
  obtain ⟨m, hn, hl⟩ := I.loc
  have vis : Vis X.env.scope x := by rcases hx with k | k; exact .inl k; exact .inr (.inl k)
  obtain ⟨u, r, l⟩ := hl i x v hi e1 vis
  refine wpAny_AugAssign_Name ?_
  have go : wpAny (model X.prog X.w) X.A (eval e X.env) (fun w s₂ => wpAny (model X.prog X.w) X.A (inplaceOp op u w) (fun r s₃ => wpAny (model X.prog X.w) X.A (storeName X.env x r) (fun _ => SP X pins D .next) X.xe s₃) X.xe s₂) X.xe s := by
    refine thn (he pins s σ H _ I h) fun w s1 ⟨y, H1, I1, r1, q1⟩ => ?_
    refine thn (ho pins s1 σ H1 v y u w _ I1 r r1 q1) fun z s2 ⟨zv, H2, I2, r2, q2⟩ => ?_
    exact store_ok I2 hN hi hx r2 (fun s3 I3 => ⟨_, H2, I3, q2⟩) hf
  rcases l with ⟨hk, hm⟩ | ⟨hk, c, hc, hcell⟩
  · exact wpAny_loadName_local I.ok.kind hk hn hm go
  · rcases hk with hk | hk
    · exact wpAny_loadName_cell I.ok.kind hk hc hcell go
    · rcases hx with k | k
      · have : X.env.scope.names.lookup x = some .free := hk
        rw [k] at this; cases this
      · have : X.env.scope.names.lookup x = some .free := hk
        rw [k] at this; cases this
/-- o[i] op= e -/
def tAugS (to ti te : TE) (tget : V → V → Hp → VK → Prop) (tip : TIp) (tset : TSet) : TS := fun D σ H => to σ H fun o H1 => ti σ H1 fun i H2 => tget o i H2 fun x H3 => te σ H3 fun y H4 => tip x y H4 fun z H5 => tset o i z H5 fun H6 => D.nx σ H6
/-- o[i], by values -/
def PGet (X : Cx) (t : V → V → Hp → VK → Prop) : Prop :=
  ∀ (pins : List (Addr × Obj)) (s : Shared) (σ : St) (H : Hp) (o i : V) (ov iv : Value) (Q : VK), Inv X pins σ H s → RelV o ov → RelV i iv → t o i H Q →
    wpAny (model X.prog X.w) X.A (getItem ov iv) (EP X pins σ Q) X.xe s
theorem ps_augS {o i e : Expr} {to ti te : TE} {tget : V → V → Hp → VK → Prop} {tip : TIp} {tset : TSet} {op : Operator} {tpos : Pos} (ho : PE X o to) (hi : PE X i ti) (hg : PGet X tget) (he : PE X e te) (hp : PIp X op tip) (hs : PSet X tset)
    (ha : ∀ ov iv new, augStore i ov iv new = (do holding [new, ov, iv] (setItem ov iv new); release [new, ov, iv] []; pure .next) := by intros; rfl) : PS X (.AugAssign (.Subscript o i tpos) op e pos) (tAugS to ti te tget tip tset) := by
  intro pins s σ H D I h
  refine wpAny_AugAssign_SubscriptAny (thn (ho pins s σ H _ I h) fun ov s1 ⟨x1, H1, I1, r1, q1⟩ => ?_) ha
  refine thn (hi pins s1 σ H1 _ I1 q1) fun iv s2 ⟨x2, H2, I2, r2, q2⟩ => ?_
  refine thn (hg pins s2 σ H2 x1 x2 ov iv _ I2 r1 r2 q2) fun old s3 ⟨x3, H3, I3, r3, q3⟩ => ?_
  refine thn (he pins s3 σ H3 _ I3 q3) fun v s4 ⟨x4, H4, I4, r4, q4⟩ => ?_
  refine thn (hp pins s4 σ H4 x3 x4 old v _ I4 r3 r4 q4) fun new s5 ⟨x5, H5, I5, r5, q5⟩ => ?_
  exact thn (hs pins s5 σ H5 x1 x2 x5 ov iv new _ I5 r1 r2 r5 q5) fun _ s6 ⟨H6, I6, q6⟩ => ⟨σ, H6, I6, q6⟩
/-- ints -/
def ipI (f : Int → Int → Int) : TIp := fun x y H Q => ∃ i j, x = .int i ∧ y = .int j ∧ Q (.int (f i j)) H
theorem ip_add : PIp X .Add (ipI fun i j => i + j) := by
  intro pins s σ H x y v u Q I r1 r2 h
  obtain ⟨i, j, e1, e2, q⟩ := h
  subst e1; subst e2
  obtain ⟨t, rfl⟩ := r1
  obtain ⟨t', rfl⟩ := r2
  exact iadd_int ⟨.int _, H, I.tok _, ⟨_, rfl⟩, q⟩
theorem ip_sub : PIp X .Sub (ipI fun i j => i - j) := by
  intro pins s σ H x y v u Q I r1 r2 h
  obtain ⟨i, j, e1, e2, q⟩ := h
  subst e1; subst e2
  obtain ⟨t, rfl⟩ := r1
  obtain ⟨t', rfl⟩ := r2
  exact isub_int ⟨.int _, H, I.tok _, ⟨_, rfl⟩, q⟩
end

/-! ### while -/
section
variable {X : Cx} {pos : Pos}
/-- the invariant W with its measure -/
def tWhile (c : TT) (tb : TS) : TS := fun D σ H => ∃ W : Nat → St → Hp → Prop, (∃ m, W m σ H) ∧ ∀ m σ H, W m σ H →
  c σ H fun b H1 => if b = true then ∃ N : St → Hp → Prop, (∀ σ' H', N σ' H' → ∃ m', m' < m ∧ W m' σ' H') ∧ tb { D with nx := N, ct := N, bk := D.nx } σ H1 else D.nx σ H1
theorem ps_while {c : Expr} {body : List Stmt} {tc : TT} {tb : TS} (hp : PassesOwn (model X.prog X.w) X.A X.env X.xe) (hc : PT X c tc) (hb : PSs X body tb) : PS X (.While c body [] pos) (tWhile tc tb) := by
  intro pins s σ H D I h
  obtain ⟨W, ⟨m0, w0⟩, turn⟩ := h
  refine wpAny_While (codeAny_whileLoop (fun n s' => ∃ σ' H', Inv X pins σ' H' s' ∧ W n σ' H') ?_ m0 ⟨σ, H, I, w0⟩)
  rintro n s1 ⟨σ1, H1, I1, w1⟩
  refine wpAny_passesOwn hp (thn (hc pins s1 σ1 H1 _ I1 (turn n σ1 H1 w1)) fun b s2 ⟨H2, I2, q2⟩ => ?_)
  cases b with
  | true =>
    obtain ⟨N, hN, q2⟩ := q2
    rw [if_pos rfl]
    refine wpAny_passesOwn hp (thn (hb pins s2 σ1 H2 _ I2 q2) fun f s3 q3 => ?_)
    cases f with
    | next =>
      obtain ⟨σ3, H3, I3, n3⟩ := q3
      obtain ⟨m', hm, w3⟩ := hN σ3 H3 n3
      exact ⟨m', hm, σ3, H3, I3, w3⟩
    | cont =>
      obtain ⟨σ3, H3, I3, n3⟩ := q3
      obtain ⟨m', hm, w3⟩ := hN σ3 H3 n3
      exact ⟨m', hm, σ3, H3, I3, w3⟩
    | brk => exact q3
    | ret v => exact q3
  | false =>
    rw [if_neg Bool.false_ne_true]
    exact wpAny_execs_nil ⟨σ1, H2, I2, q2⟩
end

/-! ### what a loop or a comprehension walks -/
/-- at turn i: it yields x (the heap may grow), or it stops -/
structure It where
  go : Nat → Hp → Prop
  yld : Nat → Hp → V → Hp → Prop
  stop : Nat → Hp → Prop
/-- the iterator's own objects may turn: they are not the frame's, not pinned, younger than the entry (or a comprehension's own) -/
def FpOk (X : Cx) (pins : List (Addr × Obj)) (H : Hp) (b : Addr) : Prop :=
  H b = none ∧ b ≠ X.env.locals ∧ b ∉ X.fs ∧ (b ∈ X.ex ∨ X.s₀.heap.objs.size ≤ b) ∧ (∀ x c, X.env.cells.lookup x = some c → c ≠ b) ∧ ∀ p ∈ X.pn ++ pins, p.1 ≠ b
theorem Inv.fpOk {X : Cx} {pins : List (Addr × Obj)} {σ : St} {H H' : Hp} {s : Shared} {b : Addr} (I : Inv X pins σ H s) (hb : s.heap.objs.size ≤ b) (hn : H' b = none) : FpOk X pins H' b := by
  refine ⟨hn, Nat.ne_of_gt (Nat.lt_of_lt_of_le I.lt hb), I.nofs hb, .inr (Nat.le_trans I.sz hb), fun x c e z => ?_, fun p hp z => ?_⟩
  · obtain ⟨v, q⟩ := I.cell x c e
    exact absurd (Nat.lt_of_lt_of_le q.lt (by rw [z]; exact hb)) (Nat.lt_irrefl _)
  · exact absurd (Nat.lt_of_lt_of_le (Heap.lt_size (I.pin p hp).1) (by rw [z]; exact hb)) (Nat.lt_irrefl _)
structure Turn (P : Program) (w : World) (K : PySem.W.Frag) (tg : Expr) (J : It) (fp : List Addr) (it : Addr) (tn : Nat → Heap → Prop) : Prop where
  mem : it ∈ fp
  obj : ∀ i h, tn i h → ∀ b ∈ fp, ∃ o, h.get? b = some o ∧ ∀ v, o.data ≠ .cell v
  keep : ∀ i h h', tn i h → (∀ b ∈ fp, ∀ o, h.get? b = some o → h'.get? b = some o) → tn i h'
  item : ∀ (X : Cx), X.prog = P → X.w = w → X.K = K → X.calm = true → ∀ (i : Nat) (pins : List (Addr × Obj)) (s : Shared) (σ : St) (H : Hp) (E : Value → Shared → Prop), Inv X pins σ H s → (∀ b ∈ fp, FpOk X pins H b) → tn i s.heap → J.go i H →
    wpAny (model P w) X.A (pyNext (.ref it)) (fun r s1 => ∃ u, r = some u ∧
      wpAny (model P w) X.A (letOwnedTupleGo tg (.ref it) u) (fun _ s2 => ∃ x H', Inv X pins σ H' s2 ∧ RelV x u ∧ J.yld i H x H' ∧ tn (i + 1) s2.heap ∧ ∀ b ∈ fp, H' b = none) E s1) E s
  done : ∀ (X : Cx), X.prog = P → X.w = w → X.K = K → X.calm = true → ∀ (i : Nat) (pins : List (Addr × Obj)) (s : Shared) (σ : St) (H : Hp) (E : Value → Shared → Prop), Inv X pins σ H s → (∀ b ∈ fp, FpOk X pins H b) → tn i s.heap → J.stop i H →
    wpAny (model P w) X.A (pyNext (.ref it)) (fun r s1 => r = none ∧ Inv X pins σ H s1) E s
  self : ∀ (A : Around) (i : Nat) (s : Shared) (Q : Value → Shared → Prop) (E : Value → Shared → Prop), tn i s.heap → Q (.ref it) s → wpAny (model P w) A (pyIter (.ref it)) Q E s
abbrev TI := St → Hp → (It → Hp → Prop) → Prop
/-- an iterator has come -/
def PIE (X : Cx) (pins : List (Addr × Obj)) (σ : St) (tg : Expr) (R : It → Hp → Prop) (itv : Value) (s2 : Shared) : Prop :=
  ∃ (it : Addr) (fp : List Addr) (tn : Nat → Heap → Prop) (J : It) (H' : Hp), itv = .ref it ∧ Inv X pins σ H' s2 ∧ Turn X.prog X.w X.K tg J fp it tn ∧ tn 0 s2.heap ∧ (∀ b ∈ fp, FpOk X pins H' b) ∧ R J H'
def PI (X : Cx) (tg iter : Expr) (wi : TI) : Prop :=
  ∀ (pins : List (Addr × Obj)) (s : Shared) (σ : St) (H : Hp) (R : It → Hp → Prop), Inv X pins σ H s → wi σ H R →
    wpAny (model X.prog X.w) X.A (eval iter X.env) (fun v s1 => wpAny (model X.prog X.w) X.A (pyIter v) (PIE X pins σ tg R) X.xe s1) X.xe s

/-- the step ahead of the store is nothing for an iterator that keeps no tuple -/
theorem go_of {M : Model} {A : Around} {E : Value → Shared → Prop} {s : Shared} {tg : Expr} {it : Addr} {u : Value} {o : Obj} {n : String} {vs : Array Value} {Q : Unit → Shared → Prop} (ho : s.heap.get? it = some o) (hc : o.cls = .type n) (hd : o.data = .fields vs)
    (hn : ["enumerate", "zip", "dict_itemiterator", "dict_reverseitemiterator", "odict_iterator", "itertools.zip_longest", "itertools.pairwise"].contains n = false) (hQ : Q () s) : wpAny M A (letOwnedTupleGo tg (.ref it) u) Q E s := by
  unfold letOwnedTupleGo
  cases tg <;> first
    | exact wpAny_pure hQ
    | (cases u <;> first
        | exact wpAny_pure hQ
        | (refine wpAny_bind (wpAny_load ho ?_)
           rw [hc, hd]
           show wpAny M A (if (["enumerate", "zip", "dict_itemiterator", "dict_reverseitemiterator", "odict_iterator", "itertools.zip_longest", "itertools.pairwise"].contains n && vs[0]? == some (rawInt _)) = true then _ else _) Q E s
           rw [if_neg (by intro h; rw [hn, Bool.false_and] at h; cases h)]
           exact wpAny_pure hQ))

/-- the list at a, as it stands at each turn (a loop may append to it) -/
def Itl (K : PySem.W.Frag) (a : Addr) : It :=
  ⟨fun i H => ∃ xs x, SqL K H a xs ∧ xs[i]? = some x, fun i H x H' => H' = H ∧ ∀ xs, SqL K H a xs → xs[i]? = some x, fun i H => ∃ xs, SqL K H a xs ∧ xs.length ≤ i⟩
def Itt (K : PySem.W.Frag) (a : Addr) : It :=
  ⟨fun i H => ∃ xs x, SqT K H a xs ∧ xs[i]? = some x, fun i H x H' => H' = H ∧ ∀ xs, SqT K H a xs → xs[i]? = some x, fun i H => ∃ xs, SqT K H a xs ∧ xs.length ≤ i⟩
/-- lo, lo + 1, .. (n of them) -/
def Itr (lo : Int) (n : Nat) : It := ⟨fun i _ => i < n, fun i H x H' => H' = H ∧ x = .int (lo + i), fun i _ => n ≤ i⟩
theorem turn_list {P : Program} {w : World} {K : PySem.W.Frag} {tg : Expr} (a it : Addr) : Turn P w K tg (Itl K a) [it] it (fun i h => h.IsListIter it a i) where
  mem := by simp
  obj := fun i h st b hb => by
    have e : b = it := by simpa using hb
    subst e
    obtain ⟨o, e, c, d⟩ := st
    exact ⟨o, e, fun v z => by rw [d] at z; cases z⟩
  keep := fun i h h' st k => st.at fun o e => k it (by simp) o e
  item := by
    intro X hP hw hK hc i pins s σ H E I hf st hg
    subst hP hw hK
    obtain ⟨xs, x, hq, hx⟩ := hg
    obtain ⟨its, rv, p, hz⟩ := I.list hq
    obtain ⟨u, hu, ru⟩ := rv.get hx
    obtain ⟨f0, f1, f2, f3, f4, f5⟩ := hf it (by simp)
    refine wpAny_pyNext_list_item st p.isList (x := u) (by simpa using hu) fun h' st' sb => ?_
    have I1 : Inv X pins σ H { s with heap := h' } := I.turned (t' := s.toks) (fun b o hb e => (sb.2 b hb).trans e) f0 f1 f3 f4 f5
    obtain ⟨o, e, c, d⟩ := id st'
    exact ⟨u, rfl, go_of (s := { s with heap := h' }) e c d (by decide) ⟨x, H, I1, ru, ⟨rfl, fun ys hy => by rw [I.list_inj hy hq]; exact hx⟩, st', fun b hb => (hf b hb).1⟩⟩
  done := by
    intro X hP hw hK hc i pins s σ H E I hf st hg
    subst hP hw hK
    obtain ⟨xs, hq, hx⟩ := hg
    obtain ⟨its, rv, p, hz⟩ := I.list hq
    obtain ⟨f0, f1, f2, f3, f4, f5⟩ := hf it (by simp)
    have hl := rv.length
    exact wpAny_pyNext_list_end (I.ok.hd hc) st p.isList (by simp; omega) fun h' eb => ⟨rfl, I.turned (t' := s.toks) (fun b o hb e => eb b o hb e) f0 f1 f3 f4 f5⟩
  self := fun _ _ _ _ _ st h => wpAny_pyIter_listiter st h
theorem turn_tuple {P : Program} {w : World} {K : PySem.W.Frag} {tg : Expr} (a it : Addr) : Turn P w K tg (Itt K a) [it] it (fun i h => h.IsTupleIter it a i) where
  mem := by simp
  obj := fun i h st b hb => by
    have e : b = it := by simpa using hb
    subst e
    obtain ⟨o, e, c, d⟩ := st
    exact ⟨o, e, fun v z => by rw [d] at z; cases z⟩
  keep := fun i h h' st k => st.at fun o e => k it (by simp) o e
  item := by
    intro X hP hw hK hc i pins s σ H E I hf st hg
    subst hP hw hK
    obtain ⟨xs, x, hq, hx⟩ := hg
    obtain ⟨its, rv, p, hz⟩ := I.tuple hq
    obtain ⟨u, hu, ru⟩ := rv.get hx
    obtain ⟨f0, f1, f2, f3, f4, f5⟩ := hf it (by simp)
    refine wpAny_pyNext_tuple_item st (show s.heap.IsTuple a its.toArray from p) (x := u) (by simpa using hu) fun h' st' sb => ?_
    have I1 : Inv X pins σ H { s with heap := h' } := I.turned (t' := s.toks) (fun b o hb e => (sb.2 b hb).trans e) f0 f1 f3 f4 f5
    obtain ⟨o, e, c, d⟩ := id st'
    exact ⟨u, rfl, go_of (s := { s with heap := h' }) e c d (by decide) ⟨x, H, I1, ru, ⟨rfl, fun ys hy => by rw [I.tuple_inj hy hq]; exact hx⟩, st', fun b hb => (hf b hb).1⟩⟩
  done := by
    intro X hP hw hK hc i pins s σ H E I hf st hg
    subst hP hw hK
    obtain ⟨xs, hq, hx⟩ := hg
    obtain ⟨its, rv, p, hz⟩ := I.tuple hq
    obtain ⟨f0, f1, f2, f3, f4, f5⟩ := hf it (by simp)
    have hl := rv.length
    exact wpAny_pyNext_tuple_end (I.ok.hd hc) st (show s.heap.IsTuple a its.toArray from p) (by simp; omega) fun h' eb => ⟨rfl, I.turned (t' := s.toks) (fun b o hb e => eb b o hb e) f0 f1 f3 f4 f5⟩
  self := fun _ _ _ _ _ st h => wpAny_pyIter_tupleiter st h
theorem turn_range {P : Program} {w : World} {K : PySem.W.Frag} {tg : Expr} (it : Addr) (lo : Int) (n : Nat) : Turn P w K tg (Itr lo n) [it] it (fun i h => IsRangeIter h it (lo + (i : Nat) * 1) ((n : Int) - (i : Nat)) 1) where
  mem := by simp
  obj := fun i h st b hb => by
    have e : b = it := by simpa using hb
    subst e
    exact ⟨_, st, fun v z => by
      have z' : Data.fields _ = Data.cell v := z
      cases z'⟩
  keep := fun i h h' st k => k it (by simp) _ st
  item := by
    intro X hP hw hK hc i pins s σ H E I hf st hg
    subst hP hw hK
    obtain ⟨f0, f1, f2, f3, f4, f5⟩ := hf it (by simp)
    have W := Walks.range (prog := X.prog) (w := X.w) (I.ok.hd hc) it lo 1 n
    refine W.item i s _ _ hg st fun v h' tk hv st' kk => ?_
    obtain ⟨t, rfl⟩ := hv
    have I1 : Inv X pins σ H { s with heap := h', toks := tk } := I.turned (fun b o hb e => kk b o (by simpa using hb) e) f0 f1 f3 f4 f5
    refine ⟨_, rfl, go_of (s := { s with heap := h', toks := tk }) (n := "range_iterator") st' rfl rfl (by decide) ⟨.int (lo + i), H, I1, ⟨t, ?_⟩, ⟨rfl, rfl⟩, st', fun b hb => (hf b hb).1⟩⟩
    rw [Int.mul_one]
  done := by
    intro X hP hw hK hc i pins s σ H E I hf st hg
    subst hP hw hK
    obtain ⟨f0, f1, f2, f3, f4, f5⟩ := hf it (by simp)
    exact wpAny_pyNext_range_end (I.ok.hd hc) st (by have : n ≤ i := hg; omega) fun h' eb => ⟨rfl, I.turned (t' := s.toks) (fun b o hb e => eb b o hb e) f0 f1 f3 f4 f5⟩
  self := fun _ _ _ _ _ st h => wpAny_pyIter_rangeiter st h
end L2

namespace L2
open PySem PySem.Spec PyProof.Rows
section
variable {X : Cx} {tg : Expr}
def iList (K : PySem.W.Frag) (tl : TE) : TI := fun σ H R => tl σ H fun x H1 => ∃ a, x = .ref a ∧ (∃ xs, SqL K H1 a xs) ∧ R (Itl K a) H1
def iTup (K : PySem.W.Frag) (tl : TE) : TI := fun σ H R => tl σ H fun x H1 => ∃ a, x = .ref a ∧ (∃ xs, SqT K H1 a xs) ∧ R (Itt K a) H1
theorem pi_list {l : Expr} {tl : TE} (hl : PE X l tl) : PI X tg l (iList X.K tl) := by
  intro pins s σ H R I h
  refine thn (hl pins s σ H _ I h) fun v s1 ⟨x, H1, I1, r1, q1⟩ => ?_
  obtain ⟨a, e, ⟨xs, hq⟩, q⟩ := q1
  subst e
  cases r1
  obtain ⟨its, rv, p, hz⟩ := I1.list hq
  refine wpAny_pyIter_list p.isList ?_
  refine ⟨s1.heap.objs.size, [s1.heap.objs.size], _, _, H1, rfl, I1.kept (t' := s1.toks) fun b o e => Heap.get?_push_of_some _ e, turn_list a _, ⟨_, Heap.get?_push_size _ rfl, rfl, rfl⟩, fun b hb => ?_, q⟩
  have e : b = s1.heap.objs.size := by simpa using hb
  subst e
  exact I1.fpOk (Nat.le_refl _) (I1.hok.fresh (Nat.le_refl _))
theorem pi_tup {l : Expr} {tl : TE} (hl : PE X l tl) : PI X tg l (iTup X.K tl) := by
  intro pins s σ H R I h
  refine thn (hl pins s σ H _ I h) fun v s1 ⟨x, H1, I1, r1, q1⟩ => ?_
  obtain ⟨a, e, ⟨xs, hq⟩, q⟩ := q1
  subst e
  cases r1
  obtain ⟨its, rv, p, hz⟩ := I1.tuple hq
  refine wpAny_pyIter_tuple (show s1.heap.IsTuple a its.toArray from p) ?_
  refine ⟨s1.heap.objs.size, [s1.heap.objs.size], _, _, H1, rfl, I1.kept (t' := s1.toks) fun b o e => Heap.get?_push_of_some _ e, turn_tuple a _, ⟨_, Heap.get?_push_size _ rfl, rfl, rfl⟩, fun b hb => ?_, q⟩
  have e : b = s1.heap.objs.size := by simpa using hb
  subst e
  exact I1.fpOk (Nat.le_refl _) (I1.hok.fresh (Nat.le_refl _))
/-- a range object just made, walked -/
theorem range_it {pins : List (Addr × Obj)} {σ : St} {H : Hp} {s : Shared} {R : It → Hp → Prop} {E : Value → Shared → Prop} {lo hi : Int} {t u v : Tok} {tk : Nat} (I : Inv X pins σ H s) (h1 : -(2 ^ 62) ≤ lo) (h2 : lo < 2 ^ 62) (h3 : -(2 ^ 62) ≤ hi) (h4 : hi < 2 ^ 62)
    (q : R (Itr lo (hi - lo).toNat) H) : wpAny (model X.prog X.w) X.A (pyIter (.ref s.heap.objs.size)) (PIE X pins σ tg R) E { s with heap := s.heap.push { cls := .type "range", data := .fields #[.int lo t, .int hi u, .int 1 v] }, toks := tk } := by
  refine wpAny_pyIter_range (IsRange.new ..) (small_one h1 h2 h3 h4) ?_
  have I1 : Inv X pins σ H { s with heap := s.heap.push { cls := .type "range", data := .fields #[.int lo t, .int hi u, .int 1 v] }, toks := tk } := I.kept fun b o e => Heap.get?_push_of_some _ e
  refine ⟨(s.heap.push { cls := .type "range", data := .fields #[.int lo t, .int hi u, .int 1 v] }).objs.size, [(s.heap.push { cls := .type "range", data := .fields #[.int lo t, .int hi u, .int 1 v] }).objs.size], _, _, H, rfl,
    I1.kept (t' := tk) fun b o e => Heap.get?_push_of_some _ e, turn_range _ lo (hi - lo).toNat, ?_, fun b hb => ?_, q⟩
  · have e1 : lo + ((0 : Nat) : Int) * 1 = lo := by simp
    have e2 : (((hi - lo).toNat : Nat) : Int) - ((0 : Nat) : Int) = Builtin.Range.rangeSize lo hi 1 := by rw [rangeSize_one]; split <;> omega
    show IsRangeIter _ _ (lo + ((0 : Nat) : Int) * 1) ((((hi - lo).toNat : Nat) : Int) - ((0 : Nat) : Int)) 1
    rw [e1, e2]
    exact Heap.get?_push_size _ rfl
  · have e : b = (s.heap.push { cls := .type "range", data := .fields #[.int lo t, .int hi u, .int 1 v] }).objs.size := by simpa using hb
    subst e
    exact I1.fpOk (Nat.le_refl _) (I1.hok.fresh (Nat.le_refl _))
def iRng1 (ta : TA) : TI := fun σ H R => ta σ H fun vs H1 => ∃ j : Int, vs = [.int j] ∧ -(2 ^ 62) ≤ j ∧ j < 2 ^ 62 ∧ R (Itr 0 j.toNat) H1
def iRng2 (ta : TA) : TI := fun σ H R => ta σ H fun vs H1 => ∃ i j : Int, vs = [.int i, .int j] ∧ (-(2 ^ 62) ≤ i ∧ i < 2 ^ 62 ∧ -(2 ^ 62) ≤ j ∧ j < 2 ^ 62) ∧ R (Itr i (j - i).toNat) H1
theorem pi_range1 {a : Expr} {ta : TA} {p pos : Pos} (hg : Gl X "range") (hm : X.mg "range" = none) (ha : PA X [a] ta) (hs : starEach [a] X.env = [(false, eval a X.env)] := by rfl) : PI X tg (.Call (.Name "range" p) [a] [] pos) (iRng1 ta) := by
  intro pins s σ H R I h
  refine Call_ (ld_blt I hg hm boot_range (PyProof.Rows.callWith_type1 (thn (ha pos pins s σ H _ I h) fun us s1 ⟨vs, H1, I1, r1, q1⟩ => ?_) hs rfl))
  obtain ⟨j, e, q1, q2, q⟩ := q1
  subst e
  cases r1 with
  | cons r rr =>
    cases rr
    obtain ⟨t, rfl⟩ := r
    exact call_range_1 (range_it I1 (by omega) (by omega) q1 q2 (by simpa using q))
theorem pi_range2 {a b : Expr} {ta : TA} {p pos : Pos} (hg : Gl X "range") (hm : X.mg "range" = none) (ha : PA X [a, b] ta) (hs : starEach [a, b] X.env = [(false, eval a X.env), (false, eval b X.env)] := by rfl) (hs2 : starEach [b] X.env = [(false, eval b X.env)] := by rfl) :
    PI X tg (.Call (.Name "range" p) [a, b] [] pos) (iRng2 ta) := by
  intro pins s σ H R I h
  refine Call_ (ld_blt I hg hm boot_range (PyProof.Rows.callWith_type1 (thn (ha pos pins s σ H _ I h) fun us s1 ⟨vs, H1, I1, r1, q1⟩ => ?_) (by rw [hs, hs2]) (by rw [hs2]; rfl)))
  obtain ⟨i, j, e, ⟨q1, q2, q3, q4⟩, q⟩ := q1
  subst e
  cases r1 with
  | cons r rr =>
    cases rr with
    | cons r' rr =>
      cases rr
      obtain ⟨t, rfl⟩ := r
      obtain ⟨t', rfl⟩ := r'
      exact call_range_2 (range_it I1 q1 q2 q3 q4 q)

/-! ### for -/
/-- W: the invariant by the turn and a measure; N: what the body is to reach -/
def tFor (wi : TI) (g : TG) (tb : TS) : TS := fun D σ H => wi σ H fun J H1 => ∃ W : Nat → Nat → St → Hp → Prop, (∃ m, W 0 m σ H1) ∧ ∀ i m σ H, W i m σ H →
  (J.stop i H ∧ D.nx σ H) ∨ (J.go i H ∧ ∃ N : St → Hp → Prop, (∀ σ' H', N σ' H' → ∃ m', m' < m ∧ W (i + 1) m' σ' H') ∧ ∀ x H', J.yld i H x H' → g x σ H' fun σ2 H2 => tb { D with nx := N, ct := N, bk := D.nx } σ2 H2)
/-- the records at fp as they stand -/
def pinsAt (fp : List Addr) (h : Heap) : List (Addr × Obj) := fp.filterMap fun b => (h.get? b).map fun o => (b, o)
theorem mem_pinsAt {fp : List Addr} {h : Heap} {b : Addr} {o : Obj} (hb : b ∈ fp) (e : h.get? b = some o) : (b, o) ∈ pinsAt fp h := List.mem_filterMap.mpr ⟨b, hb, by rw [e]; rfl⟩
theorem of_pinsAt {fp : List Addr} {h : Heap} {p : Addr × Obj} (hp : p ∈ pinsAt fp h) : p.1 ∈ fp ∧ h.get? p.1 = some p.2 := by
  obtain ⟨b, hb, e⟩ := List.mem_filterMap.mp hp
  cases q : h.get? b with
  | none => rw [q] at e; cases e
  | some o =>
    rw [q] at e
    have e' : (b, o) = p := Option.some.inj e
    subst e'
    exact ⟨hb, q⟩
theorem Inv.pinned {pins : List (Addr × Obj)} {σ : St} {H : Hp} {s : Shared} {fp : List Addr} (I : Inv X pins σ H s) (hf : ∀ b ∈ fp, FpOk X pins H b) (ho : ∀ b ∈ fp, ∃ o, s.heap.get? b = some o ∧ ∀ v, o.data ≠ .cell v) : Inv X (pins ++ pinsAt fp s.heap) σ H s :=
  I.pins_of fun p hp => (List.mem_append.mp hp).elim (fun z => I.pin p (List.mem_append_right _ z)) fun z => by
    obtain ⟨hb, e⟩ := of_pinsAt z
    obtain ⟨f0, f1, f2, _⟩ := hf p.1 hb
    obtain ⟨o, e', d⟩ := ho p.1 hb
    rw [e] at e'; cases e'
    exact ⟨e, f0, f1, f2, d⟩
theorem Inv.unpinned {pins pl : List (Addr × Obj)} {σ : St} {H : Hp} {s : Shared} (I : Inv X (pins ++ pl) σ H s) : Inv X pins σ H s := I.pins_of fun p hp => I.pin p (List.mem_append_right _ (List.mem_append_left _ hp))
theorem ps_for {iter : Expr} {body : List Stmt} {wi : TI} {g : TG} {tb : TS} {pos : Pos} (hp : PassesOwn (model X.prog X.w) X.A X.env X.xe) (hc : X.calm = true) (hi : PI X tg iter wi) (hg : PG X tg g) (hb : PSs X body tb)
    (hs : ∀ x, foldedSetIterable iter X.env x = pure x := by intro _; rfl) : PS X (.For tg iter body [] pos) (tFor wi g tb) := by
  intro pins s σ H D I h
  refine wpAny_For (thn (hi pins s σ H _ I h) fun v s1 h1 => thn h1 fun itv s2 h2 => ?_) hs
  obtain ⟨it, fp, tn, J, H2, e, I2, T, st2, f2, W, ⟨m0, w0⟩, turn⟩ := h2
  subst e
  -- what stays true of the iterator's objects through the loop
  have stat : ∀ {H' : Hp}, (∀ b ∈ fp, H' b = none) → ∀ b ∈ fp, FpOk X pins H' b := fun hn b hb => ⟨hn b hb, (f2 b hb).2⟩
  refine codeAny_forLoop_any (fun n s' => ∃ i σ' H', Inv X pins σ' H' s' ∧ tn i s'.heap ∧ (∀ b ∈ fp, H' b = none) ∧ W i n σ' H') ?_ m0 ⟨0, σ, H2, I2, st2, fun b hb => (f2 b hb).1, w0⟩
  rintro n s3 ⟨i, σ3, H3, I3, st3, fr3, w3⟩
  rcases turn i n σ3 H3 w3 with ⟨stop, qn⟩ | ⟨go, N, hN, step⟩
  · refine wpAny_passesOwn hp (thn (T.done X rfl rfl rfl hc i pins s3 σ3 H3 X.xe I3 (stat fr3) st3 stop) fun r s4 ⟨hr, I4⟩ => ?_)
    subst hr
    exact wpAny_execs_nil ⟨σ3, H3, I4, qn⟩
  · refine wpAny_passesOwn hp (thn (T.item X rfl rfl rfl hc i pins s3 σ3 H3 X.xe I3 (stat fr3) st3 go) fun r s4 ⟨u, hr, h4⟩ => ?_)
    subst hr
    refine wpAny_passesOwn hp (thn h4 fun _ s5 ⟨x, H5, I5, r5, y5, st5, fr5⟩ => ?_)
    have I5' := I5.pinned (stat fr5) (T.obj _ _ st5)
    refine wpAny_passesOwn hp (thn (hg _ s5 σ3 H5 x u _ I5' r5 (step x H5 y5)) fun _ s6 ⟨σ6, H6, I6, q6⟩ => ?_)
    refine wpAny_passesOwn hp (thn (hb _ s6 σ6 H6 _ I6 q6) fun f s7 q7 => ?_)
    have again : ∀ {σ7 : St} {H7 : Hp}, Inv X (pins ++ pinsAt fp s5.heap) σ7 H7 s7 → N σ7 H7 → ∃ m, m < n ∧ ∃ i σ' H', Inv X pins σ' H' s7 ∧ tn i s7.heap ∧ (∀ b ∈ fp, H' b = none) ∧ W i m σ' H' := fun {σ7 H7} I7 n7 => by
      obtain ⟨m', hm, w7⟩ := hN σ7 H7 n7
      refine ⟨m', hm, i + 1, σ7, H7, I7.unpinned, T.keep _ _ _ st5 fun b hb o e => (I7.pin (b, o) (List.mem_append_right _ (List.mem_append_right _ (mem_pinsAt hb e)))).1, fun b hb => ?_, w7⟩
      obtain ⟨o, e, d⟩ := T.obj _ _ st5 b hb
      exact (I7.pin (b, o) (List.mem_append_right _ (List.mem_append_right _ (mem_pinsAt hb e)))).2.1
    cases f with
    | next => obtain ⟨σ7, H7, I7, n7⟩ := q7; exact again I7 n7
    | cont => obtain ⟨σ7, H7, I7, n7⟩ := q7; exact again I7 n7
    | brk => obtain ⟨σ7, H7, I7, q7⟩ := q7; exact ⟨σ7, H7, I7.unpinned, q7⟩
    | ret v => obtain ⟨x7, σ7, H7, I7, r7, q7⟩ := q7; exact ⟨x7, σ7, H7, I7.unpinned, r7, q7⟩
end

/-! ### the forms one uses -/
/-- over a list that the body leaves as it is -/
theorem for_list {K : PySem.W.Frag} {a : Addr} {xs : List V} {g : TG} {tb : TS} {D : Ends} {σ : St} {H : Hp} (Pv : Nat → St → Hp → Prop) (h0 : Pv 0 σ H) (hl : ∀ i σ H, i ≤ xs.length → Pv i σ H → SqL K H a xs)
    (hs : ∀ i x σ H, xs[i]? = some x → Pv i σ H → g x σ H fun σ2 H2 => tb { D with nx := Pv (i + 1), ct := Pv (i + 1), bk := D.nx } σ2 H2) (hd : ∀ σ H, Pv xs.length σ H → D.nx σ H) :
    ∃ W : Nat → Nat → St → Hp → Prop, (∃ m, W 0 m σ H) ∧ ∀ i m σ H, W i m σ H →
      ((Itl K a).stop i H ∧ D.nx σ H) ∨ ((Itl K a).go i H ∧ ∃ N : St → Hp → Prop, (∀ σ' H', N σ' H' → ∃ m', m' < m ∧ W (i + 1) m' σ' H') ∧ ∀ x H', (Itl K a).yld i H x H' → g x σ H' fun σ2 H2 => tb { D with nx := N, ct := N, bk := D.nx } σ2 H2) := by
  refine ⟨fun i m σ H => m = xs.length - i ∧ i ≤ xs.length ∧ Pv i σ H, ⟨xs.length, by simp, Nat.zero_le _, h0⟩, ?_⟩
  rintro i m σ H ⟨rfl, hi, p⟩
  have q := hl i σ H hi p
  by_cases hlt : i < xs.length
  · refine .inr ⟨⟨xs, xs[i], q, by simp [hlt]⟩, Pv (i + 1), fun σ' H' p' => ⟨xs.length - (i + 1), by omega, rfl, hlt, p'⟩, fun x H' y => ?_⟩
    obtain ⟨e, y⟩ := y
    subst e
    exact hs i x σ _ (y xs q) p
  · have e : i = xs.length := by omega
    subst e
    exact .inl ⟨⟨xs, q, Nat.le_refl _⟩, hd σ H p⟩
theorem for_tup {K : PySem.W.Frag} {a : Addr} {xs : List V} {g : TG} {tb : TS} {D : Ends} {σ : St} {H : Hp} (Pv : Nat → St → Hp → Prop) (h0 : Pv 0 σ H) (hl : ∀ i σ H, i ≤ xs.length → Pv i σ H → SqT K H a xs)
    (hs : ∀ i x σ H, xs[i]? = some x → Pv i σ H → g x σ H fun σ2 H2 => tb { D with nx := Pv (i + 1), ct := Pv (i + 1), bk := D.nx } σ2 H2) (hd : ∀ σ H, Pv xs.length σ H → D.nx σ H) :
    ∃ W : Nat → Nat → St → Hp → Prop, (∃ m, W 0 m σ H) ∧ ∀ i m σ H, W i m σ H →
      ((Itt K a).stop i H ∧ D.nx σ H) ∨ ((Itt K a).go i H ∧ ∃ N : St → Hp → Prop, (∀ σ' H', N σ' H' → ∃ m', m' < m ∧ W (i + 1) m' σ' H') ∧ ∀ x H', (Itt K a).yld i H x H' → g x σ H' fun σ2 H2 => tb { D with nx := N, ct := N, bk := D.nx } σ2 H2) := by
  refine ⟨fun i m σ H => m = xs.length - i ∧ i ≤ xs.length ∧ Pv i σ H, ⟨xs.length, by simp, Nat.zero_le _, h0⟩, ?_⟩
  rintro i m σ H ⟨rfl, hi, p⟩
  have q := hl i σ H hi p
  by_cases hlt : i < xs.length
  · refine .inr ⟨⟨xs, xs[i], q, by simp [hlt]⟩, Pv (i + 1), fun σ' H' p' => ⟨xs.length - (i + 1), by omega, rfl, hlt, p'⟩, fun x H' y => ?_⟩
    obtain ⟨e, y⟩ := y
    subst e
    exact hs i x σ _ (y xs q) p
  · have e : i = xs.length := by omega
    subst e
    exact .inl ⟨⟨xs, q, Nat.le_refl _⟩, hd σ H p⟩
theorem for_range {lo : Int} {n : Nat} {g : TG} {tb : TS} {D : Ends} {σ : St} {H : Hp} (Pv : Nat → St → Hp → Prop) (h0 : Pv 0 σ H)
    (hs : ∀ i σ H, i < n → Pv i σ H → g (.int (lo + i)) σ H fun σ2 H2 => tb { D with nx := Pv (i + 1), ct := Pv (i + 1), bk := D.nx } σ2 H2) (hd : ∀ σ H, Pv n σ H → D.nx σ H) :
    ∃ W : Nat → Nat → St → Hp → Prop, (∃ m, W 0 m σ H) ∧ ∀ i m σ H, W i m σ H →
      ((Itr lo n).stop i H ∧ D.nx σ H) ∨ ((Itr lo n).go i H ∧ ∃ N : St → Hp → Prop, (∀ σ' H', N σ' H' → ∃ m', m' < m ∧ W (i + 1) m' σ' H') ∧ ∀ x H', (Itr lo n).yld i H x H' → g x σ H' fun σ2 H2 => tb { D with nx := N, ct := N, bk := D.nx } σ2 H2) := by
  refine ⟨fun i m σ H => m = n - i ∧ i ≤ n ∧ Pv i σ H, ⟨n, by simp, Nat.zero_le _, h0⟩, ?_⟩
  rintro i m σ H ⟨rfl, hi, p⟩
  by_cases hlt : i < n
  · refine .inr ⟨hlt, Pv (i + 1), fun σ' H' p' => ⟨n - (i + 1), by omega, rfl, hlt, p'⟩, fun x H' y => ?_⟩
    obtain ⟨e, y⟩ := y
    subst e y
    exact hs i σ _ hlt p
  · have e : i = n := by omega
    subst e
    exact .inl ⟨Nat.le_refl _, hd σ H p⟩
/-- while, by a word and a measure of the state -/
theorem while_by {c : TT} {tb : TS} {D : Ends} {σ : St} {H : Hp} (Pv : St → Hp → Prop) (μ : St → Hp → Nat) (h0 : Pv σ H)
    (hs : ∀ σ H, Pv σ H → c σ H fun b H1 => if b = true then tb { D with nx := fun σ' H' => Pv σ' H' ∧ μ σ' H' < μ σ H, ct := fun σ' H' => Pv σ' H' ∧ μ σ' H' < μ σ H, bk := D.nx } σ H1 else D.nx σ H1)
    (mono : ∀ σ H Q Q', (∀ b H1, Q b H1 → Q' b H1) → c σ H Q → c σ H Q') : tWhile c tb D σ H := by
  refine ⟨fun m σ H => m = μ σ H ∧ Pv σ H, ⟨_, rfl, h0⟩, ?_⟩
  rintro m σ H ⟨rfl, p⟩
  refine mono σ H _ _ (fun b H1 q => ?_) (hs σ H p)
  cases b with
  | true => exact ⟨_, fun σ' H' ⟨p', l⟩ => ⟨_, l, rfl, p'⟩, q⟩
  | false => exact q
end L2

namespace L2
open PySem PySem.Spec PyProof.Rows

abbrev R2 := V → V → Hp → VK → Prop
/-- a two-place operation on values: f is binaryOp op, inplaceOp op or compareOp op -/
def OpR (X : Cx) (f : Value → Value → Sem Value) (r : R2) : Prop :=
  ∀ (pins : List (Addr × Obj)) (s : Shared) (σ : St) (H : Hp) (x y : V) (v u : Value) (Q : VK), Inv X pins σ H s → RelV x v → RelV y u → r x y H Q →
    wpAny (model X.prog X.w) X.A (f v u) (EP X pins σ Q) X.xe s
/-- a one-place operation -/
def UnR (X : Cx) (f : Value → Sem Value) (r : V → Hp → VK → Prop) : Prop :=
  ∀ (pins : List (Addr × Obj)) (s : Shared) (σ : St) (H : Hp) (x : V) (v : Value) (Q : VK), Inv X pins σ H s → RelV x v → r x H Q →
    wpAny (model X.prog X.w) X.A (f v) (EP X pins σ Q) X.xe s
/-- a call of a value that is known (a builtin, a type) with values -/
def CallR (X : Cx) (f : Value) (r : List V → Hp → VK → Prop) : Prop :=
  ∀ (pins : List (Addr × Obj)) (s : Shared) (σ : St) (H : Hp) (xs : List V) (us : List Value) (Q : VK), Inv X pins σ H s → Vals xs us → r xs H Q →
    wpAny (model X.prog X.w) X.A (call f us) (EP X pins σ Q) X.xe s
/-- a value's truth -/
def TruR (X : Cx) (r : V → Hp → (Bool → Hp → Prop) → Prop) : Prop :=
  ∀ (pins : List (Addr × Obj)) (s : Shared) (σ : St) (H : Hp) (x : V) (v : Value) (Q : Bool → Hp → Prop), Inv X pins σ H s → RelV x v → r x H Q →
    wpAny (model X.prog X.w) X.A (truthy v) (TP X pins σ Q) X.xe s

def tOp (r : R2) (ta tb : TE) : TE := fun σ H Q => ta σ H fun x H1 => tb σ H1 fun y H2 => r x y H2 Q
def tUn (r : V → Hp → VK → Prop) (ta : TE) : TE := fun σ H Q => ta σ H fun x H1 => r x H1 Q
/-- ints in, under C, and a value out -/
def rI (C : Int → Int → Prop) (g : Int → Int → V) : R2 := fun x y H Q => ∃ i j, x = .int i ∧ y = .int j ∧ C i j ∧ Q (g i j) H
def rI0 (g : Int → Int → V) : R2 := fun x y H Q => ∃ i j, x = .int i ∧ y = .int j ∧ Q (g i j) H
def rU (g : Int → V) : V → Hp → VK → Prop := fun x H Q => ∃ i, x = .int i ∧ Q (g i) H

section
variable {X : Cx} {a b c : Expr} {ta tb tc : TE} {pos : Pos}

theorem binT (ha : PE X a ta) (hb : PE X b tb) {pins : List (Addr × Obj)} {s : Shared} {σ : St} {H : Hp} {R : V → V → Hp → Prop} (I : Inv X pins σ H s)
    (h : ta σ H fun x H1 => tb σ H1 fun y H2 => R x y H2) {Q : Value → Shared → Prop} {f : Value → Value → Sem Value}
    (hf : ∀ v u s2 x y H2, Inv X pins σ H2 s2 → RelV x v → RelV y u → R x y H2 → wpAny (model X.prog X.w) X.A (f v u) Q X.xe s2) :
    wpAny (model X.prog X.w) X.A (eval a X.env) (fun v s₁ => wpAny (model X.prog X.w) X.A (eval b X.env) (fun u s₂ => wpAny (model X.prog X.w) X.A (f v u) Q X.xe s₂) X.xe s₁) X.xe s := by
  refine thn (ha pins s σ H _ I h) fun v s1 ⟨x, H1, I1, r1, q1⟩ => ?_
  refine thn (hb pins s1 σ H1 _ I1 q1) fun u s2 ⟨y, H2, I2, r2, q2⟩ => ?_
  exact hf v u s2 x y H2 I2 r1 r2 q2

theorem pe_op {op : Operator} {r : R2} (ho : OpR X (binaryOp op) r) (ha : PE X a ta) (hb : PE X b tb) : PE X (.BinOp a op b pos) (tOp r ta tb) := by
  intro pins s σ H Q I h
  exact wpAny_BinOp (binT ha hb I h fun v u s2 x y H2 I2 rx ry q => ho pins s2 σ H2 x y v u Q I2 rx ry q)
theorem pe_un {op : UnaryOp} {r : V → Hp → VK → Prop} (ho : UnR X (unaryOp op) r) (ha : PE X a ta) : PE X (.UnaryOp op a pos) (tUn r ta) := by
  intro pins s σ H Q I h
  exact UnaryOp_ (thn (ha pins s σ H _ I h) fun v s1 ⟨x, H1, I1, r1, q1⟩ => ho pins s1 σ H1 x v Q I1 r1 q1)
/-- a op= e at a name: the name's slot i -/
theorem augR {op : Operator} {r : R2} (ho : OpR X (inplaceOp op) r) {pins : List (Addr × Obj)} {s : Shared} {σ : St} {H : Hp} {x y : V} {v u : Value} {Q : VK} (I : Inv X pins σ H s)
    (rx : RelV x v) (ry : RelV y u) (q : r x y H Q) : wpAny (model X.prog X.w) X.A (inplaceOp op v u) (EP X pins σ Q) X.xe s := ho pins s σ H x y v u Q I rx ry q

/-! ### ints -/
theorem opI {f : Value → Value → Sem Value} {C : Int → Int → Prop} {g : Int → Int → Int}
    (rule : ∀ (i j : Int) (t u : Tok) (s : Shared) (Q : Value → Shared → Prop) (E : Value → Shared → Prop), C i j → Q (.int (g i j) s.toks) { s with toks := s.toks + 1 } → wpAny (model X.prog X.w) X.A (f (.int i t) (.int j u)) Q E s) :
    OpR X f (rI C fun i j => .int (g i j)) := by
  intro pins s σ H x y v u Q I rx ry h
  obtain ⟨i, j, rfl, rfl, hc, q⟩ := h
  obtain ⟨t, rfl⟩ := rx
  obtain ⟨t', rfl⟩ := ry
  exact rule i j t t' s _ _ hc ⟨.int (g i j), H, I.tok _, ⟨_, rfl⟩, q⟩
theorem opI0 {f : Value → Value → Sem Value} {g : Int → Int → Int}
    (rule : ∀ (i j : Int) (t u : Tok) (s : Shared) (Q : Value → Shared → Prop) (E : Value → Shared → Prop), Q (.int (g i j) s.toks) { s with toks := s.toks + 1 } → wpAny (model X.prog X.w) X.A (f (.int i t) (.int j u)) Q E s) :
    OpR X f (rI0 fun i j => .int (g i j)) := by
  intro pins s σ H x y v u Q I rx ry h
  obtain ⟨i, j, rfl, rfl, q⟩ := h
  obtain ⟨t, rfl⟩ := rx
  obtain ⟨t', rfl⟩ := ry
  exact rule i j t t' s _ _ ⟨.int (g i j), H, I.tok _, ⟨_, rfl⟩, q⟩
theorem opB0 {f : Value → Value → Sem Value} {g : Int → Int → Bool}
    (rule : ∀ (i j : Int) (t u : Tok) (s : Shared) (Q : Value → Shared → Prop) (E : Value → Shared → Prop), Q (.bool (g i j)) s → wpAny (model X.prog X.w) X.A (f (.int i t) (.int j u)) Q E s) :
    OpR X f (rI0 fun i j => .bl (g i j)) := by
  intro pins s σ H x y v u Q I rx ry h
  obtain ⟨i, j, rfl, rfl, q⟩ := h
  obtain ⟨t, rfl⟩ := rx
  obtain ⟨t', rfl⟩ := ry
  exact rule i j t t' s _ _ ⟨.bl (g i j), H, I, rfl, q⟩

def CDiv (i j : Int) : Prop := 0 < j ∧ j < 1073741824
def CDivN (i j : Int) : Prop := j ≠ 0 ∧ j.natAbs < 1073741824
def CPow (i j : Int) : Prop := 0 ≤ j ∧ j ≤ 1000000 ∧ i.natAbs < 2 ^ 64
def CMul (i j : Int) : Prop := (-(2 ^ 64) < i ∧ i < 2 ^ 64) ∨ (-(2 ^ 64) < j ∧ j < 2 ^ 64)
theorem CMul.ok {i j : Int} (h : CMul i j) : IntMulOk i j := by
  rcases h with ⟨h1, h2⟩ | ⟨h1, h2⟩
  · exact .of_left (intBits_le_64 h1 h2)
  · exact .of_right (intBits_le_64 h1 h2)
theorem two_pow_nn (k : Nat) : (0 : Int) ≤ 2 ^ k := by
  rw [two_pow_cast]
  exact Int.natCast_nonneg _

theorem op_add : OpR X (binaryOp .Add) (rI0 fun i j => .int (i + j)) := opI0 fun _ _ _ _ _ _ _ q => add_int q
theorem op_sub : OpR X (binaryOp .Sub) (rI0 fun i j => .int (i - j)) := opI0 fun _ _ _ _ _ _ _ q => sub_int q
theorem op_mul : OpR X (binaryOp .Mult) (rI CMul fun i j => .int (i * j)) := opI fun _ _ _ _ _ _ _ hc q => mul_int q hc.ok
/-- // by a positive divisor -/
theorem op_fdiv : OpR X (binaryOp .FloorDiv) (rI CDiv fun i j => .int (i / j)) := opI fun i j _ _ _ _ _ hc q => by
  have h1 : (0 : Int) < j := hc.1
  have h2 : j < 1073741824 := hc.2
  exact floordiv_int (by omega) (by rw [Int.fdiv_eq_ediv_of_nonneg i (by omega)]; exact q) (.inl (PyProof.noPylong_small (by omega)))
theorem op_fdivN : OpR X (binaryOp .FloorDiv) (rI CDivN fun i j => .int (i.fdiv j)) := opI fun _ _ _ _ _ _ _ hc q => floordiv_int hc.1 q (.inl (PyProof.noPylong_small hc.2))
/-- % by a positive divisor of any size -/
theorem op_mod : OpR X (binaryOp .Mod) (rI (fun _ j => 0 < j) fun i j => .int (i % j)) := opI fun i j _ _ _ _ _ hc q => by
  have h1 : (0 : Int) < j := hc
  exact mod_int' (by omega) (by rw [Int.fmod_eq_emod_of_nonneg i (by omega)]; exact q)
theorem op_modN : OpR X (binaryOp .Mod) (rI (fun _ j => j ≠ 0) fun i j => .int (i.fmod j)) := opI fun _ _ _ _ _ _ _ hc q => mod_int' hc q
theorem op_pow : OpR X (binaryOp .Pow) (rI CPow fun i j => .int (i ^ j.toNat)) := opI fun _ _ _ _ _ _ _ hc q => pow_int_small hc.1 hc.2.1 hc.2.2 q
theorem op_shl : OpR X (binaryOp .LShift) (rI CPow fun i j => .int (i * 2 ^ j.toNat)) := opI fun _ _ _ _ _ _ _ hc q => lshift_int_small hc.1 hc.2.1 hc.2.2 q
theorem op_shr : OpR X (binaryOp .RShift) (rI (fun _ j => 0 ≤ j) fun i j => .int (i / 2 ^ j.toNat)) := opI fun i j _ _ _ _ _ hc q =>
  rshift_int hc (by rw [Int.fdiv_eq_ediv_of_nonneg i (two_pow_nn _)]; exact q)
theorem op_and : OpR X (binaryOp .BitAnd) (rI0 fun i j => .int (Builtin.bitAnd i j)) := opI0 fun _ _ _ _ _ _ _ q => and_int q
theorem op_or : OpR X (binaryOp .BitOr) (rI0 fun i j => .int (Builtin.bitOr i j)) := opI0 fun _ _ _ _ _ _ _ q => or_int q
theorem op_xor : OpR X (binaryOp .BitXor) (rI0 fun i j => .int (Builtin.bitXor i j)) := opI0 fun _ _ _ _ _ _ _ q => xor_int q

theorem iop_add : OpR X (inplaceOp .Add) (rI0 fun i j => .int (i + j)) := opI0 fun _ _ _ _ _ _ _ q => iadd_int q
theorem iop_sub : OpR X (inplaceOp .Sub) (rI0 fun i j => .int (i - j)) := opI0 fun _ _ _ _ _ _ _ q => isub_int q
theorem iop_mul : OpR X (inplaceOp .Mult) (rI CMul fun i j => .int (i * j)) := opI fun _ _ _ _ _ _ _ hc q => imul_int q hc.ok
theorem iop_fdiv : OpR X (inplaceOp .FloorDiv) (rI CDiv fun i j => .int (i / j)) := opI fun i j _ _ _ _ _ hc q => by
  have h1 : (0 : Int) < j := hc.1
  have h2 : j < 1073741824 := hc.2
  exact ifloordiv_int (by omega) (by rw [Int.fdiv_eq_ediv_of_nonneg i (by omega)]; exact q) (.inl (PyProof.noPylong_small (by omega)))
theorem iop_mod : OpR X (inplaceOp .Mod) (rI (fun _ j => 0 < j) fun i j => .int (i % j)) := opI fun i j _ _ _ _ _ hc q => by
  have h1 : (0 : Int) < j := hc
  exact imod_int (by omega) (by rw [Int.fmod_eq_emod_of_nonneg i (by omega)]; exact q)
theorem iop_shl : OpR X (inplaceOp .LShift) (rI CPow fun i j => .int (i * 2 ^ j.toNat)) := opI fun _ _ _ _ _ _ _ hc q => ilshift_int_small hc.1 hc.2.1 hc.2.2 q
theorem iop_shr : OpR X (inplaceOp .RShift) (rI (fun _ j => 0 ≤ j) fun i j => .int (i / 2 ^ j.toNat)) := opI fun i j _ _ _ _ _ hc q =>
  irshift_int hc (by rw [Int.fdiv_eq_ediv_of_nonneg i (two_pow_nn _)]; exact q)
theorem iop_and : OpR X (inplaceOp .BitAnd) (rI0 fun i j => .int (Builtin.bitAnd i j)) := opI0 fun _ _ _ _ _ _ _ q => iand_int q
theorem iop_or : OpR X (inplaceOp .BitOr) (rI0 fun i j => .int (Builtin.bitOr i j)) := opI0 fun _ _ _ _ _ _ _ q => ior_int q
theorem iop_xor : OpR X (inplaceOp .BitXor) (rI0 fun i j => .int (Builtin.bitXor i j)) := opI0 fun _ _ _ _ _ _ _ q => ixor_int q

theorem unI {f : Value → Sem Value} {g : Int → Int}
    (rule : ∀ (i : Int) (t : Tok) (s : Shared) (Q : Value → Shared → Prop) (E : Value → Shared → Prop), Q (.int (g i) s.toks) { s with toks := s.toks + 1 } → wpAny (model X.prog X.w) X.A (f (.int i t)) Q E s) :
    UnR X f (rU fun i => .int (g i)) := by
  intro pins s σ H x v Q I rx h
  obtain ⟨i, rfl, q⟩ := h
  obtain ⟨t, rfl⟩ := rx
  exact rule i t s _ _ ⟨.int (g i), H, I.tok _, ⟨_, rfl⟩, q⟩
theorem un_neg : UnR X (unaryOp .USub) (rU fun i => .int (-i)) := unI fun _ _ _ _ _ q => neg_int q
theorem un_inv : UnR X (unaryOp .Invert) (rU fun i => .int (Builtin.bitNot i)) := unI fun _ _ _ _ _ q => invert_int q

/-! ### bools among ints: n += (a < b) -/
theorem op_add_ib : OpR X (binaryOp .Add) (fun x y H Q => ∃ i k, x = .int i ∧ y = .bl k ∧ Q (.int (i + b2i k)) H) := by
  intro pins s σ H x y v u Q I rx ry h
  obtain ⟨i, k, rfl, rfl, q⟩ := h
  obtain ⟨t, rfl⟩ := rx
  cases ry
  exact add_int_bool ⟨.int (i + b2i k), H, I.tok _, ⟨_, rfl⟩, q⟩
end

/-! ### comparisons -/
/-- the scalars that == tells apart as data does -/
def scal : V → V → Bool
  | .non, .non => true | .non, .int _ => true | .int _, .non => true | .non, .bl _ => true | .bl _, .non => true | .non, .str _ => true | .str _, .non => true
  | .int _, .int _ => true | .bl _, .bl _ => true | .str _, .str _ => true | .byt _, .byt _ => true
  | .int _, .str _ => true | .str _, .int _ => true | .bl _, .str _ => true | .str _, .bl _ => true
  | _, _ => false
def rEq : R2 := fun x y H Q => scal x y = true ∧ Q (.bl (decide (x = y))) H
def rNe : R2 := fun x y H Q => scal x y = true ∧ Q (.bl (!decide (x = y))) H

theorem dec_int {i j : Int} : decide (V.int i = V.int j) = (i == j) := by
  rw [Bool.eq_iff_iff]
  simp
theorem dec_bl {i j : Bool} : decide (V.bl i = V.bl j) = (i == j) := by
  rw [Bool.eq_iff_iff]
  simp
theorem dec_str {i j : Str} : decide (V.str i = V.str j) = (i == j) := by
  rw [Bool.eq_iff_iff]
  simp
theorem dec_byt {i j : Array UInt8} : decide (V.byt i = V.byt j) = (i.toList == j.toList) := by
  rw [Bool.eq_iff_iff]
  cases i
  cases j
  simp

section
variable {X : Cx} {a b c : Expr} {ta tb tc : TE} {pos : Pos}
theorem fin_bl {pins : List (Addr × Obj)} {σ : St} {H : Hp} {s : Shared} {Q : VK} {k k' : Bool} (I : Inv X pins σ H s) (q : Q (.bl k) H) (e : k = k') : EP X pins σ Q (.bool k') s := by
  subst e
  exact ⟨.bl k, H, I, rfl, q⟩
theorem op_eq : OpR X (compareOp .Eq) rEq := by
  intro pins s σ H x y v u Q I rx ry h
  obtain ⟨hs, q⟩ := h
  cases x with
  | non =>
    cases rx
    cases y with
    | non => cases ry; exact PySem.EqNone.eq_none_none (fin_bl I q (by simp))
    | bl j => cases ry; exact PySem.EqNone.eq_none_bool (fin_bl I q (by simp))
    | int j => obtain ⟨t', rfl⟩ := ry; exact PySem.EqNone.eq_none_int (fin_bl I q (by simp))
    | str j => obtain ⟨t', rfl⟩ := ry; exact PySem.EqNone.eq_none_str (fin_bl I q (by simp))
    | _ => exact absurd (show false = true from hs) Bool.false_ne_true
  | bl i =>
    cases rx
    cases y with
    | non => cases ry; exact PySem.EqNone.eq_bool_none (fin_bl I q (by simp))
    | bl j => cases ry; exact eq_bool (fin_bl I q dec_bl)
    | str j => obtain ⟨t', rfl⟩ := ry; exact PySem.EqMixed.eq_bool_str (fin_bl I q (by simp))
    | _ => exact absurd (show false = true from hs) Bool.false_ne_true
  | int i =>
    obtain ⟨t, rfl⟩ := rx
    cases y with
    | non => cases ry; exact PySem.EqNone.eq_int_none (fin_bl I q (by simp))
    | int j => obtain ⟨t', rfl⟩ := ry; exact eq_int (fin_bl I q dec_int)
    | str j => obtain ⟨t', rfl⟩ := ry; exact PySem.EqMixed.eq_int_str (fin_bl I q (by simp))
    | _ => exact absurd (show false = true from hs) Bool.false_ne_true
  | str i =>
    obtain ⟨t, rfl⟩ := rx
    cases y with
    | non => cases ry; exact PySem.EqNone.eq_str_none (fin_bl I q (by simp))
    | bl j => cases ry; exact PySem.EqMixed.eq_str_bool (fin_bl I q (by simp))
    | int j => obtain ⟨t', rfl⟩ := ry; exact PySem.EqMixed.eq_str_int (fin_bl I q (by simp))
    | str j => obtain ⟨t', rfl⟩ := ry; exact eq_str (fin_bl I q dec_str)
    | _ => exact absurd (show false = true from hs) Bool.false_ne_true
  | byt i =>
    obtain ⟨t, rfl⟩ := rx
    cases y with
    | byt j => obtain ⟨t', rfl⟩ := ry; exact PySem.W.eq_bytes (fin_bl I q dec_byt)
    | _ => exact absurd (show false = true from hs) Bool.false_ne_true
  | _ => cases y <;> exact absurd (show false = true from hs) Bool.false_ne_true
theorem op_ne : OpR X (compareOp .NotEq) rNe := by
  intro pins s σ H x y v u Q I rx ry h
  obtain ⟨hs, q⟩ := h
  cases x with
  | non =>
    cases rx
    cases y with
    | non => cases ry; exact PySem.EqNone.ne_none_none (fin_bl I q (by simp))
    | bl j => cases ry; exact PySem.EqNone.ne_none_bool (fin_bl I q (by simp))
    | int j => obtain ⟨t', rfl⟩ := ry; exact PySem.EqNone.ne_none_int (fin_bl I q (by simp))
    | str j => obtain ⟨t', rfl⟩ := ry; exact PySem.EqNone.ne_none_str (fin_bl I q (by simp))
    | _ => exact absurd (show false = true from hs) Bool.false_ne_true
  | bl i =>
    cases rx
    cases y with
    | non => cases ry; exact PySem.EqNone.ne_bool_none (fin_bl I q (by simp))
    | bl j => cases ry; exact ne_bool (fin_bl I q (congrArg not dec_bl))
    | str j => obtain ⟨t', rfl⟩ := ry; exact PySem.EqMixed.ne_bool_str (fin_bl I q (by simp))
    | _ => exact absurd (show false = true from hs) Bool.false_ne_true
  | int i =>
    obtain ⟨t, rfl⟩ := rx
    cases y with
    | non => cases ry; exact PySem.EqNone.ne_int_none (fin_bl I q (by simp))
    | int j => obtain ⟨t', rfl⟩ := ry; exact ne_int (fin_bl I q (congrArg not dec_int))
    | str j => obtain ⟨t', rfl⟩ := ry; exact PySem.EqMixed.ne_int_str (fin_bl I q (by simp))
    | _ => exact absurd (show false = true from hs) Bool.false_ne_true
  | str i =>
    obtain ⟨t, rfl⟩ := rx
    cases y with
    | non => cases ry; exact PySem.EqNone.ne_str_none (fin_bl I q (by simp))
    | bl j => cases ry; exact PySem.EqMixed.ne_str_bool (fin_bl I q (by simp))
    | int j => obtain ⟨t', rfl⟩ := ry; exact PySem.EqMixed.ne_str_int (fin_bl I q (by simp))
    | str j => obtain ⟨t', rfl⟩ := ry; exact ne_str (fin_bl I q (congrArg not dec_str))
    | _ => exact absurd (show false = true from hs) Bool.false_ne_true
  | byt i =>
    obtain ⟨t, rfl⟩ := rx
    cases y with
    | byt j => obtain ⟨t', rfl⟩ := ry; exact PySem.W.ne_bytes (fin_bl I q (congrArg not dec_byt))
    | _ => exact absurd (show false = true from hs) Bool.false_ne_true
  | _ => cases y <;> exact absurd (show false = true from hs) Bool.false_ne_true

theorem op_lt : OpR X (compareOp .Lt) (rI0 fun i j => .bl (decide (i < j))) := opB0 fun _ _ _ _ _ _ _ q => lt_int q
theorem op_le : OpR X (compareOp .LtE) (rI0 fun i j => .bl (decide (i ≤ j))) := opB0 fun _ _ _ _ _ _ _ q => le_int q
theorem op_gt : OpR X (compareOp .Gt) (rI0 fun i j => .bl (decide (j < i))) := opB0 fun _ _ _ _ _ _ _ q => gt_int q
theorem op_ge : OpR X (compareOp .GtE) (rI0 fun i j => .bl (decide (j ≤ i))) := opB0 fun _ _ _ _ _ _ _ q => ge_int q
theorem op_lt_str : OpR X (compareOp .Lt) (fun x y H Q => ∃ i j, x = .str i ∧ y = .str j ∧ Q (.bl (decide (i.cps.toList < j.cps.toList))) H) := by
  intro pins s σ H x y v u Q I rx ry h
  obtain ⟨i, j, rfl, rfl, q⟩ := h
  obtain ⟨t, rfl⟩ := rx
  obtain ⟨t', rfl⟩ := ry
  exact lt_str (fin_bl I q rfl)
/-- the one string within the other -/
theorem op_in_str : OpR X (compareOp .In) (fun x y H Q => ∃ i j, x = .str i ∧ y = .str j ∧ Q (.bl (!(Builtin.Str.occurrences j i 0 j.length 1).isEmpty)) H) := by
  intro pins s σ H x y v u Q I rx ry h
  obtain ⟨i, j, rfl, rfl, q⟩ := h
  obtain ⟨t, rfl⟩ := rx
  obtain ⟨t', rfl⟩ := ry
  exact in_str (fin_bl I q rfl)

/-- is None, is not None: the right side a value none -/
theorem op_isN : OpR X (compareOp .Is) (fun x y H Q => y = .non ∧ Q (.bl (decide (x = .non))) H) := by
  intro pins s σ H x y v u Q I rx ry h
  obtain ⟨rfl, q⟩ := h
  cases ry
  refine is_none_gen (fin_bl I q ?_)
  cases x <;> first
    | (cases rx; rfl)
    | (obtain ⟨t, rfl⟩ := rx; rfl)
theorem op_notN : OpR X (compareOp .IsNot) (fun x y H Q => y = .non ∧ Q (.bl (!decide (x = .non))) H) := by
  intro pins s σ H x y v u Q I rx ry h
  obtain ⟨rfl, q⟩ := h
  cases ry
  refine isnot_none_gen (fin_bl I q ?_)
  cases x <;> first
    | (cases rx; rfl)
    | (obtain ⟨t, rfl⟩ := rx; rfl)

theorem op_notin_str : OpR X (compareOp .NotIn) (fun x y H Q => ∃ i j, x = .str i ∧ y = .str j ∧ Q (.bl (!(!(Builtin.Str.occurrences j i 0 j.length 1).isEmpty))) H) := by
  intro pins s σ H x y v u Q I rx ry h
  obtain ⟨i, j, rfl, rfl, q⟩ := h
  obtain ⟨t, rfl⟩ := rx
  obtain ⟨t', rfl⟩ := ry
  exact notIn_str (fin_bl I q rfl)
/-- is, is not of two objects that are tracked lists or instances -/
def isObj : HO → Bool
  | .lst _ => true
  | .ins _ _ _ => true
  | _ => false
theorem obj_there {pins : List (Addr × Obj)} {s : Shared} {σ : St} {H : Hp} {a : Addr} {o : HO} (I : Inv X pins σ H s) (h : H a = some o) (p : isObj o = true) : ∃ ob, s.heap.get? a = some ob ∧ ob.cls ≠ .type "tuple" := by
  cases o with
  | lst xs =>
    obtain ⟨_, its, n, _, e⟩ : xs.length ≤ sizeLine ∧ ∃ (its : List Value) (n : Nat), Vals xs its ∧ s.heap.get? a = some { cls := .type "list", data := .seq its.toArray n } := I.hok a _ h
    exact ⟨_, e, (by show Value.type "list" ≠ .type "tuple"; decide +kernel)⟩
  | ins C dx fs =>
    have x := I.hok a _ h
    obtain ⟨_, _, _, e, _⟩ := x
    exact ⟨_, e, (by show Value.ref C ≠ .type "tuple"; exact fun z => by cases z)⟩
  | _ => exact absurd (show false = true from p) Bool.false_ne_true
theorem op_is_ref : OpR X (compareOp .Is) (fun x y H Q => ∃ a b oa ob, x = .ref a ∧ y = .ref b ∧ H a = some oa ∧ isObj oa = true ∧ H b = some ob ∧ isObj ob = true ∧ Q (.bl (decide (a = b))) H) := by
  intro pins s σ H x y v u Q I rx ry h
  obtain ⟨a, b, oa, ob, rfl, rfl, ha, pa, hb, pb, q⟩ := h
  cases rx
  cases ry
  obtain ⟨o1, e1, n1⟩ := obj_there I ha pa
  obtain ⟨o2, e2, _⟩ := obj_there I hb pb
  by_cases z : a = b
  · subst z
    exact wpAny_is_ref_self (fin_bl I q (by simp))
  · exact wpAny_is_ref_other z e1 e2 n1 (fin_bl I q (by simp [z]))
theorem op_isnot_ref : OpR X (compareOp .IsNot) (fun x y H Q => ∃ a b oa ob, x = .ref a ∧ y = .ref b ∧ H a = some oa ∧ isObj oa = true ∧ H b = some ob ∧ isObj ob = true ∧ Q (.bl (!decide (a = b))) H) := by
  intro pins s σ H x y v u Q I rx ry h
  obtain ⟨a, b, oa, ob, rfl, rfl, ha, pa, hb, pb, q⟩ := h
  cases rx
  cases ry
  obtain ⟨o1, e1, n1⟩ := obj_there I ha pa
  obtain ⟨o2, e2, _⟩ := obj_there I hb pb
  by_cases z : a = b
  · subst z
    exact wpAny_isNot_ref_self (fin_bl I q (by simp))
  · exact wpAny_isNot_ref_other z e1 e2 n1 (fin_bl I q (by simp [z]))

/-- two rules for one operation: by cases -/
theorem OpR.or {f : Value → Value → Sem Value} {r r' : R2} (h : OpR X f r) (h' : OpR X f r') : OpR X f (fun x y H Q => r x y H Q ∨ r' x y H Q) := by
  intro pins s σ H x y v u Q I rx ry q
  rcases q with q | q
  · exact h pins s σ H x y v u Q I rx ry q
  · exact h' pins s σ H x y v u Q I rx ry q

theorem nomark (b : Expr) {op : CmpOp} (h : op ≠ .In := by decide) (h2 : op ≠ .NotIn := by decide) : behindInMarks op b = false := by
  have e1 : (op == CmpOp.In) = false := by cases op <;> first | rfl | exact absurd rfl h
  have e2 : (op == CmpOp.NotIn) = false := by cases op <;> first | rfl | exact absurd rfl h2
  cases b <;> simp [behindInMarks, e1, e2]
/-- a comparison as a value; hm: nomark b, or (for in, not in) by with_unfolding_all rfl -/
theorem pe_cmpR {op : CmpOp} {r : R2} (ho : OpR X (compareOp op) r) (ha : PE X a ta) (hb : PE X b tb) (hm : behindInMarks op b = false) : PE X (.Compare a [op] [b] pos) (tOp r ta tb) := by
  intro pins s σ H Q I h
  exact wpAny_Compare1 (binT ha hb I h fun v u s2 x y H2 I2 rx ry q => ho pins s2 σ H2 x y v u Q I2 rx ry q) hm
/-- a reading of a value as a test -/
def tTest (t : TE) : TT := fun σ H Q => t σ H fun x H' => ∃ k, x = .bl k ∧ Q k H'
theorem pt_cmpR {op : CmpOp} {r : R2} (ho : OpR X (compareOp op) r) (ha : PE X a ta) (hb : PE X b tb) (hm : behindInMarks op b = false) : PT X (.Compare a [op] [b] pos) (tTest (tOp r ta tb)) := by
  intro pins s σ H Q I h
  refine wpAny_isTrue_Compare1 (thn (ha pins s σ H _ I h) fun v s1 ⟨x, H1, I1, r1, q1⟩ => thn (hb pins s1 σ H1 _ I1 q1) fun u s2 ⟨y, H2, I2, r2, q2⟩ =>
    thn (ho pins s2 σ H2 x y v u _ I2 r1 r2 q2) fun c s3 ⟨z, H3, I3, r3, k, e, q3⟩ => ?_) hm
  subst e
  cases r3
  exact wpAny_truthy_bool ⟨H3, I3, q3⟩
/-- a op1 b op2 c -/
def tChain (r r' : R2) (ta tb tc : TE) : TE := fun σ H Q => ta σ H fun x H1 => tb σ H1 fun y H2 => r x y H2 fun z H3 => ∃ k, z = .bl k ∧
  (if k = true then tc σ H3 fun w' H4 => r' y w' H4 Q else Q (.bl false) H3)
theorem pe_chain {op op' : CmpOp} {r r' : R2} (ho : OpR X (compareOp op) r) (ho' : OpR X (compareOp op') r') (ha : PE X a ta) (hb : PE X b tb) (hc : PE X c tc)
    (hm : lastMarks [op, op'] [b, c] = false := by with_unfolding_all rfl) : PE X (.Compare a [op, op'] [b, c] pos) (tChain r r' ta tb tc) := by
  intro pins s σ H Q I h
  refine Compare_chain (thn (ha pins s σ H _ I h) fun v s1 ⟨x, H1, I1, r1, q1⟩ => chain_link (thn (hb pins s1 σ H1 _ I1 q1) fun u s2 ⟨y, H2, I2, r2, q2⟩ =>
    thn (ho pins s2 σ H2 x y v u _ I2 r1 r2 q2) fun d s3 ⟨z, H3, I3, r3, k, e, q3⟩ => ?_)) hm
  subst e
  cases r3
  refine wpAny_truthy_bool ?_
  cases k with
  | false => exact ite_ff ⟨.bl false, H3, I3, rfl, q3⟩
  | true => exact ite_tt (chain_last (thn (hc pins s3 σ H3 _ I3 q3) fun w' s4 ⟨z', H4, I4, r4, q4⟩ => ho' pins s4 σ H4 y z' u w' Q I4 r2 r4 q4))
theorem pt_chain {op op' : CmpOp} {r r' : R2} (ho : OpR X (compareOp op) r) (ho' : OpR X (compareOp op') r') (ha : PE X a ta) (hb : PE X b tb) (hc : PE X c tc)
    (hm : lastMarks [op, op'] [b, c] = false := by with_unfolding_all rfl) : PT X (.Compare a [op, op'] [b, c] pos) (tTest (tChain r r' ta tb tc)) := by
  intro pins s σ H Q I h
  refine isTrue_chain (thn (ha pins s σ H _ I h) fun v s1 ⟨x, H1, I1, r1, q1⟩ => test_link (thn (hb pins s1 σ H1 _ I1 q1) fun u s2 ⟨y, H2, I2, r2, q2⟩ =>
    thn (ho pins s2 σ H2 x y v u _ I2 r1 r2 q2) fun d s3 ⟨z, H3, I3, r3, k, e, q3⟩ => ?_)) hm
  subst e
  cases r3
  refine wpAny_truthy_bool ?_
  cases k with
  | false =>
    obtain ⟨k', e', q'⟩ := q3
    cases e'
    exact ite_ff ⟨H3, I3, q'⟩
  | true =>
    refine ite_tt (test_last (thn (hc pins s3 σ H3 _ I3 q3) fun w' s4 ⟨z', H4, I4, r4, q4⟩ => thn (ho' pins s4 σ H4 y z' u w' _ I4 r2 r4 q4) fun d' s5 ⟨z2, H5, I5, r5, k2, e2, q5⟩ => ?_))
    subst e2
    cases r5
    exact wpAny_truthy_bool ⟨H5, I5, q5⟩

/-! ### truth -/
/-- a value's truth by the abstract heap -/
def TruV (K : PySem.W.Frag) (x : V) (H : Hp) (k : Bool) : Prop :=
  match x with
  | .non => k = false
  | .bl b => k = b
  | .int i => k = (i != 0)
  | .str y => y.length ≤ sizeLine ∧ k = ((y.length : Int) != 0)
  | .byt y => y.size ≤ sizeLine ∧ k = ((y.size : Int) != 0)
  | .ref p => (∃ xs, SqL K H p xs ∧ k = !xs.isEmpty) ∨ (∃ xs, SqT K H p xs ∧ k = !xs.isEmpty) ∨ ∃ kvs, H p = some (.dK kvs) ∧ k = !kvs.isEmpty
  | _ => False
theorem isEmpty_kv {κ : Type} {kvs : List (κ × V)} {vs : List (κ × Value)} (r : KV kvs vs) : (!vs.isEmpty) = !kvs.isEmpty := by
  cases r <;> rfl
theorem isEmpty_of {xs : List V} {its : List Value} (r : Vals xs its) : (!its.toArray.isEmpty) = !xs.isEmpty := by
  cases r <;> simp
theorem line63 : (sizeLine : Nat) < 2 ^ 63 := by rw [sizeLine_eq]; decide
theorem tru_ok : TruR X (fun x H Q => ∃ k, TruV X.K x H k ∧ Q k H) := by
  intro pins s σ H x v Q I rx h
  obtain ⟨k, e, q⟩ := h
  have hl := line63
  have hs : sizeLine = 16777216 := sizeLine_eq
  cases x with
  | non =>
    cases rx
    have e' : k = false := e
    subst e'
    exact truthy_none ⟨H, I, q⟩
  | bl b =>
    cases rx
    have e' : k = b := e
    subst e'
    exact wpAny_truthy_bool ⟨H, I, q⟩
  | int i =>
    obtain ⟨t, rfl⟩ := rx
    have e' : k = (i != 0) := e
    subst e'
    exact PySem.P.truthy_int ⟨H, I, q⟩
  | str y =>
    obtain ⟨t, rfl⟩ := rx
    obtain ⟨hy, e'⟩ : y.length ≤ sizeLine ∧ k = ((y.length : Int) != 0) := e
    subst e'
    exact PySem.P.truthy_str (by omega) ⟨H, I.tok _, q⟩
  | byt y =>
    obtain ⟨t, rfl⟩ := rx
    obtain ⟨hy, e'⟩ : y.size ≤ sizeLine ∧ k = ((y.size : Int) != 0) := e
    subst e'
    exact PySem.W.truthy_bytes (by omega) ⟨H, I.tok _, q⟩
  | ref p =>
    cases rx
    have e' : (∃ xs, SqL X.K H p xs ∧ k = !xs.isEmpty) ∨ (∃ xs, SqT X.K H p xs ∧ k = !xs.isEmpty) ∨ ∃ kvs, H p = some (.dK kvs) ∧ k = !kvs.isEmpty := e
    rcases e' with ⟨xs, hx, e'⟩ | ⟨xs, hx, e'⟩ | ⟨kvs, hx, e'⟩
    · subst e'
      obtain ⟨its, r, pl, hz⟩ := I.list hx
      have hlen := r.length
      exact wpAny_truthy_list pl.isList (by simp only [List.size_toArray]; omega) ⟨H, I.tok _, by rw [isEmpty_of r]; exact q⟩
    · subst e'
      obtain ⟨its, r, pl, hz⟩ := I.tuple hx
      have hlen := r.length
      exact truthy_tuple pl (by simp only [List.size_toArray]; omega) ⟨H, I.tok _, by rw [isEmpty_of r]; exact q⟩
    · subst e'
      obtain ⟨hz, hS, vs, r, m⟩ : kvs.length ≤ sizeLine ∧ (p == sysModules) = false ∧ ∃ vs, KV kvs vs ∧ s.heap.DictOf (mixKind X.prog X.w) p vs := I.hok p _ hx
      have hlen : kvs.length = vs.length := Paired.length r
      exact wpAny_truthy_dict hS m (by omega) ⟨H, I.tok _, by rw [isEmpty_kv r]; exact q⟩
  | _ => exact (show False from e).elim
/-- any expression whose test is its value's truth (a name, a call, a subscript, a field ..: he by fun _ => rfl) -/
theorem pt_truth (ha : PE X a ta) (he : ∀ whole, isTrue a X.env whole = (do let v ← whole; standAt a.pos; holding [v] (truthy v))) :
    PT X a (fun σ H Q => ta σ H fun x H' => ∃ k, TruV X.K x H' k ∧ Q k H') := by
  intro pins s σ H Q I h
  exact isTrue_plain (thn (ha pins s σ H _ I h) fun v s1 ⟨x, H1, I1, r1, q1⟩ => tru_ok pins s1 σ H1 x v Q I1 r1 q1) (he _)

/-! ### strs and bytes -/
theorem pe_byt {x : List UInt8} {k : Nat} : PE X (.Constant (.bytes x) k pos) (fun _ H Q => Q (.byt x.toArray) H) := fun _ _ _ H _ I h => PySem.W.Constant_bytes ⟨.byt x.toArray, H, I.tok _, ⟨_, rfl⟩, h⟩
theorem op_add_str : OpR X (binaryOp .Add) (fun x y H Q => ∃ i j, x = .str i ∧ y = .str j ∧ i.length + j.length ≤ sizeLine ∧ Q (.str (i ++ j)) H) := by
  intro pins s σ H x y v u Q I rx ry h
  obtain ⟨i, j, rfl, rfl, hz, q⟩ := h
  obtain ⟨t, rfl⟩ := rx
  obtain ⟨t', rfl⟩ := ry
  exact add_str (fun t' tk => ⟨.str (i ++ j), H, I.tok _, ⟨_, rfl⟩, q⟩) hz
theorem iop_add_str : OpR X (inplaceOp .Add) (fun x y H Q => ∃ i j, x = .str i ∧ y = .str j ∧ i.length + j.length ≤ sizeLine ∧ Q (.str (i ++ j)) H) := by
  intro pins s σ H x y v u Q I rx ry h
  obtain ⟨i, j, rfl, rfl, hz, q⟩ := h
  obtain ⟨t, rfl⟩ := rx
  obtain ⟨t', rfl⟩ := ry
  exact iadd_str (fun t' tk => ⟨.str (i ++ j), H, I.tok _, ⟨_, rfl⟩, q⟩) hz
theorem op_add_byt : OpR X (binaryOp .Add) (fun x y H Q => ∃ i j, x = .byt i ∧ y = .byt j ∧ i.size + j.size ≤ 16777216 ∧ Q (.byt (i ++ j)) H) := by
  intro pins s σ H x y v u Q I rx ry h
  obtain ⟨i, j, rfl, rfl, hz, q⟩ := h
  obtain ⟨t, rfl⟩ := rx
  obtain ⟨t', rfl⟩ := ry
  exact PySem.W.KBy.add_bytes hz (fun t' tk => ⟨.byt (i ++ j), H, I.tok _, ⟨_, rfl⟩, q⟩)

def PlainIxT (b : Expr) : Prop := ∀ o i, subscripted b false o i = operate [o, i] (getItem o i)
/-- s[i], 0 ≤ i < len -/
theorem pe_item_str (ha : PE X a ta) (hb : PE X b tb) (hs : PlainIxT b) :
    PE X (.Subscript a b pos) (tOp (fun x y H Q => ∃ z i c, x = .str z ∧ y = .int i ∧ 0 ≤ i ∧ i < 2 ^ 63 ∧ i < z.length ∧ z.cps[i.toNat]? = some c ∧ Q (.str ⟨#[c]⟩) H) ta tb) := by
  intro pins s σ H Q I h
  refine Subscript_ (binT ha hb I h fun v u s2 x y H2 I2 rx ry q => ?_)
  obtain ⟨z, i, c, rfl, rfl, h0, h63, h1, hc, q⟩ := q
  obtain ⟨t, rfl⟩ := rx
  obtain ⟨t', rfl⟩ := ry
  have e : seqIndex? i z.length = some i.toNat := PySem.StrLaws.seqIndex_nonneg h0 h1
  exact tail_any (typeIs_str s2 z t) slot_str_getitem.lookup (getItem_str (c := c) (by
    have e1 : decide (i < -(2 ^ 63 : Int)) = false := decide_eq_false (by omega)
    have e2 : decide (i ≥ 2 ^ 63) = false := decide_eq_false (by omega)
    rw [e1, e2] <;> rfl) (by rw [e]; exact hc) ⟨.str ⟨#[c]⟩, H2, I2.tok _, ⟨_, rfl⟩, q⟩) (hs _ _)
/-- b[i], 0 ≤ i < len -/
theorem pe_item_byt (ha : PE X a ta) (hb : PE X b tb) (hs : PlainIxT b) :
    PE X (.Subscript a b pos) (tOp (fun x y H Q => ∃ (z : List UInt8) (i : Int), x = .byt z.toArray ∧ y = .int i ∧ z.length ≤ sizeLine ∧ 0 ≤ i ∧ i < z.length ∧ Q (.int ((z.getD i.toNat 0).toNat : Nat)) H) ta tb) := by
  intro pins s σ H Q I h
  refine Subscript_ (binT ha hb I h fun v u s2 x y H2 I2 rx ry q => ?_)
  obtain ⟨z, i, rfl, rfl, hz, h0, h1, q⟩ := q
  obtain ⟨t, rfl⟩ := rx
  obtain ⟨t', rfl⟩ := ry
  have hl : sizeLine = 16777216 := sizeLine_eq
  exact tail_any (PySem.W.typeIs_bytes s2 z.toArray t) PySem.W.FB.slot_bytes_getitem.lookup (PySem.W.getItem_bytes (by omega) h0 h1 ⟨.int ((z.getD i.toNat 0).toNat : Nat), H2, I2.tok _, ⟨_, rfl⟩, q⟩) (hs _ _)

/-! ### scalar builtins, by CallR -/
theorem vals1 {x : V} {us : List Value} (r : Vals [x] us) : ∃ u, us = [u] ∧ RelV x u := by
  cases r with
  | cons r1 r2 => cases r2; exact ⟨_, rfl, r1⟩
theorem vals2 {x y : V} {us : List Value} (r : Vals [x, y] us) : ∃ u w', us = [u, w'] ∧ RelV x u ∧ RelV y w' := by
  cases r with
  | cons r1 r2 =>
    cases r2 with
    | cons r3 r4 => cases r4; exact ⟨_, _, rfl, r1, r3⟩
theorem call_abs : CallR X (.builtin "abs") (fun xs H Q => ∃ i, xs = [.int i] ∧ Q (.int (if i < 0 then -i else i)) H) := by
  intro pins s σ H xs us Q I r h
  obtain ⟨i, rfl, q⟩ := h
  obtain ⟨u, rfl, t, rfl⟩ := vals1 r
  exact call_abs_int fun u tk => ⟨.int (if i < 0 then -i else i), H, I.tok _, ⟨_, rfl⟩, q⟩
theorem call_max2 (hc : X.calm = true) : CallR X (.builtin "max") (fun xs H Q => ∃ i j, xs = [.int i, .int j] ∧ Q (.int (if j > i then j else i)) H) := by
  intro pins s σ H xs us Q I r h
  obtain ⟨i, j, rfl, q⟩ := h
  obtain ⟨u, w', rfl, ⟨t, rfl⟩, ⟨t', rfl⟩⟩ := vals2 r
  refine max_two_ints (I.ok.hd hc) fun h' tk k => ⟨_, H, I.kept k, ?_, q⟩
  by_cases hj : j > i
  · rw [if_pos hj, if_pos hj]; exact ⟨_, rfl⟩
  · rw [if_neg hj, if_neg hj]; exact ⟨_, rfl⟩
theorem call_min2 (hc : X.calm = true) : CallR X (.builtin "min") (fun xs H Q => ∃ i j, xs = [.int i, .int j] ∧ Q (.int (if j < i then j else i)) H) := by
  intro pins s σ H xs us Q I r h
  obtain ⟨i, j, rfl, q⟩ := h
  obtain ⟨u, w', rfl, ⟨t, rfl⟩, ⟨t', rfl⟩⟩ := vals2 r
  refine min_two_ints (I.ok.hd hc) fun h' tk k => ⟨_, H, I.kept k, ?_, q⟩
  by_cases hj : j < i
  · rw [if_pos hj, if_pos hj]; exact ⟨_, rfl⟩
  · rw [if_neg hj, if_neg hj]; exact ⟨_, rfl⟩
theorem call_int1 : CallR X (.type "int") (fun xs H Q => (∃ i, xs = [.int i] ∧ Q (.int i) H) ∨ ∃ k, xs = [.bl k] ∧ Q (.int (if k then 1 else 0)) H) := by
  intro pins s σ H xs us Q I r h
  rcases h with ⟨i, rfl, q⟩ | ⟨k, rfl, q⟩
  · obtain ⟨u, rfl, t, rfl⟩ := vals1 r
    exact call_int_int ⟨.int i, H, I, ⟨_, rfl⟩, q⟩
  · obtain ⟨u, rfl, r1⟩ := vals1 r
    cases r1
    exact call_int_bool ⟨.int (if k then 1 else 0), H, I.tok _, ⟨_, rfl⟩, q⟩
theorem call_bool1 : CallR X (.type "bool") (fun xs H Q => (∃ i, xs = [.int i] ∧ Q (.bl (i != 0)) H) ∨ ∃ k, xs = [.bl k] ∧ Q (.bl k) H) := by
  intro pins s σ H xs us Q I r h
  rcases h with ⟨i, rfl, q⟩ | ⟨k, rfl, q⟩
  · obtain ⟨u, rfl, t, rfl⟩ := vals1 r
    exact call_bool_int ⟨.bl (i != 0), H, I, rfl, q⟩
  · obtain ⟨u, rfl, r1⟩ := vals1 r
    cases r1
    exact call_bool_bool ⟨.bl k, H, I, rfl, q⟩
theorem call_str_int : CallR X (.type "str") (fun xs H Q => ∃ i, xs = [.int i] ∧ i.natAbs.log2 < 1920 ∧ Q (.str (toString i)) H) := by
  intro pins s σ H xs us Q I r h
  obtain ⟨i, rfl, hz, q⟩ := h
  obtain ⟨u, rfl, t, rfl⟩ := vals1 r
  exact PySem.P.str_of_int hz ⟨.str _, H, I.tok _, ⟨_, rfl⟩, q⟩
theorem call_ord : CallR X (.builtin "ord") (fun xs H Q => ∃ x, xs = [.str x] ∧ x.length = 1 ∧ Q (.int (x.cps.getD 0 0 : Nat)) H) := by
  intro pins s σ H xs us Q I r h
  obtain ⟨x, rfl, hz, q⟩ := h
  obtain ⟨u, rfl, t, rfl⟩ := vals1 r
  exact ord_of_one hz ⟨.int _, H, I.tok _, ⟨_, rfl⟩, q⟩
theorem call_chr : CallR X (.builtin "chr") (fun xs H Q => ∃ i, xs = [.int i] ∧ 0 ≤ i ∧ i ≤ 1114111 ∧ Q (.str ⟨#[i.toNat]⟩) H) := by
  intro pins s σ H xs us Q I r h
  obtain ⟨i, rfl, h0, h1, q⟩ := h
  obtain ⟨u, rfl, t, rfl⟩ := vals1 r
  exact chr_of_range h0 h1 ⟨.str _, H, I.tok _, ⟨_, rfl⟩, q⟩
/-- len of a str, a bytes, a list, a tuple -/
def LenV (K : PySem.W.Frag) (x : V) (H : Hp) (n : Nat) : Prop :=
  match x with
  | .str y => y.length ≤ sizeLine ∧ n = y.length
  | .byt y => y.size ≤ sizeLine ∧ n = y.size
  | .ref p => (∃ xs, SqL K H p xs ∧ n = xs.length) ∨ ∃ xs, SqT K H p xs ∧ n = xs.length
  | _ => False
theorem call_len : CallR X (.builtin "len") (fun xs H Q => ∃ x n, xs = [x] ∧ LenV X.K x H n ∧ Q (.int n) H) := by
  intro pins s σ H xs us Q I r h
  obtain ⟨x, n, rfl, e, q⟩ := h
  obtain ⟨u, rfl, rx⟩ := vals1 r
  have hl := line63
  have hs : sizeLine = 16777216 := sizeLine_eq
  cases x with
  | str y =>
    obtain ⟨t, rfl⟩ := rx
    obtain ⟨hy, e'⟩ : y.length ≤ sizeLine ∧ n = y.length := e
    subst e'
    exact len_str (by omega) ⟨.int _, H, I.tok _, ⟨_, rfl⟩, q⟩
  | byt y =>
    obtain ⟨t, rfl⟩ := rx
    obtain ⟨hy, e'⟩ : y.size ≤ sizeLine ∧ n = y.size := e
    subst e'
    exact PySem.W.len_bytes (by omega) ⟨.int _, H, I.tok _, ⟨_, rfl⟩, q⟩
  | ref p =>
    cases rx
    have e' : (∃ xs, SqL X.K H p xs ∧ n = xs.length) ∨ ∃ xs, SqT X.K H p xs ∧ n = xs.length := e
    rcases e' with ⟨xs, hx, e'⟩ | ⟨xs, hx, e'⟩
    · subst e'
      obtain ⟨its, r', pl, hz⟩ := I.list hx
      have hlen := r'.length
      exact Calls.call_len_list pl.isList (by simp only [List.size_toArray]; omega) ⟨.int xs.length, H, I.tok _, ⟨_, by simp only [List.size_toArray]; rw [hlen]⟩, q⟩
    · subst e'
      obtain ⟨its, r', pl, hz⟩ := I.tuple hx
      have hlen := r'.length
      exact len_tuple pl (by simp only [List.size_toArray]; omega) ⟨.int xs.length, H, I.tok _, ⟨_, by simp only [List.size_toArray]; rw [hlen]⟩, q⟩
  | _ => exact (show False from e).elim
/-- divmod: a new tuple -/
theorem call_divmod : CallR X (.builtin "divmod") (fun xs H Q => ∃ i j, xs = [.int i, .int j] ∧ CDiv i j ∧ ∀ p, H p = none → Q (.ref p) (upd H p (.tup [.int (i / j), .int (i % j)]))) := by
  intro pins s σ H xs us Q I r h
  obtain ⟨i, j, rfl, ⟨h1, h2⟩, q⟩ := h
  obtain ⟨u, w', rfl, ⟨t, rfl⟩, ⟨t', rfl⟩⟩ := vals2 r
  refine divmod_int (by omega) ?_ (.inl (PyProof.noPylong_small (by omega)))
  rw [Int.fdiv_eq_ediv_of_nonneg i (by omega), Int.fmod_eq_emod_of_nonneg i (by omega)]
  have hn : H s.heap.objs.size = none := I.hok.fresh (Nat.le_refl _)
  refine ⟨.ref s.heap.objs.size, _, ?_, rfl, q _ hn⟩
  refine I.laid (fun b o e => Heap.get?_push_of_some _ e) (Nat.le_refl _) ⟨by simp only [List.length_cons, List.length_nil]; rw [sizeLine_eq]; decide, [.int (i / j) s.toks, .int (i % j) (s.toks + 1)], .cons ⟨_, rfl⟩ (.cons ⟨_, rfl⟩ .nil), ?_⟩
  exact ⟨_, Heap.get?_push_size s.heap rfl, rfl, 0, rfl⟩
end
end L2

namespace L2
open PySem PySem.Spec PyProof.Rows

/-! ### an instance, its attributes a map -/
structure ObjM (h : Heap) (x dx C : Addr) (mA : Str → Option Value) : Prop where
  obj : h.get? x = some (PySem.W.instObj C dx)
  ns : h.Ns1 dx mA
  ne : dx ≠ x

theorem lookIn_ns {h : Heap} {dx : Addr} {mA : Str → Option Value} (n : h.Ns1 dx mA) : ∃ od, h.get? dx = some od ∧ ∀ name, PySem.W.lookIn name od = some (mA name) := by
  obtain ⟨o, es, ep, ho, hd, hk, _, hm⟩ := n
  refine ⟨o, ho, fun name => ?_⟩
  have e := hm name
  unfold nsFind findBy at e
  rw [← Array.find?_toList] at e
  unfold PySem.W.lookIn
  rw [hd]
  dsimp only
  split
  · rename_i y q
    rw [q] at e
    exact congrArg some e
  · rename_i q
    rw [q] at e
    have a : es.toList.any (·.refKey) = false := by
      rw [List.any_eq_false]
      intro y hy
      obtain ⟨z, t, hkey⟩ := hk y (Array.mem_toList_iff.mp hy)
      simp [DictEntry.refKey, hkey]
    have a' : ¬ es.toList.any (·.refKey) = true := by rw [a]; exact Bool.false_ne_true
    rw [if_neg a']
    exact congrArg some e

theorem ObjM.look {h : Heap} {x dx C : Addr} {mA : Str → Option Value} (I : ObjM h x dx C mA) : ∃ od, PySem.W.InstAt h x (PySem.W.instObj C dx) C (some od) ∧ ∀ name, PySem.W.lookIn name od = some (mA name) :=
  let ⟨od, ho, hl⟩ := lookIn_ns I.ns
  ⟨od, ⟨I.obj, rfl, rfl, ho⟩, hl⟩

section
variable {prog : Program} {w : World} {A : Around} {E : Value → Shared → Prop} {s : Shared} {K : PySem.W.Frag} {x dx C f : Addr} {mA : Str → Option Value} {name : Str} {v : Value}

theorem get_map {expr : Bool} {Q : Value → Shared → Prop} (X : K.In s.heap) (I : ObjM s.heap x dx C mA) (hg : PySem.W.plainGet K C name = true) (hh : PySem.W.hasDictIn K C = true)
    (ha : PySem.W.findIn K (.ref C) name = some none) (hv : mA name = some v) (hv' : PySem.W.handedIn v = true) (h : Q v { s with toks := s.toks + 1 }) :
    wpAny (model prog w) A (getAttr (.ref x) name expr) Q E s := by
  obtain ⟨od, J, hl⟩ := I.look
  exact PySem.W.get_value X J (PySem.W.plainGet_of hg).1 (PySem.W.findObj_own hh ha rfl (by rw [hl, hv])) hv' h

theorem get_const {expr : Bool} {a : Value} {Q : Value → Shared → Prop} (X : K.In s.heap) (I : ObjM s.heap x dx C mA) (hg : PySem.W.plainGet K C name = true) (hh : PySem.W.hasDictIn K C = true)
    (ha : PySem.W.findIn K (.ref C) name = some (some a)) (hn : PySem.W.specialIn K a "__get__" = some none) (hc : PySem.W.copiedNames.contains name = false) (hv : mA name = none) (hv' : PySem.W.handedIn a = true)
    (h : Q a { s with toks := s.toks + 1 }) : wpAny (model prog w) A (getAttr (.ref x) name expr) Q E s := by
  obtain ⟨od, J, hl⟩ := I.look
  exact PySem.W.get_value X J (PySem.W.plainGet_of hg).1 (PySem.W.findObj_cls hh ha hn hv' hc (by rw [hl, hv])) hv' h

theorem get_meth {pl : Sem Bool} {Q : Value × List Value → Shared → Prop} (X : K.In s.heap) (I : ObjM s.heap x dx C mA) (hg : PySem.W.plainGet K C name = true)
    (hf : PySem.W.findIn K (.ref C) name = some (some (.ref f))) (ht : PySem.W.isFn K (.ref f) = true) (hv : mA name = none) (h : Q (.ref f, [.ref x]) s) :
    wpAny (model prog w) A (getMethod (.ref x) name pl) Q E s := by
  obtain ⟨od, J, hl⟩ := I.look
  exact PySem.W.method_fn X J (PySem.W.plainGet_of hg).1 (PySem.W.plainGet_of hg).2 hf (beq_iff_eq.mp ht) (by show (PySem.W.lookIn name od).map (·.isSome) = some false; rw [hl, hv]; rfl) h

theorem set_map {ns : List Str} {Q : Unit → Shared → Prop} (X : K.In s.heap) (I : ObjM s.heap x dx C mA)
    (hs : PySem.W.findIn K (.ref C) "__setattr__" = some (some (.builtin "object.__setattr__"))) (hp : PySem.W.plainOver K C = true) (ht : PySem.W.takerIn K C name = some none) (hh : PySem.W.hasDictIn K C = true)
    (hw : PySem.Within mA ns) (hsz : ns.length ≤ sizeLine)
    (h : ∀ h', ObjM h' x dx C (fun y => if y = name then some v else mA y) → Heap.SameBut dx s.heap h' → Q () { s with heap := h', toks := s.toks + 2 }) :
    wpAny (model prog w) A (setAttr (.ref x) name v) Q E s := by
  obtain ⟨od, J, hl⟩ := I.look
  refine PySem.W.set_plain X J hs (PySem.W.osa_open (s := { s with toks := s.toks + 1 }) (r := none) X J hp ht fun b => ?_)
  obtain ⟨cd, hc, hd'⟩ := PySem.W.any_some hh
  have hx : s.heap.get? x = some ⟨.ref C, some dx, .plain, #[]⟩ := I.obj
  refine wpAny_bind (wpAny_pure (wpAny_bind (wpAny_bind (wpAny_loadPart hx (wpAny_bind (PySem.W.Looks.here (s := { s with toks := s.toks + 1 }) (PySem.W.looks_clsIn X hc) ?_))))))
  rw [hd']
  refine wpAny_pure (a := some dx) (wpAny_bind (wpAny_pure (wpAny_bind ?_)))
  refine wpAny_nsSet1 (s := { s with toks := s.toks + 1 }) I.ns fun h' hn2 hs2 => ?_
  obtain ⟨oD, esD, epD, hoD, hdD, hcD⟩ := hn2.count (PySem.Within.cons name v hw)
  refine wpAny_bind (wpAny_lookBehind hoD (by rw [hdD]; exact pastItsLine_dict (Nat.le_trans hcD (by rw [List.length_cons]; omega))) ?_)
  exact wpAny_pure (h _ ⟨(hs2.2 _ (Ne.symm I.ne)).trans I.obj, hn2, I.ne⟩ hs2)

/-- C(..): the dict at the heap's end, the instance behind it; then its __init__ -/
theorem make_map {R : Result → Shared → Prop} {vs : List Value} {kw : List (Str × Value)} (X : K.In s.heap) (hm : PySem.W.makesIn K C = true)
    (hi : PySem.W.findIn K (.ref C) "__init__" = some (some (.ref f))) (hf : PySem.W.typeIn K (.ref f) = some (.type "function"))
    (h : codeAny (model prog w) (A.under (.builtin "type.__call__" ⟨.ref C :: vs, kw⟩)) (.call (.ref f) ⟨.ref (s.heap.objs.size + 1) :: vs, kw⟩) (PySem.W.InitBack (s.heap.objs.size + 1) R)
      { s with heap := (s.heap.push PySem.W.emptyDict).push (PySem.W.instObj C s.heap.objs.size) }) :
    codeAny (model prog w) A (.call (.ref C) ⟨vs, kw⟩) R s := by
  obtain ⟨hh, g, d, t, os⟩ := s
  exact PySem.W.make_core (PySem.W.makes_of X hm) (PySem.W.looks_findIn X hi) (fun self => PySem.W.bind_fn X self hf) (.inl rfl) h
/-- C() where there is no __init__ but object's -/
theorem make_map0 {R : Result → Shared → Prop} (X : K.In s.heap) (hm : PySem.W.makesIn K C = true)
    (hi : PySem.W.findIn K (.ref C) "__init__" = some (some (.builtin "object.__init__")))
    (hb : ∀ self, PySem.W.Looks (model prog w) s.heap (bindSpecial (.builtin "object.__init__") self) (.builtin "object.__init__", [self]))
    (h : codeAny (model prog w) (A.under (.builtin "type.__call__" ⟨[.ref C], []⟩)) (.call (.builtin "object.__init__") ⟨[.ref (s.heap.objs.size + 1)], []⟩) (PySem.W.InitBack (s.heap.objs.size + 1) R)
      { s with heap := (s.heap.push PySem.W.emptyDict).push (PySem.W.instObj C s.heap.objs.size) }) :
    codeAny (model prog w) A (.call (.ref C) ⟨[], []⟩) R s := by
  obtain ⟨hh, g, d, t, os⟩ := s
  exact PySem.W.make_core (PySem.W.makes_of X hm) (PySem.W.looks_findIn X hi) hb (.inr ⟨rfl, rfl⟩) h
end

/-! ### the attributes as a list of pairs -/
def putF (f : Str) (v : V) : List (Str × V) → List (Str × V)
  | [] => [(f, v)]
  | (g, x) :: r => if g = f then (g, v) :: r else (g, x) :: putF f v r
theorem lookup_putF (f g : Str) (v : V) : ∀ fs : List (Str × V), (putF f v fs).lookup g = if g = f then some v else fs.lookup g
  | [] => by
    show List.lookup g [(f, v)] = _
    by_cases h : g = f
    · have hb : (g == f) = true := beq_iff_eq.mpr h
      simp only [List.lookup, hb, if_pos h]
    · have hb : (g == f) = false := beq_eq_false_iff_ne.mpr h
      simp only [List.lookup, hb, if_neg h]
  | (k, x) :: r => by
    have ih := lookup_putF f g v r
    rw [show putF f v ((k, x) :: r) = (if k = f then (k, v) :: r else (k, x) :: putF f v r) from rfl]
    by_cases hk : k = f
    · rw [if_pos hk]
      by_cases h : g = k
      · have hb : (g == k) = true := beq_iff_eq.mpr h
        simp only [List.lookup, hb, if_pos (h.trans hk)]
      · have hb : (g == k) = false := beq_eq_false_iff_ne.mpr h
        simp only [List.lookup, hb, if_neg (fun e : g = f => h (e.trans hk.symm))]
    · rw [if_neg hk]
      by_cases h : g = k
      · have hb : (g == k) = true := beq_iff_eq.mpr h
        simp only [List.lookup, hb, if_neg (fun e : g = f => hk (h.symm.trans e))]
      · have hb : (g == k) = false := beq_eq_false_iff_ne.mpr h
        simp only [List.lookup, hb]
        exact ih
theorem keys_putF (f : Str) (v : V) : ∀ fs : List (Str × V), f ∈ (putF f v fs).map (·.1) ∧ ∀ g, g ∈ fs.map (·.1) → g ∈ (putF f v fs).map (·.1)
  | [] => ⟨by simp [putF], fun g h => by simp at h⟩
  | (k, x) :: r => by
    obtain ⟨i1, i2⟩ := keys_putF f v r
    rw [show putF f v ((k, x) :: r) = (if k = f then (k, v) :: r else (k, x) :: putF f v r) from rfl]
    by_cases hk : k = f
    · rw [if_pos hk]
      subst hk
      exact ⟨by simp, fun g h => by simpa using h⟩
    · rw [if_neg hk]
      refine ⟨?_, fun g h => ?_⟩
      · rw [List.map_cons]
        exact List.mem_cons_of_mem _ i1
      · rw [List.map_cons] at h ⊢
        rcases List.mem_cons.mp h with e | e
        · exact List.mem_cons.mpr (.inl e)
        · exact List.mem_cons_of_mem _ (i2 g e)
theorem length_putF (f : Str) (v : V) : ∀ fs : List (Str × V), (putF f v fs).length ≤ fs.length + 1
  | [] => by simp [putF]
  | (k, x) :: r => by
    have ih := length_putF f v r
    rw [show putF f v ((k, x) :: r) = (if k = f then (k, v) :: r else (k, x) :: putF f v r) from rfl]
    by_cases hk : k = f
    · rw [if_pos hk, List.length_cons, List.length_cons]; omega
    · rw [if_neg hk, List.length_cons, List.length_cons]; omega

theorem RelO.some_of {v : V} {o : Option Value} (r : RelO (some v) o) : ∃ u, o = some u ∧ RelV v u := by
  cases o with
  | none => exact (show False from r).elim
  | some u => exact ⟨u, rfl, r⟩
theorem RelO.none_of {o : Option Value} (r : RelO none o) : o = none := by
  cases o with
  | none => rfl
  | some u => exact (show False from r).elim
theorem handed_of {v : V} {u : Value} (r : RelV v u) : PySem.W.handedIn u = true := by
  cases v with
  | non => cases (show u = Value.none from r); rfl
  | bl b => cases (show u = Value.bool b from r); rfl
  | int i => obtain ⟨t, e⟩ := (show ∃ t, u = Value.int i t from r); cases e; rfl
  | str x => obtain ⟨t, e⟩ := (show ∃ t, u = Value.str x t from r); cases e; rfl
  | byt b => obtain ⟨t, e⟩ := (show ∃ t, u = Value.bytes b t from r); cases e; rfl
  | flt b => obtain ⟨t, e⟩ := (show ∃ t, u = Value.float b t from r); cases e; rfl
  | ref a => cases (show u = Value.ref a from r); rfl
  | ty n => cases (show u = Value.type n from r); rfl

section
variable {P : Program} {w : World} {H H' : Hp} {h h' : Heap} {a C dx : Addr} {fs fs' : List (Str × V)}
theorem ins_get (hok : HOk P w H h) (e : H a = some (.ins C dx fs)) : ∃ mA, ObjM h a dx C mA ∧ (∀ f, RelO (fs.lookup f) (mA f)) ∧ PySem.Within mA (fs.map (·.1)) ∧ fs.length ≤ 1000 ∧ H dx = some (.own a) := by
  obtain ⟨d, z, ne, ob, mA, n, r, q⟩ := (show ObjOk P w H h a (.ins C dx fs) from hok a _ e)
  exact ⟨mA, ⟨ob, n, ne⟩, r, q, z, d⟩
end

/-! ### what of the text a class must have -/
structure Cls (K : PySem.W.Frag) (C : Addr) : Prop where
  pg : PySem.W.plainGet K C Str.empty = true
  hd : PySem.W.hasDictIn K C = true
  po : PySem.W.plainOver K C = true
  sa : PySem.W.findIn K (.ref C) "__setattr__" = some (some (.builtin "object.__setattr__"))
theorem Cls.get {K : PySem.W.Frag} {C : Addr} (c : Cls K C) (f : Str) : PySem.W.plainGet K C f = true := c.pg
/-- no class of it has the name -/
def NoAttr (K : PySem.W.Frag) (C : Addr) (f : Str) : Prop := PySem.W.findIn K (.ref C) f = some none
theorem NoAttr.taker {K : PySem.W.Frag} {C : Addr} {f : Str} (n : NoAttr K C f) : PySem.W.takerIn K C f = some none := by
  unfold PySem.W.takerIn
  rw [show PySem.W.findIn K (.ref C) f = some none from n]
  rfl
/-- a constant of the class -/
structure Con (K : PySem.W.Frag) (C : Addr) (f : Str) (v : V) (u : Value) : Prop where
  at_ : PySem.W.findIn K (.ref C) f = some (some u)
  rel : RelV v u
  get : PySem.W.specialIn K u "__get__" = some none
  cp : PySem.W.copiedNames.contains f = false
/-- a method: a plain def of the class or of one above it -/
structure Meth (K : PySem.W.Frag) (C : Addr) (m : Str) (f : Addr) : Prop where
  at_ : PySem.W.findIn K (.ref C) m = some (some (.ref f))
  fn : PySem.W.isFn K (.ref f) = true
  kp : PySem.W.keepIn K (.ref f) = true

section
variable {X : Cx} {pins : List (Addr × Obj)} {σ : St} {H : Hp} {s : Shared} {a C dx : Addr} {fs : List (Str × V)} {f : Str} {v : V} {A : Around} {E : Value → Shared → Prop}

theorem getattr_ok {b : Bool} {Q : Value → Shared → Prop} (I : Inv X pins σ H s) (e : H a = some (.ins C dx fs)) (c : Cls X.K C) (n : NoAttr X.K C f) (l : fs.lookup f = some v)
    (h : ∀ u s', Inv X pins σ H s' → RelV v u → Q u s') : wpAny (model X.prog X.w) A (getAttr (.ref a) f b) Q E s := by
  obtain ⟨mA, O, r, _, _, _⟩ := ins_get I.hok e
  obtain ⟨u, hu, ru⟩ := RelO.some_of (v := v) (o := mA f) (by rw [← l]; exact r f)
  exact get_map I.kIn O (c.get f) c.hd n hu (handed_of ru) (h u _ (I.tok _) ru)

theorem getcon_ok {b : Bool} {u : Value} {Q : Value → Shared → Prop} (I : Inv X pins σ H s) (e : H a = some (.ins C dx fs)) (c : Cls X.K C) (k : Con X.K C f v u) (l : fs.lookup f = none)
    (h : ∀ s', Inv X pins σ H s' → Q u s') : wpAny (model X.prog X.w) A (getAttr (.ref a) f b) Q E s := by
  obtain ⟨mA, O, r, _, _, _⟩ := ins_get I.hok e
  have hn : mA f = none := RelO.none_of (by rw [← l]; exact r f)
  exact get_const I.kIn O (c.get f) c.hd k.at_ k.get k.cp hn (handed_of k.rel) (h _ (I.tok _))

theorem getmeth_ok {m : Str} {g : Addr} {pl : Sem Bool} {Q : Value × List Value → Shared → Prop} (I : Inv X pins σ H s) (e : H a = some (.ins C dx fs)) (c : Cls X.K C) (k : Meth X.K C m g) (l : fs.lookup m = none)
    (h : Q (.ref g, [.ref a]) s) : wpAny (model X.prog X.w) A (getMethod (.ref a) m pl) Q E s := by
  obtain ⟨mA, O, r, _, _, _⟩ := ins_get I.hok e
  have hn : mA m = none := RelO.none_of (by rw [← l]; exact r m)
  exact get_meth I.kIn O (c.get m) k.at_ k.fn hn h

theorem setattr_ok {y : V} {u : Value} {Q : Unit → Shared → Prop} (I : Inv X pins σ H s) (e : H a = some (.ins C dx fs)) (c : Cls X.K C) (n : NoAttr X.K C f) (hl : fs.length < 1000) (ry : RelV y u)
    (h : ∀ s', Inv X pins σ (upd H a (.ins C dx (putF f y fs))) s' → Q () s') : wpAny (model X.prog X.w) A (setAttr (.ref a) f u) Q E s := by
  obtain ⟨mA, O, r, wi, _, ho⟩ := ins_get I.hok e
  have hz : (fs.map (·.1)).length ≤ sizeLine := by rw [List.length_map, sizeLine_eq]; omega
  refine set_map I.kIn O c.sa c.po n.taker c.hd wi hz fun h' O' sb => h _ ?_
  have hd : ∃ o, h'.get? dx = some o := let ⟨o, _, _, e', _⟩ := O'.ns; ⟨o, e'⟩
  refine I.write (x := a) (e := dx) (by rw [e]; exact True.intro) (.inr ho) (fun b q hb z => (sb.2 b hb).trans z) hd ?_
  refine ⟨by rw [upd_ne O.ne]; exact ho, ?_, O.ne, O'.obj, _, O'.ns, fun g => ?_, fun g hg => ?_⟩
  · have := length_putF f y fs; omega
  · show RelO ((putF f y fs).lookup g) (if g = f then some u else mA g)
    rw [lookup_putF]
    by_cases q : g = f
    · rw [if_pos q, if_pos q]; exact ry
    · rw [if_neg q, if_neg q]; exact r g
  · by_cases q : g = f
    · rw [q]; exact (keys_putF f y fs).1
    · refine (keys_putF f y fs).2 g (wi g fun z => hg ?_)
      show (if g = f then some u else mA g) = none
      rw [if_neg q]; exact z

/-- a new instance, tracked, without attributes -/
theorem Inv.made (I : Inv X pins σ H s) : Inv X pins σ (upd (upd H s.heap.objs.size (.own (s.heap.objs.size + 1))) (s.heap.objs.size + 1) (.ins C s.heap.objs.size []))
    { s with heap := (s.heap.push PySem.W.emptyDict).push (PySem.W.instObj C s.heap.objs.size) } := by
  have e1 : (s.heap.push PySem.W.emptyDict).get? s.heap.objs.size = some PySem.W.emptyDict := Heap.get?_push_size s.heap rfl
  have e2 : ((s.heap.push PySem.W.emptyDict).push (PySem.W.instObj C s.heap.objs.size)).get? (s.heap.objs.size + 1) = some (PySem.W.instObj C s.heap.objs.size) := by
    have := Heap.get?_push_size (s.heap.push PySem.W.emptyDict) (o := PySem.W.instObj C s.heap.objs.size) rfl
    rwa [Heap.size_push] at this
  have e3 : (s.heap.push PySem.W.emptyDict).Ns s.heap.objs.size (fun _ => none) := ⟨PySem.W.emptyDict, #[], _, e1, rfl, (fun e he => absurd he (by simp)), fun _ => rfl⟩
  have I1 := I.laid (a := s.heap.objs.size) (o := .own (s.heap.objs.size + 1)) (h' := s.heap.push PySem.W.emptyDict) (t' := s.toks) (fun b u q => Heap.get?_push_of_some _ q) (Nat.le_refl _) ⟨_, e1⟩
  refine I1.laid (a := s.heap.objs.size + 1) (o := .ins C s.heap.objs.size []) (t' := s.toks) (fun b u q => Heap.get?_push_of_some _ q) (Nat.le_of_eq (Heap.size_push _ _)) ?_
  have ne : s.heap.objs.size ≠ s.heap.objs.size + 1 := Nat.ne_of_lt (Nat.lt_succ_self _)
  refine ⟨by rw [upd_ne ne, upd_same], Nat.zero_le _, ne, e2, fun _ => none, (Heap.Ns1.of_empty e3).at fun o q => Heap.get?_push_of_some _ q, fun _ => True.intro, fun y hy => absurd rfl hy⟩

/-- e.f where nothing but the object is asked: through attributeBase (super) and the last hold -/
theorem attr_of {prog : Program} {w : World} {env : Env} {e : Expr} {f : Str} {pos : Pos} {s : Shared} {Q : Value → Shared → Prop} (hb : attributeBase e f env (eval e env) = eval e env)
    (h : wpAny (model prog w) A (eval e env) (fun o s₁ => wpAny (model prog w) A (getAttr o f true) Q E s₁) E s) : wpAny (model prog w) A (eval (.Attribute e f pos) env) Q E s :=
  Attribute_any_ h (by rw [arm_eval_Attribute, hb])
end

/-! ### readings and rules -/
/-- e.f, an attribute of the instance -/
def tFld (K : PySem.W.Frag) (ta : TE) (f : Str) : TE := fun σ H Q => ta σ H fun x H1 => ∃ a C dx fs v, x = .ref a ∧ H1 a = some (.ins C dx fs) ∧ Cls K C ∧ NoAttr K C f ∧ fs.lookup f = some v ∧ Q v H1
/-- e.f, a constant of the class -/
def tCon (K : PySem.W.Frag) (ta : TE) (f : Str) : TE := fun σ H Q => ta σ H fun x H1 => ∃ a C dx fs v u, x = .ref a ∧ H1 a = some (.ins C dx fs) ∧ Cls K C ∧ Con K C f v u ∧ fs.lookup f = none ∧ Q v H1
/-- e.f = value -/
def sFld (K : PySem.W.Frag) (ta tv : TE) (f : Str) : TS := fun D σ H => tv σ H fun y H1 => ta σ H1 fun x H2 => ∃ a C dx fs, x = .ref a ∧ H2 a = some (.ins C dx fs) ∧ Cls K C ∧ NoAttr K C f ∧ fs.length < 1000 ∧
  D.nx σ (upd H2 a (.ins C dx (putF f y fs)))
/-- an augmented operator on two values -/
def InOp (X : Cx) (op : Operator) (rd : V → V → Hp → VK → Prop) : Prop :=
  ∀ (pins : List (Addr × Obj)) (s : Shared) (σ : St) (H : Hp) (x y : V) (u v : Value) (Q : VK), Inv X pins σ H s → RelV x u → RelV y v → rd x y H Q → wpAny (model X.prog X.w) X.A (inplaceOp op u v) (EP X pins σ Q) X.xe s
/-- e.f op= value -/
def sFldAug (K : PySem.W.Frag) (ta tv : TE) (rd : V → V → Hp → VK → Prop) (f : Str) : TS := fun D σ H => ta σ H fun x H1 => ∃ a C dx fs v, x = .ref a ∧ H1 a = some (.ins C dx fs) ∧ Cls K C ∧ NoAttr K C f ∧ fs.lookup f = some v ∧
  tv σ H1 fun y H2 => rd v y H2 fun z H3 => ∃ dx' fs', H3 a = some (.ins C dx' fs') ∧ fs'.length < 1000 ∧ D.nx σ (upd H3 a (.ins C dx' (putF f z fs')))

section
variable {X : Cx} {o e value : Expr} {f : Str} {pos pos' tpos : Pos} {ta tv : TE}
theorem pe_fld (he : PE X e ta) (hb : attributeBase e f X.env (eval e X.env) = eval e X.env) : PE X (.Attribute e f pos) (tFld X.K ta f) := by
  intro pins s σ H Q I h
  refine attr_of hb (thn (he pins s σ H _ I h) fun u s1 ⟨x, H1, I1, rx, a, C, dx, fs, v, ex, ea, c, n, l, q⟩ => ?_)
  subst ex
  obtain rfl : u = Value.ref a := rx
  exact getattr_ok I1 ea c n l fun u' s2 I2 ru => ⟨v, H1, I2, ru, q⟩
theorem pe_con (he : PE X e ta) (hb : attributeBase e f X.env (eval e X.env) = eval e X.env) : PE X (.Attribute e f pos) (tCon X.K ta f) := by
  intro pins s σ H Q I h
  refine attr_of hb (thn (he pins s σ H _ I h) fun u s1 ⟨x, H1, I1, rx, a, C, dx, fs, v, u0, ex, ea, c, k, l, q⟩ => ?_)
  subst ex
  obtain rfl : u = Value.ref a := rx
  exact getcon_ok I1 ea c k l fun s2 I2 => ⟨v, H1, I2, k.rel, q⟩
theorem ps_fld (ha : PE X o ta) (hv : PE X value tv) (hs : swapsWith value (some (.Attribute o f pos')) pos.line X.env = pure false) : PS X (.Assign [.Attribute o f pos'] value pos) (sFld X.K ta tv f) := by
  intro pins s σ H D I h
  refine plainObj_wpAny_Assign_Attribute (thn (hv pins s σ H _ I h) fun u s1 ⟨y, H1, I1, ry, q⟩ => thn (ha pins s1 σ H1 _ I1 q) fun ov s2 ⟨x, H2, I2, rx, a, C, dx, fs, ex, ea, c, n, l, q2⟩ => ?_) hs
  subst ex
  obtain rfl : ov = Value.ref a := rx
  exact setattr_ok I2 ea c n l ry fun s3 I3 => ⟨σ, _, I3, q2⟩
theorem ps_fldaug {op : Operator} {rd : V → V → Hp → VK → Prop} (ha : PE X o ta) (hv : PE X value tv) (hop : InOp X op rd) : PS X (.AugAssign (.Attribute o f tpos) op value pos) (sFldAug X.K ta tv rd f) := by
  intro pins s σ H D I h
  refine wpAny_AugAssign_AttributeAny (thn (ha pins s σ H _ I h) fun ov s1 ⟨x, H1, I1, rx, a, C, dx, fs, v, ex, ea, c, n, l, q⟩ => ?_)
  subst ex
  obtain rfl : ov = Value.ref a := rx
  refine getattr_ok I1 ea c n l fun u s2 I2 ru => thn (hv pins s2 σ H1 _ I2 q) fun w3 s3 ⟨y, H2, I3, ry, q3⟩ => thn (hop pins s3 σ H2 v y u w3 _ I3 ru ry q3) fun w4 s4 ⟨z, H3, I4, rz, dx', fs', ea', l', q4⟩ => ?_
  exact setattr_ok I4 ea' c n l' rz fun s5 I5 => ⟨σ, _, I5, q4⟩
def rAdd : V → V → Hp → VK → Prop := fun x y H Q => ∃ i j, x = .int i ∧ y = .int j ∧ Q (.int (i + j)) H
def rSub : V → V → Hp → VK → Prop := fun x y H Q => ∃ i j, x = .int i ∧ y = .int j ∧ Q (.int (i - j)) H
theorem in_add : InOp X .Add rAdd := by
  rintro pins s σ H x y u v Q I rx ry ⟨i, j, rfl, rfl, q⟩
  obtain ⟨t, rfl⟩ := (show ∃ t, u = Value.int i t from rx)
  obtain ⟨t', rfl⟩ := (show ∃ t', v = Value.int j t' from ry)
  exact PyProof.Rows.iadd_int ⟨.int (i + j), H, I.tok _, ⟨_, rfl⟩, q⟩
theorem in_sub : InOp X .Sub rSub := by
  rintro pins s σ H x y u v Q I rx ry ⟨i, j, rfl, rfl, q⟩
  obtain ⟨t, rfl⟩ := (show ∃ t, u = Value.int i t from rx)
  obtain ⟨t', rfl⟩ := (show ∃ t', v = Value.int j t' from ry)
  exact PyProof.Rows.isub_int ⟨.int (i - j), H, I.tok _, ⟨_, rfl⟩, q⟩

/-- what is between an instance and its method: the tree of a method call -/
theorem methcall_of {pl : Sem Bool} {m : Str} {apos : Pos} {args : List Expr} {pins : List (Addr × Obj)} {s : Shared} {σ : St} {H : Hp} {Q : Value → Shared → Prop} {te : TE} (he : PE X e te) (I : Inv X pins σ H s)
    (h : te σ H fun x H1 => ∃ a C dx fs g, x = .ref a ∧ H1 a = some (.ins C dx fs) ∧ Cls X.K C ∧ Meth X.K C m g ∧ fs.lookup m = none ∧
      ∀ s1, Inv X pins σ H1 s1 → wpAny (model X.prog X.w) X.A (callWith pos (.ref g) [.ref a] (backTo pos (starEach args X.env)) (backToKw pos (keywordEach [] X.env))) Q X.xe s1)
    (ht : eval (.Call (.Attribute e m apos) args [] pos) X.env = (do
      let ov ← eval e X.env
      standAt apos.atName
      let (f, first) ← holding [ov] (getMethod ov m pl)
      callWith pos f first (backTo pos (starEach args X.env)) (backToKw pos (keywordEach [] X.env)))) :
    wpAny (model X.prog X.w) X.A (eval (.Call (.Attribute e m apos) args [] pos) X.env) Q X.xe s := by
  refine PySem.W.methodCall_KW (pl := pl) (thn (he pins s σ H _ I h) fun u s1 ⟨x, H1, I1, rx, a, C, dx, fs, g, ex, ea, c, k, l, q⟩ => ?_) ht
  subst ex
  obtain rfl : u = Value.ref a := rx
  exact getmeth_ok I1 ea c k l (q s1 I1)
end

/-! ### isinstance -/
section
variable {X : Cx} {pins : List (Addr × Obj)} {σ : St} {H : Hp} {s : Shared} {A : Around} {E : Value → Shared → Prop} {Q : Value → Shared → Prop} {c : Value} {b : Bool}
/-- the type of a value, as the fragment's deciders take it; for an instance its class -/
inductive TyOf (K : PySem.W.Frag) (H : Hp) : V → Value → Prop where
  | non : TyOf K H .non (.type "NoneType")
  | bl (x : Bool) : TyOf K H (.bl x) (.type "bool")
  | int (i : Int) : TyOf K H (.int i) (.type "int")
  | str (x : Str) : TyOf K H (.str x) (.type "str")
  | flt (x : UInt64) : TyOf K H (.flt x) (.type "float")
  | lst {a : Addr} {xs : List V} (e : H a = some (.lst xs)) : TyOf K H (.ref a) (.type "list")
  | frz {a : Addr} {o : Obj} {xs : List V} (e : H a = some (.frz o (.lst xs))) : TyOf K H (.ref a) (.type "list")
  | tup {a : Addr} {xs : List V} (e : H a = some (.tup xs)) : TyOf K H (.ref a) (.type "tuple")
  | dK {a : Addr} {kvs : List (Key × V)} (e : H a = some (.dK kvs)) : TyOf K H (.ref a) (.type "dict")
  | dT {a : Addr} {kvs : List (List Key × V)} (e : H a = some (.dT kvs)) : TyOf K H (.ref a) (.type "dict")
  | ins {a C dx : Addr} {fs : List (Str × V)} (e : H a = some (.ins C dx fs)) (cl : Cls K C) (ha : PySem.W.findIn K (.ref C) "__class__" = some (some (.builtin "object.__class__")))
      (hn : PySem.W.specialIn K (.builtin "object.__class__") "__get__" = some (some (.builtin "getset_descriptor.__get__"))) (htk : PySem.W.takesIn K (.builtin "object.__class__") = some true)
      (hm : PySem.W.mroIn K C (.type "object") = some true) : TyOf K H (.ref a) (.ref C)
/-- isinstance(x, c) for one class c, a built-in or an own one: kitOne's answer -/
theorem isinst_ok {x : V} {u t : Value} (I : Inv X pins σ H s) (rx : RelV x u) (ty : TyOf X.K H x t) (e : PySem.W.kitOne X.K t c = some b) (h : ∀ tk, Q (.bool b) { s with toks := tk }) :
    wpAny (model X.prog X.w) A (call (.builtin "isinstance") [u, c]) Q E s := by
  cases ty with
  | non => cases (show u = Value.none from rx); exact PySem.W.kia_one PySem.W.kitx_none I.kIn True.intro e (fun z => nomatch z) h
  | bl y => cases (show u = Value.bool y from rx); exact PySem.W.kia_one PySem.W.kitx_bool I.kIn True.intro e (fun z => nomatch z) h
  | int i => obtain ⟨t, q⟩ := (show ∃ t, u = Value.int i t from rx); cases q; exact PySem.W.kia_one PySem.W.kitx_int I.kIn True.intro e (fun z => nomatch z) h
  | str y => obtain ⟨t, q⟩ := (show ∃ t, u = Value.str y t from rx); cases q; exact PySem.W.kia_one PySem.W.kitx_str I.kIn True.intro e (fun z => nomatch z) h
  | flt y => obtain ⟨t, q⟩ := (show ∃ t, u = Value.float y t from rx); cases q; exact PySem.W.kia_one PySem.W.kitx_float I.kIn True.intro e (fun z => nomatch z) h
  | @lst a xs ea =>
    cases (show u = Value.ref a from rx)
    obtain ⟨_, _, n, _, h1⟩ := (show ObjOk X.prog X.w H s.heap a (.lst xs) from I.hok a _ ea)
    exact PySem.W.kia_one PySem.W.kitx_list I.kIn ⟨_, h1, rfl⟩ e (fun z => nomatch z) h
  | @frz a ob xs ea =>
    cases (show u = Value.ref a from rx)
    obtain ⟨_, _, _, n, _, h1⟩ := (show ObjOk X.prog X.w H s.heap a (.frz ob (.lst xs)) from I.hok a _ ea)
    exact PySem.W.kia_one PySem.W.kitx_list I.kIn ⟨_, h1, rfl⟩ e (fun z => nomatch z) h
  | @tup a xs ea =>
    cases (show u = Value.ref a from rx)
    obtain ⟨_, _, _, p⟩ := (show ObjOk X.prog X.w H s.heap a (.tup xs) from I.hok a _ ea)
    obtain ⟨o, h1, h2, _⟩ := p
    exact PySem.W.kia_one PySem.W.kitx_tuple I.kIn ⟨o, h1, h2⟩ e (fun z => nomatch z) h
  | @dK a kvs ea =>
    cases (show u = Value.ref a from rx)
    obtain ⟨_, _, vs, _, p⟩ := (show ObjOk X.prog X.w H s.heap a (.dK kvs) from I.hok a _ ea)
    obtain ⟨o, es, ep, h1, h2, _⟩ := p
    exact PySem.W.kia_one PySem.W.kitx_dict I.kIn ⟨o, h1, h2.1⟩ e (fun z => nomatch z) h
  | @dT a kvs ea =>
    cases (show u = Value.ref a from rx)
    obtain ⟨_, _, xs, _, o, es, ep, h1, h2, _⟩ := (show ObjOk X.prog X.w H s.heap a (.dT kvs) from I.hok a _ ea)
    exact PySem.W.kia_one PySem.W.kitx_dict I.kIn ⟨o, h1, h2.1⟩ e (fun z => nomatch z) h
  | @ins a C dx fs ea cl ha hn htk hm =>
    cases (show u = Value.ref a from rx)
    obtain ⟨mA, O, _⟩ := ins_get I.hok ea
    obtain ⟨od, J, _⟩ := O.look
    exact PySem.W.kia_one (PySem.W.kitx_own (cl.get _) cl.hd ha hn htk hm) I.kIn J e (fun z => nomatch z) h
end
end L2

namespace L2
open PySem PySem.Spec PyProof.Rows

/-! ### room -/
structure Room (k : Nat) (A : Around) : Prop where
  hd : A.handled = none
  dp : A.depth + 3 * k + 5 < recursionLimit
  un : A.units + 16 * k + 200 < cLine
theorem Room.mono {j k : Nat} {A : Around} (r : Room k A) (h : j ≤ k) : Room j A := ⟨r.hd, by have := r.dp; omega, by have := r.un; omega⟩
theorem Room.deeper {k : Nat} {A : Around} (r : Room (k + 1) A) (env : Env) : Room k (A.deeper env) :=
  ⟨r.hd, by have := r.dp; show A.depth + 1 + 3 * k + 5 < _; omega, by have := r.un; show A.units + 3 + 16 * k + 200 < _; omega⟩
theorem Room.in1 {k : Nat} {A : Around} (r : Room (k + 1) A) : Room k A.in1 :=
  ⟨r.hd, by have := r.dp; show A.depth + 3 * k + 5 < _; omega, by have := r.un; show A.units + 1 + 16 * k + 200 < _; omega⟩
theorem make_depth {A : Around} {C : Addr} {us : List Value} {kw : List (Str × Value)} : (A.under (.builtin "type.__call__" ⟨.ref C :: us, kw⟩)).depth = A.depth + 1 := by
  first | rfl | simp [Around.under, Code.weight, Code.isCreation, Code.isGuard, Code.isCaller, Code.frames, Code.isFrame, guardIds]
theorem make_units {A : Around} {C : Addr} {us : List Value} {kw : List (Str × Value)} : (A.under (.builtin "type.__call__" ⟨.ref C :: us, kw⟩)).units = A.units + 1 := by
  first | rfl | simp [Around.under, Code.cUnits, Code.frames, Code.isFrame]
theorem Room.make {k : Nat} {A : Around} (r : Room (k + 1) A) (C : Addr) (us : List Value) (kw : List (Str × Value)) : Room k (A.under (.builtin "type.__call__" ⟨.ref C :: us, kw⟩)) :=
  ⟨r.hd, by have := r.dp; rw [make_depth]; omega, by have := r.un; rw [make_units]; omega⟩
theorem Room.depth {k : Nat} {A : Around} (r : Room k A) : A.depth < recursionLimit := by have := r.dp; omega
theorem Room.units {k : Nat} {A : Around} (r : Room k A) : A.units + 64 < cLine := by have := r.un; omega
theorem Room.units0 {k : Nat} {A : Around} (r : Room k A) : A.units < cLine := by have := r.un; omega

/-! ### argument lists and displays -/
def tNil : TA := fun _ H Q => Q [] H
def tCons (ta : TE) (tr : TA) : TA := fun σ H Q => ta σ H fun x H1 => tr σ H1 fun xs H2 => Q (x :: xs) H2
section
variable {X : Cx} {e : Expr} {es : List Expr} {te : TE} {t : TA} {pos : Pos}
theorem pa_nil : PA X [] tNil := fun _ _ _ _ H Q I h => Calls.spliced_nil ⟨[], H, I, .nil, h⟩
theorem pa_cons (ha : PE X e te) (hr : PA X es t) (hs : starEach (e :: es) X.env = (false, eval e X.env) :: starEach es X.env := by rfl) : PA X (e :: es) (tCons te t) := by
  intro pos pins s σ H Q I h
  rw [hs]
  show wpAny _ _ (spliced ((false, eval e X.env) :: backTo pos (starEach es X.env))) _ _ s
  refine Calls.spliced_cons (thn (ha pins s σ H _ I h) fun u s1 ⟨x, H1, I1, r1, q1⟩ => ?_)
  exact thn (hr pos pins s1 σ H1 _ I1 q1) fun us s2 ⟨xs, H2, I2, r2, q2⟩ => ⟨x :: xs, H2, I2, .cons r1 r2, q2⟩

/-- a tuple, a list of written items -/
def tTup (t : TA) : TE := fun σ H Q => t σ H fun xs H1 => xs.length ≤ sizeLine ∧ ∀ p, H1 p = none → Q (.ref p) (upd H1 p (.tup xs))
def tLst (t : TA) : TE := fun σ H Q => t σ H fun xs H1 => xs.length ≤ sizeLine ∧ ∀ p, H1 p = none → Q (.ref p) (upd H1 p (.lst xs))
theorem pe_tup {x1} (h : PA X es t) : PE X (.Tuple es x1 pos) (tTup t) := by
  intro pins s σ H Q I hq
  refine wpAny_Tuple_spliced (thn (h pos pins s σ H _ I hq) fun us s1 ⟨xs, H1, I1, r, z, q⟩ => ⟨by rw [← r.length]; exact z, ?_⟩)
  have hf : H1 s1.heap.objs.size = none := I1.hok.fresh (Nat.le_refl _)
  refine ⟨.ref s1.heap.objs.size, upd H1 s1.heap.objs.size (.tup xs), I1.laid (t' := s1.toks) (fun b u e => Heap.get?_push_of_some _ e) (Nat.le_refl _) ?_, rfl, q _ hf⟩
  exact ⟨z, us, r, ⟨_, Heap.get?_push_size _ rfl, rfl, _, rfl⟩⟩
theorem pe_lst (h : PA X es t) : PE X (.List es pos) (tLst t) := by
  intro pins s σ H Q I hq
  refine wpAny_List_spliced (thn (h pos pins s σ H _ I hq) fun us s1 ⟨xs, H1, I1, r, z, q⟩ => ⟨by rw [← r.length]; exact z, ?_⟩)
  have hf : H1 s1.heap.objs.size = none := I1.hok.fresh (Nat.le_refl _)
  refine ⟨.ref s1.heap.objs.size, upd H1 s1.heap.objs.size (.lst xs), I1.laid (t' := s1.toks) (fun b u e => Heap.get?_push_of_some _ e) (Nat.le_refl _) ?_, rfl, q _ hf⟩
  exact ⟨z, us, 0, r, Heap.get?_push_size _ rfl⟩
end

/-! ### what a def promises -/
/-- a def's promise: the bound arguments in the parameters' order, the heap, the wanted end, the wanted exception -/
abbrev Sp := List V → Hp → VK → XK → Prop
/-- how an exception lies behind a call (file 08 gives it): the callers' frames, abstract heap and state ahead of the call, the wish, the exception, the state -/
abbrev CXT := List Env → Hp → Shared → XK → Value → Shared → Prop

/-- the state at a call -/
structure Env0 (P : Program) (w : World) (K : PySem.W.Frag) (mg : Str → Option Value) (base : Heap) (A : Around) (outer : List Env) (s : Shared) (H : Hp) : Prop where
  frames : A.frames = some outer
  mod : Mod K mg base
  bs : ∀ b o, base.get? b = some o → s.heap.get? b = some o ∧ H b = none
  bsz : base.objs.size ≤ s.heap.objs.size
  funs : s.heap.FunFrames base outer
  frf : ∀ b ∈ frs outer, H b = none
  hok : HOk P w H s.heap
  bare : AllBare s.gens
/-- a call's end -/
def CE (outer : List Env) (P : Program) (w : World) (H : Hp) (s : Shared) (Q : VK) (u : Value) (s' : Shared) : Prop :=
  ∃ v H', s'.os = s.os ∧ AllBare s'.gens ∧ Un (frs outer) [] H H' s.heap s'.heap ∧ HOk P w H' s'.heap ∧ RelV v u ∧ Q v H'
def CR (CX : CXT) (outer : List Env) (P : Program) (w : World) (H : Hp) (s : Shared) (Q : VK) (E : XK) (r : Result) (s' : Shared) : Prop :=
  match r with
  | .ok (.ret u) => CE outer P w H s Q u s'
  | .ok _ => False
  | .error e => CX outer H s E e s'
structure FnOk (P : Program) (w : World) (K : PySem.W.Frag) (mg : Str → Option Value) (base : Heap) (CX : CXT) (k : Nat) (f : Addr) (fd : FuncData) (ps : List Str) (sp : Sp) : Prop where
  len : ∀ vs H Q E, sp vs H Q E → vs.length = ps.length
  run : ∀ (A : Around) (outer : List Env) (s : Shared) (H : Hp) (args : Args) (us : List Value) (vs : List V) (Q : VK) (E : XK), Room k A → Env0 P w K mg base A outer s H → BindsTo s fd args (ps.zip us) → Vals vs us → sp vs H Q E →
    codeAny (model P w) A (.call (.ref f) args) (CR CX outer P w H s Q E) s
theorem FnOk.mono {P : Program} {w : World} {K : PySem.W.Frag} {mg : Str → Option Value} {base : Heap} {CX : CXT} {j k : Nat} {f : Addr} {fd : FuncData} {ps : List Str} {sp : Sp} (F : FnOk P w K mg base CX j f fd ps sp) (h : j ≤ k) :
    FnOk P w K mg base CX k f fd ps sp := ⟨F.len, fun A outer s H args us vs Q E hr => F.run A outer s H args us vs Q E (hr.mono h)⟩
/-- a weaker promise -/
theorem FnOk.imp {P : Program} {w : World} {K : PySem.W.Frag} {mg : Str → Option Value} {base : Heap} {CX : CXT} {k : Nat} {f : Addr} {fd : FuncData} {ps : List Str} {sp sp' : Sp} (F : FnOk P w K mg base CX k f fd ps sp)
    (h : ∀ vs H Q E, sp' vs H Q E → sp vs H Q E) : FnOk P w K mg base CX k f fd ps sp' :=
  ⟨fun vs H Q E q => F.len vs H Q E (h _ _ _ _ q), fun A outer s H args us vs Q E hr he hb hv hs => F.run A outer s H args us vs Q E hr he hb hv (h _ _ _ _ hs)⟩

theorem Env0.make {P : Program} {w : World} {K : PySem.W.Frag} {mg : Str → Option Value} {base : Heap} {A : Around} {outer : List Env} {s : Shared} {H : Hp} (e : Env0 P w K mg base A outer s H) (C : Addr) (us : List Value) (kw : List (Str × Value)) :
    Env0 P w K mg base (A.under (.builtin "type.__call__" ⟨.ref C :: us, kw⟩)) outer s H := ⟨by first | exact e.frames | (simpa [Around.under, Code.envs, Code.isFrame, pushEnvs] using e.frames), e.mod, e.bs, e.bsz, e.funs, e.frf, e.hok, e.bare⟩
theorem Env0.in1 {P : Program} {w : World} {K : PySem.W.Frag} {mg : Str → Option Value} {base : Heap} {A : Around} {outer : List Env} {s : Shared} {H : Hp} (e : Env0 P w K mg base A outer s H) :
    Env0 P w K mg base A.in1 outer s H := ⟨e.frames, e.mod, e.bs, e.bsz, e.funs, e.frf, e.hok, e.bare⟩

section
variable {X : Cx} {pins : List (Addr × Obj)} {σ : St} {H : Hp} {s s' : Shared}
/-- from a body: what a callee wants -/
theorem Inv.env0 (I : Inv X pins σ H s) : Env0 X.prog X.w X.K X.mg X.base X.A X.stack s H :=
  ⟨I.ok.frames, I.ok.mod, I.bs, Nat.le_trans I.ok.bsz I.sz, I.stack, I.stkFree, I.hok, I.bare⟩
/-- behind a call -/
theorem Inv.after {Q : VK} {u : Value} (I : Inv X pins σ H s) (h : CE X.stack X.prog X.w H s Q u s') : EP X pins σ Q u s' := by
  obtain ⟨v, H', os, bare, un, hok, r, q⟩ := h
  obtain ⟨hh, g, d, t, os'⟩ := s'
  obtain rfl : os' = s.os := os
  exact ⟨v, H', I.call (h' := hh) (g' := g) (d' := d) (t' := t) (ch := []) un hok bare (fun b z => absurd z (by simp)), r, q⟩
end

/-! ### calls -/
/-- f(..): the written arguments, then the defaults dvs; E: what is wanted of an exception -/
def tCall (sp : Sp) (dvs : List V) (E : St → XK) (t : TA) : TE := fun σ H Q => t σ H fun vs H1 => sp (vs ++ dvs) H1 Q (E σ)
/-- o.m(..) of an instance of the class at C -/
def tMeth (C : Addr) (m : Str) (sp : Sp) (dvs : List V) (E : St → XK) (ta : TE) (t : TA) : TE := fun σ H Q => ta σ H fun x H1 => ∃ a dx fs, x = .ref a ∧ H1 a = some (.ins C dx fs) ∧ fs.lookup m = none ∧
  t σ H1 fun vs H2 => sp (x :: (vs ++ dvs)) H2 Q (E σ)
/-- C(..): a new instance and its dict, then __init__ -/
def tMake (C : Addr) (sp : Sp) (dvs : List V) (E : St → XK) (t : TA) : TE := fun σ H Q => t σ H fun vs H1 => ∀ x dx, H1 x = none → H1 dx = none → dx ≠ x →
  sp (.ref x :: (vs ++ dvs)) (upd (upd H1 dx (.own x)) x (.ins C dx [])) (fun v H2 => v = .non ∧ Q (.ref x) H2) (E σ)

/-- how the parameters are bound: us the positional arguments, kw the keywords' values by name, ds the defaults that fill up -/
def Binds (K : PySem.W.Frag) (fd : FuncData) (ps : List Str) (ds : List Value) : Prop :=
  ∀ (s : Shared) (us : List Value), K.In s.heap → (us ++ ds).length = ps.length → BindsTo s fd ⟨us, []⟩ (ps.zip (us ++ ds))
/-- every parameter is given -/
theorem Binds.all {K : PySem.W.Frag} {fd : FuncData} {ps : List Str} (h : ∀ us : List Value, us.length = ps.length → bindArgs fd ⟨us, []⟩ = pure (ps.zip us)) : Binds K fd ps [] := fun s us _ hl => by
  rw [List.append_nil] at hl ⊢
  exact .of_eq (h us hl)

/-- an exception of a callee reaches what this body wants of exceptions -/
def Passes (CX : CXT) (X : Cx) (E : St → XK) : Prop := ∀ (pins : List (Addr × Obj)) (σ : St) (H : Hp) (s : Shared) (e : Value) (s' : Shared), Inv X pins σ H s → CX X.stack H s (E σ) e s' → X.xe e s'

section
variable {X : Cx} {CX : CXT} {k : Nat} {f C : Addr} {fd : FuncData} {ps : List Str} {sp : Sp} {dvs : List V} {ds : List Value} {E : St → XK} {x m : Str} {p pos apos : Pos} {e o : Expr} {es : List Expr} {ta : TE} {t : TA}

/-- the callee runs -/
theorem run_fn {pins : List (Addr × Obj)} {σ : St} {H : Hp} {s : Shared} {Q : VK} {us : List Value} {vs : List V} (F : FnOk X.prog X.w X.K X.mg X.base CX k f fd ps sp) (hr : Room k X.A) (hb : Binds X.K fd ps ds) (hd : Vals dvs ds) (hx : Passes CX X E)
    (I : Inv X pins σ H s) (r : Vals vs us) (h : sp (vs ++ dvs) H Q (E σ)) : wpAny (model X.prog X.w) X.A (call (.ref f) us) (EP X pins σ Q) X.xe s := by
  have r2 : Vals (vs ++ dvs) (us ++ ds) := r.append hd
  have hl : (us ++ ds).length = ps.length := by rw [← r2.length]; exact F.len _ _ _ _ h
  refine wpAny_call (codeAny_mono (F.run X.A X.stack s H ⟨us, []⟩ (us ++ ds) (vs ++ dvs) Q (E σ) hr I.env0 (hb s us I.kIn hl) r2 h) fun r s' hq => ?_)
  cases r with
  | error e => exact hx pins σ H s e s' I hq
  | ok fl =>
    cases fl with
    | ret u => exact I.after hq
    | next => exact False.elim hq
    | brk => exact False.elim hq
    | cont => exact False.elim hq

theorem pe_call (F : FnOk X.prog X.w X.K X.mg X.base CX k f fd ps sp) (hr : Room k X.A) (hg : Gl X x) (hm : X.mg x = some (.ref f)) (hk : PySem.W.keepIn X.K (.ref f) = true) (hb : Binds X.K fd ps ds) (hd : Vals dvs ds) (hx : Passes CX X E)
    (ha : PA X (e :: es) t) (hdb : (x == ("__debug__" : Str)) = false := by decide) (he : starEach (e :: es) X.env = (false, eval e X.env) :: starEach es X.env := by rfl) (hpl : (backTo pos (starEach es X.env)).any (·.1) = false := by rfl) :
    PE X (.Call (.Name x p) (e :: es) [] pos) (tCall sp dvs E t) := by
  intro pins s σ H Q I h
  refine wpAny_Call_Name_kw (ld_glob I hg hm ?_ hdb)
  refine PySem.W.callWith_K (h₀ := X.base) I.ok.mod.kin hk (thn (ha pos pins s σ H _ I h) fun us s1 ⟨vs, H1, I1, r, q⟩ => ⟨I1.kIn, ?_⟩) he hpl
  exact run_fn F hr hb hd hx I1 r q
theorem pe_call0 (F : FnOk X.prog X.w X.K X.mg X.base CX k f fd ps sp) (hr : Room k X.A) (hg : Gl X x) (hm : X.mg x = some (.ref f)) (hk : PySem.W.keepIn X.K (.ref f) = true) (hb : Binds X.K fd ps ds) (hd : Vals dvs ds) (hx : Passes CX X E)
    (hdb : (x == ("__debug__" : Str)) = false := by decide) : PE X (.Call (.Name x p) [] [] pos) (tCall sp dvs E tNil) := by
  intro pins s σ H Q I h
  refine wpAny_Call_Name_kw (ld_glob I hg hm ?_ hdb)
  exact PySem.W.callWith_K0 I.kIn hk (run_fn (us := []) F hr hb hd hx I .nil h)

/-- o.m(e, ..) -/
theorem pe_meth {pl : Sem Bool} (he : PE X o ta) (c : Cls X.K C) (hm : Meth X.K C m f) (F : FnOk X.prog X.w X.K X.mg X.base CX k f fd ps sp) (hr : Room k X.A) (hb : Binds X.K fd ps ds) (hd : Vals dvs ds) (hx : Passes CX X E) (ha : PA X (e :: es) t)
    (hst : starEach (e :: es) X.env = (false, eval e X.env) :: starEach es X.env := by rfl) (hpl : (backTo pos (starEach es X.env)).any (·.1) = false := by rfl)
    (ht : eval (.Call (.Attribute o m apos) (e :: es) [] pos) X.env = (do
      let ov ← eval o X.env
      standAt apos.atName
      let (f, first) ← holding [ov] (getMethod ov m pl)
      callWith pos f first (backTo pos (starEach (e :: es) X.env)) (backToKw pos (keywordEach [] X.env))) := by rfl) :
    PE X (.Call (.Attribute o m apos) (e :: es) [] pos) (tMeth C m sp dvs E ta t) := by
  intro pins s σ H Q I h
  refine PySem.W.methodCall_KW (pl := pl) (thn (he pins s σ H _ I h) fun u s1 ⟨x, H1, I1, rx, a, dx, fs, ex, ea, l, q⟩ => ?_) ht
  subst ex
  obtain rfl : u = Value.ref a := rx
  refine getmeth_ok I1 ea c hm l ?_
  refine PySem.W.callWith_K (first := [.ref a]) (h₀ := X.base) I.ok.mod.kin hm.kp (thn (ha pos pins s1 σ H1 _ I1 q) fun us s2 ⟨vs, H2, I2, r, q2⟩ => ⟨I2.kIn, ?_⟩) hst hpl
  exact run_fn (us := .ref a :: us) (vs := .ref a :: vs) F hr hb hd hx I2 (.cons rfl r) q2
/-- o.m() -/
theorem pe_meth0 {pl : Sem Bool} (he : PE X o ta) (c : Cls X.K C) (hm : Meth X.K C m f) (F : FnOk X.prog X.w X.K X.mg X.base CX k f fd ps sp) (hr : Room k X.A) (hb : Binds X.K fd ps ds) (hd : Vals dvs ds) (hx : Passes CX X E)
    (ht : eval (.Call (.Attribute o m apos) [] [] pos) X.env = (do
      let ov ← eval o X.env
      standAt apos.atName
      let (f, first) ← holding [ov] (getMethod ov m pl)
      callWith pos f first (backTo pos (starEach [] X.env)) (backToKw pos (keywordEach [] X.env))) := by rfl) :
    PE X (.Call (.Attribute o m apos) [] [] pos) (tMeth C m sp dvs E ta tNil) := by
  intro pins s σ H Q I h
  refine PySem.W.methodCall_KW (pl := pl) (thn (he pins s σ H _ I h) fun u s1 ⟨x, H1, I1, rx, a, dx, fs, ex, ea, l, q⟩ => ?_) ht
  subst ex
  obtain rfl : u = Value.ref a := rx
  refine getmeth_ok I1 ea c hm l ?_
  exact PySem.W.callWith_K0 (first := [.ref a]) I1.kIn hm.kp (run_fn (us := [.ref a]) (vs := [.ref a]) F hr hb hd hx I1 (.cons rfl .nil) q)

/-- what a class must have to be made -/
structure Mk (K : PySem.W.Frag) (C f : Addr) : Prop where
  makes : PySem.W.makesIn K C = true
  init : PySem.W.findIn K (.ref C) "__init__" = some (some (.ref f))
  fn : PySem.W.isFn K (.ref f) = true
  kp : PySem.W.keepIn K (.ref C) = true

theorem run_make {pins : List (Addr × Obj)} {σ : St} {H : Hp} {s : Shared} {Q : VK} {us : List Value} {vs : List V} (M : Mk X.K C f) (F : FnOk X.prog X.w X.K X.mg X.base CX k f fd ps sp) (hr : Room (k + 1) X.A) (hb : Binds X.K fd ps ds) (hd : Vals dvs ds)
    (hx : Passes CX X E) (I : Inv X pins σ H s) (r : Vals vs us)
    (h : ∀ x dx, H x = none → H dx = none → dx ≠ x → sp (.ref x :: (vs ++ dvs)) (upd (upd H dx (.own x)) x (.ins C dx [])) (fun v H2 => v = .non ∧ Q (.ref x) H2) (E σ)) :
    wpAny (model X.prog X.w) X.A (call (.ref C) us) (EP X pins σ Q) X.xe s := by
  have hq := h (s.heap.objs.size + 1) s.heap.objs.size (I.hok.fresh (Nat.le_succ _)) (I.hok.fresh (Nat.le_refl _)) (Nat.ne_of_lt (Nat.lt_succ_self _))
  have I2 := Inv.made (C := C) I
  have r2 : Vals (V.ref (s.heap.objs.size + 1) :: (vs ++ dvs)) (Value.ref (s.heap.objs.size + 1) :: (us ++ ds)) := .cons rfl (r.append hd)
  have hl : (Value.ref (s.heap.objs.size + 1) :: us ++ ds).length = ps.length := by
    have e := r2.length
    rw [F.len _ _ _ _ hq] at e
    exact e.symm
  refine wpAny_call (make_map (f := f) I.kIn M.makes M.init (beq_iff_eq.mp M.fn) (codeAny_mono (F.run _ X.stack _ _ ⟨Value.ref (s.heap.objs.size + 1) :: us, []⟩ (Value.ref (s.heap.objs.size + 1) :: (us ++ ds)) _ _ (E σ) (hr.make C us [])
    (I2.env0.make C us []) (hb _ (Value.ref (s.heap.objs.size + 1) :: us) I2.kIn hl) r2 hq) fun r s' hq' => ?_))
  cases r with
  | error e => exact hx pins σ _ _ e s' I2 hq'
  | ok fl =>
    cases fl with
    | ret u =>
      obtain ⟨v, H', I3, rv, ev, q3⟩ := I2.after hq'
      subst ev
      exact ⟨rv, ⟨V.ref (s.heap.objs.size + 1), H', I3, rfl, q3⟩⟩
    | next => exact False.elim hq'
    | brk => exact False.elim hq'
    | cont => exact False.elim hq'
theorem pe_make (M : Mk X.K C f) (F : FnOk X.prog X.w X.K X.mg X.base CX k f fd ps sp) (hr : Room (k + 1) X.A) (hg : Gl X x) (hm : X.mg x = some (.ref C)) (hb : Binds X.K fd ps ds) (hd : Vals dvs ds) (hx : Passes CX X E)
    (ha : PA X (e :: es) t) (hdb : (x == ("__debug__" : Str)) = false := by decide) (he : starEach (e :: es) X.env = (false, eval e X.env) :: starEach es X.env := by rfl) (hpl : (backTo pos (starEach es X.env)).any (·.1) = false := by rfl) :
    PE X (.Call (.Name x p) (e :: es) [] pos) (tMake C sp dvs E t) := by
  intro pins s σ H Q I h
  refine wpAny_Call_Name_kw (ld_glob I hg hm ?_ hdb)
  refine PySem.W.callWith_K (h₀ := X.base) I.ok.mod.kin M.kp (thn (ha pos pins s σ H _ I h) fun us s1 ⟨vs, H1, I1, r, q⟩ => ⟨I1.kIn, ?_⟩) he hpl
  exact run_make M F hr hb hd hx I1 r q
theorem pe_make0 (M : Mk X.K C f) (F : FnOk X.prog X.w X.K X.mg X.base CX k f fd ps sp) (hr : Room (k + 1) X.A) (hg : Gl X x) (hm : X.mg x = some (.ref C)) (hb : Binds X.K fd ps ds) (hd : Vals dvs ds) (hx : Passes CX X E)
    (hdb : (x == ("__debug__" : Str)) = false := by decide) : PE X (.Call (.Name x p) [] [] pos) (tMake C sp dvs E tNil) := by
  intro pins s σ H Q I h
  refine wpAny_Call_Name_kw (ld_glob I hg hm ?_ hdb)
  exact PySem.W.callWith_K0 I.kIn M.kp (run_make (us := []) M F hr hb hd hx I .nil h)
end

/-! ### keywords -/
/-- the values of the keywords, from the left -/
def PK (X : Cx) (kws : List Keyword) (t : TA) : Prop :=
  ∀ (pos : Pos) (pins : List (Addr × Obj)) (s : Shared) (σ : St) (H : Hp) (Q : List V → Hp → Prop), Inv X pins σ H s → t σ H Q → wpAny (model X.prog X.w) X.A (evalAll ((backToKw pos (keywordEach kws X.env)).map (·.2))) (AP X pins σ Q) X.xe s
section
variable {X : Cx} {CX : CXT} {k : Nat} {f C : Addr} {fd : FuncData} {ps ks : List Str} {sp : Sp} {E : St → XK} {x m : Str} {p pos apos kpos : Pos} {e o : Expr} {es : List Expr} {kws : List Keyword} {te ta : TE} {t tk : TA} {nm : Option Str}
theorem pk_nil : PK X [] tNil := fun _ _ _ _ H Q I h => wpAny_evalAll_nil ⟨[], H, I, .nil, h⟩
theorem pk_cons (ha : PE X e te) (hr : PK X kws t) : PK X (⟨nm, e, kpos⟩ :: kws) (tCons te t) := by
  intro pos pins s σ H Q I h
  show wpAny _ _ (evalAll ((do let v ← eval e X.env; standAt pos; pure v) :: (backToKw pos (keywordEach kws X.env)).map (·.2))) _ _ s
  refine wpAny_evalAll_cons (wpAny_bind (thn (ha pins s σ H _ I h) fun u s1 ⟨x, H1, I1, r1, q1⟩ => wpAny_bind (wpAny_standAt (wpAny_pure ?_))))
  exact thn (hr pos pins s1 σ H1 _ I1 q1) fun us s2 ⟨xs, H2, I2, r2, q2⟩ => ⟨x :: xs, H2, I2, .cons r1 r2, q2⟩

/-- how a call with keywords binds: g puts the positional values us and the keywords' values ws (names ks) in the parameters' order, defaults among them -/
structure KBinds (K : PySem.W.Frag) (fd : FuncData) (ps ks : List Str) (g : List Value → List Value → List Value) (gV : List V → List V → List V) : Prop where
  to : ∀ (s : Shared) (us ws : List Value), K.In s.heap → (g us ws).length = ps.length → BindsTo s fd ⟨us, ks.zip ws⟩ (ps.zip (g us ws))
  rel : ∀ {vs : List V} {us : List Value} {zs : List V} {ws : List Value}, Vals vs us → Vals zs ws → Vals (gV vs zs) (g us ws)
def tCallK (sp : Sp) (gV : List V → List V → List V) (E : St → XK) (t tk : TA) : TE := fun σ H Q => t σ H fun vs H1 => tk σ H1 fun zs H2 => sp (gV vs zs) H2 Q (E σ)
variable {g : List Value → List Value → List Value} {gV : List V → List V → List V}
theorem run_fnk {pins : List (Addr × Obj)} {σ : St} {H : Hp} {s : Shared} {Q : VK} {us ws : List Value} {vs zs : List V} (F : FnOk X.prog X.w X.K X.mg X.base CX k f fd ps sp) (hr : Room k X.A) (hb : KBinds X.K fd ps ks g gV) (hx : Passes CX X E)
    (I : Inv X pins σ H s) (r : Vals vs us) (rz : Vals zs ws) (h : sp (gV vs zs) H Q (E σ)) : wpAny (model X.prog X.w) X.A (call (.ref f) us (ks.zip ws)) (EP X pins σ Q) X.xe s := by
  have r2 := hb.rel r rz
  have hl : (g us ws).length = ps.length := by rw [← r2.length]; exact F.len _ _ _ _ h
  refine wpAny_call (codeAny_mono (F.run X.A X.stack s H ⟨us, ks.zip ws⟩ (g us ws) (gV vs zs) Q (E σ) hr I.env0 (hb.to s us ws I.kIn hl) r2 h) fun r s' hq => ?_)
  cases r with
  | error e => exact hx pins σ H s e s' I hq
  | ok fl =>
    cases fl with
    | ret u => exact I.after hq
    | next => exact False.elim hq
    | brk => exact False.elim hq
    | cont => exact False.elim hq
/-- f(e, .., k = v, ..) -/
theorem pe_callK (F : FnOk X.prog X.w X.K X.mg X.base CX k f fd ps sp) (hr : Room k X.A) (hg : Gl X x) (hm : X.mg x = some (.ref f)) (hk : PySem.W.keepIn X.K (.ref f) = true) (hb : KBinds X.K fd ps ks g gV) (hx : Passes CX X E)
    (ha : PA X (e :: es) t) (hkw : PK X kws tk) (hall : (backToKw pos (keywordEach kws X.env)).all (·.1.isSome) = true := by rfl) (hks : (backToKw pos (keywordEach kws X.env)).filterMap (·.1) = ks := by rfl)
    (hdb : (x == ("__debug__" : Str)) = false := by decide) (he : starEach (e :: es) X.env = (false, eval e X.env) :: starEach es X.env := by rfl)
    (hpl : ((backTo pos (starEach (e :: es) X.env)).any (·.1) || (backToKw pos (keywordEach kws X.env)).any (·.1.isNone)) = false := by rfl) :
    PE X (.Call (.Name x p) (e :: es) kws pos) (tCallK sp gV E t tk) := by
  intro pins s σ H Q I h
  refine wpAny_Call_Name_kw (ld_glob I hg hm ?_ hdb)
  refine PySem.W.callWith_KW (h₀ := X.base) I.ok.mod.kin hk hall (thn (ha pos pins s σ H _ I h) fun us s1 ⟨vs, H1, I1, r, q⟩ => ?_) hpl he
  refine thn (hkw pos pins s1 σ H1 _ I1 q) fun ws s2 ⟨zs, H2, I2, rz, q2⟩ => ⟨I2.kIn, ?_⟩
  rw [hks]
  exact run_fnk F hr hb hx I2 r rz q2
end

/-! ### a def's body keeps its promise -/
/-- names: the parameters first -/
structure FnScope (N P : List Str) (sc : Scope) : Prop where
  kind : sc.kind = .function
  co : sc.isCoroutine = false
  gen : sc.isGenerator = false
  nd : N.Nodup
  pre : N.take P.length = P
  par : ∀ x ∈ P, sc.names.lookup x = some .local ∨ sc.names.lookup x = some .cell
  nofree : ∀ y ∈ sc.names, y.2 ≠ .free

theorem bindL_out {kindOf : Str → Option NameKind} {x : Str} : ∀ {binds : List (Str × Value)} {m : Str → Option Value}, (∀ v, (x, v) ∉ binds) → bindL kindOf binds m x = m x
  | [], _, _ => rfl
  | (n, v) :: r, m, h => by
    unfold bindL
    rw [bindL_out fun w hw => h w (List.mem_cons_of_mem _ hw)]
    split
    · have : x ≠ n := by rintro rfl; exact h v List.mem_cons_self
      simp [this]
    · rfl
theorem bindC_out {kindOf : Str → Option NameKind} {x : Str} : ∀ {binds : List (Str × Value)} {m : Str → Option Value}, (∀ v, (x, v) ∉ binds) → bindC kindOf binds m x = m x
  | [], _, _ => rfl
  | (n, v) :: r, m, h => by
    unfold bindC
    rw [bindC_out fun w hw => h w (List.mem_cons_of_mem _ hw)]
    split
    · rfl
    · have : x ≠ n := by rintro rfl; exact h v List.mem_cons_self
      simp [this]
theorem bindL_get {kindOf : Str → Option NameKind} {x : Str} {v : Value} : ∀ {P : List Str} {vs : List Value} {i : Nat} {m : Str → Option Value}, P.Nodup → P[i]? = some x → vs[i]? = some v → kindOf x = some .local →
    bindL kindOf (P.zip vs) m x = some v
  | [], _, _, _, _, h, _, _ => by simp at h
  | _ :: _, [], _, _, _, _, h, _ => by simp at h
  | p :: P, w :: vs, 0, m, nd, h1, h2, hk => by
    simp at h1 h2; subst h1; subst h2
    show bindL kindOf ((p, w) :: P.zip vs) m p = _
    unfold bindL
    rw [bindL_out fun v hv => (List.nodup_cons.mp nd).1 (List.of_mem_zip hv).1, if_pos hk]
    simp
  | p :: P, w :: vs, i + 1, m, nd, h1, h2, hk => by
    show bindL kindOf ((p, w) :: P.zip vs) m x = _
    unfold bindL
    exact bindL_get (i := i) (List.nodup_cons.mp nd).2 (by simpa using h1) (by simpa using h2) hk
theorem bindC_get {kindOf : Str → Option NameKind} {x : Str} {v : Value} : ∀ {P : List Str} {vs : List Value} {i : Nat} {m : Str → Option Value}, P.Nodup → P[i]? = some x → vs[i]? = some v → kindOf x ≠ some .local →
    bindC kindOf (P.zip vs) m x = some v
  | [], _, _, _, _, h, _, _ => by simp at h
  | _ :: _, [], _, _, _, _, h, _ => by simp at h
  | p :: P, w :: vs, 0, m, nd, h1, h2, hk => by
    simp at h1 h2; subst h1; subst h2
    show bindC kindOf ((p, w) :: P.zip vs) m p = _
    unfold bindC
    rw [bindC_out fun v hv => (List.nodup_cons.mp nd).1 (List.of_mem_zip hv).1, if_neg hk]
    simp
  | p :: P, w :: vs, i + 1, m, nd, h1, h2, hk => by
    show bindC kindOf ((p, w) :: P.zip vs) m x = _
    unfold bindC
    exact bindC_get (i := i) (List.nodup_cons.mp nd).2 (by simpa using h1) (by simpa using h2) hk

/-- the names' values at the entry -/
def start (N : List Str) (vs : List V) : St := vs.map some ++ List.replicate (N.length - vs.length) none

/-- the context of a def's body, at its entry; an exception leaves the frame, then lies as CX says -/
def cxOf (CX : CXT) (P : Program) (w : World) (K : PySem.W.Frag) (mg : Str → Option Value) (base : Heap) (N : List Str) (qual : Str) (scope : Scope) (f : Addr) (cd : Value) (A : Around) (outer : List Env) (s : Shared) (H : Hp) (E : XK) : Cx where
  prog := P
  w := w
  K := K
  mg := mg
  base := base
  A := A.deeper (envOfC qual scope s.heap.objs.size f cd)
  N := N
  s₀ := s
  H₀ := H
  env := envOfC qual scope s.heap.objs.size f cd
  outer := outer
  stack := envOfC qual scope s.heap.objs.size f cd :: outer
  ex := []
  calm := true
  fn := fun _ => true
  pn := []
  xe := fun e s' => wpAny (model P w) (A.deeper (envOfC qual scope s.heap.objs.size f cd)) (leaving (envOfC qual scope s.heap.objs.size f cd) e) (fun _ s'' => CX outer H s E e s'') (fun e' s'' => CX outer H s E e' s'') s'

theorem cell_has {sc : Scope} {n : Nat} {x : Str} (h : sc.names.lookup x = some .cell) : ∃ c, (cellsFrom n sc.names []).lookup x = some c := by
  have q := PySem.W.cellsFrom_some sc.names n [] (.inl h)
  exact Option.isSome_iff_exists.mp q

theorem inv_start {CX : CXT} {P : Program} {w : World} {K : PySem.W.Frag} {mg : Str → Option Value} {base : Heap} {N ps : List Str} {qual : Str} {scope : Scope} {f : Addr} {cd : Value} {A : Around} {outer : List Env} {s s1 : Shared} {H : Hp} {E : XK} {us : List Value} {vs : List V}
    (S : FnScope N ps scope) (hd : A.handled = none) (e0 : Env0 P w K mg base A outer s H) (hl : vs.length = ps.length) (r : Vals vs us)
    (x : InCallC s s.heap.objs.size (bindL (envOfC qual scope s.heap.objs.size f cd).kindOf (ps.zip us) fun _ => none) (cellsFrom (s.heap.objs.size + 1) scope.names []) (bindC (envOfC qual scope s.heap.objs.size f cd).kindOf (ps.zip us) fun _ => none) s1) :
    Inv (cxOf CX P w K mg base N qual scope f cd A outer s H E) [] (start N vs) H s1 := by
  have hpl : ps.length ≤ N.length := by have := congrArg List.length S.pre; rw [List.length_take] at this; omega
  obtain ⟨h1, tk, rfl, hk⟩ := x.done
  have noA : ∀ b : Addr, b ∉ (cxOf CX P w K mg base N qual scope f cd A outer s H E).ex := fun b z => absurd (show b ∈ ([] : List Addr) from z) (by simp)
  refine ⟨⟨e0.mod, S.kind, rfl, rfl, Nat.le_refl _, fun y z c h1 h2 => ?_, fun y hy => ?_, fun y c _ h => ?_, fun _ => hd, Around.frames_deeper e0.frames, .inr ⟨rfl, rfl⟩, fun b z => absurd z (noA b), e0.bs, e0.bsz, fun b _ _ => noA b, fun b z => absurd z (noA b), e0.funs, e0.frf⟩,
    rfl, e0.bare, Un.kept hk, ⟨_, x.toInCall.ns, fun i y v h1 h2 h3 => ?_⟩, fun y c h => ⟨_, x.cell y c h⟩, e0.hok.fresh (Nat.le_refl _), fun y c h => ?_, fun p hp => absurd (show p ∈ ([] : List (Addr × Obj)) from hp) (by simp), e0.hok.kept hk, ?_⟩
  · exact name_of_addr x.apart (PySem.mem_of_lookup h1) (PySem.mem_of_lookup h2)
  · have hy : scope.names.lookup y = some .cell ∨ scope.names.lookup y = some .free := hy
    rcases hy with hy | hy
    · exact cell_has hy
    · exact absurd rfl (S.nofree _ (PySem.mem_of_lookup hy))
  · exact Nat.le_of_lt (x.above y c (PySem.mem_of_lookup h))
  · have hi : i < vs.length := by
      unfold start at h2
      by_cases hi : i < vs.length
      · exact hi
      · rw [List.getElem?_append_right (by simpa using hi)] at h2
        rw [List.getElem?_replicate] at h2
        split at h2 <;> cases h2
    have ha : vs[i]? = some v := by
      unfold start at h2
      rw [List.getElem?_append_left (by simpa using hi), List.getElem?_map] at h2
      cases e : vs[i]? with
      | none => rw [e] at h2; cases h2
      | some a => rw [e] at h2; cases h2; rfl
    obtain ⟨u, hu, rv⟩ := r.get ha
    have hp : ps[i]? = some y := by
      rw [← S.pre, List.getElem?_take_of_lt (by omega)]; exact h1
    have ndP : ps.Nodup := by rw [← S.pre]; exact S.nd.sublist (List.take_sublist _ _)
    refine ⟨u, rv, ?_⟩
    rcases S.par y (List.mem_of_getElem? hp) with k | k
    · exact .inl ⟨k, bindL_get ndP hp hu k⟩
    · obtain ⟨c, e⟩ := cell_has (n := s.heap.objs.size + 1) k
      refine .inr ⟨.inl k, c, e, ?_⟩
      have q := x.cell y c e
      rw [bindC_get ndP hp hu (by show scope.names.lookup y ≠ _; rw [k]; decide)] at q
      exact q
  · exact e0.hok.fresh (Nat.le_of_lt (x.above y c (PySem.mem_of_lookup h)))
  · unfold start
    show _ = N.length
    rw [List.length_append, List.length_map, List.length_replicate]
    omega

/-- THE RULE: a def (or a method) of the text, by its body. The body's reading t is chosen for each entry; it is run at the parameters' values -/
theorem fn_of {CX : CXT} {P : Program} {w : World} {K : PySem.W.Frag} {mg : Str → Option Value} {base : Heap} {k : Nat} {f : Addr} {name qual : Str} {params : Arguments} {body : List Stmt} {scope : Scope} {dV kV doc pm cdv ct oc : Value} {an od : Option Addr}
    {osl : Array (Option Value)} {N ps : List Str} {sp : Sp} (lk : K.lookup f = some ⟨oc, od, .func (PySem.W.fnOf name qual params body scope dV kV doc pm an cdv ct), osl⟩) (hcd : PySem.W.codeIn K cdv qual = true) (S : FnScope N ps scope)
    (len : ∀ vs H Q E, sp vs H Q E → vs.length = ps.length)
    (hbody : ∀ (A : Around) (outer : List Env) (s : Shared) (H : Hp) (vs : List V) (Q : VK) (E : XK), Room k (A.deeper (envOfC qual scope s.heap.objs.size f cdv)) → sp vs H Q E →
      ∃ t, PSs (cxOf CX P w K mg base N qual scope f cdv A outer s H E) body t ∧ t { nx := fun _ H' => Q .non H', rt := Q } (start N vs) H) :
    FnOk P w K mg base CX (k + 1) f (PySem.W.fnOf name qual params body scope dV kV doc pm an cdv ct) ps sp := by
  refine ⟨len, fun A outer s H args us vs Q E hr e0 hb r hsp => ?_⟩
  have hl := len _ _ _ _ hsp
  have KX : K.In s.heap := e0.mod.kin.keeps fun b o e => (e0.bs b o e).1
  have lim : s.heap.NoLimit := e0.mod.nolimit.keeps fun b o e => (e0.bs b o e).1
  have hkind : ∀ y ∈ ps.zip us, scope.names.lookup y.1 = some .local ∨ (scope.names.lookup y.1 = some .cell ∧ ((cellsFrom (s.heap.objs.size + 1) scope.names []).lookup y.1).isSome = true) := fun ⟨n, v⟩ hy => by
    rcases S.par n (List.of_mem_zip hy).1 with q | q
    · exact .inl q
    · exact .inr ⟨q, PySem.W.cellsFrom_some _ _ _ (.inl q)⟩
  refine codeAny_call_function hr.depth (KX _ _ lk) rfl S.co S.gen rfl (PySem.W.codeRec_of KX hcd) (hb _ _ _ _ ?_)
  refine wpAny_newFunctionEnv_cells S.kind hkind fun env he s1 x => ?_
  subst he
  refine ⟨lim.keeps x.toInCall.keep, codeAny_func ?_⟩
  obtain ⟨t, ht, hq⟩ := hbody A outer s H vs Q E (hr.deeper _) hsp
  have I : Inv (cxOf CX P w K mg base N qual scope f cdv A outer s H E) [] (start N vs) H s1 := inv_start S hr.hd e0 hl r x
  refine wpAny_mono (ht [] s1 (start N vs) H _ I hq) (fun fl s' hs => ?_) fun e s' hs => hs
  have fin : ∀ {σ' : St} {H' : Hp} {v : V} {u : Value}, Inv (cxOf CX P w K mg base N qual scope f cdv A outer s H E) [] σ' H' s' → RelV v u → Q v H' → CE outer P w H s Q u s' :=
    fun {σ' H' v u} J rv q => ⟨v, H', J.os, J.bare, J.base, J.hok, rv, q⟩
  cases fl with
  | ret u =>
    obtain ⟨v, σ', H', J, rv, q⟩ := hs
    exact fin J rv q
  | next =>
    obtain ⟨σ', H', J, q⟩ := hs
    exact fin (v := V.non) (u := Value.none) J rfl q
  | brk =>
    obtain ⟨_, _, _, q⟩ := hs
    exact False.elim q
  | cont =>
    obtain ⟨_, _, _, q⟩ := hs
    exact False.elim q
end L2

namespace L2
open PySem PySem.Spec PyProof.Rows
section
variable {X : Cx} {x : Str} {p pos : Pos} {e : Expr} {es : List Expr} {t : TA} {id T : String} {r : List V → Hp → VK → Prop}

def tCB (r : List V → Hp → VK → Prop) (t : TA) : TE := fun σ H Q => t σ H fun vs H1 => r vs H1 Q
/-- f(e, ..), f a built-in function -/
theorem pe_callB (hc : CallR X (.builtin id) r) (hg : Gl X x) (hm : X.mg x = none) (hv : bootBuiltins x = some (.builtin id)) (ha : PA X (e :: es) t) (hn : x ≠ "__name__" := by decide) (hdb : (x == ("__debug__" : Str)) = false := by decide)
    (he : starEach (e :: es) X.env = (false, eval e X.env) :: starEach es X.env := by rfl) (hpl : (backTo pos (starEach es X.env)).any (·.1) = false := by rfl) : PE X (.Call (.Name x p) (e :: es) [] pos) (tCB r t) := by
  intro pins s σ H Q I h
  refine wpAny_Call_Name_kw (ld_blt I hg hm hv ?_ hn hdb)
  exact PyProof.Rows.callWith_builtin1 (thn (ha pos pins s σ H _ I h) fun us s1 ⟨vs, H1, I1, r1, q1⟩ => hc pins s1 σ H1 vs us Q I1 r1 q1) he hpl
/-- T(e, ..), T a built-in type -/
theorem pe_callTy (hc : CallR X (.type T) r) (hg : Gl X x) (hm : X.mg x = none) (hv : bootBuiltins x = some (.type T)) (ha : PA X (e :: es) t) (hn : x ≠ "__name__" := by decide) (hdb : (x == ("__debug__" : Str)) = false := by decide)
    (he : starEach (e :: es) X.env = (false, eval e X.env) :: starEach es X.env := by rfl) (hpl : (backTo pos (starEach es X.env)).any (·.1) = false := by rfl) : PE X (.Call (.Name x p) (e :: es) [] pos) (tCB r t) := by
  intro pins s σ H Q I h
  refine wpAny_Call_Name_kw (ld_blt I hg hm hv ?_ hn hdb)
  exact PyProof.Rows.callWith_type1 (thn (ha pos pins s σ H _ I h) fun us s1 ⟨vs, H1, I1, r1, q1⟩ => hc pins s1 σ H1 vs us Q I1 r1 q1) he hpl
/-- T() -/
theorem pe_callTy0 (hc : CallR X (.type T) r) (hg : Gl X x) (hm : X.mg x = none) (hv : bootBuiltins x = some (.type T)) (hn : x ≠ "__name__" := by decide) (hdb : (x == ("__debug__" : Str)) = false := by decide) :
    PE X (.Call (.Name x p) [] [] pos) (tCB r tNil) := by
  intro pins s σ H Q I h
  refine wpAny_Call_Name_kw (ld_blt I hg hm hv ?_ hn hdb)
  exact PyProof.Rows.callWith_type0 (hc pins s σ H [] [] Q I .nil h)
end
end L2

namespace HT
open PySem PyProof.Rows

/-- t < u of tuples of ints -/
def lexLt : List Int → List Int → Bool
  | [], [] => false
  | [], _ :: _ => true
  | _ :: _, [] => false
  | x :: xs, y :: ys => if x = y then lexLt xs ys else decide (x < y)
theorem lexLt_cons (x y : Int) (xs ys : List Int) : lexLt (x :: xs) (y :: ys) = if x = y then lexLt xs ys else decide (x < y) := rfl
theorem lexLt_nil_nil : lexLt [] [] = false := rfl
theorem lexLt_nil_cons (y : Int) (ys : List Int) : lexLt [] (y :: ys) = true := rfl
theorem lexLt_cons_nil (x : Int) (xs : List Int) : lexLt (x :: xs) [] = false := rfl

theorem eqAt_int (A : Around) (s : Shared) (a : Int) (t : Tok) (c : Int) (u : Tok) : ∃ e, SeqAt.EqAt A s (.int a t) (.int c u) e ∧ (e = true ↔ a = c) :=
  ⟨(a == c), SeqAt.EqAt.int_int a t c u, by simp⟩
theorem rcLt_int (A : Around) (s : Shared) (a : Int) (t : Tok) (c : Int) (u : Tok) (prog : Program) (w : World) (E : Value → Shared → Prop) (Q : Value → Shared → Prop) (h : Q (.bool (decide (a < c))) s) :
    wpAny (model prog w) A (richCompare .Lt (.int a t) (.int c u)) Q E s :=
  (PyProof.Rows.lt_int h : wpAny (model prog w) A (compareOp .Lt (.int a t) (.int c u)) Q E s)

section
open PySem.SeqAt
open PySem.AutoSeq1 (wpAny_loadPart')
open PySem.MeetsSeq PySem.MeetsSeq2 PySem.MeetsSeq3

theorem tuple_lt_ints (l b : Addr) (items items2 : Array Value) (n n2 : Nat) (dd dd2 : Option Addr) (sl sl2 : Array (Option Value)) (ns ms : List Int) (hi : IntsAre items.toList ns) (hj : IntsAre items2.toList ms) :
    Meets (Builtin.«tuple.__lt__» ⟨[.ref l, .ref b], []⟩)
      (fun _ R s => s.heap.get? l = some { cls := .type "tuple", dict := dd, data := .seq items n, slots := sl } ∧ s.heap.get? b = some { cls := .type "tuple", dict := dd2, data := .seq items2 n2, slots := sl2 } ∧
        R (.ok (.ret (.bool (lexLt ns ms)))) s) :=
  .of_wp fun prog w A R s h => by
    obtain ⟨hp, g, d, tk, os⟩ := s; obtain ⟨hl, hb, h⟩ := h
    have f2 := AutoSeq1.sub_tuple_tuple
    have z1 : items.size = ns.length := by rw [← hi.length]; simp
    have z2 : items2.size = ms.length := by rw [← hj.length]; simp
    wp_walk using wpAny_loadPart' hl, wpAny_loadPart' hb, wpAny_forIn_list _ (fun rest b s' => b.1 = none ∧ s' = ⟨hp, g, d, tk, os⟩ ∧ ∃ (vs ws : List Value) (ns' ms' : List Int), rest = vs.zip ws ∧
      IntsAre vs ns' ∧ IntsAre ws ms' ∧ ns'.length + items2.size = ms'.length + items.size ∧ R (.ok (.ret (.bool (lexLt ns' ms')))) ⟨hp, g, d, tk, os⟩) _
    case turn =>
      rintro ⟨y, x⟩ rest b s' ⟨hb', rfl, vs, ws, ns', ms', hz, hvi, hwi, hlen, hR⟩
      cases hvi with
      | nil => rw [List.zip_nil_left] at hz; cases hz
      | cons a t hvi' =>
        cases hwi with
        | nil => rw [List.zip_nil_right] at hz; cases hz
        | cons c u hwi' =>
          rw [List.zip_cons_cons] at hz
          injection hz with hyx hrest
          injection hyx with hy hx
          subst hy hx
          rw [lexLt_cons] at hR
          simp only [List.length_cons] at hlen
          obtain ⟨e, he, hiff⟩ := eqAt_int A.in1 ⟨hp, g, d, tk, os⟩ a t c u
          refine wpAny_bind (he prog w _ _ ?_)
          cases e with
          | true =>
            rw [if_pos (hiff.mp rfl)] at hR
            wp_walk
            exact ⟨rfl, rfl, _, _, _, _, hrest, hvi', hwi', by omega, hR⟩
          | false =>
            rw [if_neg (fun q => absurd (hiff.mpr q) Bool.false_ne_true)] at hR
            have hri := rcLt_int A.in1 ⟨hp, g, d, tk, os⟩ a t c u prog w
            wp_walk using hri
            exact ⟨_, rfl, by simpa using hR⟩
    case fin =>
      rintro ⟨b1, b2⟩ s' ⟨hb', rfl, vs, ws, ns', ms', hz, hvi, hwi, hlen, hR⟩
      simp only at hb'
      subst hb'
      have hv : lexLt ns' ms' = decide (items.size < items2.size) := by
        cases hvi with
        | nil =>
          cases hwi with
          | nil =>
            simp only [List.length_nil] at hlen
            rw [lexLt_nil_nil]
            exact (decide_eq_false (by omega)).symm
          | cons c u hw =>
            simp only [List.length_nil, List.length_cons] at hlen
            rw [lexLt_nil_cons]
            exact (decide_eq_true (by omega)).symm
        | cons a t hv =>
          cases hwi with
          | nil =>
            simp only [List.length_nil, List.length_cons] at hlen
            rw [lexLt_cons_nil]
            exact (decide_eq_false (by omega)).symm
          | cons c u hw =>
            rw [List.zip_cons_cons] at hz
            cases hz
      rw [hv] at hR
      wp_walk
      exact ⟨_, rfl, by simpa [Builtin.Tuple.tupleCompareSizes] using hR⟩
    case h =>
      exact ⟨rfl, rfl, items.toList, items2.toList, ns, ms, rfl, hi, hj, by omega, h⟩
end

section
variable {prog : Program} {w : World} {A : Around} {E : Value → Shared → Prop} {s : Shared}

theorem lt_tupInts {l b : Addr} {items items2 : Array Value} {ns ms : List Int} {Q : Value → Shared → Prop} (hl : IsTup s.heap l items) (hb : IsTup s.heap b items2) (hi : IntsAre items.toList ns) (hj : IntsAre items2.toList ms)
    (hu : A.units < cLine) (h : Q (.bool (lexLt ns ms)) s) : wpAny (model prog w) A (compareOp .Lt (.ref l) (.ref b)) Q E s := by
  obtain ⟨⟨cls, dd, data, sl⟩, ho, hc, n, hd⟩ := id hl
  obtain ⟨⟨cls2, dd2, data2, sl2⟩, ho2, hc2, n2, hd2⟩ := id hb
  simp only at hc hd hc2 hd2
  subst hc hd hc2 hd2
  exact richCompare_meets_room (op := .Lt) ⟨_, ho, rfl⟩ ⟨_, ho2, rfl⟩ PySem.F.slot_tuple_lt PySem.F.entry_tuple_lt (PySem.F.args_tuple_lt_2 _ _) (tuple_lt_ints l b items items2 n n2 dd dd2 sl sl2 ns ms hi hj)
    ⟨ho, ho2, show Value.bool (lexLt ns ms) ≠ Value.notImplemented ∧ Q (.bool (lexLt ns ms)) s from ⟨(fun x => nomatch x), h⟩⟩ hu

/-- t + u, t not empty -/
theorem cat_tup {t b : Addr} {vs ws : List Value} {Q : Value → Shared → Prop} (ht : IsTup s.heap t vs.toArray) (hb : IsTup s.heap b ws.toArray) (hv : vs ≠ [])
    (h1 : ws = [] → Q (.ref t) s) (h2 : ws ≠ [] → Q (.ref s.heap.objs.size) { s with heap := s.heap.push { cls := .type "tuple", data := .seq (vs ++ ws).toArray } })
    (hsz : vs.length + ws.length ≤ sizeLine) : wpAny (model prog w) A (binaryOp .Add (.ref t) (.ref b)) Q E s := by
  obtain ⟨⟨cls, dd, data, sl⟩, ho, hc, n, hd⟩ := id ht
  obtain ⟨⟨cls2, dd2, data2, sl2⟩, ho2, hc2, n2, hd2⟩ := id hb
  simp only at hc hd hc2 hd2
  subst hc hd hc2 hd2
  have e : vs.toArray ++ ws.toArray = (vs ++ ws).toArray := by simp
  by_cases hw : ws = []
  · exact concat_meets ⟨_, ho, rfl⟩ ⟨_, ho2, rfl⟩ noFill_tuple_add seq_tuple_add PySem.F.slot_tuple_add PySem.F.entry_tuple_add (PySem.F.args_tuple_add_2 _ _)
      (tuple_addW1 t b vs.toArray ws.toArray n n2 dd dd2 sl sl2 (by simpa using hv) (by simp [hw])) ⟨ho, ho2, h1 hw⟩
  · refine concat_meets ⟨_, ho, rfl⟩ ⟨_, ho2, rfl⟩ noFill_tuple_add seq_tuple_add PySem.F.slot_tuple_add PySem.F.entry_tuple_add (PySem.F.args_tuple_add_2 _ _)
      (tuple_addW2 t b vs.toArray ws.toArray n n2 dd dd2 sl sl2 (by simpa using hv) (by simpa using hw) (by rw [List.size_toArray, List.size_toArray]; exact hsz)) ⟨ho, ho2, ?_⟩
    rw [e]
    exact h2 hw

/-! ### t[a:b], not the whole -/
/-- a slice's bound as a place among n (d where it is left out) -/
def sIx (n d : Nat) : Option Int → Nat
  | none => d
  | some v => if v < 0 then (v + (n : Int)).toNat else min v.toNat n
theorem sIx_none (n d : Nat) : sIx n d none = d := rfl
theorem sIx_nat (n d k : Nat) : sIx n d (some (k : Int)) = min k n := by
  show (if (k : Int) < 0 then ((k : Int) + (n : Int)).toNat else min (k : Int).toNat n) = min k n
  rw [if_neg (by omega), Int.toNat_natCast]
theorem sIx_le (n d : Nat) (hd : d ≤ n) (o : Option Int) : sIx n d o ≤ n := by
  cases o with
  | none => exact hd
  | some v =>
    show (if v < 0 then (v + (n : Int)).toNat else min v.toNat n) ≤ n
    by_cases hv : v < 0
    · rw [if_pos hv]; omega
    · rw [if_neg hv]; exact Nat.min_le_right _ _
theorem clip_eq (v : Int) (n d : Nat) : (if v < 0 then max (v + (n : Int)) 0 else min v (n : Int)) = ((sIx n d (some v) : Nat) : Int) := by
  show (if v < 0 then max (v + (n : Int)) 0 else min v (n : Int)) = (((if v < 0 then (v + (n : Int)).toNat else min v.toNat n) : Nat) : Int)
  by_cases hv : v < 0
  · simp only [if_pos hv]; omega
  · simp only [if_neg hv]; omega
theorem adjust_gen (lo hi : Option Int) (n : Nat) : Builtin.Slice.sliceAdjust lo hi 1 (n : Int) = (((sIx n 0 lo : Nat) : Int), ((sIx n n hi : Nat) : Int)) := by
  have h1 : ¬ ((1 : Int) < 0) := by omega
  unfold Builtin.Slice.sliceAdjust
  simp only [h1, if_false]
  refine Prod.ext ?_ ?_
  · cases lo with
    | none => rfl
    | some v => exact clip_eq v n 0
  · cases hi with
    | none => rfl
    | some v => exact clip_eq v n n
theorem places_gen (i j : Nat) : Builtin.Slice.slicePlaces (i : Int) (j : Int) 1 = j - i := by
  unfold Builtin.Slice.slicePlaces
  have h1 : (1 : Int) > 0 := by omega
  simp only [h1, if_true, Int.ediv_one]
  split <;> omega
theorem slicePart_ {v : Value} {o : Option Int} {Q : Option Int → Shared → Prop} (p : IsPart v o) (h : Q o s) : wpAny (model prog w) A (Builtin.Slice.slicePartIndex v) Q E s := by
  cases p with
  | none => exact slicePart_none h
  | int i t => exact slicePart_int h
theorem sliceApplied_gen {sl : Addr} {vl vu : Value} {lo hi : Option Int} {n : Nat} {Q : Int × Int × Nat → Shared → Prop} (hs : s.heap.IsSliceOf sl vl vu .none) (pl : IsPart vl lo) (pu : IsPart vu hi)
    (h : Q (((sIx n 0 lo : Nat) : Int), 1, sIx n n hi - sIx n 0 lo) s) : wpAny (model prog w) A (Builtin.Slice.sliceApplied (.ref sl) (pure (n : Int))) Q E s := by
  obtain ⟨os, hos, hcs, hds⟩ := id hs
  unfold Builtin.Slice.sliceApplied Builtin.Slice.sliceFields
  refine wpAny_bind (wpAny_bind (wpAny_field hos hds (x := vl) rfl (wpAny_bind (wpAny_field hos hds (x := vu) rfl (wpAny_bind (wpAny_field hos hds (x := .none) rfl (wpAny_pure ?_)))))))
  refine wpAny_bind (slicePart_none ?_)
  show wpAny _ _ (if ((1 : Int) == 0) = true then _ else _) _ _ s
  rw [if_neg (by decide)]
  refine wpAny_bind (slicePart_ pl (wpAny_bind (slicePart_ pu (wpAny_bind (wpAny_pure ?_)))))
  show wpAny _ _ (match Builtin.Slice.sliceAdjust lo hi 1 (n : Int) with | (lo, hi) => pure (lo, (1 : Int), Builtin.Slice.slicePlaces lo hi 1)) _ _ s
  rw [adjust_gen lo hi n]
  show wpAny _ _ (pure (((sIx n 0 lo : Nat) : Int), (1 : Int), Builtin.Slice.slicePlaces ((sIx n 0 lo : Nat) : Int) ((sIx n n hi : Nat) : Int) 1)) _ _ s
  rw [places_gen]
  exact wpAny_pure h
theorem pick_gen (xs : Array Value) (i k : Nat) : ((List.range k).filterMap fun (m : Nat) => xs[((i : Int) + (m : Int) * 1).toNat]?).toArray = ((xs.toList.drop i).take k).toArray := by
  have e : (fun (m : Nat) => xs[((i : Int) + (m : Int) * 1).toNat]?) = fun m => xs[i + m]? := by
    funext m
    have : ((i : Int) + (m : Int) * 1).toNat = i + m := by omega
    rw [this]
  rw [e]
  have := pick_run xs i k
  rw [List.filterMap_map] at this
  have e2 : ((fun x => xs[x]?) ∘ fun x => i + x) = fun m => xs[i + m]? := rfl
  rw [e2] at this
  rw [this]

theorem getItem_tuple_cut {t sl : Addr} {items : Array Value} {vl vu : Value} {lo hi : Option Int} {Q : Value → Shared → Prop} (ht : IsTup s.heap t items) (hs : s.heap.IsSliceOf sl vl vu .none) (pl : IsPart vl lo) (pu : IsPart vu hi)
    (hw : ¬ (sIx items.size 0 lo = 0 ∧ sIx items.size items.size hi = items.size))
    (h : Q (.ref s.heap.objs.size) { s with heap := s.heap.push { cls := .type "tuple", data := .seq ((items.toList.drop (sIx items.size 0 lo)).take (sIx items.size items.size hi - sIx items.size 0 lo)).toArray } })
    (hsz : items.size ≤ sizeLine) : wpAny (model prog w) A (getItem (.ref t) (.ref sl)) Q E s := by
  have htake : sizeOk (.seq ((items.toList.drop (sIx items.size 0 lo)).take (sIx items.size items.size hi - sIx items.size 0 lo)).toArray) := by
    show ((items.toList.drop (sIx items.size 0 lo)).take (sIx items.size items.size hi - sIx items.size 0 lo)).toArray.size ≤ sizeLine
    rw [List.size_toArray, List.length_take, List.length_drop, Array.length_toList]
    omega
  have hj : sIx items.size items.size hi ≤ items.size := sIx_le _ _ (Nat.le_refl _) hi
  obtain ⟨os, hos, hcs, hds⟩ := id hs
  have hTs : s.TypeIs (.ref sl) "slice" := ⟨os, hos, hcs⟩
  unfold getItem
  try with_reducible refine wpAny_holding ?_
  first | refine wpAny_bind (wpAny_pure ?_) | skip
  refine wpAny_bind (wpAny_sequenceKey ht.typeIs (by decide) ?_)
  refine wpAny_bind (wpAny_callSpecial?_slot (name := Str.ofString "__getitem__") ht.typeIs PyProof.Rows.slot_tuple_getitem
    (wpAny_call_entry PyProof.Rows.slot_tuple_getitem ht.typeIs entry_tuple_getitem ?_ (args_tuple_getitem _ _)))
  show wpAny _ _ (Builtin.Tuple.tupleItemsOf (.ref t) >>= _) _ _ s
  refine wpAny_bind (tupleItemsOf_ ht ?_)
  refine wpAny_bind (wpAny_typeOf hTs ?_)
  rw [if_pos (by decide)]
  refine wpAny_bind (sliceApplied_gen hs pl pu ?_)
  have hno : ¬ ((((sIx items.size 0 lo : Nat) : Int) == 0 && (1 : Int) == 1 && (sIx items.size items.size hi - sIx items.size 0 lo) == items.size) = true) := by
    intro q
    rw [Bool.and_eq_true, Bool.and_eq_true] at q
    have q1 : ((sIx items.size 0 lo : Nat) : Int) = 0 := eq_of_beq q.1.1
    have q2 : sIx items.size items.size hi - sIx items.size 0 lo = items.size := eq_of_beq q.2
    exact hw ⟨by omega, by omega⟩
  show wpAny _ _ (if (((sIx items.size 0 lo : Nat) : Int) == 0 && (1 : Int) == 1 && (sIx items.size items.size hi - sIx items.size 0 lo) == items.size) = true then _ else _) _ _ s
  rw [if_neg hno, pick_gen]
  first
    | exact wpAny_bind (m := Builtin.Tuple.tupleExact _) (wpAny_newObj_type (wpAny_pure ⟨_, rfl, wpAny_pure h⟩) htake)
    | exact wpAny_bind (m := Builtin.Tuple.tupleExact _) (wpAny_newObj_type (wpAny_bind (wpAny_pure (wpAny_pure ⟨_, rfl, wpAny_pure h⟩))) htake)
    | exact wpAny_bind (wpAny_bind (m := Builtin.Tuple.tupleExact _) (wpAny_newObj_type (wpAny_pure (wpAny_pure ⟨_, rfl, wpAny_pure h⟩)) htake))
    | exact wpAny_bind (wpAny_bind (m := Builtin.Tuple.tupleExact _) (wpAny_newObj_type (wpAny_pure ⟨_, rfl, wpAny_pure h⟩) htake))
end
end HT

namespace L2
open PySem PySem.Spec PyProof.Rows

/-! ### the parts of a slice -/
abbrev TO := St → Hp → (Option Int → Hp → Prop) → Prop
/-- a slice's part (left out, or an int) -/
def PO (X : Cx) (e : Option Expr) (t : TO) : Prop :=
  ∀ (pins : List (Addr × Obj)) (s : Shared) (σ : St) (H : Hp) (Q : Option Int → Hp → Prop), Inv X pins σ H s → t σ H Q →
    wpAny (model X.prog X.w) X.A (evalPart e X.env) (fun u s' => ∃ o H', Inv X pins σ H' s' ∧ IsPart u o ∧ Q o H') X.xe s
def tNoPart : TO := fun _ H Q => Q none H
def tPart (t : TE) : TO := fun σ H Q => t σ H fun x H1 => ∃ i, x = .int i ∧ Q (some i) H1

theorem intsAre_of {ns : List Int} : ∀ {us : List Value}, Vals (ns.map V.int) us → IntsAre us ns := by
  induction ns with
  | nil => intro us r; rw [List.map_nil] at r; cases r; exact .nil
  | cons n ns ih =>
    intro us r
    rw [List.map_cons] at r
    cases r with
    | cons r1 r2 =>
      obtain ⟨t, e⟩ := r1
      subst e
      exact .cons n t (ih r2)

section
variable {X : Cx} {e : Expr} {te : TE} {lo hi : Option Expr} {tl th : TO} {pos p2 : Pos}

theorem po_none : PO X none tNoPart := by
  intro pins s σ H Q I h
  rw [evalPart_none]
  exact wpAny_pure ⟨none, H, I, .none, h⟩
theorem po_some (h : PE X e te) : PO X (some e) (tPart te) := by
  intro pins s σ H Q I hw
  rw [evalPart_some]
  refine thn (h pins s σ H _ I hw) fun u s1 ⟨x, H1, I1, r1, q1⟩ => ?_
  obtain ⟨i, rfl, q⟩ := q1
  obtain ⟨t, rfl⟩ := r1
  exact ⟨some i, H1, I1, .int i t, q⟩

/-- what a slice of a value is, by values: the slice object stands at sl -/
def SlR (X : Cx) (r : V → Option Int → Option Int → Hp → VK → Prop) : Prop :=
  ∀ (pins : List (Addr × Obj)) (s : Shared) (σ : St) (H : Hp) (x : V) (v vl vu : Value) (lo hi : Option Int) (sl : Addr) (Q : VK), Inv X pins σ H s → RelV x v → s.heap.IsSliceOf sl vl vu .none → IsPart vl lo → IsPart vu hi → r x lo hi H Q →
    ∃ T id, typeLookup (.type T) "__getitem__" = pure (some (.builtin id)) ∧ s.TypeIs v T ∧ wpAny (model X.prog X.w) X.A (getItem v (.ref sl)) (EP X pins σ Q) X.xe s
theorem SlR.or {r r' : V → Option Int → Option Int → Hp → VK → Prop} (h : SlR X r) (h' : SlR X r') : SlR X (fun x lo hi H Q => r x lo hi H Q ∨ r' x lo hi H Q) := by
  intro pins s σ H x v vl vu lo hi sl Q I rx hs pl pu q
  rcases q with q | q
  · exact h pins s σ H x v vl vu lo hi sl Q I rx hs pl pu q
  · exact h' pins s σ H x v vl vu lo hi sl Q I rx hs pl pu q
def tSl (r : V → Option Int → Option Int → Hp → VK → Prop) (te : TE) (tl th : TO) : TE := fun σ H Q => te σ H fun x H1 => tl σ H1 fun l H2 => th σ H2 fun u H3 => r x l u H3 Q
/-- a[lo:hi], any a -/
theorem pe_slice {r : V → Option Int → Option Int → Hp → VK → Prop} (hr : SlR X r) (he : PE X e te) (hl : PO X lo tl) (hu : PO X hi th) : PE X (.Subscript e (.Slice lo hi none p2) pos) (tSl r te tl th) := by
  intro pins s σ H Q I h
  refine Subscript_ (thn (he pins s σ H _ I h) fun v s1 ⟨x, H1, I1, r1, q1⟩ => ?_)
  refine wpAny_Slice (thn (hl pins s1 σ H1 _ I1 q1) fun vl s2 ⟨l, H2, I2, pl, q2⟩ => thn (hu pins s2 σ H2 _ I2 q2) fun vu s3 ⟨u, H3, I3, pu, q3⟩ => ?_)
  rw [evalPart_none]
  refine wpAny_pure ?_
  have I4 : Inv X pins σ H3 { s3 with heap := s3.heap.push { cls := .type "slice", data := .fields #[vl, vu, .none] } } := I3.kept (t' := s3.toks) fun b ob q => Heap.get?_push_of_some _ q
  obtain ⟨T, id, hT, ht, hg⟩ := hr pins { s3 with heap := s3.heap.push { cls := .type "slice", data := .fields #[vl, vu, .none] } } σ H3 x v vl vu l u s3.heap.objs.size Q I4 r1 (Heap.IsSliceOf.new ..) pl pu q3
  show wpAny (model X.prog X.w) X.A (subscriptTail e (.Slice lo hi none p2) v (.ref s3.heap.objs.size)) (EP X pins σ Q) X.xe { s3 with heap := s3.heap.push { cls := .type "slice", data := .fields #[vl, vu, .none] } }
  exact tail_any (ops := [.ref s3.heap.objs.size, v]) ht hT hg (by with_unfolding_all rfl)

/-- the items of xs[lo:hi] -/
def cutV (xs : List V) (lo hi : Option Int) : List V := (xs.drop (HT.sIx xs.length 0 lo)).take (HT.sIx xs.length xs.length hi - HT.sIx xs.length 0 lo)
theorem cutV_length (xs : List V) (lo hi : Option Int) : (cutV xs lo hi).length ≤ xs.length := by
  unfold cutV
  rw [List.length_take, List.length_drop]
  omega
/-- t[lo:hi], not the whole of it (the whole would be t itself) -/
def rSlT (K : PySem.W.Frag) : V → Option Int → Option Int → Hp → VK → Prop := fun x lo hi H Q => ∃ a xs, x = .ref a ∧ SqT K H a xs ∧
  ¬ (HT.sIx xs.length 0 lo = 0 ∧ HT.sIx xs.length xs.length hi = xs.length) ∧ ∀ p, H p = none → Q (.ref p) (upd H p (.tup (cutV xs lo hi)))
theorem sl_tup : SlR X (rSlT X.K) := by
  intro pins s σ H x v vl vu lo hi sl Q I rx hs pl pu h
  obtain ⟨a, xs, rfl, hx, hw, q⟩ := h
  cases rx
  obtain ⟨its, r, ht, hz⟩ := I.tuple hx
  have hlen : its.toArray.size = xs.length := by rw [List.size_toArray]; exact r.length.symm
  refine ⟨"tuple", _, PyProof.Rows.slot_tuple_getitem.lookup, ht.typeIs, ?_⟩
  refine HT.getItem_tuple_cut ht hs pl pu (by rw [hlen]; exact hw) ?_ (by rw [hlen]; exact hz)
  rw [hlen]
  refine ⟨.ref s.heap.objs.size, _, I.laid (t' := s.toks) (o := .tup (cutV xs lo hi)) (fun b ob q => Heap.get?_push_of_some _ q) (Nat.le_refl _) ?_, rfl, q _ (I.hok.fresh (Nat.le_refl _))⟩
  exact ⟨Nat.le_trans (cutV_length xs lo hi) hz, _, (r.drop (HT.sIx xs.length 0 lo)).take (HT.sIx xs.length xs.length hi - HT.sIx xs.length 0 lo), IsTup.new _ _⟩

/-! ### t < u, t + u -/
def rLtT (K : PySem.W.Frag) : R2 := fun x y H Q => ∃ a b ns ms, x = .ref a ∧ y = .ref b ∧ SqT K H a (ns.map V.int) ∧ SqT K H b (ms.map V.int) ∧ Q (.bl (HT.lexLt ns ms)) H
theorem op_ltT (hu : X.A.units < cLine) : OpR X (compareOp .Lt) (rLtT X.K) := by
  intro pins s σ H x y v u Q I rx ry h
  obtain ⟨a, b, ns, ms, rfl, rfl, ha, hb, q⟩ := h
  cases rx
  cases ry
  obtain ⟨its, r1, p1, _⟩ := I.tuple ha
  obtain ⟨its2, r2, p2, _⟩ := I.tuple hb
  have i1 : IntsAre its.toArray.toList ns := intsAre_of r1
  have i2 : IntsAre its2.toArray.toList ms := intsAre_of r2
  exact HT.lt_tupInts p1 p2 i1 i2 hu ⟨.bl (HT.lexLt ns ms), H, I, rfl, q⟩
/-- t + u, t not empty: u empty gives t itself -/
def rCatT (K : PySem.W.Frag) : R2 := fun x y H Q => ∃ a b xs ys, x = .ref a ∧ y = .ref b ∧ SqT K H a xs ∧ SqT K H b ys ∧ xs ≠ [] ∧ xs.length + ys.length ≤ sizeLine ∧
  (ys = [] → Q (.ref a) H) ∧ (ys ≠ [] → ∀ p, H p = none → Q (.ref p) (upd H p (.tup (xs ++ ys))))
theorem Vals.nil_iff {xs : List V} {us : List Value} (r : Vals xs us) : us = [] ↔ xs = [] := by
  cases r with
  | nil => simp
  | cons _ _ => simp
theorem op_catT : OpR X (binaryOp .Add) (rCatT X.K) := by
  intro pins s σ H x y v u Q I rx ry h
  obtain ⟨a, b, xs, ys, rfl, rfl, ha, hb, hx, hz, q1, q2⟩ := h
  cases rx
  cases ry
  obtain ⟨its, r1, p1, _⟩ := I.tuple ha
  obtain ⟨its2, r2, p2, _⟩ := I.tuple hb
  refine HT.cat_tup p1 p2 (fun z => hx (r1.nil_iff.mp z)) (fun z => ⟨.ref a, H, I, rfl, q1 (r2.nil_iff.mp z)⟩) (fun z => ?_) (by rw [← r1.length, ← r2.length]; exact hz)
  refine ⟨.ref s.heap.objs.size, _, I.laid (t' := s.toks) (o := .tup (xs ++ ys)) (fun b ob q => Heap.get?_push_of_some _ q) (Nat.le_refl _) ?_, rfl, q2 (fun w => z (r2.nil_iff.mpr w)) _ (I.hok.fresh (Nat.le_refl _))⟩
  exact ⟨by rw [List.length_append]; exact hz, _, r1.append r2, IsTup.new _ _⟩
/-- tuple(t) -/
theorem call_tupleT : CallR X (.type "tuple") (fun xs H Q => ∃ a ys, xs = [.ref a] ∧ SqT X.K H a ys ∧ Q (.ref a) H) := by
  intro pins s σ H xs us Q I r h
  obtain ⟨a, ys, rfl, ha, q⟩ := h
  obtain ⟨u, rfl, ru⟩ := vals1 r
  cases ru
  obtain ⟨its, _, p1, _⟩ := I.tuple ha
  exact call_tuple_same (items := its.toArray) p1 ⟨.ref a, H, I, rfl, q⟩
end
end L2

namespace L2
open PySem PySem.Spec PyProof.Rows

/-! ### places -/
/-- the place that an index of any sign means -/
def ixN (n : Nat) (i : Int) : Option Nat := if 0 ≤ i then (if i < n then some i.toNat else none) else if -(n : Int) ≤ i then some (i + n).toNat else none
def atI {α : Type} (xs : List α) (i : Int) : Option α := (ixN xs.length i).bind fun j => xs[j]?
theorem ixN_seq {n : Nat} {i : Int} {j : Nat} (h : ixN n i = some j) : seqIndex? i n = some j ∧ j < n ∧ -(n : Int) ≤ i ∧ i < n := by
  unfold ixN at h
  by_cases h0 : 0 ≤ i
  · rw [if_pos h0] at h
    by_cases h1 : i < n
    · rw [if_pos h1] at h
      have e : i.toNat = j := Option.some.inj h
      exact ⟨by rw [seqIndex_of h0 h1, e], by omega, by omega, h1⟩
    · rw [if_neg h1] at h; cases h
  · rw [if_neg h0] at h
    by_cases h1 : -(n : Int) ≤ i
    · rw [if_pos h1] at h
      have e : (i + n).toNat = j := Option.some.inj h
      exact ⟨by rw [seqIndex_neg (by omega) h1, e], by omega, h1, by omega⟩
    · rw [if_neg h1] at h; cases h
theorem atI_get {α : Type} {xs : List α} {i : Int} {v : α} (h : atI xs i = some v) : ∃ j, seqIndex? i xs.length = some j ∧ xs[j]? = some v ∧ j < xs.length ∧ -(xs.length : Int) ≤ i ∧ i < xs.length := by
  unfold atI at h
  cases e : ixN xs.length i with
  | none => rw [e] at h; cases h
  | some j =>
    rw [e] at h
    obtain ⟨h1, h2, h3, h4⟩ := ixN_seq e
    exact ⟨j, h1, h, h2, h3, h4⟩
theorem atI_nat {α : Type} {xs : List α} {j : Nat} {v : α} (h : xs[j]? = some v) : atI xs (j : Int) = some v := by
  have hj : j < xs.length := (List.getElem?_eq_some_iff.mp h).1
  have e : ixN xs.length (j : Int) = some j := by
    unfold ixN
    rw [if_pos (by omega), if_pos (by omega)]; simp
  unfold atI; rw [e]; exact h
theorem atI_last {α : Type} (xs : List α) (v : α) : atI (xs ++ [v]) (-1) = some v := by
  have hl : (xs ++ [v]).length = xs.length + 1 := by simp
  have e : ixN (xs ++ [v]).length (-1) = some xs.length := by
    unfold ixN
    rw [hl, if_neg (by decide), if_pos (by omega)]
    congr 1
    omega
  unfold atI
  rw [e]
  show (xs ++ [v])[xs.length]? = some v
  simp

/-! ### what may be subscripted -/
/-- what stands as an index of a plain subscript -/
def PlainIx (b : Expr) : Prop := ∀ o i, subscripted b false o i = operate [o, i] (getItem o i)
/-- a subscript by values -/
def IxR (X : Cx) (r : R2) : Prop :=
  ∀ (value slice : Expr) (pins : List (Addr × Obj)) (s : Shared) (σ : St) (H : Hp) (x y : V) (v u : Value) (Q : VK), Inv X pins σ H s → RelV x v → RelV y u → r x y H Q →
    subscripted slice false v u = operate [v, u] (getItem v u) → wpAny (model X.prog X.w) X.A (subscriptTail value slice v u) (EP X pins σ Q) X.xe s
/-- a call of a builtin's method by values: the receiver, the arguments -/
def MtR (X : Cx) (id : String) (r : V → List V → Hp → VK → Prop) : Prop :=
  ∀ (pins : List (Addr × Obj)) (s : Shared) (σ : St) (H : Hp) (x : V) (xs : List V) (v : Value) (us : List Value) (Q : VK), Inv X pins σ H s → RelV x v → Vals xs us → r x xs H Q →
    wpAny (model X.prog X.w) X.A (call (.builtin id) (v :: us)) (EP X pins σ Q) X.xe s
section
variable {X : Cx} {a b : Expr} {ta tb : TE} {pos : Pos}
theorem IxR.or {r r' : R2} (h : IxR X r) (h' : IxR X r') : IxR X (fun x y H Q => r x y H Q ∨ r' x y H Q) := by
  intro value slice pins s σ H x y v u Q I rx ry q hs
  rcases q with q | q
  · exact h value slice pins s σ H x y v u Q I rx ry q hs
  · exact h' value slice pins s σ H x y v u Q I rx ry q hs
theorem MtR.or {id : String} {r r' : V → List V → Hp → VK → Prop} (h : MtR X id r) (h' : MtR X id r') : MtR X id (fun x xs H Q => r x xs H Q ∨ r' x xs H Q) := by
  intro pins s σ H x xs v us Q I rx rs q
  rcases q with q | q
  · exact h pins s σ H x xs v us Q I rx rs q
  · exact h' pins s σ H x xs v us Q I rx rs q
/-- a[b] -/
theorem pe_ix {r : R2} (hr : IxR X r) (ha : PE X a ta) (hb : PE X b tb) (hs : PlainIx b) : PE X (.Subscript a b pos) (tOp r ta tb) := by
  intro pins s σ H Q I h
  exact Subscript_ (binT ha hb I h fun v u s2 x y H2 I2 rx ry q => hr a b pins s2 σ H2 x y v u Q I2 rx ry q (hs _ _))

def rIxL (K : PySem.W.Frag) : R2 := fun x y H Q => ∃ p xs i v, x = .ref p ∧ y = .int i ∧ SqL K H p xs ∧ atI xs i = some v ∧ Q v H
def rIxT (K : PySem.W.Frag) : R2 := fun x y H Q => ∃ p xs i v, x = .ref p ∧ y = .int i ∧ SqT K H p xs ∧ atI xs i = some v ∧ Q v H
def rIxS : R2 := fun x y H Q => ∃ z i c, x = .str z ∧ y = .int i ∧ z.length ≤ sizeLine ∧ atI z.cps.toList i = some c ∧ Q (.str ⟨#[c]⟩) H
theorem ix_list : IxR X (rIxL X.K) := by
  intro value slice pins s σ H x y v u Q I rx ry h hs
  obtain ⟨p, xs, i, z, rfl, rfl, hq, he, q⟩ := h
  cases rx
  obtain ⟨t, rfl⟩ := ry
  obtain ⟨its, r, pl, hz⟩ := I.list hq
  obtain ⟨j, h1, h2, h3, h4, h5⟩ := atI_get he
  obtain ⟨w, ew, rw'⟩ := r.get h2
  have hl := r.length
  have hn := line63
  have fin : EP X pins σ Q w s := ⟨z, H, I, rw', q⟩
  by_cases h0 : 0 ≤ i
  · have hj : i.toNat = j := by
      rw [seqIndex_of h0 h5] at h1
      exact Option.some.inj h1
    exact item_listR pl.isList h0 (by omega) (by rw [hj]; simpa using ew) fin hs
  · have hj : (i + (its.toArray.size : Int)).toNat = j := by
      rw [seqIndex_neg (by omega) h4] at h1
      rw [List.size_toArray, ← hl]
      exact Option.some.inj h1
    exact subscriptTail_builtinR (x := w) pl.isList.typeIs slot_list_getitem.lookup
      (wpAny_getItem_list_neg (Q := fun r s' => r = w ∧ EP X pins σ Q r s') pl.isList (by omega) (by rw [List.size_toArray] <;> omega) (by omega) (by rw [hj]; simpa using ew) ⟨rfl, fin⟩) hs
theorem ix_tup : IxR X (rIxT X.K) := by
  intro value slice pins s σ H x y v u Q I rx ry h hs
  obtain ⟨p, xs, i, z, rfl, rfl, hq, he, q⟩ := h
  cases rx
  obtain ⟨t, rfl⟩ := ry
  obtain ⟨its, r, pl, hz⟩ := I.tuple hq
  obtain ⟨j, h1, h2, h3, h4, h5⟩ := atI_get he
  obtain ⟨w, ew, rw'⟩ := r.get h2
  have hl := r.length
  have hn := line63
  have fin : EP X pins σ Q w s := ⟨z, H, I, rw', q⟩
  exact subscriptTail_builtinR (x := w) pl.typeIs slot_tuple_getitem.lookup
    (getItem_tuple (j := j) (Q := fun r s' => r = w ∧ EP X pins σ Q r s') pl (by omega) (by omega) (by rw [List.size_toArray, ← hl]; exact h1) (by simpa using ew) ⟨rfl, fin⟩) hs
theorem ix_str : IxR X rIxS := by
  intro value slice pins s σ H x y v u Q I rx ry h hs
  obtain ⟨z, i, c, rfl, rfl, hz, he, q⟩ := h
  obtain ⟨t, rfl⟩ := rx
  obtain ⟨t', rfl⟩ := ry
  obtain ⟨j, h1, h2, h3, h4, h5⟩ := atI_get he
  have hl : z.cps.toList.length = z.length := by simp [Str.length]
  rw [hl] at h1 h4 h5
  have hn := line63
  exact tail_any (typeIs_str s z t) slot_str_getitem.lookup (getItem_str (c := c) (by
    have e1 : decide (i < -(2 ^ 63 : Int)) = false := decide_eq_false (by omega)
    have e2 : decide (i ≥ 2 ^ 63) = false := decide_eq_false (by omega)
    rw [e1, e2, Bool.or_false]) (by rw [h1]; simpa using h2) ⟨.str ⟨#[c]⟩, H, I.tok _, ⟨_, rfl⟩, q⟩) hs
/-- list, tuple or str -/
def rIx (K : PySem.W.Frag) : R2 := fun x y H Q => rIxL K x y H Q ∨ rIxT K x y H Q ∨ rIxS x y H Q
theorem ix_seq : IxR X (rIx X.K) := ix_list.or (ix_tup.or ix_str)

/-! ### xs[i] = v, any sign -/
/-- the list's object behind a store -/
theorem mapSeq_set (its : List Value) (n j : Nat) (u : Value) : Obj.mapSeq (·.setIfInBounds j u) { cls := .type "list", data := .seq its.toArray n } = { cls := .type "list", data := .seq (its.set j u).toArray n } := by
  simp [Obj.mapSeq]
theorem Inv.lst {pins : List (Addr × Obj)} {σ : St} {H : Hp} {s : Shared} {p : Addr} {xs : List V} (I : Inv X pins σ H s) (h : H p = some (.lst xs)) :
    ∃ (its : List Value) (n : Nat), Vals xs its ∧ s.heap.get? p = some { cls := .type "list", data := .seq its.toArray n } ∧ xs.length ≤ sizeLine := by
  obtain ⟨z, its, n, r, e⟩ := I.hok p _ h
  exact ⟨its, n, r, e, z⟩
/-- the list at p is written by an update of its object -/
theorem Inv.lstUpd {pins : List (Addr × Obj)} {σ : St} {H : Hp} {s : Shared} {p : Addr} {xs ys : List V} {its its' : List Value} {n n' : Nat} {f : Obj → Obj} (I : Inv X pins σ H s) (h : H p = some (.lst xs))
    (ho : s.heap.get? p = some { cls := .type "list", data := .seq its.toArray n }) (hf : f { cls := .type "list", data := .seq its.toArray n } = { cls := .type "list", data := .seq its'.toArray n' }) (r : Vals ys its') (hz : ys.length ≤ sizeLine) (t : Nat) :
    Inv X pins σ (upd H p (.lst ys)) { s with heap := s.heap.update p f, toks := t } := by
  have e : (s.heap.update p f).get? p = some { cls := .type "list", data := .seq its'.toArray n' } := by
    rw [Heap.get?_update_self f ho (by rw [hf] <;> rfl), hf]
  refine I.write (x := p) (e := p) (by rw [h]; trivial) (.inl rfl) (fun b u hb q => (Heap.get?_update_other _ _ (Ne.symm hb)).trans q) ⟨_, e⟩ ?_
  exact ⟨hz, its', n', r, e⟩
def rSetL : V → V → V → Hp → (Hp → Prop) → Prop := fun o i v H Q => ∃ p xs k j, o = .ref p ∧ i = .int k ∧ H p = some (.lst xs) ∧ ixN xs.length k = some j ∧ Q (upd H p (.lst (xs.set j v)))
theorem set_list : PSet X rSetL := by
  intro pins s σ H o i v ov iv u Q I ro ri rv h
  obtain ⟨p, xs, k, j, rfl, rfl, hp, hj, q⟩ := h
  cases ro
  obtain ⟨t, rfl⟩ := ri
  obtain ⟨its, n, r, ho, hz⟩ := I.lst hp
  obtain ⟨h1, h2, h3, h4⟩ := ixN_seq hj
  have hl := r.length
  have hn := line63
  have I' : Inv X pins σ (upd H p (.lst (xs.set j v))) { s with heap := s.heap.update p (Obj.mapSeq (·.setIfInBounds j u)) } :=
    I.lstUpd hp ho (mapSeq_set its n j u) (r.set rv j) (by rw [List.length_set]; exact hz) s.toks
  by_cases h0 : 0 ≤ k
  · have hk : k.toNat = j := by
      rw [seqIndex_of h0 h4] at h1
      exact Option.some.inj h1
    exact PySem.W.ki_setAt ho h0 (by omega) (by rw [List.size_toArray, ← hl]; exact h4) (by rw [hk]; exact ⟨_, I', q⟩)
  · have hk : (k + (its.toArray.size : Int)).toNat = j := by
      rw [seqIndex_neg (by omega) h3] at h1
      rw [List.size_toArray, ← hl]
      exact Option.some.inj h1
    exact PySem.W.ki_setBack ho (by omega) (by rw [List.size_toArray, ← hl]; exact h3) (by omega) (by rw [hk]; exact ⟨_, I', q⟩)

/-! ### slices -/
theorem slice_bounds (lo hi : Option Int) (n : Nat) : (sliceBounds lo hi none n).1 = ((HT.sIx n 0 lo : Nat) : Int) ∧ (sliceBounds lo hi none n).2.1 = ((HT.sIx n n hi : Nat) : Int) ∧ (sliceBounds lo hi none n).2.2 = 1 := by
  refine ⟨?_, ?_, rfl⟩
  · cases lo with
    | none => simp [sliceBounds, HT.sIx]
    | some i =>
      simp only [sliceBounds, HT.sIx, Option.getD_none, show (1 : Int) > 0 by decide, if_true]
      by_cases h : i < 0
      · simp only [h, if_true] <;> omega
      · simp only [h, if_false] <;> omega
  · cases hi with
    | none => simp [sliceBounds, HT.sIx]
    | some i =>
      simp only [sliceBounds, HT.sIx, Option.getD_none, show (1 : Int) > 0 by decide, if_true]
      by_cases h : i < 0
      · simp only [h, if_true] <;> omega
      · simp only [h, if_false] <;> omega
theorem slicePick_cut (its : List Value) (lo hi : Option Int) : slicePick its.toArray lo hi none = ((its.drop (HT.sIx its.length 0 lo)).take (HT.sIx its.length its.length hi - HT.sIx its.length 0 lo)).toArray := by
  obtain ⟨h1, h2, h3⟩ := slice_bounds lo hi its.toArray.size
  unfold slicePick
  rw [h1, h2, h3]
  simp only [sliceRange_one, pick_run, List.size_toArray] <;> rfl
/-- xs[lo:hi] of a list: a new list -/
def rSlL (K : PySem.W.Frag) : V → Option Int → Option Int → Hp → VK → Prop := fun x lo hi H Q => ∃ a xs, x = .ref a ∧ SqL K H a xs ∧ ∀ p, H p = none → Q (.ref p) (upd H p (.lst (cutV xs lo hi)))
theorem sl_list : SlR X (rSlL X.K) := by
  intro pins s σ H x v vl vu lo hi sl Q I rx hs pl pu h
  obtain ⟨a, xs, rfl, hx, q⟩ := h
  cases rx
  obtain ⟨its, r, ht, hz⟩ := I.list hx
  have hlen := r.length
  refine ⟨"list", _, slot_list_getitem.lookup, ht.isList.typeIs, ?_⟩
  refine wpAny_getItem_list_slice ht.isList hs pl pu .none (by simp) ?_ (by rw [List.size_toArray] <;> omega)
  rw [slicePick_cut, ← hlen]
  refine ⟨.ref s.heap.objs.size, _, I.laid (t' := s.toks) (o := .lst (cutV xs lo hi)) (fun b ob q => Heap.get?_push_of_some _ q) (Nat.le_refl _) ?_, rfl, q _ (I.hok.fresh (Nat.le_refl _))⟩
  exact ⟨Nat.le_trans (cutV_length xs lo hi) hz, _, 0, (r.drop (HT.sIx xs.length 0 lo)).take (HT.sIx xs.length xs.length hi - HT.sIx xs.length 0 lo), Heap.get?_push_size _ rfl⟩

/-! ### in, not in: flat items -/
def flatV : V → Bool
  | .non => true
  | .bl _ => true
  | .int _ => true
  | .str _ => true
  | _ => false
/-- == of flat values -/
def eqV : V → V → Bool
  | .non, .non => true
  | .bl a, .bl b => a == b
  | .bl a, .int b => (if a then 1 else 0) == b
  | .int a, .bl b => a == (if b then 1 else 0)
  | .int a, .int b => a == b
  | .str a, .str b => a == b
  | _, _ => false
theorem eqAt_V {A : Around} {s : Shared} {y x : V} {u v : Value} (ry : RelV y u) (rx : RelV x v) (fy : flatV y = true) (fx : flatV x = true) : SeqAt.EqAt A s u v (eqV y x) := by
  cases y with
  | non =>
    cases ry
    cases x with
    | non => cases rx; exact SeqAt.EqAt.same _
    | bl b => cases rx; exact SeqAt.EqAt.none_bool b
    | int b => obtain ⟨t, rfl⟩ := rx; exact SeqAt.EqAt.none_int b t
    | str b => obtain ⟨t, rfl⟩ := rx; exact SeqAt.EqAt.none_str b t
    | _ => exact absurd (show false = true from fx) Bool.false_ne_true
  | bl a =>
    cases ry
    cases x with
    | non => cases rx; exact SeqAt.EqAt.bool_none a
    | bl b => cases rx; exact SeqAt.EqAt.bool_bool a b
    | int b => obtain ⟨t, rfl⟩ := rx; exact SeqAt.EqAt.bool_int a b t
    | str b => obtain ⟨t, rfl⟩ := rx; exact SeqAt.EqAt.bool_str a b t
    | _ => exact absurd (show false = true from fx) Bool.false_ne_true
  | int a =>
    obtain ⟨t', rfl⟩ := ry
    cases x with
    | non => cases rx; exact SeqAt.EqAt.int_none a t'
    | bl b => cases rx; exact SeqAt.EqAt.int_bool a t' b
    | int b => obtain ⟨t, rfl⟩ := rx; exact SeqAt.EqAt.int_int a t' b t
    | str b => obtain ⟨t, rfl⟩ := rx; exact SeqAt.EqAt.int_str a t' b t
    | _ => exact absurd (show false = true from fx) Bool.false_ne_true
  | str a =>
    obtain ⟨t', rfl⟩ := ry
    cases x with
    | non => cases rx; exact SeqAt.EqAt.str_none a t'
    | bl b => cases rx; exact SeqAt.EqAt.str_bool a t' b
    | int b => obtain ⟨t, rfl⟩ := rx; exact SeqAt.EqAt.str_int a t' b t
    | str b => obtain ⟨t, rfl⟩ := rx; exact SeqAt.EqAt.str_str a t' b t
    | _ => exact absurd (show false = true from fx) Bool.false_ne_true
  | _ => exact absurd (show false = true from fy) Bool.false_ne_true
/-- the items' answers, read off the values (a value's own answer does not lean on its token) -/
def eqU (x : V) (u : Value) : Bool := match u with
  | .none => eqV .non x
  | .bool b => eqV (.bl b) x
  | .int i _ => eqV (.int i) x
  | .str z _ => eqV (.str z) x
  | _ => false
theorem eqU_of {x y : V} {u : Value} (r : RelV y u) (f : flatV y = true) : eqU x u = eqV y x := by
  cases y with
  | non => cases r; rfl
  | bl b => cases r; rfl
  | int i => obtain ⟨t, rfl⟩ := r; rfl
  | str z => obtain ⟨t, rfl⟩ := r; rfl
  | _ => exact absurd (show false = true from f) Bool.false_ne_true
theorem any_eqU {x : V} : ∀ {xs : List V} {us : List Value}, Vals xs us → xs.all flatV = true → us.any (eqU x) = xs.any fun y => eqV y x
  | _, _, .nil, _ => rfl
  | y :: xs, u :: us, .cons r t, f => by
    rw [List.all_cons, Bool.and_eq_true] at f
    rw [List.any_cons, List.any_cons, eqU_of r f.1, any_eqU t f.2]
theorem mem_eqAt {A : Around} {s : Shared} {x : V} {v : Value} (rx : RelV x v) (fx : flatV x = true) : ∀ {xs : List V} {us : List Value}, Vals xs us → xs.all flatV = true → ∀ u ∈ us, SeqAt.EqAt A s u v (eqU x u)
  | _, _, .nil, _ => fun u hu => by cases hu
  | y :: xs, u :: us, .cons r t, f => fun u' hu => by
    rw [List.all_cons, Bool.and_eq_true] at f
    rcases List.mem_cons.mp hu with rfl | hu
    · rw [eqU_of r f.1]; exact eqAt_V r rx f.1 fx
    · exact mem_eqAt rx fx t f.2 u' hu
def inV (x : V) (xs : List V) : Bool := xs.any fun y => eqV y x
/-- x in a list or tuple of flat items -/
def rIn (K : PySem.W.Frag) (neg : Bool) : R2 := fun x y H Q => ∃ p xs, y = .ref p ∧ (SqL K H p xs ∨ SqT K H p xs) ∧ flatV x = true ∧ xs.all flatV = true ∧ Q (.bl (if neg then !inV x xs else inV x xs)) H
theorem op_in_seq : OpR X (compareOp .In) (rIn X.K false) := by
  intro pins s σ H x y v u Q I rx ry h
  obtain ⟨p, xs, rfl, hq, fx, fs, q⟩ := h
  cases ry
  rcases hq with hq | hq
  · obtain ⟨its, r, pl, hz⟩ := I.list hq
    refine SeqAt.in_listAt (eqU x) pl.isList (fun w hw => mem_eqAt rx fx r fs w (by simpa using hw)) ⟨.bl _, H, I, rfl, ?_⟩
    rw [show its.toArray.any (eqU x) = its.any (eqU x) by simp, any_eqU r fs]
    exact q
  · obtain ⟨its, r, pl, hz⟩ := I.tuple hq
    refine SeqAt.in_tupleAt (eqU x) pl (fun w hw => mem_eqAt rx fx r fs w (by simpa using hw)) ⟨.bl _, H, I, rfl, ?_⟩
    rw [show its.toArray.any (eqU x) = its.any (eqU x) by simp, any_eqU r fs]
    exact q
theorem op_notIn_seq : OpR X (compareOp .NotIn) (rIn X.K true) := by
  intro pins s σ H x y v u Q I rx ry h
  obtain ⟨p, xs, rfl, hq, fx, fs, q⟩ := h
  cases ry
  rcases hq with hq | hq
  · obtain ⟨its, r, pl, hz⟩ := I.list hq
    refine SeqAt.notIn_listAt (eqU x) pl.isList (fun w hw => mem_eqAt rx fx r fs w (by simpa using hw)) ⟨.bl _, H, I, rfl, ?_⟩
    rw [show its.toArray.any (eqU x) = its.any (eqU x) by simp, any_eqU r fs]
    exact q
  · obtain ⟨its, r, pl, hz⟩ := I.tuple hq
    refine SeqAt.notIn_tupleAt (eqU x) pl (fun w hw => mem_eqAt rx fx r fs w (by simpa using hw)) ⟨.bl _, H, I, rfl, ?_⟩
    rw [show its.toArray.any (eqU x) = its.any (eqU x) by simp, any_eqU r fs]
    exact q
theorem op_notIn_str : OpR X (compareOp .NotIn) (fun x y H Q => ∃ i j, x = .str i ∧ y = .str j ∧ Q (.bl (!(!(Builtin.Str.occurrences j i 0 j.length 1).isEmpty))) H) := by
  intro pins s σ H x y v u Q I rx ry h
  obtain ⟨i, j, rfl, rfl, q⟩ := h
  obtain ⟨t, rfl⟩ := rx
  obtain ⟨t', rfl⟩ := ry
  exact notIn_str ⟨.bl _, H, I, rfl, q⟩

/-! ### len, list(x), tuple(x) of any list or tuple that is read -/
theorem call_len_seq : CallR X (.builtin "len") (fun xs H Q => ∃ p ys, xs = [.ref p] ∧ (SqL X.K H p ys ∨ SqT X.K H p ys) ∧ Q (.int ys.length) H) := by
  intro pins s σ H xs us Q I r h
  obtain ⟨p, ys, rfl, hq, q⟩ := h
  obtain ⟨u, rfl, rx⟩ := vals1 r
  cases rx
  have hn := line63
  rcases hq with hq | hq
  · obtain ⟨its, r', pl, hz⟩ := I.list hq
    have hlen := r'.length
    exact Calls.call_len_list pl.isList (by simp only [List.size_toArray] <;> omega) ⟨.int ys.length, H, I.tok _, ⟨s.toks + 1, by rw [List.size_toArray, hlen]⟩, q⟩
  · obtain ⟨its, r', pl, hz⟩ := I.tuple hq
    have hlen := r'.length
    exact len_tuple pl (by simp only [List.size_toArray] <;> omega) ⟨.int ys.length, H, I.tok _, ⟨s.toks + 1, by rw [List.size_toArray, hlen]⟩, q⟩
theorem call_len_str : CallR X (.builtin "len") (fun xs H Q => ∃ z, xs = [.str z] ∧ z.length ≤ sizeLine ∧ Q (.int z.length) H) := by
  intro pins s σ H xs us Q I r h
  obtain ⟨z, rfl, hz, q⟩ := h
  obtain ⟨u, rfl, t, rfl⟩ := vals1 r
  have hn := line63
  exact len_str (by omega) ⟨.int z.length, H, I.tok _, ⟨_, rfl⟩, q⟩
theorem CallR.or {f : Value} {r r' : List V → Hp → VK → Prop} (h : CallR X f r) (h' : CallR X f r') : CallR X f (fun xs H Q => r xs H Q ∨ r' xs H Q) := by
  intro pins s σ H xs us Q I rs q
  rcases q with q | q
  · exact h pins s σ H xs us Q I rs q
  · exact h' pins s σ H xs us Q I rs q
theorem call_list_of : CallR X (.type "list") (fun xs H Q => ∃ p ys, xs = [.ref p] ∧ (SqL X.K H p ys ∨ SqT X.K H p ys) ∧ ∀ l, H l = none → Q (.ref l) (upd H l (.lst ys))) := by
  intro pins s σ H xs us Q I r h
  obtain ⟨p, ys, rfl, hq, q⟩ := h
  obtain ⟨u, rfl, rx⟩ := vals1 r
  cases rx
  have fin : ∀ (its : List Value), Vals ys its → ys.length ≤ sizeLine → ∀ (h' : Heap) (c' : Nat), (∀ b o', s.heap.get? b = some o' → h'.get? b = some o') →
      h'.get? s.heap.objs.size = some { cls := .type "list", dict := none, data := .seq its.toArray c', slots := #[] } → EP X pins σ Q (.ref s.heap.objs.size) { s with heap := h' } := fun its r' hz h' c' kp e =>
    ⟨.ref s.heap.objs.size, _, I.laid (t' := s.toks) kp (Nat.le_refl _) (show ObjOk X.prog X.w _ h' _ (.lst ys) from ⟨hz, its, c', r', e⟩), rfl, q _ (I.hok.fresh (Nat.le_refl _))⟩
  rcases hq with hq | hq
  · obtain ⟨its, r', pl, hz⟩ := I.list hq
    have hlen := r'.length
    obtain ⟨o, ho, hc, n, hd⟩ := pl.isList
    exact call_list_seq p (.inl rfl) ho hc hd (fun h' c' kp e => fin its r' hz h' c' kp e) (by simp only [List.size_toArray] <;> omega)
  · obtain ⟨its, r', pl, hz⟩ := I.tuple hq
    have hlen := r'.length
    obtain ⟨o, ho, hc, n, hd⟩ := pl
    exact call_list_seq p (.inr rfl) ho hc hd (fun h' c' kp e => fin its r' hz h' c' kp e) (by simp only [List.size_toArray] <;> omega)
theorem call_tuple_of : CallR X (.type "tuple") (fun xs H Q => ∃ p ys, xs = [.ref p] ∧ ((SqL X.K H p ys ∧ ∀ l, H l = none → Q (.ref l) (upd H l (.tup ys))) ∨ (SqT X.K H p ys ∧ Q (.ref p) H))) := by
  intro pins s σ H xs us Q I r h
  obtain ⟨p, ys, rfl, h⟩ := h
  obtain ⟨u, rfl, rx⟩ := vals1 r
  cases rx
  rcases h with ⟨hq, q⟩ | ⟨hq, q⟩
  · obtain ⟨its, r', pl, hz⟩ := I.list hq
    have hlen := r'.length
    refine call_tuple_list pl.isList (fun h' kp => ?_) (by simp only [List.size_toArray] <;> omega)
    have I1 : Inv X pins σ H { s with heap := h' } := I.kept (t' := s.toks) kp
    have I2 : Inv X pins σ (upd H h'.objs.size (.tup ys)) { s with heap := h'.push { cls := .type "tuple", data := .seq its.toArray } } :=
      I1.laid (t' := s.toks) (fun b o e => Heap.get?_push_of_some _ e) (Nat.le_refl _) (show ObjOk X.prog X.w _ _ _ (.tup ys) from ⟨hz, its, r', IsTup.new _ _⟩)
    exact ⟨.ref h'.objs.size, _, I2, rfl, q _ (I1.hok.fresh (Nat.le_refl _))⟩
  · obtain ⟨its, r', pl, hz⟩ := I.tuple hq
    exact call_tuple_same pl ⟨.ref p, H, I, rfl, q⟩

/-! ### the call of a builtin's method: o.m(..) -/
/-- the value is of that builtin type -/
def tyV (K : PySem.W.Frag) (T : String) (x : V) (H : Hp) : Prop := match x with
  | .str _ => T = "str"
  | .int _ => T = "int"
  | .ref p => (T = "list" ∧ ∃ xs, SqL K H p xs) ∨ (T = "tuple" ∧ ∃ o, K.lookup p = some o ∧ o.cls = .type "tuple" ∧ o.dict = none) ∨
      (T = "dict" ∧ ((∃ kvs, H p = some (.dK kvs)) ∨ ∃ kvs, H p = some (.dT kvs))) ∨ (T = "set" ∧ ∃ S n, H p = some (.set S n))
  | _ => False
theorem tyV_is {pins : List (Addr × Obj)} {σ : St} {H : Hp} {s : Shared} {T : String} {x : V} {v : Value} (I : Inv X pins σ H s) (r : RelV x v) (ty : tyV X.K T x H) :
    s.TypeIs v T ∧ ∀ a, v = .ref a → ∃ ob, s.heap.get? a = some ob ∧ ob.dict = none := by
  cases x with
  | str z =>
    obtain ⟨t, rfl⟩ := r
    cases (show T = "str" from ty)
    exact ⟨typeIs_str s z t, fun _ e => nomatch e⟩
  | int i =>
    obtain ⟨t, rfl⟩ := r
    cases (show T = "int" from ty)
    exact ⟨typeIs_int s i t, fun _ e => nomatch e⟩
  | ref p =>
    cases r
    rcases ty with ⟨rfl, xs, hq⟩ | ⟨rfl, o, hk, hc, hd⟩ | ⟨rfl, hk⟩ | ⟨rfl, S, n, hk⟩
    · obtain ⟨its, _, pl, _⟩ := I.list hq
      refine ⟨pl.isList.typeIs, fun a e => ?_⟩
      cases e
      obtain ⟨o, n, e, c, hd, _⟩ := pl
      exact ⟨o, e, hd⟩
    · refine ⟨⟨o, I.kIn p o hk, hc⟩, fun a e => ?_⟩
      cases e
      exact ⟨o, I.kIn _ o hk, hd⟩
    · have z : ∃ o, s.heap.get? p = some o ∧ o.ExactDict := by
        rcases hk with ⟨kvs, hk⟩ | ⟨kvs, hk⟩
        · obtain ⟨_, _, _, _, o, _, _, e, ex, _⟩ := I.hok p _ hk
          exact ⟨o, e, ex⟩
        · obtain ⟨_, _, _, _, o, _, _, e, ex, _⟩ := I.hok p _ hk
          exact ⟨o, e, ex⟩
      obtain ⟨o, e, ex⟩ := z
      refine ⟨⟨o, e, ex.1⟩, fun a e2 => ?_⟩
      cases e2
      exact ⟨o, e, ex.2.1⟩
    · obtain ⟨o, _, _, _, e, ex, _⟩ := I.hok p _ hk
      refine ⟨⟨o, e, ex.1⟩, fun a e2 => ?_⟩
      cases e2
      exact ⟨o, e, ex.2.1⟩
  | _ => exact False.elim ty
def tBM0 (K : PySem.W.Frag) (T : String) (r : V → List V → Hp → VK → Prop) (to : TE) : TE := fun σ H Q => to σ H fun x H1 => tyV K T x H1 ∧ r x [] H1 Q
def tBM (K : PySem.W.Frag) (T : String) (r : V → List V → Hp → VK → Prop) (to : TE) (t : TA) : TE := fun σ H Q => to σ H fun x H1 => tyV K T x H1 ∧ t σ H1 fun xs H2 => r x xs H2 Q
variable {o e : Expr} {es : List Expr} {to : TE} {t : TA} {name : Str} {apos cpos : Pos} {T id : String} {r : V → List V → Hp → VK → Prop}
theorem pe_bm0 (pa : PlainAttrs T) (slot : Slot T name id) (hty : typeOf (.builtin id) = pure (.type "method_descriptor")) (hm : MtR X id r) (ho : PE X o to)
    (hbase : attributeBase o name X.env (eval o X.env) = eval o X.env := by rfl) (hline : (apos.endLine == cpos.line) = true := by rfl) : PE X (.Call (.Attribute o name apos) [] [] cpos) (tBM0 X.K T r to) := by
  intro pins s σ H Q I h
  refine wpAny_Call_method0_late hbase hline (thn (ho pins s σ H _ I h) fun v s1 ⟨x, H1, I1, r1, ty, q1⟩ => ?_)
  obtain ⟨h1, h2⟩ := tyV_is I1 r1 ty
  exact ⟨T, id, pa, slot, hty, h1, h2, Calls.callWith_builtin rfl (PySem.evalArgs_none (hm pins s1 σ H1 x [] v [] Q I1 r1 .nil q1))⟩
theorem pe_bm (pa : PlainAttrs T) (slot : Slot T name id) (hty : typeOf (.builtin id) = pure (.type "method_descriptor")) (hm : MtR X id r) (ho : PE X o to) (ha : PA X (e :: es) t)
    (hbase : attributeBase o name X.env (eval o X.env) = eval o X.env := by rfl)
    (hfew : ((backTo cpos (starEach (e :: es) X.env)).all (fun x => !x.1) && (backToKw cpos (keywordEach [] X.env)).all (fun x => x.1.isSome)
      && decide ((e :: es).length + ([] : List Keyword).length + (if ([] : List Keyword).isEmpty then 0 else 1) < 30)) = true := by rfl)
    (hline : (apos.endLine == cpos.line) = true := by rfl) (hs : starEach (e :: es) X.env = (false, eval e X.env) :: starEach es X.env := by rfl) (hplain : (backTo cpos (starEach es X.env)).any (·.1) = false := by rfl) :
    PE X (.Call (.Attribute o name apos) (e :: es) [] cpos) (tBM X.K T r to t) := by
  intro pins s σ H Q I h
  refine wpAny_Call_method_late hbase hfew hline rfl (thn (ho pins s σ H _ I h) fun v s1 ⟨x, H1, I1, r1, ty, q1⟩ => ?_)
  obtain ⟨h1, h2⟩ := tyV_is I1 r1 ty
  refine ⟨T, id, pa, slot, hty, h1, h2, ?_⟩
  have hA := ha cpos pins s1 σ H1 _ I1 q1
  rw [hs] at hA ⊢
  refine Calls.callWith_builtin (by show (false || (backTo cpos (starEach es X.env)).any (·.1)) = false; rw [hplain] <;> rfl) (Calls.evalArgs_plain ?_)
  exact thn hA fun us s2 ⟨vs, H2, I2, r2, q2⟩ => hm pins s2 σ H2 x vs v us Q I2 r1 r2 q2
/- xs.append(e), list.index on a module's tuple .. are MtR facts of 06m -/
end
end L2

namespace L2
open PySem PySem.Spec PyProof.Rows

def MtM (X : Cx) (id : String) (r : V → List V → Hp → VK → Prop) : Prop :=
  ∀ (pins : List (Addr × Obj)) (s : Shared) (σ : St) (H : Hp) (x : V) (xs : List V) (v : Value) (us : List Value) (Q : VK), Inv X pins σ H s → RelV x v → Vals xs us → r x xs H Q →
    wpAny (model X.prog X.w) X.A (call (.builtin id) (v :: us)) (EP X pins σ Q) X.xe s

/-! ### lists of values -/
theorem Vals.one : ∀ {x : V} {us : List Value}, Vals [x] us → ∃ u, us = [u] ∧ RelV x u
  | _, _, .cons r .nil => ⟨_, rfl, r⟩
theorem Vals.two : ∀ {x y : V} {us : List Value}, Vals [x, y] us → ∃ u v, us = [u, v] ∧ RelV x u ∧ RelV y v
  | _, _, _, .cons r (.cons q .nil) => ⟨_, _, rfl, r, q⟩
theorem Vals.zero : ∀ {us : List Value}, Vals [] us → us = []
  | _, .nil => rfl
theorem Vals.dropLast {xs : List V} {us : List Value} (h : Vals xs us) : Vals xs.dropLast us.dropLast := by
  induction h with
  | nil => exact .nil
  | cons r t ih =>
    cases t with
    | nil => exact .nil
    | cons q t' => exact .cons r ih
theorem Vals.eraseIdx : ∀ {xs : List V} {us : List Value} (i : Nat), Vals xs us → Vals (xs.eraseIdx i) (us.eraseIdx i)
  | _, _, _, .nil => .nil
  | _, _, 0, .cons _ t => t
  | _, _, i + 1, .cons r t => .cons r (Vals.eraseIdx i t)
theorem Vals.reverse {xs : List V} {us : List Value} (h : Vals xs us) : Vals xs.reverse us.reverse := by
  induction h with
  | nil => exact .nil
  | cons r t ih => rw [List.reverse_cons, List.reverse_cons]; exact Vals.append ih (.cons r .nil)
theorem Vals.rep {xs : List V} {us : List Value} (h : Vals xs us) : ∀ k : Nat, Vals (List.replicate k xs).flatten (List.replicate k us).flatten
  | 0 => .nil
  | k + 1 => by
    rw [List.replicate_succ, List.replicate_succ, List.flatten_cons, List.flatten_cons]
    exact Vals.append h (Vals.rep h k)
theorem erase_last {α : Type} (l : List α) : l.eraseIdx (l.length - 1) = l.dropLast := by
  induction l with
  | nil => rfl
  | cons a r ih =>
    cases r with
    | nil => rfl
    | cons b r =>
      have e : (a :: b :: r).length - 1 = ((b :: r).length - 1) + 1 := by
        have h1 : (a :: b :: r).length = r.length + 2 := rfl
        have h2 : (b :: r).length = r.length + 1 := rfl
        omega
      rw [e, List.eraseIdx_cons_succ, ih]
      all_goals rfl
theorem len_erase {α : Type} : ∀ (l : List α) (i : Nat), (l.eraseIdx i).length ≤ l.length
  | [], _ => Nat.le_refl _
  | _ :: _, 0 => Nat.le_succ _
  | _ :: r, i + 1 => Nat.succ_le_succ (len_erase r i)
theorem foldl_rep (its : List Value) : ∀ (k : Nat) (acc : List Value),
    List.foldl (fun x1 x2 => x1 ++ x2) acc.toArray (List.replicate k its.toArray) = (acc ++ (List.replicate k its).flatten).toArray
  | 0, acc => by simp
  | k + 1, acc => by
    have e : acc.toArray ++ its.toArray = (acc ++ its).toArray := by simp
    have e2 : (acc ++ its) ++ (List.replicate k its).flatten = acc ++ (List.replicate (k + 1) its).flatten := by
      rw [List.replicate_succ, List.flatten_cons, List.append_assoc]
    rw [← e2, ← foldl_rep its k (acc ++ its), ← e, List.replicate_succ, List.foldl_cons]

section
variable {X : Cx} {pins : List (Addr × Obj)} {σ : St} {H : Hp} {s : Shared} {l b : Addr} {xs ys zs : List V}

/-! ### the two steps: a tracked list is rewritten, a new list is laid -/
theorem Inv.lset {its its' : List Value} {n : Nat} {f : Array Value → Array Value} {t' : Nat} (I : Inv X pins σ H s) (hH : H l = some (.lst xs))
    (e : s.heap.get? l = some { cls := .type "list", data := .seq its.toArray n }) (hf : f its.toArray = its'.toArray) (hv : Vals ys its') (hz : ys.length ≤ sizeLine) :
    Inv X pins σ (upd H l (.lst ys)) { s with heap := s.heap.update l (Obj.mapSeq f), toks := t' } := by
  have q := PySem.IsL.update e f
  rw [hf] at q
  refine I.write (x := l) (e := l) (by rw [hH]; exact trivial) (.inl rfl) (fun b' u hb hu => (Heap.get?_update_other s.heap (Obj.mapSeq f) (Ne.symm hb)).trans hu) ⟨_, q⟩ ?_
  exact ⟨hz, its', _, hv, q⟩
theorem Inv.lnew {its : List Value} {t' : Nat} (I : Inv X pins σ H s) (hv : Vals ys its) (hz : ys.length ≤ sizeLine) :
    Inv X pins σ (upd H s.heap.objs.size (.lst ys)) { s with heap := s.heap.push { cls := .type "list", data := .seq its.toArray }, toks := t' } :=
  I.laid (fun _ _ q => Heap.get?_push_of_some _ q) (Nat.le_refl _) ⟨hz, its, 0, hv, Heap.get?_push_size _ rfl⟩
theorem Inv.fresh (I : Inv X pins σ H s) : H s.heap.objs.size = none := I.hok.fresh (Nat.le_refl _)
theorem Inv.lstM (I : Inv X pins σ H s) (hH : H l = some (.lst xs)) : xs.length ≤ sizeLine ∧ ∃ (its : List Value) (n : Nat), Vals xs its ∧ xs.length = its.length ∧ s.heap.get? l = some { cls := .type "list", data := .seq its.toArray n } := by
  obtain ⟨z, its, n, r, e⟩ := I.hok l _ hH
  exact ⟨z, its, n, r, r.length, e⟩

theorem notLongL {n : Nat} (h : n ≤ sizeLine) : Builtin.List.listTooLong n = false := by
  unfold Builtin.List.listTooLong
  exact decide_eq_false (by omega)
end

section
variable {X : Cx}

/-! ### methods -/
def rAppend : V → List V → Hp → VK → Prop := fun x vs H Q => ∃ l xs y, x = .ref l ∧ vs = [y] ∧ H l = some (.lst xs) ∧ xs.length < sizeLine ∧ Q .non (upd H l (.lst (xs ++ [y])))
theorem mt_append : MtM X "list.append" rAppend := by
  intro pins s σ H x vs v us Q I rx rv h
  obtain ⟨l, xs, y, rfl, rfl, hH, hz, q⟩ := h
  cases rx
  obtain ⟨u, rfl, ru⟩ := rv.one
  obtain ⟨z, its, n, r, hl, e⟩ := I.lstM hH
  refine call_meets F.slot_list_append ⟨_, e, rfl⟩ F.entry_list_append (F.args_list_append_2 _ _) (PySem.list_append l its.toArray n u (by rw [List.size_toArray]; omega)) ⟨e, ?_⟩
  refine ⟨.non, _, I.lset (its' := its ++ [u]) hH e (by simp) (r.append (.cons ru .nil)) ?_, rfl, q⟩
  rw [List.length_append, List.length_singleton]
  omega

def rExtend : V → List V → Hp → VK → Prop := fun x vs H Q => ∃ l b xs zs, x = .ref l ∧ vs = [.ref b] ∧ H l = some (.lst xs) ∧ H b = some (.lst zs) ∧ xs.length + zs.length ≤ sizeLine ∧ Q .non (upd H l (.lst (xs ++ zs)))
theorem mt_extend : MtM X "list.extend" rExtend := by
  intro pins s σ H x vs v us Q I rx rv h
  obtain ⟨l, b, xs, zs, rfl, rfl, hH, hB, hz, q⟩ := h
  cases rx
  obtain ⟨u, rfl, ru⟩ := rv.one
  cases ru
  obtain ⟨z, its, n, r, hl, e⟩ := I.lstM hH
  obtain ⟨z2, its2, n2, r2, hl2, e2⟩ := I.lstM hB
  have hsz : its.toArray.size + its2.toArray.size ≤ sizeLine := by rw [List.size_toArray, List.size_toArray]; omega
  have hlong : ¬ (!its.toArray.isEmpty && Builtin.List.listTooLong (its.toArray.size + its2.toArray.size)) = true := by
    rw [notLongL hsz, Bool.and_false]
    exact Bool.false_ne_true
  refine call_meets F.slot_list_extend ⟨_, e, rfl⟩ F.entry_list_extend (F.args_list_extend_2 _ _)
    (AutoSeq1.list_extend_list_list_0 l its.toArray n b its2.toArray n2 hlong (by rw [List.size_toArray]; omega) (by omega)) ⟨e, e2, ?_⟩
  refine ⟨.non, _, I.lset (its' := its ++ its2) hH e (by simp) (r.append r2) ?_, rfl, q⟩
  rw [List.length_append]
  omega

def rPop : V → List V → Hp → VK → Prop := fun x vs H Q => ∃ l xs y, x = .ref l ∧ vs = [] ∧ H l = some (.lst xs) ∧ xs[xs.length - 1]? = some y ∧ Q y (upd H l (.lst xs.dropLast))
theorem mt_pop : MtM X "list.pop" rPop := by
  intro pins s σ H x vs v us Q I rx rv h
  obtain ⟨l, xs, y, rfl, rfl, hH, hy, q⟩ := h
  cases rx
  have hus := rv.zero
  subst hus
  obtain ⟨z, its, n, r, hl, e⟩ := I.lstM hH
  obtain ⟨u, hu, ru⟩ := r.get hy
  have hy' : its.toArray[its.toArray.size - 1]? = some u := by
    show its.toArray[its.length - 1]? = some u
    rw [← Array.getElem?_toList, ← hl]
    exact hu
  refine call_meets F.slot_list_pop ⟨_, e, rfl⟩ F.entry_list_pop (F.args_list_pop_1 _) (MeetsSeq.list_pop_last l its.toArray n u hy' (by rw [List.size_toArray]; omega)) ⟨e, ?_⟩
  refine ⟨y, _, I.lset (its' := its.dropLast) hH e ?_ r.dropLast ?_, ru, q⟩
  · show its.toArray.eraseIdxIfInBounds (its.toArray.size - 1) = its.dropLast.toArray
    rw [List.size_toArray, List.eraseIdxIfInBounds_toArray, erase_last]
  · rw [List.length_dropLast]
    omega

def rPopAt : V → List V → Hp → VK → Prop := fun x vs H Q => ∃ l xs i k y, x = .ref l ∧ vs = [.int i] ∧ H l = some (.lst xs) ∧ -(2 ^ 63) ≤ i ∧ i < 2 ^ 63 ∧ seqIndex? i xs.length = some k ∧ xs[k]? = some y ∧ Q y (upd H l (.lst (xs.eraseIdx k)))
theorem mt_popAt : MtM X "list.pop" rPopAt := by
  intro pins s σ H x vs v us Q I rx rv h
  obtain ⟨l, xs, i, k, y, rfl, rfl, hH, h1, h2, hk, hy, q⟩ := h
  cases rx
  obtain ⟨u, rfl, ru⟩ := rv.one
  obtain ⟨t, rfl⟩ := ru
  obtain ⟨z, its, n, r, hl, e⟩ := I.lstM hH
  obtain ⟨w, hw, rw'⟩ := r.get hy
  refine call_meets F.slot_list_pop ⟨_, e, rfl⟩ F.entry_list_pop (F.args_list_pop_2 _ _)
    (MeetsSeq.list_pop_at l its.toArray n i t k w (fitsIndex_both h1 h2) (by rw [List.size_toArray, ← hl]; exact hk) (by rw [← Array.getElem?_toList]; exact hw) (by rw [List.size_toArray]; omega)) ⟨e, ?_⟩
  refine ⟨y, _, I.lset (its' := its.eraseIdx k) hH e ?_ (r.eraseIdx k) ?_, rw', q⟩
  · show its.toArray.eraseIdxIfInBounds k = (its.eraseIdx k).toArray
    rw [List.eraseIdxIfInBounds_toArray]
  · have := len_erase xs k
    omega

def rReverse : V → List V → Hp → VK → Prop := fun x vs H Q => ∃ l xs, x = .ref l ∧ vs = [] ∧ H l = some (.lst xs) ∧ Q .non (upd H l (.lst xs.reverse))
theorem mt_reverse : MtM X "list.reverse" rReverse := by
  intro pins s σ H x vs v us Q I rx rv h
  obtain ⟨l, xs, rfl, rfl, hH, q⟩ := h
  cases rx
  have hus := rv.zero
  subst hus
  obtain ⟨z, its, n, r, hl, e⟩ := I.lstM hH
  refine call_meets F.slot_list_reverse ⟨_, e, rfl⟩ F.entry_list_reverse (F.args_list_reverse_1 _) (AutoSeq1.list_reverse_list_0 l its.toArray n (by rw [List.size_toArray]; omega)) ⟨e, ?_⟩
  refine ⟨.non, _, I.lset (its' := its.reverse) hH e (by simp) r.reverse ?_, rfl, q⟩
  rw [List.length_reverse]
  omega

def rClear : V → List V → Hp → VK → Prop := fun x vs H Q => ∃ l xs, x = .ref l ∧ vs = [] ∧ H l = some (.lst xs) ∧ Q .non (upd H l (.lst []))
theorem mt_clear : MtM X "list.clear" rClear := by
  intro pins s σ H x vs v us Q I rx rv h
  obtain ⟨l, xs, rfl, rfl, hH, q⟩ := h
  cases rx
  have hus := rv.zero
  subst hus
  obtain ⟨z, its, n, r, hl, e⟩ := I.lstM hH
  refine call_meets F.slot_list_clear ⟨_, e, rfl⟩ F.entry_list_clear (F.args_list_clear_1 _) (AutoSeq1.list_clear_list_0 l its.toArray n (by rw [List.size_toArray]; omega)) ⟨e, ?_⟩
  exact ⟨.non, _, I.lset (its' := []) (ys := []) hH e rfl .nil (Nat.zero_le _), rfl, q⟩

/-! ### list + list, list += list, list * int -/
def rCat : R2 := fun x y H Q => ∃ l b xs zs, x = .ref l ∧ y = .ref b ∧ H l = some (.lst xs) ∧ H b = some (.lst zs) ∧ xs.length + zs.length ≤ sizeLine ∧ ∀ p, H p = none → Q (.ref p) (upd H p (.lst (xs ++ zs)))
theorem op_cat : OpR X (binaryOp .Add) rCat := by
  intro pins s σ H x y v u Q I rx ry h
  obtain ⟨l, b, xs, zs, rfl, rfl, hH, hB, hz, q⟩ := h
  cases rx
  cases ry
  obtain ⟨z, its, n, r, hl, e⟩ := I.lstM hH
  obtain ⟨z2, its2, n2, r2, hl2, e2⟩ := I.lstM hB
  refine PySem.P.add_list e e2 ?_ (by rw [List.size_toArray, List.size_toArray]; omega)
  have ea : its.toArray ++ its2.toArray = (its ++ its2).toArray := by simp
  rw [ea]
  exact ⟨.ref _, _, I.lnew (t' := s.toks) (r.append r2) (by rw [List.length_append]; omega), rfl, q _ I.fresh⟩
/-- a list times an int (a negative one is nothing) -/
def rRep : R2 := fun x y H Q => ∃ l k xs, x = .ref l ∧ y = .int k ∧ H l = some (.lst xs) ∧ -(2 ^ 63) ≤ k ∧ k < 2 ^ 63 ∧ xs.length * k.toNat ≤ sizeLine ∧
  ∀ p, H p = none → Q (.ref p) (upd H p (.lst (List.replicate k.toNat xs).flatten))
theorem len_rep {α : Type} (xs : List α) (k : Nat) : (List.replicate k xs).flatten.length = k * xs.length := by
  induction k with
  | zero => simp
  | succ k ih => rw [List.replicate_succ, List.flatten_cons, List.length_append, ih, Nat.succ_mul, Nat.add_comm]
theorem op_rep : OpR X (binaryOp .Mult) rRep := by
  intro pins s σ H x y v u Q I rx ry h
  obtain ⟨l, k, xs, rfl, rfl, hH, h1, h2, hz, q⟩ := h
  cases rx
  obtain ⟨t, rfl⟩ := ry
  obtain ⟨z, its, n, r, hl, e⟩ := I.lstM hH
  have hlen : its.toArray.size * k.toNat ≤ sizeLine := by rw [List.size_toArray, ← hl]; exact hz
  have hcap : ¬ its.toArray.size * k.toNat > (2 ^ 63 - 1) / 8 := by
    have : (sizeLine : Nat) ≤ (2 ^ 63 - 1) / 8 := by decide
    omega
  have hfit : ¬ (!Builtin.List.listFitsIndex k) = true := by
    rw [fitsIndex_both h1 h2]
    exact Bool.false_ne_true
  have hlong : ¬ Builtin.List.listTooLong (its.toArray.size * k.toNat) = true := by
    rw [notLongL hlen]
    exact Bool.false_ne_true
  have hnew : List.foldl (fun x1 x2 => x1 ++ x2) #[] (List.replicate (if its.toArray.isEmpty = true then 0 else k.toNat) its.toArray) = (List.replicate k.toNat its).flatten.toArray := by
    have f0 : ∀ m : Nat, List.foldl (fun x1 x2 => x1 ++ x2) #[] (List.replicate m its.toArray) = (List.replicate m its).flatten.toArray := fun m => by
      have := foldl_rep its m []
      rw [List.nil_append] at this
      exact this
    rw [f0]
    cases its with
    | nil => simp
    | cons a r' => rw [if_neg (by simp)]
  refine wpAny_binaryOp_repeat_ref (T := "list") (U := "int") (by decide) ⟨_, e, rfl⟩ (fun s' => typeIs_int s' k t) noFill_list_mul F.fills_int_mul F.slot_int_rmul repeat_list F.slot_int_index.lookup
    (call_meets F.slot_int_rmul (typeIs_int s k t) F.entry_int_rmul (F.args_int_rmul_2 _ _) (int___rmul___int_list k t l its.toArray n)
      ⟨e, rfl, ⟨_, e, rfl⟩, call_meets F.slot_list_mul ⟨_, e, rfl⟩ F.entry_list_mul (F.args_list_mul_2 _ _) (AutoListH.list___mul___list_int_3 l its.toArray n k t hfit hcap hlong) ⟨e, ?_⟩⟩)
  rw [hnew]
  exact ⟨.ref _, _, I.lnew (t' := s.toks) (r.rep k.toNat) (by rw [len_rep, Nat.mul_comm]; exact hz), rfl, q _ I.fresh⟩

/-! ### del xs[i] -/
theorem del_list {pins : List (Addr × Obj)} {s : Shared} {σ : St} {H : Hp} {l : Addr} {xs : List V} {i : Int} {t : Tok} {k : Nat} {Q : Unit → Shared → Prop} (I : Inv X pins σ H s) (hH : H l = some (.lst xs))
    (h1 : -(2 ^ 63) ≤ i) (h2 : i < 2 ^ 63) (hk : seqIndex? i xs.length = some k) (h : ∀ s', Inv X pins σ (upd H l (.lst (xs.eraseIdx k))) s' → Q () s') :
    wpAny (model X.prog X.w) X.A (delItem (.ref l) (.int i t)) Q X.xe s := by
  obtain ⟨z, its, n, r, hl, e⟩ := I.lstM hH
  refine PySem.P.delItem_list (k := k) e (fitsIndex_both h1 h2) (by rw [List.size_toArray, ← hl]; exact hk) (h _ ?_) (by rw [List.size_toArray]; omega)
  refine I.lset (its' := its.eraseIdx k) (t' := s.toks) hH e ?_ (r.eraseIdx k) ?_
  · show its.toArray.eraseIdxIfInBounds k = (its.eraseIdx k).toArray
    rw [List.eraseIdxIfInBounds_toArray]
  · have := len_erase xs k
    omega
end

/-! ### xs[a:b] = ys -/
section
variable {prog : Program} {w : World} {A : Around} {E : Value → Shared → Prop} {s : Shared}
theorem splice_eq (its its2 : List Value) (a c : Nat) : its.toArray.extract 0 a ++ its2.toArray ++ its.toArray.extract c its.toArray.size = (its.take a ++ its2 ++ its.drop c).toArray := by
  apply Array.toList_inj.mp
  first
    | (simp
       exact List.take_of_length_le (by simp))
    | simp [List.take_of_length_le]
    | simp
theorem bounds_run {a c n : Nat} (hac : a ≤ c) (hc : c ≤ n) : sliceBounds (some (a : Int)) (some (c : Int)) none n = ((a : Int), (c : Int), 1) := by
  simp only [sliceBounds, Option.getD_none]
  have h1 : ¬ ((a : Int) < 0) := by omega
  have h2 : ¬ ((c : Int) < 0) := by omega
  simp only [h1, h2, if_false, show (1 : Int) > 0 by decide, if_true]
  congr 1
  · omega
  · congr 1; omega
set_option maxRecDepth 100000 in
/-- list.__setitem__ with a slice of step one and another list -/
theorem setItem_slice {l b sl : Addr} {items new : Array Value} {n n2 : Nat} {vl vu : Value} {a c : Nat} {Q : Unit → Shared → Prop}
    (e : s.heap.get? l = some { cls := .type "list", data := .seq items n }) (e2 : s.heap.get? b = some { cls := .type "list", data := .seq new n2 }) (hne : l ≠ b)
    (hs : s.heap.IsSliceOf sl vl vu .none) (pl : IsPart vl (some (a : Int))) (pu : IsPart vu (some (c : Int))) (hac : a ≤ c) (hc : c ≤ items.size)
    (hsz : items.size + new.size ≤ sizeLine) (h : Q () { s with heap := s.heap.update l (Obj.mapSeq fun xs => xs.extract 0 a ++ new ++ xs.extract c xs.size) }) :
    wpAny (model prog w) A (setItem (.ref l) (.ref sl) (.ref b)) Q E s := by
  have hl : s.heap.IsList l items := PySem.IsL.isList e
  have hb : s.heap.IsList b new := PySem.IsL.isList e2
  obtain ⟨os, hos, hcs, hds⟩ := id hs
  have hTs : s.TypeIs (.ref sl) "slice" := ⟨os, hos, hcs⟩
  have hstep : ¬ ((rawPart none == rawInt 0) = true) := Bool.false_ne_true
  have hsame : Builtin.List.listSameRef (.ref l) (.ref b) = false := by
    unfold Builtin.List.listSameRef
    exact beq_eq_false_iff_ne.mpr hne
  have hmax : (max (a : Int) (c : Int)).toNat = c := by omega
  have hz' : ((fun xs : Array Value => xs.extract 0 a ++ new ++ xs.extract c xs.size) items).size ≤ sizeLine + 1 := by
    simp only [Array.size_append, Array.size_extract]
    omega
  unfold setItem
  try with_reducible refine wpAny_holding ?_
  first | refine wpAny_bind (wpAny_pure ?_) | skip
  refine wpAny_bind (wpAny_sequenceKey hl.typeIs (by decide) ?_)
  refine wpAny_bind (wpAny_callSpecial?_slot (name := Str.ofString "__setitem__") hl.typeIs slot_list_setitem
    (wpAny_call_entry slot_list_setitem hl.typeIs entry_list_setitem ?_ (args_list_setitem _ _ _)))
  show wpAny _ _ (Builtin.List.listSubscript? (.ref sl) >>= _) _ _ s
  refine wpAny_bind ?_
  unfold Builtin.List.listSubscript?
  refine wpAny_bind (wpAny_specialOf hTs slice_no_index ?_)
  simp only [Option.isNone_none, if_true]
  refine wpAny_pure ?_
  show wpAny _ _ (typeOf (.ref sl) >>= _) _ _ s
  refine wpAny_bind (wpAny_typeOf hTs ?_)
  first
    | rw [if_neg (by decide)]
    | refine PySem.W.KFB.if_not (by decide) ?_
  rw [listSliceParts_eq]
  refine wpAny_bind (wpAny_bind (wpAny_field hos hds (x := .none) rfl (wpAny_bind (wpAny_listPart .none ?_))))
  rw [if_neg hstep]
  refine wpAny_bind (wpAny_field hos hds (x := vl) rfl (wpAny_bind (wpAny_listPart pl ?_)))
  refine wpAny_bind (wpAny_field hos hds (x := vu) rfl (wpAny_bind (wpAny_listPart pu (wpAny_pure ?_))))
  first
    | simp only [hsame, Bool.false_eq_true, if_false]
    | refine PySem.W.KFB.if_not hsame ?_
    | (dsimp only
       rw [if_neg (by rw [hsame]; exact Bool.false_ne_true)])
  refine wpAny_bind (m := Builtin.List.listAllItems (.ref b) "must assign iterable to extended slice") ?_
  unfold Builtin.List.listAllItems
  refine wpAny_bind (wpAny_typeOf hb.typeIs ?_)
  first
    | refine PySem.W.KFB.if_so (by decide) ?_
    | rw [if_pos (by decide)]
    | simp only [beq_self_eq_true, Bool.true_or, if_true]
  unfold Builtin.List.listItems
  refine wpAny_bind (wpAny_seqItems e2 rfl (wpAny_pure ?_))
  refine wpAny_bind (wpAny_bind (wpAny_seqItems e rfl (wpAny_pure ?_)))
  refine wpAny_bind (wpAny_of_eq ((sliceIndices_raw (some (a : Int)) (some (c : Int)) none items.size (by simp)).trans (congrArg (pure : Int × Int × Int → Sem (Int × Int × Int)) (bounds_run hac hc))) ?_)
  show wpAny _ _ (if ((1 : Int) == 1) = true then _ else _) _ _ s
  rw [if_pos (by decide)]
  refine wpAny_bind (wpAny_rule ?_)
  first
    | simp only [notLongL hsz, Bool.false_eq_true, if_false]
    | refine PySem.W.KFB.if_not (notLongL hsz) ?_
  first | refine wpAny_bind (wpAny_pure ?_) | skip
  show wpAny _ _ (updateSeq l (fun xs => xs.extract 0 ((a : Int)).toNat ++ new ++ xs.extract (max (a : Int) (c : Int)).toNat xs.size) >>= _) _ _ s
  rw [hmax, Int.toNat_natCast]
  refine wpAny_bind (wpAny_updateSeq (hz := Nat.le_trans (Nat.le_add_right _ _) hsz) (_hz' := hz') e rfl ?_)
  refine wpAny_bind (wpAny_letGo ?_)
  first
    | exact wpAny_bind (wpAny_pure (wpAny_pure ⟨.none, rfl, wpAny_pure h⟩))
    | exact wpAny_pure ⟨.none, rfl, wpAny_pure h⟩
end

section
variable {X : Cx}
/-- xs[a:c] = ys of another list, at the value level: sl is the slice object that was just made -/
theorem set_slice {pins : List (Addr × Obj)} {s : Shared} {σ : St} {H : Hp} {l b sl : Addr} {xs ys : List V} {a c : Int} {vl vu : Value} {Q : Unit → Shared → Prop} (I : Inv X pins σ H s)
    (hH : H l = some (.lst xs)) (hB : H b = some (.lst ys)) (hne : l ≠ b) (hs : s.heap.IsSliceOf sl vl vu .none) (ra : RelV (.int a) vl) (rc : RelV (.int c) vu) (h0 : 0 ≤ a) (hac : a ≤ c) (hc : c ≤ xs.length)
    (hz : xs.length + ys.length ≤ sizeLine) (h : ∀ s', Inv X pins σ (upd H l (.lst (xs.take a.toNat ++ ys ++ xs.drop c.toNat))) s' → Q () s') :
    wpAny (model X.prog X.w) X.A (setItem (.ref l) (.ref sl) (.ref b)) Q X.xe s := by
  obtain ⟨ta, rfl⟩ := ra
  obtain ⟨tc, rfl⟩ := rc
  obtain ⟨z, its, n, r, hl, e⟩ := I.lstM hH
  obtain ⟨z2, its2, n2, r2, hl2, e2⟩ := I.lstM hB
  obtain ⟨a', rfl⟩ := Int.eq_ofNat_of_zero_le h0
  obtain ⟨c', rfl⟩ := Int.eq_ofNat_of_zero_le (Int.le_trans h0 hac)
  simp only [Int.toNat_natCast] at h
  refine setItem_slice (a := a') (c := c') e e2 hne hs (.int _ _) (.int _ _) (by omega) (by rw [List.size_toArray]; omega) (by rw [List.size_toArray, List.size_toArray]; omega) (h _ ?_)
  refine I.lset (its' := its.take a' ++ its2 ++ its.drop c') (t' := s.toks) hH e ?_ (Vals.append (Vals.append (r.take _) r2) (r.drop _)) ?_
  · exact splice_eq its its2 a' c'
  · rw [List.length_append, List.length_append, List.length_take, List.length_drop]
    omega
end
end L2

namespace Att
open PySem PySem.W PySem.Calls PyProof.Rows

/-! ### the script -/
theorem ints_of_wellAll {P : Params} {h : Heap} : ∀ (ns : List Int) (vs : List Value), WellAll P h vs (ns.map WData.int) → IntsAre vs ns := by
  intro ns
  induction ns with
  | nil =>
    intro vs w
    rw [List.map_nil] at w
    cases w
    exact .nil
  | cons n ns ih =>
    intro vs w
    rw [List.map_cons] at w
    cases w with
    | cons a b =>
      cases a
      exact .cons _ _ (ih _ b)

theorem script_of {l : OpenLaw} {n : Nat} (hn : l.most = some n) {P : Params} {h : Heap} {args : List WData} {vals : List Value}
    (hpre : l.row.toRowW.claim.pre args = true) (hwl : WellAll P h vals args) :
    ∃ a vs ns, vals = [Value.ref a] ∧ args = [WData.list (ns.map WData.int)] ∧ h.get? a = some { cls := .type "list", data := .seq vs.toArray } ∧ IntsAre vs ns ∧ ns.length ≤ n := by
  have hsh : WShape.hasAll [] args [.list .int] = true := (pre_splitW hpre).1
  have hc : l.pre.holds [] { args := args } = true := (pre_splitW hpre).2
  obtain ⟨d, r, rfl, h1, h2⟩ := hasAllW_cons hsh
  obtain rfl := hasAllW_nil h2
  obtain ⟨xs, rfl, h3⟩ := hasW_list h1
  obtain ⟨ns, rfl⟩ := items_int h3
  have hlen : ns.length ≤ n := by
    unfold OpenLaw.pre at hc
    have h4 : (WTm.not (.lt (.lit (.int (n : Int))) (.len (.arg 0)))).holds [] { args := [.list (ns.map .int)] } = true := by
      have h4 := (holds_andW hc).1
      rw [hn] at h4
      exact h4
    have h5 := condW_of h4 (w_not (w_lt w_lit (w_len_list (w_arg rfl))))
    rw [List.length_map] at h5
    refine Nat.le_of_not_lt fun q => ?_
    have q' : (n : Int) < ((ns.length : Nat) : Int) := by omega
    first
      | (rw [decide_eq_true q'] at h5; exact absurd h5 (by decide))
      | (simp at h5; omega)
  cases hwl with
  | cons w1 w2 =>
    cases w2
    cases w1 with
    | list ho hall => exact ⟨_, _, ns, rfl, rfl, ho, ints_of_wellAll ns _ hall, hlen⟩

theorem post_true (l : OpenLaw) (args : List WData) : l.row.toRowW.claim.post args (.bool true) args = true :=
  postW_of (r := l.row.toRowW) (X := (true == true))
    (show WShape.has [] (.bool true) .bool = true by first | rfl | decide | simp [WShape.has, WShape.arms, WShape.armsAll])
    (show (WTm.eq .res (.lit (.bool true))).value [] { args := args, res := some (.bool true), after := args } = some (.bool (true == true)) from w_eq_bool (w_res rfl) w_lit) rfl

/-! ### the attachment: holds_open's last premise (the goal 'hc' behind k_head) from a wpAny of the law's body -/
theorem attach {l : OpenLaw} {n : Nat} {q : Program} {loose : List Str} {XP : (Str → Option Value) → Heap → Prop} {YP : World → Heap → Prop} {d : DefRec} {x : Str}
    (hn : l.most = some n) (hdf : d.params.defaults = [])
    (hbind : ∀ pm cd doc v : Value, bindArgs (docDef d.name d.params d.body d.scope pm cd doc) ⟨[v], []⟩ = pure [(x, v)])
    (hx : d.scope.names.lookup x = some .local ∨ d.scope.names.lookup x = some .cell)
    (hk : d.scope.kind = .function) (hco : d.scope.isCoroutine = false) (hgen : d.scope.isGenerator = false)
    (body : ∀ (w : World) (s₀ s₁ s : Shared) (mg mb : Str → Option Value) (fa : Addr) (o : Obj) (pm cd doc : Value) (a : Addr) (vs : List Value) (ns : List Int),
      Ground q loose [] XP w s₀ mg mb s₁.heap → YP w s₁.heap →
      s₁.heap.get? fa = some o → o.data = .func (docDef d.name d.params d.body d.scope pm cd doc) → s₁.heap.CodeRec cd d.name → mg d.name = some (.ref fa) →
      s₁.heap.get? a = some { cls := .type "list", data := .seq vs.toArray } → IntsAre vs ns → ns.length ≤ n →
      s.gens = #[] → s.os = s₁.os →
      Fr s₁.heap s₁.heap.objs.size s.heap (bindL (envOfC d.name d.scope s₁.heap.objs.size fa cd).kindOf [(x, .ref a)] fun _ => none) →
      Cl s₁.heap.objs.size (cellsFrom (s₁.heap.objs.size + 1) d.scope.names []) s.heap (bindC (envOfC d.name d.scope s₁.heap.objs.size fa cd).kindOf [(x, .ref a)] fun _ => none) →
      wpAny (model l.prog w) (callerA.deeper (envOfC d.name d.scope s₁.heap.objs.size fa cd)) (execs d.body (envOfC d.name d.scope s₁.heap.objs.size fa cd))
        (fun f s' => f = .ret (.bool true) ∧ OldK s₁.heap s'.heap ∧ s'.os = s₁.os ∧ AllBare s'.gens) (fun _ _ => False) s) :
    WalkO q loose XP YP l.row.toRowW d [] (fun f vs => PySem.call f vs) := by
  intro w s₀ s₁ mg mb G Y fa o pm cd doc dV kV ho hd hcd hD hmg hg args vals as hpre hlay hrd hwl hlo
  obtain rfl : dV = .none := Dflts.none hD hdf
  obtain rfl : kV = .none := Dflts.noKw hD
  obtain ⟨a, vs, ns, rfl, rfl, hobj, hints, hlen⟩ := script_of hn hpre hwl
  refine enter_call ?_
  refine call_cells_ret (o := o) (by rw [depth_caller]; decide) ho (fd_plain hd) G.T.nolimit hcd (hbind pm cd doc (.ref a)) (fun y hy => ?_) (fun h₁ tk F X => ?_) hco hgen hk
  · obtain rfl : y = (x, Value.ref a) := List.mem_singleton.mp hy
    rcases hx with e | e
    · exact .inl e
    · exact .inr ⟨e, cellsFrom_some _ _ _ (.inl e)⟩
  · refine wpAny_mono (body w s₀ s₁ { s₁ with heap := h₁, toks := tk } mg mb fa o pm cd doc a vs ns G Y ho (fd_plain hd) hcd hmg hobj hints hlen hg rfl F X) (fun f s' hq => ?_) (fun _ _ hq => hq)
    obtain ⟨rfl, h2, h3, h4⟩ := hq
    exact ⟨.inl ⟨.bool true, .bool true, [], rfl, fun _ => rfl, .bool true, post_true l _, fun _ => ⟨List.Pairwise.nil, fun _ hm => (nomatch hm)⟩⟩, h2, h3, h4⟩

/-- the same from a codeAny of the CALL (for a layer whose function contracts speak of calls) -/
theorem attach_call {l : OpenLaw} {n : Nat} {q : Program} {loose : List Str} {XP : (Str → Option Value) → Heap → Prop} {YP : World → Heap → Prop} {d : DefRec}
    (hn : l.most = some n) (hdf : d.params.defaults = [])
    (call : ∀ (w : World) (s₀ s₁ : Shared) (mg mb : Str → Option Value) (fa : Addr) (o : Obj) (pm cd doc : Value) (a : Addr) (vs : List Value) (ns : List Int),
      Ground q loose [] XP w s₀ mg mb s₁.heap → YP w s₁.heap →
      s₁.heap.get? fa = some o → o.data = .func (docDef d.name d.params d.body d.scope pm cd doc) → s₁.heap.CodeRec cd d.name → mg d.name = some (.ref fa) →
      s₁.heap.get? a = some { cls := .type "list", data := .seq vs.toArray } → IntsAre vs ns → ns.length ≤ n → s₁.gens = #[] →
      codeAny (model l.prog w) callerA (.call (.ref fa) ⟨[.ref a], []⟩) (fun r s' => r = .ok (.ret (.bool true)) ∧ OldK s₁.heap s'.heap ∧ s'.os = s₁.os ∧ AllBare s'.gens) s₁) :
    WalkO q loose XP YP l.row.toRowW d [] (fun f vs => PySem.call f vs) := by
  intro w s₀ s₁ mg mb G Y fa o pm cd doc dV kV ho hd hcd hD hmg hg args vals as hpre hlay hrd hwl hlo
  obtain rfl : dV = .none := Dflts.none hD hdf
  obtain rfl : kV = .none := Dflts.noKw hD
  obtain ⟨a, vs, ns, rfl, rfl, hobj, hints, hlen⟩ := script_of hn hpre hwl
  refine enter_call (codeAny_mono (call w s₀ s₁ mg mb fa o pm cd doc a vs ns G Y ho (fd_plain hd) hcd hmg hobj hints hlen hg) fun r s' hq => ?_)
  obtain ⟨rfl, h2, h3, h4⟩ := hq
  exact ⟨.inl ⟨.bool true, .bool true, [], rfl, fun _ => rfl, .bool true, post_true l _, fun _ => ⟨List.Pairwise.nil, fun _ hm => (nomatch hm)⟩⟩, h2, h3, h4⟩

/-- the same where the top left finished generators (o_head chose holds_openN): nothing may have changed at all and no generator may be left -/
theorem attachN {l : OpenLaw} {n : Nat} {q : Program} {loose : List Str} {XP : (Str → Option Value) → Heap → Prop} {YP : World → Heap → Prop} {d : DefRec} {x : Str}
    (hn : l.most = some n) (hdf : d.params.defaults = [])
    (hbind : ∀ pm cd doc v : Value, bindArgs (docDef d.name d.params d.body d.scope pm cd doc) ⟨[v], []⟩ = pure [(x, v)])
    (hx : d.scope.names.lookup x = some .local ∨ d.scope.names.lookup x = some .cell)
    (hk : d.scope.kind = .function) (hco : d.scope.isCoroutine = false) (hgen : d.scope.isGenerator = false)
    (body : ∀ (w : World) (s₀ s₁ s : Shared) (mg mb : Str → Option Value) (fa : Addr) (o : Obj) (pm cd doc : Value) (a : Addr) (vs : List Value) (ns : List Int),
      Ground q loose [] XP w s₀ mg mb s₁.heap → YP w s₁.heap →
      s₁.heap.get? fa = some o → o.data = .func (docDef d.name d.params d.body d.scope pm cd doc) → s₁.heap.CodeRec cd d.name → mg d.name = some (.ref fa) →
      s₁.heap.get? a = some { cls := .type "list", data := .seq vs.toArray } → IntsAre vs ns → ns.length ≤ n →
      s.gens = #[] → s.os = s₁.os →
      Fr s₁.heap s₁.heap.objs.size s.heap (bindL (envOfC d.name d.scope s₁.heap.objs.size fa cd).kindOf [(x, .ref a)] fun _ => none) →
      Cl s₁.heap.objs.size (cellsFrom (s₁.heap.objs.size + 1) d.scope.names []) s.heap (bindC (envOfC d.name d.scope s₁.heap.objs.size fa cd).kindOf [(x, .ref a)] fun _ => none) →
      wpAny (model l.prog w) (callerA.deeper (envOfC d.name d.scope s₁.heap.objs.size fa cd)) (execs d.body (envOfC d.name d.scope s₁.heap.objs.size fa cd))
        (fun f s' => f = .ret (.bool true) ∧ (∀ b o, s₁.heap.get? b = some o → s'.heap.get? b = some o) ∧ s'.os = s₁.os ∧ s'.gens = #[]) (fun _ _ => False) s) :
    WalkN q loose XP YP l.row.toRowW d [] (fun f vs => PySem.call f vs) := by
  intro w s₀ s₁ mg mb G Y fa o pm cd doc dV kV ho hd hcd hD hmg hg args vals as hpre hlay hrd hwl hlo
  obtain rfl : dV = .none := Dflts.none hD hdf
  obtain rfl : kV = .none := Dflts.noKw hD
  obtain ⟨a, vs, ns, rfl, rfl, hobj, hints, hlen⟩ := script_of hn hpre hwl
  refine enter_callW ?_
  refine call_cells_ret (o := o) (by rw [depth_caller]; decide) ho (fd_plain hd) G.T.nolimit hcd (hbind pm cd doc (.ref a)) (fun y hy => ?_) (fun h₁ tk F X => ?_) hco hgen hk
  · obtain rfl : y = (x, Value.ref a) := List.mem_singleton.mp hy
    rcases hx with e | e
    · exact .inl e
    · exact .inr ⟨e, cellsFrom_some _ _ _ (.inl e)⟩
  · refine wpAny_mono (body w s₀ s₁ { s₁ with heap := h₁, toks := tk } mg mb fa o pm cd doc a vs ns G Y ho (fd_plain hd) hcd hmg hobj hints hlen hg rfl F X) (fun f s' hq => ?_) (fun _ _ hq => hq)
    obtain ⟨rfl, h2, h3, h4⟩ := hq
    exact ⟨.inl ⟨.bool true, .bool true, [], rfl, fun _ => rfl, .bool true, post_true l _, fun _ => ⟨List.Pairwise.nil, fun _ hm => (nomatch hm)⟩⟩, h2, h3, h4⟩

/-! ### rules over ANY heap (no ledger) from facts about the written part K: the library's own take a ledger (News) for what they write -/
section
variable {prog : Program} {w : World} {A : Around} {E : Value → Shared → Prop} {s : Shared} {K : Frag}

/-- a def of the module, or a method (qual 'C.m'), entered: the frame is the next address; cells behind it -/
theorem call_fn {R : Result → Shared → Prop} {name qual : Str} {params : Arguments} {body : List Stmt} {scope : Scope} {dV kV doc pm cdv ct oc : Value} {an od : Option Addr} {osl : Array (Option Value)} {f : Addr} {args : Args} {binds : List (Str × Value)}
    (X : K.In s.heap) (hlim : s.heap.NoLimit) (ho : K.lookup f = some ⟨oc, od, .func (fnOf name qual params body scope dV kV doc pm an cdv ct), osl⟩) (hcd : codeIn K cdv qual = true) (hroom : A.depth < recursionLimit)
    (hbind : BindsTo s (fnOf name qual params body scope dV kV doc pm an cdv ct) args binds)
    (hkind : (binds.all fun y => scope.names.lookup y.1 == some .local || scope.names.lookup y.1 == some .cell) = true)
    (h : ∀ s₁, InCallC s s.heap.objs.size (bindL (envOfC qual scope s.heap.objs.size f cdv).kindOf binds fun _ => none) (cellsFrom (s.heap.objs.size + 1) scope.names [])
        (bindC (envOfC qual scope s.heap.objs.size f cdv).kindOf binds fun _ => none) s₁ →
      wpAny (model prog w) (A.deeper (envOfC qual scope s.heap.objs.size f cdv)) (execs body (envOfC qual scope s.heap.objs.size f cdv))
        (fun fl s' => R (.ok (.ret (match fl with | .ret v => v | _ => .none))) s')
        (fun e s' => wpAny (model prog w) (A.deeper (envOfC qual scope s.heap.objs.size f cdv)) (leaving (envOfC qual scope s.heap.objs.size f cdv) e) (fun _ s'' => R (.error e) s'') (fun e' s'' => R (.error e') s'') s') s₁)
    (hco : scope.isCoroutine = false) (hgen : scope.isGenerator = false) (hk : scope.kind = .function) : codeAny (model prog w) A (.call (.ref f) args) R s := by
  refine codeAny_call_function hroom (X _ _ ho) rfl hco hgen rfl (codeRec_of X hcd) (hbind _ _ _ _ ?_)
  refine wpAny_newFunctionEnv_cells hk (kindsX hkind _) fun env he s₁ x => ?_
  subst he
  exact ⟨hlim.keeps x.toInCall.keep, codeAny_func (h s₁ x)⟩

/-- C(..): dict at size, instance at size + 1, then __init__ -/
theorem make_obj {R : Result → Shared → Prop} {C fI : Addr} {rest : List Value} {kw : List (Str × Value)}
    (X : K.In s.heap) (hm : makesIn K C = true) (hi : findIn K (.ref C) "__init__" = some (some (.ref fI))) (hf : isFn K (.ref fI) = true)
    (h : codeAny (model prog w) (A.under (.builtin "type.__call__" ⟨.ref C :: rest, kw⟩)) (.call (.ref fI) ⟨.ref (s.heap.objs.size + 1) :: rest, kw⟩) (InitBack (s.heap.objs.size + 1) R)
      { s with heap := (s.heap.push emptyDict).push (instObj C s.heap.objs.size) }) : codeAny (model prog w) A (.call (.ref C) ⟨rest, kw⟩) R s := by
  obtain ⟨hh, g, d, t, os⟩ := s
  exact make_core (makes_of X hm) (looks_findIn X hi) (fun self => bind_fn X self (beq_iff_eq.mp hf)) (.inl rfl) h

/-- x.name where the instance's dict holds the name and the class does not -/
theorem get_field {x C : Addr} {ox : Obj} {es : List DictEntry} {n : Nat} {name : Str} {expr : Bool} {v : Value} {Q : Value → Shared → Prop}
    (X : K.In s.heap) (I : PySem.W.InstAt s.heap x ox C (some (dictOf es n))) (hg : plainGet K C name = true) (hh : hasDictIn K C = true) (ha : findIn K (.ref C) name = some none)
    (hl : getL name es = some (some v)) (hv : handedIn v = true) (h : Q v { s with toks := s.toks + 1 }) : wpAny (model prog w) A (getAttr (.ref x) name expr) Q E s :=
  get_value X I (plainGet_of hg).1 (findObj_own hh ha rfl hl) hv h

/-- x.m(..): the method found in the class -/
theorem get_method {x C f : Addr} {ox : Obj} {es : List DictEntry} {n : Nat} {name : Str} {pl : Sem Bool} {Q : Value × List Value → Shared → Prop}
    (X : K.In s.heap) (I : PySem.W.InstAt s.heap x ox C (some (dictOf es n))) (hg : plainGet K C name = true) (hf : findIn K (.ref C) name = some (some (.ref f))) (ht : isFn K (.ref f) = true)
    (hl : getL name es = some none) (h : Q (.ref f, [.ref x]) s) : wpAny (model prog w) A (getMethod (.ref x) name pl) Q E s :=
  method_fn X I (plainGet_of hg).1 (plainGet_of hg).2 hf (beq_iff_eq.mp ht) (by show (lookIn name (dictOf es n)).map _ = _; rw [lookIn_dict, hl]; rfl) h

/-! the whole heap as the ledger: makes every rule that writes through a ledger a rule over any heap -/
def noObjs (h : Heap) : Heap := { h with objs := #[] }
theorem noObjs_get (h : Heap) (b : Addr) : (noObjs h).get? b = none := by
  cases e : (noObjs h).get? b with
  | none => rfl
  | some o => exact absurd (Heap.lt_size e) (Nat.not_lt_zero _)
def ledger (h : Heap) (L d : Addr) : List (Addr × Obj) := (List.range h.objs.size).filterMap fun a => if a = L ∨ a = d then none else (h.get? a).map fun o => (a, o)
theorem mem_ledger {h : Heap} {L d a : Addr} {o : Obj} : (a, o) ∈ ledger h L d ↔ a ≠ L ∧ a ≠ d ∧ h.get? a = some o := by
  unfold ledger
  rw [List.mem_filterMap]
  constructor
  · rintro ⟨b, _, e⟩
    split at e
    · cases e
    · rename_i hb
      obtain ⟨o', ho, e'⟩ := Option.map_eq_some_iff.mp e
      cases e'
      exact ⟨fun q => hb (.inl q), fun q => hb (.inr q), ho⟩
  · rintro ⟨n1, n2, ho⟩
    refine ⟨a, List.mem_range.mpr (Heap.lt_size ho), ?_⟩
    rw [if_neg (show ¬ (a = L ∨ a = d) from fun q => q.elim n1 n2), ho] <;> rfl
theorem news_ledger {h : Heap} {L d : Addr} {od : Obj} (hne : d ≠ L) (ho : h.get? d = some od) : News (noObjs h) L h ([] ++ (d, od) :: ledger h L d) := by
  rintro ⟨a, o⟩ hp
  rcases List.mem_cons.mp hp with e | hp
  · cases e
    exact ⟨ho, hne, noObjs_get _ _⟩
  · obtain ⟨n1, n2, e⟩ := mem_ledger.mp hp
    exact ⟨e, n1, noObjs_get _ _⟩
theorem fr_all {h : Heap} {L : Addr} {m : Str → Option Value} (n : h.Ns L m) : Fr (noObjs h) L h m :=
  ⟨n, fun b o e => (by rw [noObjs_get] at e; cases e), Nat.zero_le _⟩
/-- Upd of the head entry (for append_K, setItem_K ..) -/
theorem upd_ledger {h : Heap} {L d : Addr} {o o' : Obj} : Upd d o o' ((d, o) :: ledger h L d) ((d, o') :: ledger h L d) :=
  .head fun ⟨_, _⟩ hp => (mem_ledger.mp hp).2.1

/-- x.name = v over any heap: L is any namespace of the heap (the frame's, say): its map stays, its object is not told; all else but the dict stays -/
theorem set_field {x C dx L : Addr} {ox : Obj} {m : Str → Option Value} {es es' : List DictEntry} {n n' : Nat} {name : Str} {v : Value} {Q : Unit → Shared → Prop}
    (X : K.In s.heap) (I : PySem.W.InstAt s.heap x ox C (some (dictOf es n))) (hd : ox.dict = some dx) (hL : s.heap.Ns L m) (hne : dx ≠ L)
    (hs : findIn K (.ref C) "__setattr__" = some (some (.builtin "object.__setattr__"))) (hp : plainOver K C = true) (ht : takerIn K C name = some none) (hh : hasDictIn K C = true) (hl : (getL name es).isSome = true)
    (e : (putL name (PyData.keyHash w.params name) (.str name (s.toks + 1)) v es, putN name es n) = (es', n')) (hz : es'.length ≤ 1000)
    (h : ∀ h' : Heap, h'.Ns L m → h'.get? dx = some (dictOf es' n') → (∀ b o, b ≠ dx → b ≠ L → s.heap.get? b = some o → h'.get? b = some o) → Q () { s with heap := h', toks := s.toks + 2 }) :
    wpAny (model prog w) A (setAttr (.ref x) name v) Q E s := by
  obtain ⟨e1, e2⟩ := Prod.mk.inj e
  have hdx : s.heap.get? dx = some (dictOf es n) := by
    have := I.dict
    rw [hd] at this
    exact this
  refine set_plain X I hs (osa_dict (s := { s with toks := s.toks + 1 }) (h₀ := noObjs s.heap) (L := L) (m := m) (od := dictOf es n) (od' := dictOf es' n') (es := es') (n := n') (pre := []) (post := ledger s.heap L dx)
    (fr_all hL) (news_ledger hne hdx) X I hd hp ht hh hl (fun _ q => nomatch q) (fun ⟨_, _⟩ q => (mem_ledger.mp q).2.1) (by rw [putName_dict, e1, e2]) rfl hz fun h' F' N' => ?_)
  exact h h' F'.ns (N'.get (List.Mem.head _)) fun b o n1 n2 ho => N'.get (List.Mem.tail _ (mem_ledger.mpr ⟨n2, n1, ho⟩))
end
end Att

namespace L2
open PySem PySem.Spec PyProof.Rows

theorem vals_ints : ∀ {vs : List Value} {ns : List Int}, IntsAre vs ns → Vals (ns.map V.int) vs
  | _, _, .nil => .nil
  | _, _, .cons n t h => .cons ⟨t, rfl⟩ (vals_ints h)

/-- nothing is tracked but the script, known to the object (or it is an object of the module) -/
def Only (H : Hp) : Prop := ∀ b, H b = none ∨ ∃ o xs, H b = some (.frz o (.lst xs))

/-- THE HEAD: the law's promise, at the heap behind the top. F, the promise of the law's def, may use that base is part of the heap (so K.In base, base.Ns mainGlobals mg stand in Mod) -/
theorem law_call {P : Program} {w : World} {K : PySem.W.Frag} {mg mb : Str → Option Value} {CX : CXT} {k : Nat} {fa a : Addr} {fd : FuncData} {x : Str} {sp : Sp} {s₁ : Shared} {vs : List Value} {ns : List Int}
    (KX : K.In s₁.heap) (hns : s₁.heap.Ns mainGlobals mg) (hb : s₁.heap.Ns builtinsNs mb) (hbb : ∀ x : Str, x ≠ "__name__" → mb x = bootBuiltins x) (hlim : s₁.heap.NoLimit) (hg : s₁.gens = #[])
    (ha : s₁.heap.get? a = some { cls := .type "list", data := .seq vs.toArray }) (hi : IntsAre vs ns) (hl : ns.length ≤ sizeLine) (hr : Room k callerA)
    (F : ∀ base : Heap, K.In base → base.Ns mainGlobals mg → FnOk P w K mg base CX k fa fd [x] sp) (hbind : ∀ (s : Shared) (u : Value), BindsTo s fd ⟨[u], []⟩ [(x, u)])
    (hsp : ∀ H : Hp, Only H → SqL K H a (ns.map V.int) → sp [.ref a] H (fun v _ => v = .bl true) fun _ _ _ => False)
    (hCX : ∀ H e s', CX [] H s₁ (fun _ _ _ => False) e s' → False) :
    codeAny (model P w) callerA (.call (.ref fa) ⟨[.ref a], []⟩) (fun r s' => r = .ok (.ret (.bool true)) ∧ OldK s₁.heap s'.heap ∧ s'.os = s₁.os ∧ AllBare s'.gens) s₁ := by
  have rv := vals_ints hi
  have lenV := hi.length
  -- from an abstract heap in which nothing but the script may be tracked
  have core : ∀ H : Hp, Only H → SqL K H a (ns.map V.int) → HOk P w H s₁.heap → (∀ b, H b ≠ none → b = a) → (H a ≠ none → K.lookup a = none) →
      codeAny (model P w) callerA (.call (.ref fa) ⟨[.ref a], []⟩) (fun r s' => r = .ok (.ret (.bool true)) ∧ OldK s₁.heap s'.heap ∧ s'.os = s₁.os ∧ AllBare s'.gens) s₁ := by
    intro H hO hS hok hA hK
    have base_of : ∀ {b : Addr} {o : Obj}, s₁.heap.get? b = some o → H b = none → (hidT s₁.heap H).get? b = some o := fun e n => hidT_get e n
    have noA : ∀ {b : Addr} {o : Obj} {es : Array DictEntry} {ep : Nat}, s₁.heap.get? b = some o → o.data = .dict es ep → H b = none := fun {b o es ep} e d => by
      cases q : H b with
      | none => rfl
      | some u =>
        have e' : b = a := hA b (by rw [q]; simp)
        subst e'
        rw [ha] at e; cases e
        have d' : Data.seq vs.toArray _ = Data.dict es ep := d
        cases d'
    have nsK : ∀ {b : Addr} {m : Str → Option Value}, s₁.heap.Ns b m → (hidT s₁.heap H).Ns b m := fun {b m} ⟨o, es, ep, e, d, r⟩ => ⟨o, es, ep, base_of e (noA e d), d, r⟩
    have hKb : K.In (hidT s₁.heap H) := fun b o e => base_of (KX b o e) (by
      cases q : H b with
      | none => rfl
      | some u =>
        have e' : b = a := hA b (by rw [q]; simp)
        subst e'
        rw [hK (by rw [q]; simp)] at e; cases e)
    have hM : Mod K mg (hidT s₁.heap H) := ⟨hKb, nsK hns, ⟨mb, nsK hb, hbb⟩, let ⟨mc, h1, h2⟩ := hlim; ⟨mc, nsK h1, h2⟩⟩
    have e0 : Env0 P w K mg (hidT s₁.heap H) callerA [] s₁ H := ⟨rfl, hM, fun b o e => of_hidT e, Nat.le_of_eq (hidT_size _ _), trivial, fun b hb => absurd (show b ∈ ([] : List Addr) from hb) (by simp), hok, .of_eq hg⟩
    refine codeAny_mono ((F _ hKb (nsK hns)).run callerA [] s₁ H ⟨[.ref a], []⟩ [.ref a] [.ref a] _ _ hr e0 (hbind s₁ (.ref a)) (.cons rfl .nil) (hsp H hO hS)) fun r s' h => ?_
    cases r with
    | error e => exact (hCX H e s' h).elim
    | ok fl =>
      cases fl with
      | next => exact False.elim h
      | brk => exact False.elim h
      | cont => exact False.elim h
      | ret u =>
        obtain ⟨v, H', os, bare, un, hok', r', q⟩ := h
        have q' : v = .bl true := q
        subst q'
        obtain rfl : u = Value.bool true := r'
        refine ⟨rfl, OldK.of_keep fun b o e => ?_, os, bare⟩
        cases q : H b with
        | none => exact un.keep b o e q (by intro z; exact absurd (show b ∈ ([] : List Addr) from z) (by simp)) (by simp)
        | some u =>
          rcases hO b with z | ⟨ob, xs, z⟩
          · rw [q] at z; cases z
          · have z2 := un.frzs b ob _ z
            obtain ⟨e1, _⟩ := hok b _ z
            obtain ⟨e2, _⟩ := hok' b _ z2
            rw [e] at e1; cases e1
            exact e2
  cases hk : K.lookup a with
  | some o =>
    -- the script is one of the module's own objects
    have e := KX a o hk
    rw [ha] at e
    cases e
    refine core (fun _ => none) (fun _ => .inl rfl) (.inr ⟨_, vs.toArray, _, hk, rfl, rfl, rfl, by rw [List.size_toArray, lenV]; exact hl, by simpa using rv⟩) (fun b u z => by have z' : (none : Option HO) = some u := z; cases z') (fun b z => absurd rfl z) fun z => absurd rfl z
  | none =>
    refine core (fun b => if b = a then some (.frz { cls := .type "list", data := .seq vs.toArray } (.lst (ns.map V.int))) else none) (fun b => ?_) (.inl (.inr ⟨{ cls := .type "list", data := .seq vs.toArray }, if_pos rfl⟩)) (fun b u z => ?_) (fun b z => ?_) fun _ => hk
    · by_cases hb : b = a
      · exact .inr ⟨_, _, if_pos hb⟩
      · exact .inl (if_neg hb)
    · by_cases hb : b = a
      · have z' := (if_pos hb).symm.trans z
        cases z'
        subst hb
        exact ⟨ha, by rw [List.length_map]; exact hl, vs, _, rv, ha⟩
      · have z' := (if_neg hb).symm.trans z
        cases z'
    · by_cases hb : b = a
      · exact hb
      · exact absurd (if_neg hb) z
end L2

namespace L2
open PySem PySem.Spec PyProof.Rows

abbrev KOf {K : PySem.W.Frag} {h : Heap} (_ : K.In h) : PySem.W.Frag := K

/-- the goal that k_head leaves (case hc), from the law's promise. F gives the function object fd (K's own) once, then the promise over every base -/
theorem walk_of {l : PySem.W.OpenLaw} {n k : Nat} {q : Program} {loose : List Str} {XP : (Str → Option Value) → Heap → Prop} {YP : World → Heap → Prop} {d : DefRec} {K : Params → PySem.W.Frag} {CX : World → CXT} {sp : World → Sp} {x : Str}
    (hn : l.most = some n) (hn2 : n ≤ sizeLine) (hdf : d.params.defaults = []) (hr : Room k callerA)
    (hY : ∀ (w : World) (h : Heap), YP w h → (K w.params).In h)
    (F : ∀ (w : World) (mg : Str → Option Value) (fa : Addr) (h : Heap), (K w.params).In h → h.Ns mainGlobals mg → mg d.name = some (.ref fa) →
      ∃ fd : FuncData, (∀ (s : Shared) (u : Value), BindsTo s fd ⟨[u], []⟩ [(x, u)]) ∧
        ∀ base : Heap, (K w.params).In base → base.Ns mainGlobals mg → FnOk l.prog w (K w.params) mg base (CX w) k fa fd [x] (sp w))
    (hsp : ∀ (w : World) (H : Hp) (a : Addr) (ns : List Int), ns.length ≤ n → Only H → SqL (K w.params) H a (ns.map V.int) → sp w [.ref a] H (fun v _ => v = .bl true) fun _ _ _ => False)
    (hCX : ∀ (w : World) (H : Hp) (s : Shared) (e : Value) (s' : Shared), CX w [] H s (fun _ _ _ => False) e s' → False) :
    PySem.W.WalkO q loose XP YP l.row.toRowW d [] (fun f vs => PySem.call f vs) := by
  refine Att.attach_call hn hdf fun w s₀ s₁ mg mb fa o pm cd doc a vs ns G Y ho hd hcd hmg hobj hints hlen hg => ?_
  have KX := hY w _ Y
  obtain ⟨fd, hb, hF⟩ := F w mg fa _ KX G.T.g hmg
  exact law_call KX G.T.g G.T.b G.T.builtins G.T.nolimit hg hobj hints (Nat.le_trans hlen hn2) hr hF hb (fun H hO hS => hsp w H a ns hlen hO hS) fun H e s' => hCX w H s₁ e s'
/-- the same where the promise hangs on the written part alone: (sp := My.sp_law), no hole under a binder -/
theorem walk_ofK {l : PySem.W.OpenLaw} {n k : Nat} {q : Program} {loose : List Str} {XP : (Str → Option Value) → Heap → Prop} {YP : World → Heap → Prop} {d : DefRec} {K : Params → PySem.W.Frag} {CX : CXT} {sp : PySem.W.Frag → Sp} {x : Str}
    (hn : l.most = some n) (hn2 : n ≤ sizeLine) (hdf : d.params.defaults = []) (hr : Room k callerA)
    (hY : ∀ (w : World) (h : Heap), YP w h → (K w.params).In h)
    (F : ∀ (w : World) (mg : Str → Option Value) (fa : Addr) (h : Heap), (K w.params).In h → h.Ns mainGlobals mg → mg d.name = some (.ref fa) →
      ∃ fd : FuncData, (∀ (s : Shared) (u : Value), BindsTo s fd ⟨[u], []⟩ [(x, u)]) ∧
        ∀ base : Heap, (K w.params).In base → base.Ns mainGlobals mg → FnOk l.prog w (K w.params) mg base CX k fa fd [x] (sp (K w.params)))
    (hsp : ∀ (K : PySem.W.Frag) (H : Hp) (a : Addr) (ns : List Int), ns.length ≤ n → Only H → SqL K H a (ns.map V.int) → sp K [.ref a] H (fun v _ => v = .bl true) fun _ _ _ => False)
    (hCX : ∀ (H : Hp) (s : Shared) (e : Value) (s' : Shared), CX [] H s (fun _ _ _ => False) e s' → False) :
    PySem.W.WalkO q loose XP YP l.row.toRowW d [] (fun f vs => PySem.call f vs) :=
  walk_of (K := K) (CX := fun _ => CX) (sp := fun w => sp (K w.params)) hn hn2 hdf hr hY F (fun w H a ns h1 h2 h3 => hsp (K w.params) H a ns h1 h2 h3) fun _ H s e s' => hCX H s e s'
end L2

/- THE LAST THEOREM (shape; LID, My.* are yours):
   My.Adr: a structure of the addresses that your layer names (classes, functions); My.Txt K t: a structure (Prop) of the equations over K;
   My.txt_mk : {K} {implicit addresses ..} (e1 : nsIn K mainGlobals "law" = some (some (.ref f))) (e2 : K.lookup f = some ⟨oc, od, .func (fnOf "law" "law" params body scope dV kV doc pm an cdv ct), sl⟩) (e3 : codeIn K cdv "law" = true) .. : ∃ t, My.Txt K t

set_option maxRecDepth 100000 in
set_option maxHeartbeats 0 in
theorem PySem.Challenge.cw_LID_holds : PySem.Challenge.rw_LID.Holds := by
  w_on; o_law; k_head; (case hw => w_witness2)
  k_fill
  refine L2.walk_of (l := PySem.Challenge.rw_LID) (n := 63) (k := 40) (x := "script") (CX := fun w => ..) (sp := fun _ => My.sp_law) rfl (by decide) rfl ⟨rfl, by decide, by decide⟩ (fun w h Y => PySem.W.kIn_of Y) ?F ?S ?C
  case F =>
    intro w mg fa h KX G hmg
    have T : ∃ t, My.Txt (L2.KOf KX) t := by
      dsimp only [L2.KOf]                          -- K must stand as «<heap const> w.params» for k_is
      refine' My.txt_mk ?e1 ?e2 ?e3 ..
      (case e1 => PySem.W.k_is)                    -- in the order: a name -> its address -> its object -> its parts
      (case e2 => PySem.W.k_is)
      ..
    obtain ⟨t, T⟩ := T
    have e0 := hmg.symm.trans (PySem.W.mg_of KX G T.law)
    cases e0                                       -- fa is the law's own address
    exact ⟨_, fun s u => .of_eq rfl, fun base kb nb => My.law_fn T kb nb⟩     -- if «.of_eq rfl» comes too early: refine' ⟨_, ?b, fun base kb nb => My.law_fn T kb nb⟩; exact fun s u => .of_eq rfl
  case S => exact fun w H a ns hl hO hS => ..
  case C => exact ..
(the tactic k_is has no namespace: write k_is) -/

/-! SHORT WORDS over the layer: a def of the text, its body, what a loop and a test want. -/
namespace L2
open PySem PySem.Spec PyProof.Rows

/-! ### the text by places -/
/-- the j-th statement of a class's body -/
def inClass (s : Stmt) (j : Nat) : Stmt := match s with
  | .ClassDef _ _ _ body _ _ _ _ _ _ _ => body.getD j (.Pass ⟨0, 0, 0, 0⟩)
  | _ => .Pass ⟨0, 0, 0, 0⟩
def defArgs (s : Stmt) : Arguments := match s with
  | .FunctionDef _ a _ _ _ _ _ _ _ _ => a
  | _ => { posonlyargs := [], args := [], vararg := none, kwonlyargs := [], kw_defaults := [], kwarg := none, defaults := [] }
def defBody (s : Stmt) : List Stmt := match s with
  | .FunctionDef _ _ b _ _ _ _ _ _ _ => b
  | _ => []
def defScope (s : Stmt) : Scope := match s with
  | .FunctionDef _ _ _ _ _ _ sc _ _ _ => sc
  | _ => { kind := .function, names := [], isGenerator := false, isCoroutine := false }

/-! ### no exception leaves a def -/
abbrev CX0 : CXT := fun _ _ _ _ _ _ => False
abbrev E0 : XK := fun _ _ _ => False
theorem pass0 {X : Cx} : Passes CX0 X (fun _ => E0) := fun _ _ _ _ _ _ _ h => h.elim

/-! ### a def (or method) of the text as it stands behind the top -/
structure Fun (K : PySem.W.Frag) (x qual : Str) (st : Stmt) (f : Addr) (fd : FuncData) : Prop where
  ex : ∃ (oc : Value) (od : Option Addr) (kV doc pm : Value) (an : Option Addr) (cdv ct : Value) (osl : Array (Option Value)),
    fd = PySem.W.fnOf x qual (defArgs st) (defBody st) (defScope st) .none kV doc pm an cdv ct ∧ K.lookup f = some ⟨oc, od, .func fd, osl⟩ ∧ PySem.W.codeIn K cdv qual = true
  kp : PySem.W.keepIn K (.ref f) = true
section
variable {P : Program} {w : World} {K : PySem.W.Frag} {mg : Str → Option Value} {base : Heap}
/-- THE RULE for a def: its body as a term of rules, and the reading of that term -/
theorem Fun.ok {x qual : Str} {st : Stmt} {f : Addr} {fd : FuncData} {N ps : List Str} {k : Nat} {sp : Sp} (F : Fun K x qual st f fd) (S : FnScope N ps (defScope st)) (len : ∀ vs H Q E, sp vs H Q E → vs.length = ps.length)
    (hbody : ∀ (cdv : Value) (A : Around) (outer : List Env) (s : Shared) (H : Hp) (vs : List V) (Q : VK) (E : XK), Room k (A.deeper (envOfC qual (defScope st) s.heap.objs.size f cdv)) → sp vs H Q E →
      ∃ t, PSs (cxOf CX0 P w K mg base N qual (defScope st) f cdv A outer s H E).nox (defBody st) t ∧ t { nx := fun _ H' => Q .non H', rt := Q } (start N vs) H) : FnOk P w K mg base CX0 (k + 1) f fd ps sp := by
  obtain ⟨oc, od, kV, doc, pm, an, cdv, ct, osl, rfl, lk, hcd⟩ := F.ex
  refine fn_of lk hcd S len fun A outer s H vs Q E hr hsp => ?_
  obtain ⟨t, h, q⟩ := hbody cdv A outer s H vs Q E hr hsp
  exact ⟨t, h.nox, q⟩
/-- how its arguments bind (no defaults): h is «fun _ _ _ _ _ _ us hl => match us, hl with | [_, _], _ => rfl», one _ a parameter -/
theorem Fun.binds {x qual : Str} {st : Stmt} {f : Addr} {fd : FuncData} {ps : List Str} (F : Fun K x qual st f fd)
    (h : ∀ (kV doc pm : Value) (an : Option Addr) (cdv ct : Value) (us : List Value), us.length = ps.length → bindArgs (PySem.W.fnOf x qual (defArgs st) (defBody st) (defScope st) .none kV doc pm an cdv ct) ⟨us, []⟩ = pure (ps.zip us)) : Binds K fd ps [] := by
  obtain ⟨oc, od, kV, doc, pm, an, cdv, ct, osl, rfl, lk, hcd⟩ := F.ex
  exact .all (h kV doc pm an cdv ct)
theorem fun_mk {x qual : Str} {st : Stmt} {f : Addr} {oc : Value} {od an : Option Addr} {osl : Array (Option Value)} {kV doc pm cdv ct : Value} (l : K.lookup f = some ⟨oc, od, .func (PySem.W.fnOf x qual (defArgs st) (defBody st) (defScope st) .none kV doc pm an cdv ct), osl⟩)
    (c : PySem.W.codeIn K cdv qual = true) (k : PySem.W.keepIn K (.ref f) = true) : Fun K x qual st f (PySem.W.fnOf x qual (defArgs st) (defBody st) (defScope st) .none kV doc pm an cdv ct) := ⟨⟨oc, od, kV, doc, pm, an, cdv, ct, osl, rfl, l, c⟩, k⟩
end
theorem hu_of {A : Around} {k : Nat} (hr : Room k A) : A.units + 1 < cLine := Nat.lt_of_le_of_lt (Nat.add_le_add_left (by decide : 1 ≤ 64) _) hr.units
theorem small1000 {n : Nat} (h : n ≤ 1000) : n < sizeLine := Nat.lt_of_le_of_lt h (by decide)

/-! ### expressions in short: the name that stands in the i-th slot -/
section
variable {X : Cx}
theorem pv (i : Nat) {x : Str} {pos : Pos} (hN : X.N[i]? = some x := by rfl) (hv : Vis X.env.scope x := by first | exact Or.inl rfl | exact Or.inr (Or.inl rfl) | exact Or.inr (Or.inr rfl)) (hd : (x == ("__debug__" : Str)) = false := by decide)
    (hcd : (x == ("__classdict__" : Str)) = false := by decide) : PE X (.Name x pos) (tVar i) := pe_var hN hv hd hcd
end

/-! ### tests -/
theorem iteF {A B : Prop} (h : B) : if false = true then A else B := by
  rw [if_neg Bool.false_ne_true]
  exact h
theorem iteT {A B : Prop} (h : A) : if true = true then A else B := by
  rw [if_pos rfl]
  exact h
theorem ite2 {c A B : Prop} [Decidable c] (h1 : c → A) (h2 : ¬ c → B) : if c then A else B := by
  by_cases h : c
  · rw [if_pos h]
    exact h1 h
  · rw [if_neg h]
    exact h2 h
theorem iteNS {c A B : Prop} [Decidable c] (hc : c) (h : B) : if (!decide c) = true then A else B := by
  rw [decide_eq_true hc]
  exact iteF h

/-! ### heaps -/
/-- all that was tracked is as it was -/
def Same (H H' : Hp) : Prop := ∀ b o, H b = some o → H' b = some o
theorem Same.refl (H : Hp) : Same H H := fun _ _ h => h
theorem Same.trans {H H1 H2 : Hp} (a : Same H H1) (b : Same H1 H2) : Same H H2 := fun c o h => b c o (a c o h)
theorem Same.free {H H' : Hp} (e : Same H H') {l : Addr} (h : H' l = Option.none) : H l = Option.none := by
  cases q : H l with
  | none => rfl
  | some o =>
    rw [e l o q] at h
    cases h
theorem Same.seq {K : PySem.W.Frag} {H H' : Hp} {a : Addr} {xs : List V} (e : Same H H') (h : SqL K H a xs) : SqL K H' a xs := by
  rcases h with (h | ⟨o, h⟩) | h
  · exact .inl (.inl (e _ _ h))
  · exact .inl (.inr ⟨o, e _ _ h⟩)
  · exact .inr h

end L2


set_option Elab.async false
set_option maxHeartbeats 4000000
/-! A list comprehension of one clause, over the hand layer. -/
namespace L2
open PySem PySem.Spec PyProof.Rows

/-! ### what a comprehension's scope must be: names M = own names, then the free ones, which stand in X's slots ix -/
structure CompScope (X : Cx) (scope : Scope) (own fv : List Str) (ix : List Nat) : Prop where
  kind : scope.kind = .function
  nocell : ∀ y ∈ scope.names, y.2 ≠ .cell
  names : ∀ y ∈ scope.names, y.2 = .local → scope.names.lookup y.1 = some .local
  once : ∀ y ∈ scope.names, y.2 = .free → scope.names.lookup y.1 = some .free
  outer : ∀ y ∈ scope.names, y.2 = .free → X.env.kindOf y.1 = some .cell ∨ X.env.kindOf y.1 = some .free
  isfree : ∀ y ∈ fv, scope.names.lookup y = some .free
  slots : ∀ (j : Nat) (y : Str), fv[j]? = some y → ∃ i, ix[j]? = some i ∧ X.N[i]? = some y
  len : ix.length = fv.length

/-- the same as one test over written lists: sc, N the enclosing def's scope and names -/
def compOk (sc : Scope) (N : List Str) (scope : Scope) (fv : List Str) (ix : List Nat) : Bool :=
  scope.kind == .function && scope.names.all (fun y => y.2 != .cell && (y.2 != .local || scope.names.lookup y.1 == some .local) && (y.2 != .free || (scope.names.lookup y.1 == some .free && (sc.names.lookup y.1 == some .cell || sc.names.lookup y.1 == some .free)))) &&
    fv.all (fun y => scope.names.lookup y == some .free) && ix.length == fv.length && (List.range fv.length).all fun j => ((ix[j]?).bind fun i => N[i]?) == fv[j]?
theorem comp_scope {X : Cx} {scope sc : Scope} {N own fv : List Str} {ix : List Nat} (hs : X.env.scope = sc) (hN : X.N = N) (h : compOk sc N scope fv ix = true) : CompScope X scope own fv ix := by
  unfold compOk at h
  simp only [Bool.and_eq_true, List.all_eq_true, beq_iff_eq, bne_iff_ne, Bool.or_eq_true, ne_eq] at h
  obtain ⟨⟨⟨⟨h1, h2⟩, h3⟩, h4⟩, h5⟩ := h
  refine ⟨h1, fun y hy => (h2 y hy).1.1, fun y hy e => ((h2 y hy).1.2).resolve_left fun z => z e, fun y hy e => (((h2 y hy).2).resolve_left fun z => z e).1, fun y hy e => ?_, h3, fun j y e => ?_, h4⟩
  · have z := (((h2 y hy).2).resolve_left fun z => z e).2
    unfold Env.kindOf
    rw [hs]
    exact z
  · have hj : j < fv.length := (List.getElem?_eq_some_iff.mp e).1
    have z := h5 j (List.mem_range.mpr hj)
    rw [e] at z
    cases q : ix[j]? with
    | none => rw [q] at z; cases z
    | some i =>
      rw [q] at z
      exact ⟨i, rfl, by rw [hN]; exact z⟩
theorem lookup_mem {names : List (Str × NameKind)} {x : Str} {k : NameKind} (h : names.lookup x = some k) : (x, k) ∈ names := by
  induction names with
  | nil => simp at h
  | cons p r ih =>
    obtain ⟨n, k'⟩ := p
    rw [List.lookup_cons] at h
    cases e : x == n with
    | true =>
      rw [e] at h
      have := eq_of_beq e
      cases h
      rw [this]
      exact List.mem_cons_self
    | false =>
      rw [e] at h
      exact List.mem_cons_of_mem _ (ih h)

theorem relabel_lookup {scope : Scope} {env : Env} : ∀ (names : List (Str × NameKind)) (x : Str),
    (names.map fun (n, k) => if (k == NameKind.free && env.scope.kind == .function && env.kindOf n == some .cell) then (n, NameKind.cell) else (n, k)).lookup x =
      (names.lookup x).map fun k => if (k == NameKind.free && env.scope.kind == .function && env.kindOf x == some .cell) then NameKind.cell else k
  | [], _ => rfl
  | (n, k) :: r, x => by
    have ih := relabel_lookup (scope := scope) (env := env) r x
    show List.lookup x ((if (k == NameKind.free && env.scope.kind == .function && env.kindOf n == some .cell) = true then (n, NameKind.cell) else (n, k)) :: _) = _
    cases e : x == n with
    | true =>
      have e' := eq_of_beq e
      subst e'
      by_cases hc : (k == NameKind.free && env.scope.kind == .function && env.kindOf x == some .cell) = true
      · rw [if_pos hc, List.lookup_cons, List.lookup_cons, e]
        show some NameKind.cell = Option.map _ (some k)
        rw [Option.map_some, if_pos hc]
      · rw [if_neg hc, List.lookup_cons, List.lookup_cons, e]
        show some k = Option.map _ (some k)
        rw [Option.map_some, if_neg hc]
    | false =>
      by_cases hc : (k == NameKind.free && env.scope.kind == .function && env.kindOf n == some .cell) = true
      · rw [if_pos hc, List.lookup_cons, List.lookup_cons, e]
        exact ih
      · rw [if_neg hc, List.lookup_cons, List.lookup_cons, e]
        exact ih

/-- the closure's cells, from the enclosing frame's -/
theorem closure_go (env : Env) : ∀ (names : List (Str × NameKind)) (acc : List (Str × Addr)),
    (∀ y ∈ names, y.2 = .free → ∃ c, env.cells.lookup y.1 = some c) →
    ∃ cl, (forIn names acc fun (x : Str × NameKind) (cs : List (Str × Addr)) => (if (x.2 == NameKind.free) = true then do let c ← cellOf env x.1; pure (ForInStep.yield ((x.1, c) :: cs)) else pure (ForInStep.yield cs) : Sem (ForInStep (List (Str × Addr))))) = pure cl ∧
      (∀ y c, (y, c) ∈ cl → (y, c) ∈ acc ∨ (env.cells.lookup y = some c ∧ (y, NameKind.free) ∈ names)) ∧
      (∀ y, (∃ c, (y, c) ∈ acc) ∨ (y, NameKind.free) ∈ names → ∃ c, (y, c) ∈ cl)
  | [], acc, _ => ⟨acc, rfl, fun y c h => .inl h, fun y h => h.elim (fun z => z) fun z => nomatch z⟩
  | (n, k) :: r, acc, h => by
    rw [List.forIn_cons]
    by_cases hk : k = .free
    · subst hk
      obtain ⟨c, hc⟩ := h (n, .free) List.mem_cons_self rfl
      obtain ⟨cl, e, h1, h2⟩ := closure_go env r ((n, c) :: acc) fun y hy => h y (List.mem_cons_of_mem _ hy)
      refine ⟨cl, ?_, fun y c' hm => ?_, fun y hy => h2 y ?_⟩
      · simp only [beq_self_eq_true, if_true]
        have : cellOf env n = pure c := by unfold cellOf; rw [hc]
        rw [this, pure_bind, pure_bind]
        exact e
      · rcases h1 y c' hm with z | ⟨z1, z2⟩
        · rcases List.mem_cons.mp z with z | z
          · cases z
            exact .inr ⟨hc, List.mem_cons_self⟩
          · exact .inl z
        · exact .inr ⟨z1, List.mem_cons_of_mem _ z2⟩
      · rcases hy with ⟨c', z⟩ | z
        · exact .inl ⟨c', List.mem_cons_of_mem _ z⟩
        · rcases List.mem_cons.mp z with z | z
          · cases z
            exact .inl ⟨c, List.mem_cons_self⟩
          · exact .inr z
    · obtain ⟨cl, e, h1, h2⟩ := closure_go env r acc fun y hy => h y (List.mem_cons_of_mem _ hy)
      have hb : (k == NameKind.free) = false := by simpa using hk
      refine ⟨cl, ?_, fun y c' hm => ?_, fun y hy => h2 y ?_⟩
      · simp only [hb, Bool.false_eq_true, if_false]
        rw [pure_bind]
        exact e
      · rcases h1 y c' hm with z | ⟨z1, z2⟩
        · exact .inl z
        · exact .inr ⟨z1, List.mem_cons_of_mem _ z2⟩
      · rcases hy with z | z
        · exact .inl z
        · rcases List.mem_cons.mp z with z | z
          · cases z
            exact absurd rfl hk
          · exact .inr z

theorem lookup_pair_mem {l : List (Str × Addr)} {x : Str} {c : Addr} (h : l.lookup x = some c) : (x, c) ∈ l := by
  induction l with
  | nil => simp at h
  | cons p r ih =>
    obtain ⟨n, k'⟩ := p
    rw [List.lookup_cons] at h
    cases e : x == n with
    | true =>
      rw [e] at h
      have := eq_of_beq e
      cases h
      rw [this]
      exact List.mem_cons_self
    | false =>
      rw [e] at h
      exact List.mem_cons_of_mem _ (ih h)
theorem mem_lookup_some {l : List (Str × Addr)} {x : Str} {c : Addr} (h : (x, c) ∈ l) : ∃ c', l.lookup x = some c' := by
  induction l with
  | nil => cases h
  | cons p r ih =>
    obtain ⟨n, k'⟩ := p
    rw [List.lookup_cons]
    cases e : x == n with
    | true => exact ⟨k', rfl⟩
    | false =>
      rcases List.mem_cons.mp h with z | z
      · cases z
        rw [beq_self_eq_true] at e
        cases e
      · exact ih z

theorem closure_ok {scope : Scope} {env : Env} (h : ∀ y ∈ scope.names, y.2 = .free → ∃ c, env.cells.lookup y.1 = some c) :
    ∃ cl, closureFor scope env = pure cl ∧ (∀ y c, cl.lookup y = some c → env.cells.lookup y = some c ∧ (y, NameKind.free) ∈ scope.names) ∧ (∀ y, (y, NameKind.free) ∈ scope.names → ∃ c, cl.lookup y = some c) := by
  obtain ⟨cl, e, h1, h2⟩ := closure_go env scope.names [] h
  refine ⟨cl, ?_, fun y c hl => ?_, fun y hy => ?_⟩
  · unfold closureFor
    refine Eq.trans (b := ((forIn scope.names [] fun (x : Str × NameKind) (cs : List (Str × Addr)) => (if (x.2 == NameKind.free) = true then do let c ← cellOf env x.1; pure (ForInStep.yield ((x.1, c) :: cs)) else pure (ForInStep.yield cs) : Sem (ForInStep (List (Str × Addr))))) >>= fun cs => pure cs)) rfl ?_
    rw [e]
    rfl
  · rcases h1 y c (lookup_pair_mem hl) with z | z
    · cases z
    · exact z
  · obtain ⟨c, hc⟩ := h2 y (.inr hy)
    exact mem_lookup_some hc

/-- the context of a comprehension's block: its frame at C, its closure cl, the iterator's records fp; no exception leaves it -/
def compCx (X : Cx) (scope : Scope) (cl : List (Str × Addr)) (M : List Str) (fp : List Addr) (C : Addr) (s : Shared) (H : Hp) : Cx where
  prog := X.prog
  w := X.w
  K := X.K
  mg := X.mg
  base := X.base
  A := X.A
  N := M
  s₀ := s
  H₀ := H
  env := compEnvC scope cl C X.env
  outer := X.stack
  stack := X.stack
  ex := fp
  fn := fun y => scope.names.lookup y == some .local
  calm := X.calm
  pn := []
  xe := fun _ _ => False

/-- the tests of a clause -/
def PIf (X : Cx) (ifs : List Expr) (t : TT) : Prop :=
  ∀ (pins : List (Addr × Obj)) (s : Shared) (σ : St) (H : Hp) (Q : Bool → Hp → Prop), Inv X pins σ H s → t σ H Q →
    wpAny (model X.prog X.w) X.A (forIn ifs true fun c r => if r = true then do let ok ← isTrue c X.env (eval c X.env); pure (ForInStep.yield ok) else pure (ForInStep.yield r)) (TP X pins σ Q) X.xe s
def tYes : TT := fun _ H Q => Q true H
theorem pif_nil {X : Cx} : PIf X [] tYes := fun _ _ _ H _ I h => wpAny_tests_nil ⟨H, I, h⟩
theorem pif_one {X : Cx} {c : Expr} {t : TT} (h : PT X c t) : PIf X [c] t := fun pins s σ H Q I hw => wpAny_tests_one (h pins s σ H Q I hw)

/-- the reading: the result list stands at D from the start -/
def tComp (wi : TI) (k : Nat) (ix : List Nat) (g : TG) (tt : TT) (te : TE) : TE := fun σ H Q => wi σ H fun J H1 => ∀ D, H1 D = none →
  ∃ W : Nat → Nat → St → List V → Hp → Prop, (∃ m, W 0 m (List.replicate k none ++ ix.map fun i => (σ[i]?).getD none) [] (upd H1 D (.lst []))) ∧
    ∀ i m σ' ys H', W i m σ' ys H' → H' D = some (.lst ys) ∧ ((J.stop i H' ∧ Q (.ref D) H') ∨ (J.go i H' ∧ ys.length < sizeLine ∧
      ∀ x H2, J.yld i H' x H2 → g x σ' H2 fun σ2 H3 => tt σ2 H3 fun b H4 =>
        if b = true then te σ2 H4 fun v H5 => H5 D = some (.lst ys) ∧ ∃ m', m' < m ∧ W (i + 1) m' σ2 (ys ++ [v]) (upd H5 D (.lst (ys ++ [v])))
        else ∃ m', m' < m ∧ W (i + 1) m' σ2 ys H4))

section
variable {prog : Program} {w : World} {A : Around} {R : Result → Shared → Prop} {s : Shared}
theorem codeAny_compLoop_go {elt target iter : Expr} {ifs : List Expr} {scope : Scope} {pos : Pos} {it acc : Value} {env : Env} (I : Nat → Shared → Prop)
    (turn : ∀ n s, I n s → wpAny (model prog w) A (pyNext it) (fun r s₁ => match r with
      | none => R (.ok .next) s₁
      | some v => wpAny (model prog w) A (letOwnedTupleGo target it v) (fun _ s₁' => wpAny (model prog w) A (assign target env v) (fun _ s₂ =>
          wpAny (model prog w) A (forIn ifs true fun c r => if r = true then do let ok ← isTrue c env (eval c env); pure (ForInStep.yield ok) else pure (ForInStep.yield r)) (fun ok s₃ =>
            if ok = true then wpAny (model prog w) A (eval elt env) (fun x s₄ =>
              wpAny (model prog w) A (call (.builtin "list.append") [acc, x]) (fun _ s₅ => ∃ m, m < n ∧ I m s₅) (fun _ _ => False) s₄) (fun _ _ => False) s₃
            else ∃ m, m < n ∧ I m s₃) (fun _ _ => False) s₂) (fun _ _ => False) s₁') (fun _ _ => False) s₁) (fun _ _ => False) s)
    (n : Nat) (h : I n s) :
    codeAny (model prog w) A (.compLoop (.ListComp elt [⟨target, iter, ifs, 0⟩] scope pos) 0 it acc env) R s := by
  refine codeAny_loop rfl I (fun n s hI => ?_) n h
  show wpAny _ A ((compTurn (.ListComp elt [⟨target, iter, ifs, 0⟩] scope pos) 0 it acc env).onRaise (fun x => do noteFrame x env; theTreesLotGoes x)) _ _ s
  refine wpAny_noted ?_
  rw [compTurn_list]
  refine wpAny_bind (wpAny_standAt (wpAny_bind (wpAny_mono (turn n s hI) (fun r s₁ h₁ => ?_) fun _ _ z => z.elim)))
  cases r with
  | none => exact wpAny_pure h₁
  | some v =>
    refine wpAny_bind (wpAny_mono h₁ (fun _ s₁' h₁' => ?_) fun _ _ z => z.elim)
    refine wpAny_bind (wpAny_mono h₁' (fun _ s₂ h₂ => wpAny_bind (wpAny_mono h₂ (fun ok s₃ h₃ => ?_) fun _ _ z => z.elim)) fun _ _ z => z.elim)
    cases ok with
    | false => exact wpAny_pure ⟨rfl, h₃⟩
    | true =>
      exact wpAny_bind (wpAny_bind (wpAny_mono h₃ (fun x s₄ h₄ => wpAny_bind (wpAny_mono h₄ (fun _ s₅ h₅ => wpAny_pure (wpAny_pure ⟨rfl, h₅⟩)) fun _ _ z => z.elim)) fun _ _ z => z.elim))
end

section
variable {X : Cx} {pins : List (Addr × Obj)} {σ : St} {H H2 : Hp} {s : Shared} {scope : Scope} {own fv : List Str} {ix : List Nat} {cl : List (Str × Addr)}

theorem CompScope.cells {own fv : List Str} (S : CompScope X scope own fv ix) (ok : X.Ok) : ∀ y ∈ scope.names, y.2 = .free → ∃ c, X.env.cells.lookup y.1 = some c :=
  fun y hy e => ok.has y.1 (S.outer y hy e)
theorem compEnv_kind (S : CompScope X scope own fv ix) (ok : X.Ok) {x : Str} (h : (compEnvC scope cl C X.env).kindOf x = some .cell ∨ (compEnvC scope cl C X.env).kindOf x = some .free) : (x, NameKind.free) ∈ scope.names := by
  have e : (compEnvC scope cl C X.env).kindOf x = (scope.names.lookup x).map fun k => if (k == NameKind.free && X.env.scope.kind == .function && X.env.kindOf x == some .cell) then NameKind.cell else k := relabel_lookup (scope := scope) _ _
  cases q : scope.names.lookup x with
  | none =>
    rw [e, q] at h
    rcases h with h | h <;> cases h
  | some k =>
    have m := lookup_mem q
    rw [e, q] at h
    by_cases hk : k = .free
    · subst hk; exact m
    · have hb : (k == NameKind.free) = false := by simpa using hk
      simp only [Option.map_some, hb, Bool.false_and, Bool.false_eq_true, if_false] at h
      rcases h with h | h
      · cases h
        exact absurd rfl (S.nocell _ m)
      · cases h
        exact absurd rfl hk
theorem compEnv_free (S : CompScope X scope own fv ix) (ok : X.Ok) {x : Str} (h : (x, NameKind.free) ∈ scope.names) : (compEnvC scope cl C X.env).kindOf x = some .cell ∨ (compEnvC scope cl C X.env).kindOf x = some .free := by
  have e : (compEnvC scope cl C X.env).kindOf x = (scope.names.lookup x).map fun k => if (k == NameKind.free && X.env.scope.kind == .function && X.env.kindOf x == some .cell) then NameKind.cell else k := relabel_lookup (scope := scope) _ _
  rw [e, S.once _ h rfl]
  by_cases hc : (NameKind.free == NameKind.free && X.env.scope.kind == .function && X.env.kindOf x == some .cell) = true
  · left; simp only [Option.map_some, hc, if_true]
  · right; simp only [Option.map_some, hc, if_false]; rfl

theorem comp_ok (S : CompScope X scope own fv ix) (I : Inv X pins σ H s) {fp : List Addr} (hf : ∀ b ∈ fp, FpOk X pins H2 b) (hlt : ∀ b ∈ fp, b < s.heap.objs.size)
    (hcl : ∀ y c, cl.lookup y = some c → X.env.cells.lookup y = some c ∧ (y, NameKind.free) ∈ scope.names) (hcl2 : ∀ y, (y, NameKind.free) ∈ scope.names → ∃ c, cl.lookup y = some c) :
    (compCx X scope cl (own ++ fv) fp s.heap.objs.size s H).Ok where
  mod := I.ok.mod
  kind := S.kind
  glob := I.ok.glob
  blt := I.ok.blt
  above := Nat.le_refl _
  inj := fun x y c h1 h2 => I.ok.inj x y c (hcl x c h1).1 (hcl y c h2).1
  has := fun x h => hcl2 x (compEnv_kind S I.ok h)
  cab := fun x c h1 h2 => by
    have m := (hcl x c h2).2
    have h1' : (scope.names.lookup x == some .local) = true := h1
    rw [S.once _ m rfl] at h1'
    cases h1'
  hd := I.ok.hd
  frames := I.ok.frames
  stk := .inl rfl
  exf := fun b hb => ⟨Nat.ne_of_lt (hlt b hb), fun x c e => (hf b hb).2.2.2.2.1 x c (hcl x c e).1⟩
  bs := I.bs
  bsz := Nat.le_trans I.ok.bsz I.sz
  noex := fun b o e hb => by
    rcases (hf b hb).2.2.2.1 with z | z
    · exact I.ok.noex b o e z
    · exact absurd (Nat.lt_of_lt_of_le (Heap.lt_size e) (Nat.le_trans I.ok.bsz z)) (Nat.lt_irrefl _)
  exfs := fun b hb z => by
    rcases List.mem_cons.mp (I.stkSub b z) with e | e
    · exact (hf b hb).2.1 e
    · exact (hf b hb).2.2.1 e
  funs := I.stack
  frf := I.stkFree

theorem getD_slot {σ : St} {i : Nat} {v : V} (h : (σ[i]?).getD none = some v) : σ[i]? = some (some v) := by
  cases e : σ[i]? with
  | none => rw [e] at h; cases h
  | some o => rw [e] at h; exact congrArg some h

theorem comp_start (S : CompScope X scope own fv ix) (I : Inv X pins σ H s) {fp : List Addr} (hf : ∀ b ∈ fp, FpOk X pins H2 b) (hlt : ∀ b ∈ fp, b < s.heap.objs.size)
    (hcl : ∀ y c, cl.lookup y = some c → X.env.cells.lookup y = some c ∧ (y, NameKind.free) ∈ scope.names) (hcl2 : ∀ y, (y, NameKind.free) ∈ scope.names → ∃ c, cl.lookup y = some c)
    {h1 : Heap} {t1 : Nat} {m : Str → Option Value} (hns : h1.Ns s.heap.objs.size m) (old : ∀ b o, s.heap.get? b = some o → h1.get? b = some o) :
    Inv (compCx X scope cl (own ++ fv) fp s.heap.objs.size s H) [] (List.replicate own.length none ++ ix.map fun i => (σ[i]?).getD none) H { s with heap := h1, toks := t1 } := by
  refine ⟨comp_ok S I hf hlt hcl hcl2, rfl, I.bare, Un.kept old, ⟨m, hns, fun i x v e1 e2 e3 => ?_⟩, fun x c e => ?_, I.hok.fresh (Nat.le_refl _), fun x c e => I.freeC x c (hcl x c e).1, fun p hp => (nomatch hp), I.hok.kept old, ?_⟩
  · have e1' : (own ++ fv)[i]? = some x := e1
    by_cases hi : i < own.length
    · rw [List.getElem?_append_left (by rw [List.length_replicate]; exact hi), List.getElem?_replicate, if_pos hi] at e2
      cases e2
    · have hi' : own.length ≤ i := Nat.not_lt.mp hi
      rw [List.getElem?_append_right hi'] at e1'
      rw [List.getElem?_append_right (by rw [List.length_replicate]; exact hi'), List.length_replicate, List.getElem?_map] at e2
      obtain ⟨j, hj, hN⟩ := S.slots _ x e1'
      rw [hj] at e2
      have e2' : σ[j]? = some (some v) := getD_slot (Option.some.inj e2)
      have hfree : (x, NameKind.free) ∈ scope.names := lookup_mem (S.isfree x (List.mem_of_getElem? e1'))
      have hko := S.outer _ hfree rfl
      obtain ⟨m0, hn0, hl0⟩ := I.loc
      obtain ⟨u, r, l⟩ := hl0 j x v hN e2' (hko.elim (fun z => .inr (.inl z)) fun z => .inr (.inr z))
      refine ⟨u, r, .inr ⟨compEnv_free S I.ok hfree, ?_⟩⟩
      rcases l with ⟨k, _⟩ | ⟨_, c, ec, z⟩
      · have k' : X.env.kindOf x = some .local := k
        rcases hko with q | q <;> (rw [q] at k'; cases k')
      · obtain ⟨c', hc'⟩ := hcl2 x hfree
        have ec' := (hcl x c' hc').1
        rw [ec] at ec'
        cases ec'
        obtain ⟨o, ho, hd⟩ := z
        exact ⟨c, hc', o, old c o ho, hd⟩
  · obtain ⟨v, o, ho, hd⟩ := I.cell x c (hcl x c e).1
    exact ⟨v, o, old c o ho, hd⟩
  · show (List.replicate own.length none ++ ix.map fun i => (σ[i]?).getD none : St).length = (own ++ fv).length
    rw [List.length_append, List.length_append, List.length_replicate, List.length_map, S.len]

/-- behind the block -/
theorem comp_end {H' : Hp} {σ' : St} {s' : Shared} {h'' : Heap} {fp : List Addr} (I : Inv X pins σ H s) (hf : ∀ b ∈ fp, FpOk X pins H2 b)
    (I' : Inv (compCx X scope cl (own ++ fv) fp s.heap.objs.size s H) [] σ' H' s') (hs : Heap.SameBut s.heap.objs.size s'.heap h'') : Inv X pins σ H' { s' with heap := h'' } := by
  have ne : ∀ b o, s.heap.get? b = some o → b ≠ s.heap.objs.size := fun b o e => Nat.ne_of_lt (Heap.lt_size e)
  have B : Un (frs X.stack) fp H H' s.heap s'.heap := I'.base
  refine I.call' (ch := fp) (s' := { s' with heap := h'' }) I'.os ⟨fun b o e n hb hx => ?_, fun b o e n hb hx => ?_, B.free, fun b o e hx => ?_, B.tups, B.frzs, B.tbls⟩ (fun b u e => ?_) I'.bare fun b hb => ⟨(hf b hb).2.2.2.1, (hf b hb).2.1, (hf b hb).2.2.2.2.1, (hf b hb).2.2.2.2.2⟩
  · exact (hs.2 b (ne b o e)).trans (B.keep b o e n hb hx)
  · obtain ⟨sl, e1⟩ := B.slot b o e n hb hx
    exact ⟨sl, (hs.2 b (ne b o e)).trans e1⟩
  · obtain ⟨o', e1⟩ := B.there b o e hx
    exact ⟨o', (hs.2 b (ne b o e)).trans e1⟩
  · have fr : H' s.heap.objs.size = none := I'.free
    refine (I'.hok b u e).stay (fun c w' hc q => (hs.2 c ?_).trans q) (fun _ q => q) fun _ _ q => q
    rintro rfl
    rcases hc with z | z
    · rw [← z, fr] at e; cases e
    · rw [fr] at z; cases z

theorem pe_comp {elt target iter : Expr} {ifs : List Expr} {pos : Pos} {wi : TI} {g : TG} {tt : TT} {te : TE} (S : CompScope X scope own fv ix) (hc : X.calm = true) (hi : PI X target iter wi)
    (hg : ∀ cl fp C s H, PG (compCx X scope cl (own ++ fv) fp C s H) target g) (ht : ∀ cl fp C s H, PIf (compCx X scope cl (own ++ fv) fp C s H) ifs tt) (he : ∀ cl fp C s H, PE (compCx X scope cl (own ++ fv) fp C s H) elt te)
    (hs : ∀ x, foldedSetIterable iter X.env x = pure x := by intro _; rfl) : PE X (.ListComp elt [⟨target, iter, ifs, 0⟩] scope pos) (tComp wi own.length ix g tt te) := by
  intro pins s σ H Q I h
  rw [eval_ListComp]
  obtain ⟨cl, hclos, hcl, hcl2⟩ := closure_ok (scope := scope) (env := X.env) (S.cells I.ok)
  refine wpAny_comprehension_free (use := none) rfl hs hclos S.kind S.names (thn (hi pins s σ H _ I h) fun v s1 h1 => thn h1 fun itv s2 h2 => ?_)
  obtain ⟨it, fp, tn, J, H2, e, I2, T, st2, f2, hW⟩ := h2
  subst e
  have hlt2 : ∀ b ∈ fp, b < s2.heap.objs.size := fun b hb => by
    obtain ⟨o, e, _⟩ := T.obj _ _ st2 b hb
    exact Heap.lt_size e
  obtain ⟨W, ⟨m0, w0⟩, turn⟩ := hW s2.heap.objs.size I2.fresh
  have I3 : Inv X pins σ (upd H2 s2.heap.objs.size (.lst [])) { s2 with heap := s2.heap.push { cls := .type "list", data := .seq ([] : List Value).toArray } } := I2.lnew (t' := s2.toks) (its := []) .nil (Nat.zero_le _)
  refine wpAny_newObj_type ?_
  generalize hs3 : ({ s2 with heap := s2.heap.push { cls := .type "list", data := .seq ([] : List Value).toArray } } : Shared) = s3 at I3
  have hsz3 : s3.heap.objs.size = s2.heap.objs.size + 1 := by rw [← hs3]; exact Heap.size_push ..
  have up3 : ∀ b o, s2.heap.get? b = some o → s3.heap.get? b = some o := fun b o e => by rw [← hs3]; exact Heap.get?_push_of_some _ e
  refine wpAny_newFunctionEnv (fun y hy => S.nocell y hy) (by intro y hy; simp at hy) (fun h4 hns4 hsb4 => ?_) S.kind
  have old4 : ∀ b o, s3.heap.get? b = some o → h4.get? b = some o := fun b o e => hsb4.extBut b o (Nat.ne_of_lt (Heap.lt_size e)) (Heap.get?_push_of_some _ e)
  have hlt3 : ∀ b ∈ fp, b < s3.heap.objs.size := fun b hb => by rw [hsz3]; exact Nat.lt_succ_of_lt (hlt2 b hb)
  have I4 := comp_start (t1 := s3.toks + ([] : List (Str × Value)).length) S I3 f2 hlt3 hcl hcl2 hns4 old4
  have st4 : tn 0 h4 := T.keep _ _ _ st2 fun b hb o e => old4 b o (up3 b o e)
  have fr4 : ∀ b ∈ fp, (upd H2 s2.heap.objs.size (.lst [])) b = none := fun b hb => by rw [upd_ne (Nat.ne_of_lt (hlt2 b hb))]; exact (f2 b hb).1
  have stat : ∀ {H' : Hp}, (∀ b ∈ fp, H' b = none) → ∀ b ∈ fp, FpOk (compCx X scope cl (own ++ fv) fp s3.heap.objs.size s3 (upd H2 s2.heap.objs.size (.lst []))) [] H' b := fun hn b hb =>
    ⟨hn b hb, Nat.ne_of_lt (hlt3 b hb), (I4.ok.exfs b hb), .inl hb, fun x c e => (f2 b hb).2.2.2.2.1 x c (hcl x c e).1, fun p hp => (nomatch hp)⟩
  have loop : codeAny (model X.prog X.w) X.A (.compLoop (.ListComp elt [⟨target, iter, ifs, 0⟩] scope pos) 0 (.ref it) (.ref s2.heap.objs.size) (compEnvC scope cl s3.heap.objs.size X.env))
      (compPost (model X.prog X.w) X.A X.xe none (EP X pins σ Q) (.ref s2.heap.objs.size) s3.heap.objs.size) { s3 with heap := h4, toks := s3.toks + ([] : List (Str × Value)).length } := by
    refine codeAny_compLoop_go (fun n s' => ∃ i σ' ys H', Inv (compCx X scope cl (own ++ fv) fp s3.heap.objs.size s3 (upd H2 s2.heap.objs.size (.lst []))) [] σ' H' s' ∧ tn i s'.heap ∧ (∀ b ∈ fp, H' b = none) ∧ W i n σ' ys H') ?_ m0 ⟨0, _, [], _, I4, st4, fr4, w0⟩
    rintro n s5 ⟨i, σ5, ys, H5, I5, st5, fr5, w5⟩
    obtain ⟨hD, next⟩ := turn i n σ5 ys H5 w5
    rcases next with ⟨stop, q⟩ | ⟨go, hys, step⟩
    · refine thn (T.done (compCx X scope cl (own ++ fv) fp s3.heap.objs.size s3 (upd H2 s2.heap.objs.size (.lst []))) rfl rfl rfl hc i [] s5 σ5 H5 (fun _ _ => False) I5 (stat fr5) st5 stop) fun r s6 ⟨hr, I6⟩ => ?_
      subst hr
      obtain ⟨m6, hn6, _⟩ := id I6.loc
      exact ⟨m6, hn6, fun h7 hs7 => ⟨.ref s2.heap.objs.size, H5, comp_end I3 f2 I6 hs7, rfl, q⟩⟩
    · refine thn (T.item (compCx X scope cl (own ++ fv) fp s3.heap.objs.size s3 (upd H2 s2.heap.objs.size (.lst []))) rfl rfl rfl hc i [] s5 σ5 H5 (fun _ _ => False) I5 (stat fr5) st5 go) fun r s6 ⟨u, hr, h6⟩ => ?_
      subst hr
      refine thn h6 fun _ s7 ⟨x, H7, I7, r7, y7, st7, fr7⟩ => ?_
      have I7' := I7.pinned (stat fr7) (T.obj _ _ st7)
      refine thn (hg _ _ _ _ _ _ s7 σ5 H7 x u _ I7' r7 (step x H7 y7)) fun _ s8 ⟨σ8, H8, I8, q8⟩ => ?_
      refine thn (ht _ _ _ _ _ _ s8 σ8 H8 _ I8 q8) fun b s9 ⟨H9, I9, q9⟩ => ?_
      have again : ∀ {s10 : Shared} {σ10 : St} {H10 : Hp} {ys' : List V}, Inv (compCx X scope cl (own ++ fv) fp s3.heap.objs.size s3 (upd H2 s2.heap.objs.size (.lst []))) ([] ++ pinsAt fp s7.heap) σ10 H10 s10 → (∃ m', m' < n ∧ W (i + 1) m' σ10 ys' H10) →
          ∃ m, m < n ∧ ∃ i σ' ys H', Inv (compCx X scope cl (own ++ fv) fp s3.heap.objs.size s3 (upd H2 s2.heap.objs.size (.lst []))) [] σ' H' s10 ∧ tn i s10.heap ∧ (∀ b ∈ fp, H' b = none) ∧ W i m σ' ys H' := fun {s10 σ10 H10 ys'} I10 ⟨m', hm, w10⟩ => by
        refine ⟨m', hm, i + 1, σ10, ys', H10, I10.unpinned, T.keep _ _ _ st7 fun b hb o e => (I10.pin (b, o) (List.mem_append_right _ (List.mem_append_right _ (mem_pinsAt hb e)))).1, fun b hb => ?_, w10⟩
        obtain ⟨o, e, d⟩ := T.obj _ _ st7 b hb
        exact (I10.pin (b, o) (List.mem_append_right _ (List.mem_append_right _ (mem_pinsAt hb e)))).2.1
      cases b with
      | false =>
        rw [if_neg (by decide)] at q9
        rw [if_neg (by decide)]
        exact again I9 q9
      | true =>
        rw [if_pos rfl] at q9
        rw [if_pos rfl]
        refine thn (he _ _ _ _ _ _ s9 σ8 H9 _ I9 q9) fun u9 s10 ⟨v9, H10, I10, r10, hD10, q10⟩ => ?_
        refine thn (mt_append (X := compCx X scope cl (own ++ fv) fp s3.heap.objs.size s3 (upd H2 s2.heap.objs.size (.lst []))) _ s10 σ8 H10 (.ref s2.heap.objs.size) [v9] (.ref s2.heap.objs.size) [u9] (fun _ H11 => H11 = upd H10 s2.heap.objs.size (.lst (ys ++ [v9]))) I10 rfl (.cons r10 .nil) ⟨_, ys, v9, rfl, rfl, hD10, hys, rfl⟩) fun _ s11 ⟨_, H11, I11, _, q11⟩ => ?_
        subst q11
        exact again I11 q10
  exact codeAny_compStart_list loop (T.self _ _ _ _ _ st4 loop)
end

/-! ### the forms one uses: over a range -/
/-- Pv i ys H: behind i turns; the frame's slots of the free names stay, the loop's own name holds the turn -/
theorem comp_range {n : Nat} {lo : Int} (te : TE) {σ : St} {ix : List Nat} {H1 : Hp} {D : Addr} {Q : Hp → Prop} (Pv : Nat → List V → Hp → Prop) (h0 : Pv 0 [] (upd H1 D (.lst []))) (hn : n ≤ sizeLine)
    (hat : ∀ i ys H', Pv i ys H' → H' D = some (.lst ys) ∧ ys.length ≤ i)
    (hs : ∀ i ys H' (N : VK), i < n → Pv i ys H' → (∀ v H5, H5 D = some (.lst ys) → Pv (i + 1) (ys ++ [v]) (upd H5 D (.lst (ys ++ [v]))) → N v H5) → te (some (.int (lo + (i : Nat))) :: ix.map fun i => (σ[i]?).getD none) H' N)
    (hd : ∀ ys H', Pv n ys H' → Q H') :
    ∃ W : Nat → Nat → St → List V → Hp → Prop, (∃ m, W 0 m (List.replicate 1 none ++ ix.map fun i => (σ[i]?).getD none) [] (upd H1 D (.lst []))) ∧
      ∀ i m σ' ys H', W i m σ' ys H' → H' D = some (.lst ys) ∧ (((Itr lo n).stop i H' ∧ Q H') ∨ ((Itr lo n).go i H' ∧ ys.length < sizeLine ∧
        ∀ x H2, (Itr lo n).yld i H' x H2 → gName 0 x σ' H2 fun σ2 H3 => tYes σ2 H3 fun b H4 =>
          if b = true then te σ2 H4 fun v H5 => H5 D = some (.lst ys) ∧ ∃ m', m' < m ∧ W (i + 1) m' σ2 (ys ++ [v]) (upd H5 D (.lst (ys ++ [v])))
          else ∃ m', m' < m ∧ W (i + 1) m' σ2 ys H4)) := by
  refine ⟨fun i m σ' ys H' => i ≤ n ∧ m = n - i ∧ (∃ o, σ' = o :: ix.map fun i => (σ[i]?).getD none) ∧ Pv i ys H', ⟨n, Nat.zero_le _, rfl, ⟨none, rfl⟩, h0⟩, ?_⟩
  rintro i m σ' ys H' ⟨hi, rfl, ⟨o, rfl⟩, P⟩
  obtain ⟨a1, a2⟩ := hat i ys H' P
  refine ⟨a1, ?_⟩
  by_cases hlt : i < n
  · refine .inr ⟨hlt, by omega, fun x H2 hy => ?_⟩
    obtain ⟨rfl, rfl⟩ := hy
    exact hs i ys H2 _ hlt P fun v H5 h1 h2 => ⟨h1, n - (i + 1), by omega, hlt, rfl, ⟨_, rfl⟩, h2⟩
  · have e : i = n := by omega
    subst e
    exact .inl ⟨Nat.le_refl _, hd ys H' P⟩
end L2


set_option Elab.async false
set_option maxHeartbeats 4000000
set_option maxRecDepth 100000
/-! Own exception classes over the hand layer: raised in a def, let through by its callers, caught by name. -/
namespace L2
open PySem PySem.Spec PyProof.Rows

section
variable {P : Program} {w : World} {H H' : Hp} {h h' : Heap} {a : Addr} {o : HO}
theorem ObjOk.there (x : ObjOk P w H h a o) : ∃ ob, h.get? a = some ob := by
  cases o with
  | lst xs => obtain ⟨_, _, _, _, e⟩ := x; exact ⟨_, e⟩
  | tup xs => obtain ⟨_, _, _, o, e, _⟩ := x; exact ⟨_, e⟩
  | dK kvs => obtain ⟨_, _, _, _, o, _, _, e, _⟩ := x; exact ⟨_, e⟩
  | dT kvs => obtain ⟨_, _, _, _, o, _, _, e, _⟩ := x; exact ⟨_, e⟩
  | set S n => obtain ⟨o, _, _, _, e, _⟩ := x; exact ⟨_, e⟩
  | ins C dx fs => obtain ⟨_, _, _, e, _⟩ := x; exact ⟨_, e⟩
  | own y => obtain ⟨_, e⟩ := x; exact ⟨_, e⟩
  | xd fs => obtain ⟨_, ⟨_, _, _, e, _⟩, _⟩ := x; exact ⟨_, e⟩
  | rng lo hi => obtain ⟨_, _, _, e⟩ := x; exact ⟨_, e⟩
  | frz ob u => obtain ⟨e, _⟩ := x; exact ⟨_, e⟩
  | tbl ps => exact ⟨_, (show h.get? a = some _ from x)⟩
  | met f y => exact ⟨_, (show h.get? a = some _ from x)⟩
  | ext φ => obtain ⟨_, ⟨_, e⟩, _⟩ := x; exact ⟨_, e⟩
theorem HOk.absent (x : HOk P w H h) (e : h.get? a = none) : H a = none := by
  cases q : H a with
  | none => rfl
  | some u =>
    obtain ⟨ob, z⟩ := (x a u q).there
    rw [e] at z
    cases z
/-- what is tracked stands also where the frames are hidden -/
theorem HOk.hidden (x : HOk P w H h) {as : List Addr} (hf : ∀ b ∈ as, H b = none) : HOk P w H (PySem.W.hideAll h as) := fun a o e =>
  (x a o e).stay (fun b u hb q => PySem.W.hideAll_get _ q fun hm => by
    have z := hf b hm
    rcases hb with rfl | hb
    · rw [z] at e; cases e
    · rw [z] at hb; cases hb) (fun _ q => q) fun _ _ q => q
end

/-! ### the same frame, other surroundings -/
abbrev Cx.hot (X : Cx) (A : Around) : Cx := { X with A := A, calm := false }
theorem Cx.Ok.hot {X : Cx} (ok : X.Ok) {A : Around} (hf : A.frames = X.A.frames) : (X.hot A).Ok :=
  ⟨ok.mod, ok.kind, ok.glob, ok.blt, ok.above, ok.inj, ok.has, ok.cab, fun z => (nomatch z), hf.trans ok.frames, ok.stk, ok.exf, ok.bs, ok.bsz, ok.noex, ok.exfs, ok.funs, ok.frf⟩
/-- pins put among those that every state bears, another wish -/
abbrev Cx.bear (X : Cx) (pn : List (Addr × Obj)) (E : Value → Shared → Prop) : Cx := { X with pn := pn, xe := E }
theorem Cx.Ok.bear {X : Cx} (ok : X.Ok) (pn : List (Addr × Obj)) (E : Value → Shared → Prop) : (X.bear pn E).Ok :=
  ⟨ok.mod, ok.kind, ok.glob, ok.blt, ok.above, ok.inj, ok.has, ok.cab, ok.hd, ok.frames, ok.stk, ok.exf, ok.bs, ok.bsz, ok.noex, ok.exfs, ok.funs, ok.frf⟩
theorem Cx.Ok.unbear {X : Cx} {pn : List (Addr × Obj)} {E : Value → Shared → Prop} (ok : (X.bear pn E).Ok) : X.Ok :=
  ⟨ok.mod, ok.kind, ok.glob, ok.blt, ok.above, ok.inj, ok.has, ok.cab, ok.hd, ok.frames, ok.stk, ok.exf, ok.bs, ok.bsz, ok.noex, ok.exfs, ok.funs, ok.frf⟩
section
variable {X : Cx} {pins pins' : List (Addr × Obj)} {σ : St} {H : Hp} {s : Shared} {A : Around} {E : Value → Shared → Prop}
theorem Inv.hot (I : Inv X pins σ H s) (hf : A.frames = X.A.frames) : Inv (X.hot A) pins σ H s := ⟨I.ok.hot hf, I.os, I.bare, I.base, I.loc, I.cell, I.free, I.freeC, I.pin, I.hok, I.len⟩
theorem Inv.cool (I : Inv (X.hot A) pins σ H s) (ok : X.Ok) : Inv X pins σ H s := ⟨ok, I.os, I.bare, I.base, I.loc, I.cell, I.free, I.freeC, I.pin, I.hok, I.len⟩
theorem Inv.bear (I : Inv X pins σ H s) (E : Value → Shared → Prop) : Inv (X.bear (X.pn ++ pins) E) [] σ H s :=
  ⟨I.ok.bear _ _, I.os, I.bare, I.base, I.loc, I.cell, I.free, I.freeC, fun p hp => I.pin p (by rwa [List.append_nil] at hp), I.hok, I.len⟩
theorem Inv.unbear (I : Inv (X.bear (X.pn ++ pins) E) pins' σ H s) : Inv X pins σ H s :=
  ⟨I.ok.unbear, I.os, I.bare, I.base, I.loc, I.cell, I.free, I.freeC, fun p hp => I.pin p (List.mem_append_left _ hp), I.hok, I.len⟩
theorem SP.unbear {D : Ends} {f : Flow} {s' : Shared} (h : SP (X.bear (X.pn ++ pins) E) [] D f s') : SP X pins D f s' := by
  cases f with
  | next => obtain ⟨σ', H', I, q⟩ := h; exact ⟨σ', H', I.unbear, q⟩
  | brk => obtain ⟨σ', H', I, q⟩ := h; exact ⟨σ', H', I.unbear, q⟩
  | cont => obtain ⟨σ', H', I, q⟩ := h; exact ⟨σ', H', I.unbear, q⟩
  | ret u => obtain ⟨v, σ', H', I, r, q⟩ := h; exact ⟨v, σ', H', I.unbear, r, q⟩
end

/-! ### an exception in flight -/
/-- B: what stood when it was raised, the frames hidden -/
structure Flies (P : Program) (w : World) (outer : List Env) (H H' : Hp) (s : Shared) (e : Addr) (cls : Value) (s' : Shared) : Prop where
  os : s'.os = s.os
  bare : AllBare s'.gens
  un : Un (frs outer) [] H H' s.heap s'.heap
  ex : ∃ B a0, Heap.FlyingW B outer e cls a0 s'.heap ∧ HOk P w H' B ∧ (∀ b o, s.heap.get? b = some o → H b = none → b ∉ frs outer → B.get? b = some o) ∧ (∀ b o, s.heap.get? b = some o → b ∉ frs outer → ∃ o', B.get? b = some o')
def CXE (P : Program) (w : World) : CXT := fun outer H s E e s' => ∃ (a : Addr) (cls : Value) (H' : Hp), e = .ref a ∧ Flies P w outer H H' s a cls s' ∧ E cls none H'

section
variable {X : Cx} {pins : List (Addr × Obj)} {σ : St} {H : Hp} {s : Shared}
/-- what is left behind when this frame is left -/
theorem un_leave (I : Inv X pins σ H s) (hex : X.ex = []) {H' : Hp} {h'' : Heap}
    (kB : ∀ b o, s.heap.get? b = some o → H b = none → b ∉ frs X.stack → h''.get? b = some o)
    (tB : ∀ b o, s.heap.get? b = some o → b ∉ frs X.stack → ∃ o', h''.get? b = some o')
    (sl : ∀ b o, b ∈ X.fs → s.heap.get? b = some o → ∃ sl, h''.get? b = some { o with slots := sl })
    (fr : ∀ b o, s.heap.get? b = some o → H b = none → H' b = none)
    (tups : ∀ b xs, H b = some (.tup xs) → H' b = some (.tup xs)) (frzs : ∀ b o u, H b = some (.frz o u) → H' b = some (.frz o u)) (tbls : ∀ b ps, H b = some (.tbl ps) → ∃ more, H' b = some (.tbl (ps ++ more))) :
    Un X.fs [] X.H₀ H' X.s₀.heap h'' := by
  have nx : ∀ b : Addr, b ∉ X.ex := fun b z => by rw [hex] at z; cases z
  have nst : ∀ b o, X.s₀.heap.get? b = some o → b ∉ X.fs → b ∉ frs X.stack := fun b o e hb z => by
    rcases List.mem_cons.mp (I.stkSub b z) with q | q
    · have := Heap.lt_size e
      rw [q] at this
      exact absurd (Nat.lt_of_lt_of_le this I.ok.above) (Nat.lt_irrefl _)
    · exact hb q
  refine ⟨fun b o e n hb _ => kB b o (I.base.keep b o e n hb (nx b)) (I.base.free b o e n (nx b)) (nst b o e hb), fun b o e n hb _ => ?_, fun b o e n _ => ?_, fun b o e _ => ?_, fun b xs e => tups b xs (I.base.tups b xs e), fun b o u e => frzs b o u (I.base.frzs b o u e), fun b ps e => ?_⟩
  · obtain ⟨sl1, e1⟩ := I.base.slot b o e n hb (nx b)
    obtain ⟨sl2, e2⟩ := sl b _ hb e1
    exact ⟨sl2, e2⟩
  · obtain ⟨o', e1⟩ := I.base.there b o e (nx b)
    exact fr b o' e1 (I.base.free b o e n (nx b))
  · obtain ⟨o', e1⟩ := I.base.there b o e (nx b)
    by_cases hb : b ∈ X.fs
    · obtain ⟨sl2, e2⟩ := sl b _ hb e1
      exact ⟨_, e2⟩
    · exact tB b o' e1 (nst b o e hb)
  · obtain ⟨m1, e1⟩ := I.base.tbls b ps e
    obtain ⟨m2, e2⟩ := tbls b _ e1
    exact ⟨m1 ++ m2, by rw [e2, Array.append_assoc]⟩
end

/-! ### a def's own frame -/
section
variable {P : Program} {w : World} {K : PySem.W.Frag} {mg : Str → Option Value} {base : Heap} {N : List Str} {qual : Str} {scope : Scope} {f : Addr} {cd : Value} {A : Around} {outer : List Env} {s₀ : Shared} {H₀ : Hp} {E : XK}
/-- a new exception leaves the def -/
theorem raises_def {pins : List (Addr × Obj)} {σ : St} {H : Hp} {s : Shared} {h' : Heap} {e C : Addr} {vs : List Value}
    (I : Inv (cxOf (CXE P w) P w K mg base N qual scope f cd A outer s₀ H₀ E) pins σ H s) (hx : Heap.MadeExcOf s.heap h' e (.ref C) vs) (hE : E (.ref C) none H) :
    (cxOf (CXE P w) P w K mg base N qual scope f cd A outer s₀ H₀ E).xe (.ref e) { s with heap := h' } := by
  have hfree : ∀ b ∈ frs (cxOf (CXE P w) P w K mg base N qual scope f cd A outer s₀ H₀ E).stack, H b = none := I.stkFree
  have hin : ∀ env ∈ (cxOf (CXE P w) P w K mg base N qual scope f cd A outer s₀ H₀ E).stack, ∀ b, env.frame = some b → b ∈ frs (cxOf (CXE P w) P w K mg base N qual scope f cd A outer s₀ H₀ E).stack := fun env he b hb => List.mem_filterMap.mpr ⟨env, he, hb⟩
  have hB : ∀ b o, s.heap.get? b = some o → b ∉ frs (cxOf (CXE P w) P w K mg base N qual scope f cd A outer s₀ H₀ E).stack → (PySem.W.hideAll s.heap (frs (cxOf (CXE P w) P w K mg base N qual scope f cd A outer s₀ H₀ E).stack)).get? b = some o := fun b o q hb => PySem.W.hideAll_get _ q hb
  show wpAny (model P w) (A.deeper (envOfC qual scope s₀.heap.objs.size f cd)) (leaving (envOfC qual scope s₀.heap.objs.size f cd) (.ref e)) (fun _ s'' => CXE P w outer H₀ s₀ E (.ref e) s'') (fun e' s'' => CXE P w outer H₀ s₀ E e' s'') { s with heap := h' }
  refine wpAny_leaves_madeW (s := { s with heap := h' }) (base := PySem.W.hideAll s.heap (frs (cxOf (CXE P w) P w K mg base N qual scope f cd A outer s₀ H₀ E).stack)) (h := s.heap) (L := s₀.heap.objs.size) (outer := outer) I.ok.frames rfl (fun b o q => PySem.W.of_hideAll _ q) (PySem.W.funFrames_hide I.stack hin) hx fun h'' t x1 x2 x3 x4 => ?_
  have x4' : h'.UpToSlots h'' := x4
  have slots : ∀ b o, b ∈ frs outer → s.heap.get? b = some o → ∃ sl, h''.get? b = some { o with slots := sl } := fun b o hb q => by
    obtain ⟨_, o', ho', hnf⟩ := I.funs.mem hb
    rw [q] at ho'
    cases ho'
    exact x4' b o (hx.keeps b o q) hnf
  refine ⟨e, .ref C, H, rfl, ⟨I.os, I.bare, un_leave I rfl (fun b o q _ hb => x1.1 b o (hB b o q hb)) (fun b o q hb => ⟨o, x1.1 b o (hB b o q hb)⟩) slots (fun _ _ _ n => n) (fun _ _ z => z) (fun _ _ _ z => z) (fun b ps z => ⟨#[], by rw [z]; simp⟩), _, _, x1, I.hok.hidden hfree, fun b o q n hb => ?_, fun b o q hb => ?_⟩, hE⟩
  · have hst : b ∉ frs (cxOf (CXE P w) P w K mg base N qual scope f cd A outer s₀ H₀ E).stack := fun z => by
      rcases List.mem_cons.mp (I.stkSub b z) with q1 | q1
      · have := Heap.lt_size q
        rw [q1] at this
        exact absurd (Nat.lt_of_lt_of_le this I.ok.above) (Nat.lt_irrefl _)
      · exact hb q1
    exact hB b o (I.base.keep b o q n hb (fun z => nomatch z)) hst
  · obtain ⟨o', e1⟩ := I.base.there b o q (fun z => nomatch z)
    have hst : b ∉ frs (cxOf (CXE P w) P w K mg base N qual scope f cd A outer s₀ H₀ E).stack := fun z => by
      rcases List.mem_cons.mp (I.stkSub b z) with q1 | q1
      · have := Heap.lt_size q
        rw [q1] at this
        exact absurd (Nat.lt_of_lt_of_le this I.ok.above) (Nat.lt_irrefl _)
      · exact hb q1
    exact ⟨o', hB b o' e1 hst⟩
/-- an exception of a callee leaves the def, too -/
theorem passes_def : Passes (CXE P w) (cxOf (CXE P w) P w K mg base N qual scope f cd A outer s₀ H₀ E) (fun _ => E) := by
  rintro pins σ H s e s' I ⟨a, cls, H', rfl, fl, hE⟩
  obtain ⟨B, a0, hfl, hok, kB, tB⟩ := fl.ex
  show wpAny (model P w) (A.deeper (envOfC qual scope s₀.heap.objs.size f cd)) (leaving (envOfC qual scope s₀.heap.objs.size f cd) (.ref a)) (fun _ s'' => CXE P w outer H₀ s₀ E (.ref a) s'') (fun e' s'' => CXE P w outer H₀ s₀ E e' s'') s'
  refine wpAny_leaves_onW (L := s₀.heap.objs.size) (outer := outer) I.ok.frames rfl hfl fun h'' x1 x2 => ?_
  have sub : ∀ b ∈ frs outer, b ∈ frs (cxOf (CXE P w) P w K mg base N qual scope f cd A outer s₀ H₀ E).stack := fun b hb => by
    show b ∈ List.filterMap (·.frame) (_ :: outer)
    rw [List.filterMap_cons]
    exact List.mem_cons_of_mem _ hb
  have slots : ∀ b o, b ∈ frs outer → s.heap.get? b = some o → ∃ sl, h''.get? b = some { o with slots := sl } := fun b o hb q => by
    obtain ⟨_, o', ho', hnf⟩ := I.funs.mem hb
    rw [q] at ho'
    cases ho'
    obtain ⟨sl, e1⟩ := fl.un.slot b o q (I.stkFree b (sub b hb)) (sub b hb) (fun z => nomatch z)
    obtain ⟨sl2, e2⟩ := x2 b _ e1 hnf
    exact ⟨sl2, e2⟩
  have nst : ∀ b o, s₀.heap.get? b = some o → b ∉ frs outer → b ∉ frs (cxOf (CXE P w) P w K mg base N qual scope f cd A outer s₀ H₀ E).stack := fun b o q hb z => by
    rcases List.mem_cons.mp (I.stkSub b z) with q1 | q1
    · have := Heap.lt_size q
      rw [q1] at this
      exact absurd (Nat.lt_of_lt_of_le this I.ok.above) (Nat.lt_irrefl _)
    · exact hb q1
  refine ⟨a, cls, H', rfl, ⟨fl.os.trans I.os, fl.bare, un_leave I rfl (fun b o q n hb => x1.1 b o (kB b o q n hb)) (fun b o q hb => ?_) slots (fun b o q n => fl.un.free b o q n (fun z => nomatch z)) fl.un.tups fl.un.frzs fl.un.tbls, B, a0, x1, hok, fun b o q n hb => ?_, fun b o q hb => ?_⟩, hE⟩
  · obtain ⟨o', e1⟩ := tB b o q hb
    exact ⟨o', x1.1 b o' e1⟩
  · exact kB b o (I.base.keep b o q n hb (fun z => nomatch z)) (I.base.free b o q n (fun z => nomatch z)) (nst b o q hb)
  · obtain ⟨o', e1⟩ := I.base.there b o q (fun z => nomatch z)
    exact tB b o' e1 (nst b o q hb)
end

/-! ### raise C(..) -/
/-- what the text's part must hold of an own exception class at C below ValueError -/
structure ExcCls (K : PySem.W.Frag) (C : Addr) : Prop where
  exc : PySem.W.excIn K C [.type "ValueError", .type "Exception", .type "BaseException", .type "object"] "ValueError.__new__" = true
theorem exc_in {K : PySem.W.Frag} {C : Addr} {bmB : List Value} {newId : String} (q : PySem.W.excIn K C bmB newId = true) :
    ∃ bm N nm qn bs hdct sn sub ab col dd k0 k1 k2 k3 k5, K.lookup C = some (excClassObj nm qn C N bs bm hdct sn sub ab col dd k0 k1 k2 k3 k5 newId) ∧ PySem.W.nsOkIn K N = true ∧ PySem.W.nsIn K N "__init__" = some none ∧ PySem.W.tailIn K bmB bm = true := by
  unfold PySem.W.excIn at q
  split at q
  · rename_i dd cd sl ho
    split at q
    · rename_i C' bm k0 k1 k2 k3 n k5 hm hs
      simp only [Bool.and_eq_true, beq_iff_eq, Bool.not_eq_true'] at q
      obtain ⟨⟨⟨⟨⟨rfl, rfl⟩, hdel⟩, ht⟩, hok⟩, hni⟩ := q
      obtain ⟨nm, bs, mro, ns, qn, hd, sn, sub, ab, col, del⟩ := cd
      dsimp only at hm hdel hok hni
      subst hm hdel
      have hsl : sl = #[k0, k1, k2, k3, some (.builtin n), k5] := by
        obtain ⟨l⟩ := sl
        simp only at hs
        rw [hs]
      subst hsl
      exact ⟨bm, ns, nm, qn, bs, hd, sn, sub, ab, col, dd, k0, k1, k2, k3, k5, ho, hok, hni, ht⟩
    · cases q
  · cases q
theorem nsOk_lookup {K : PySem.W.Frag} {N : Addr} (q : PySem.W.nsOkIn K N = true) : ∃ o, K.lookup N = some o := by
  unfold PySem.W.nsOkIn at q
  split at q
  · rename_i ho
    exact ⟨_, ho⟩
  · cases q
/-- the reading -/
def tRaise (E : XK) (C : Addr) (t : TA) : TS := fun _ σ H => t σ H fun vs H1 => vs.length ≤ sizeLine ∧ E (.ref C) none H1
section
variable {P : Program} {w : World} {K : PySem.W.Frag} {mg : Str → Option Value} {base : Heap} {N : List Str} {qual : Str} {scope : Scope} {f : Addr} {cd : Value} {A : Around} {outer : List Env} {s₀ : Shared} {H₀ : Hp} {E : XK}
theorem ps_raise {x : Str} {C : Addr} {e₀ : Expr} {rest : List Expr} {t : TA} {np cpos pos : Pos} (hC : ExcCls K C) (hg : Gl (cxOf (CXE P w) P w K mg base N qual scope f cd A outer s₀ H₀ E) x) (hm : mg x = some (.ref C))
    (ha : PA (cxOf (CXE P w) P w K mg base N qual scope f cd A outer s₀ H₀ E) (e₀ :: rest) t)
    (he : starEach (e₀ :: rest) (cxOf (CXE P w) P w K mg base N qual scope f cd A outer s₀ H₀ E).env = (false, eval e₀ (cxOf (CXE P w) P w K mg base N qual scope f cd A outer s₀ H₀ E).env) :: starEach rest (cxOf (CXE P w) P w K mg base N qual scope f cd A outer s₀ H₀ E).env := by rfl)
    (hplain : (backTo cpos (starEach rest (cxOf (CXE P w) P w K mg base N qual scope f cd A outer s₀ H₀ E).env)).any (·.1) = false := by rfl) (hd : (x == ("__debug__" : Str)) = false := by decide) :
    PS (cxOf (CXE P w) P w K mg base N qual scope f cd A outer s₀ H₀ E) (.Raise (some (.Call (.Name x np) (e₀ :: rest) [] cpos)) none pos) (tRaise E C t) := by
  intro pins s σ H D I h
  obtain ⟨bm, N', nm, q, bs, hdct, sn, sub, ab, col, dd, k0, k1, k2, k3, k5, lk, hok, hni, ht⟩ := exc_in hC.exc
  obtain ⟨oN, lkN⟩ := nsOk_lookup hok
  have hN : s.heap.Ns N' (s.heap.nsMap N') := .of_isNs (PySem.W.isNs_of_in I.kIn hok)
  refine wpAny_Raise_call_subT (C := C) (nm := nm) (q := q) (N := N') (bs := bs) (bm := bm) (hdct := hdct) (sn := sn) (sub := sub) (ab := ab) (col := col) (dd := dd) (k0 := k0) (k1 := k1) (k2 := k2) (k3 := k3) (k5 := k5)
    PySem.F.excBase_ValueError (mN := s.heap.nsMap N') ((PySem.W.tail_of_in I.kIn ht).hasType PySem.F.excBase_ValueError.hasBase) (I.ok.hd rfl) (by rw [he]; show (false || (backTo cpos (starEach rest _)).any (·.1)) = false; rw [hplain]; rfl) (PySem.W.nsMap_none_of_in I.kIn hok hni) (ld_glob I hg hm ⟨rfl, ?_⟩ hd)
  have z := ha cpos pins s σ H _ I h
  rw [he] at z ⊢
  refine Calls.evalArgs_plain (thn z fun us s1 ⟨vs, H1, I1, r, hv, q1⟩ => ⟨rfl, (by rw [← r.length]; exact hv), I1.kIn _ _ lk, hN.at' fun o e => ?_, PySem.W.tail_of_in I1.kIn ht, fun h' e hx => raises_def I1 hx q1⟩)
  have e2 := I.kIn _ _ lkN
  rw [e] at e2
  cases e2
  exact I1.kIn _ _ lkN
end
end L2


set_option Elab.async false
set_option maxHeartbeats 4000000
set_option maxRecDepth 100000
/-! try .. except C as n .. over the hand layer; defs that are called within an except suite; isinstance of a caught exception. -/
namespace L2
open PySem PySem.Spec PyProof.Rows PySem.W

/-! ### what a caught exception is -/
def ExcAt (a : Addr) (cls : Value) (h : Heap) : Prop := ∃ oe vs, h.get? a = some oe ∧ oe.cls = cls ∧ oe.data = .fields vs
def xob (a : Addr) (cls : Value) : HO := .ext (ExcAt a cls)
theorem ExcAt.at {a : Addr} {cls : Value} {h h' : Heap} (x : ExcAt a cls h) (k : ∀ o, h.get? a = some o → h'.get? a = some o) : ExcAt a cls h' := by
  obtain ⟨oe, vs, e, r⟩ := x
  exact ⟨oe, vs, k oe e, r⟩
theorem Inv.exc {X : Cx} {pins : List (Addr × Obj)} {σ : St} {H : Hp} {s : Shared} {a : Addr} {cls : Value} (I : Inv X pins σ H s) (e : H a = some (xob a cls)) : ExcAt a cls s.heap := (I.hok a _ e).1

/-- an object that nobody tracks yet is tracked from now on -/
theorem Inv.track {X : Cx} {pins : List (Addr × Obj)} {σ : St} {H : Hp} {s : Shared} {a : Addr} {o : HO} (I : Inv X pins σ H s) (hn : H a = none) (new : ObjOk X.prog X.w (upd H a o) s.heap a o)
    (h0 : ∀ b u, X.s₀.heap.get? b = some u → X.H₀ b = none → b ∉ X.ex → b ≠ a) (hL : X.env.locals ≠ a) (hc : ∀ x c, X.env.cells.lookup x = some c → c ≠ a) (hp : ∀ p ∈ X.pn ++ pins, p.1 ≠ a) : Inv X pins σ (upd H a o) s := by
  refine ⟨I.ok, I.os, I.bare, ⟨I.base.keep, I.base.slot, fun b u e n hx => ?_, I.base.there, fun b xs e => ?_, fun b u v e => ?_, fun b ps e => ?_⟩, I.loc, I.cell, ?_, fun x c e => ?_, fun p z => ?_, fun b u e => ?_, I.len⟩
  · rw [upd_ne (h0 b u e n hx)]; exact I.base.free b u e n hx
  · have z := I.base.tups b xs e
    rw [upd_ne (ne_of_none z hn)]; exact z
  · have z := I.base.frzs b u v e
    rw [upd_ne (ne_of_none z hn)]; exact z
  · obtain ⟨more, z⟩ := I.base.tbls b ps e
    exact ⟨more, by rw [upd_ne (ne_of_none z hn)]; exact z⟩
  · rw [upd_ne hL]; exact I.free
  · rw [upd_ne (hc x c e)]; exact I.freeC x c e
  · obtain ⟨z1, z2, z3⟩ := I.pin p z
    exact ⟨z1, by rw [upd_ne (hp p z)]; exact z2, z3⟩
  · by_cases hb : b = a
    · subst hb
      rw [upd_same] at e
      cases e
      exact new
    · rw [upd_ne hb] at e
      exact (I.hok b u e).stay (fun _ _ _ q => q) (fun c q => by rw [upd_ne (ne_of_none q hn)]; exact q) fun c xs q => by rw [upd_ne (ne_of_none q hn)]; exact q

/-! ### does the clause fit -/
structure ExcTest (K : Frag) (D : Addr) : Prop where
  ty : typeIn K (.ref D) = some (.type "type")
  cl : (clsIn K D).isSome = true
  ba : subIn K (.ref D) (.type "BaseException") = some true
theorem looks_isType {K : Frag} {M : Model} {h : Heap} {D : Addr} (X : K.In h) (hc : (clsIn K D).isSome = true) : Looks M h (isType (.ref D)) true := by
  unfold clsIn at hc
  split at hc
  · rename_i c' d' cd' sl' ho
    intro A' Q' E' s' k q
    unfold isType loadHead
    exact wpAny_bind (wpAny_loadPart (k _ _ (X _ _ ho)) (wpAny_pure q))
  · cases hc
theorem looks_typeExc {M : Model} {h : Heap} {a : Addr} {cls : Value} (x : ExcAt a cls h) : Looks M h (typeOf (.ref a)) cls := by
  obtain ⟨oe, vs, e, hc, _⟩ := x
  exact hc ▸ (Looks.ld e).andThen .now
theorem excMatches_K {M : Model} {A : Around} {E : Value → Shared → Prop} {s : Shared} {Q : Bool → Shared → Prop} {K : Frag} {e C D : Addr} {b : Bool} (X : K.In s.heap) (he : ExcAt e (.ref C) s.heap) (hD : ExcTest K D) (hs : subIn K (.ref C) (.ref D) = some b) (h : Q b s) :
    wpAny M A (excMatches (.ref e) (.ref D)) Q E s := by
  obtain ⟨h0, g, d, tt, os⟩ := s
  have L1 : Looks M h0 (isInstance (.ref D) (.type "tuple")) false := (looks_typeIn X hD.ty).andThen (Looks.of_pure tc_notTuple)
  have L2 := looks_isType (M := M) X hD.cl
  have L3 := looks_subIn (M := M) X hD.ba
  have L4 := looks_typeExc (M := M) he
  have L5 := looks_subIn (M := M) X hs
  unfold excMatches
  refine wpAny_bind (L1.at ?_)
  simp only [Bool.false_eq_true, if_false]
  refine wpAny_bind (wpAny_pure ?_)
  simp only [List.forIn_cons, List.forIn_nil]
  unfold isExcClass
  refine wpAny_bind (wpAny_bind (wpAny_bind (wpAny_bind (L2.at ?_))))
  simp only [if_true]
  refine L3.at ?_
  simp only [Bool.not_true, Bool.false_eq_true, if_false]
  refine wpAny_pure (wpAny_pure ?_)
  refine wpAny_bind (L4.at ?_)
  refine wpAny_bind (wpAny_bind (wpAny_bind (L5.at ?_)))
  cases b with
  | true =>
    simp only [if_true]
    exact wpAny_pure (wpAny_pure (wpAny_pure h))
  | false =>
    simp only [Bool.false_eq_true, if_false]
    exact wpAny_pure (wpAny_pure (wpAny_pure h))

/-! ### the suite's name goes -/
theorem forget_ok {X : Cx} {pins : List (Addr × Obj)} {σ : St} {H : Hp} {s : Shared} {M : Model} {A : Around} {E : Value → Shared → Prop} {i : Nat} {n : Str} {pos : Pos} {Q : Unit → Shared → Prop} (I : Inv X pins σ H s) (hN : X.N.Nodup) (hi : X.N[i]? = some n)
    (hl : X.env.scope.names.lookup n = some .local) (h : ∀ s', Inv X pins (σ.set i none) H s' → Q () s') : wpAny M A (do bindName X.env n .none; unbindBehindTheSuite X.env n pos) Q E s := by
  obtain ⟨m, hn, hloc⟩ := id I.loc
  have hcls : (X.env.scope.kind == .class || (X.env.scope.kind == .module && X.env.locals != X.env.globals)) = false := by rw [I.ok.kind]; rfl
  refine wpAny_nameGoes_keeps hl hn hcls fun h' v hn' hs => ?_
  obtain ⟨oL, _, _, hoL, _⟩ := id hn
  have neL : ∀ b o, X.s₀.heap.get? b = some o → b ≠ X.env.locals := fun b o e => Nat.ne_of_lt (Nat.lt_of_lt_of_le (Heap.lt_size e) I.ok.above)
  refine h _ ⟨I.ok, I.os, I.bare, ⟨fun b o e n hb hx => (hs.2 b (neL b o e)).trans (I.base.keep b o e n hb hx), fun b o e n hb hx => ?_, I.base.free, fun b o e hx => ?_, I.base.tups, I.base.frzs, I.base.tbls⟩, ⟨_, hn', fun j y v' e1 e2 e3 => ?_⟩, fun y c e => ?_, I.free, I.freeC, fun p hp => ?_, fun b ob e => ?_, by simpa using I.len⟩
  · obtain ⟨sl, e1⟩ := I.base.slot b o e n hb hx
    exact ⟨sl, (hs.2 b (neL b o e)).trans e1⟩
  · obtain ⟨o', e1⟩ := I.base.there b o e hx
    exact ⟨o', (hs.2 b (neL b o e)).trans e1⟩
  · by_cases hj : j = i
    · subst hj
      have hlt : j < σ.length := by rw [I.len]; exact (List.getElem?_eq_some_iff.mp hi).1
      rw [List.getElem?_set_self hlt] at e2
      cases e2
    · rw [List.getElem?_set_ne (Ne.symm hj)] at e2
      obtain ⟨u', r', q⟩ := hloc j y v' e1 e2 e3
      refine ⟨u', r', ?_⟩
      rcases q with ⟨k, e⟩ | ⟨k, c, e, z⟩
      · refine .inl ⟨k, ?_⟩
        have ne : y ≠ n := fun e => hj (nodup_ix hN e1 (e ▸ hi))
        simp [ne, e]
      · exact .inr ⟨k, c, e, z.sameBut hs (I.cne y c e)⟩
  · obtain ⟨w', z⟩ := I.cell y c e
    exact ⟨w', z.sameBut hs (I.cne y c e)⟩
  · obtain ⟨e, n, ne, nf, d⟩ := I.pin p hp
    exact ⟨(hs.2 p.1 ne).trans e, n, ne, nf, d⟩
  · refine (I.hok b ob e).stay (fun c w' hc q => (hs.2 c ?_).trans q) (fun _ q => q) fun _ _ q => q
    rintro rfl
    rcases hc with rfl | hc
    · rw [I.free] at e; cases e
    · rw [I.free] at hc; cases hc

/-! ### an exception has come to the frame of X, whose body was run with these pins -/
def Lands (X : Cx) (pins : List (Addr × Obj)) (E : St → XK) (e : Value) (s' : Shared) : Prop :=
  ∃ (a : Addr) (cls : Value) (σ₁ : St) (H₁ Hc : Hp) (sc : Shared), e = .ref a ∧ Inv X pins σ₁ Hc sc ∧ Flies X.prog X.w X.stack Hc H₁ sc a cls s' ∧ E σ₁ cls none H₁
theorem passes_try {X : Cx} {pins : List (Addr × Obj)} {E : St → XK} : Passes (CXE X.prog X.w) (X.bear (X.pn ++ pins) (Lands X pins E)) E := by
  rintro pins1 σ H s e s' I ⟨a, cls, H', rfl, fl, hE⟩
  exact ⟨a, cls, σ, H', H, s, rfl, I.unbear, fl, hE⟩

/-- where the exception stands in the frame that catches it -/
theorem lands_inv {X : Cx} {pins : List (Addr × Obj)} {σ : St} {Hc H₁ : Hp} {sc s' : Shared} {a : Addr} {cls : Value} {B : Heap} {a0 : Value} {h5 : Heap} (I : Inv X pins σ Hc sc) (hex : X.ex = []) (fl : Flies X.prog X.w X.stack Hc H₁ sc a cls s')
    (kB : ∀ b o, sc.heap.get? b = some o → Hc b = none → b ∉ frs X.stack → B.get? b = some o) (tB : ∀ b o, sc.heap.get? b = some o → b ∉ frs X.stack → ∃ o', B.get? b = some o') (hok : HOk X.prog X.w H₁ B)
    (hfl : Heap.FlyingW B X.stack a cls a0 h5) (hsm : s'.heap.UpToSlots h5) : Inv X pins σ (upd H₁ a (xob a cls)) { s' with heap := h5 } ∧ H₁ a = none := by
  have hna : H₁ a = none := hok.absent hfl.2.1
  have hsl : ∀ b o, b ∈ frs X.stack → sc.heap.get? b = some o → ∃ sl, h5.get? b = some { o with slots := sl } := fun b o hb q => by
    obtain ⟨_, o', ho', hnf⟩ := I.stack.mem hb
    rw [q] at ho'
    cases ho'
    obtain ⟨sl, e1⟩ := fl.un.slot b o q (I.stkFree b hb) hb (fun z => nomatch z)
    obtain ⟨sl2, e2⟩ := hsm b _ e1 hnf
    exact ⟨sl2, e2⟩
  have hokB : HOk X.prog X.w H₁ h5 := hok.kept hfl.1
  have I5 : Inv X pins σ H₁ { s' with heap := h5 } := by
    refine I.call' (ch := []) (s' := { s' with heap := h5 }) fl.os ⟨fun b o e n hb _ => hfl.1 b o (kB b o e n hb), fun b o e n hb _ => hsl b o hb e, fun b o e n _ => fl.un.free b o e n (fun z => nomatch z), fun b o e _ => ?_, fl.un.tups, fl.un.frzs, fl.un.tbls⟩ hokB fl.bare fun b z => nomatch z
    by_cases hb : b ∈ frs X.stack
    · obtain ⟨sl, e1⟩ := hsl b o hb e
      exact ⟨_, e1⟩
    · obtain ⟨o', e1⟩ := tB b o e hb
      exact ⟨o', hfl.1 b o' e1⟩
  have nst : ∀ b o, sc.heap.get? b = some o → Hc b = none → b ∉ frs X.stack → b ≠ a := fun b o e n hb z => by
    have := kB b o e n hb
    rw [z, hfl.2.1] at this
    cases this
  obtain ⟨oe, vs, T, oT, ts, he, ⟨hc, h0⟩, hd, _⟩ := id hfl.2.2.2
  have hxo : ExcAt a cls h5 := ⟨oe, vs, he, hc, hd⟩
  have fra : ∀ b ∈ X.env.locals :: X.fs, b ≠ a := fun b hb z => by
    rcases List.mem_cons.mp hb with q | q
    · obtain ⟨m, ⟨o, es, ep, ho, hdd, _⟩, _⟩ := I5.loc
      have ho' : h5.get? X.env.locals = some o := ho
      rw [← q, z, he] at ho'
      cases ho'
      rw [hd] at hdd
      cases hdd
    · obtain ⟨_, o, ho, hnf⟩ := I5.funs.mem q
      have ho' : h5.get? b = some o := ho
      rw [z, he] at ho'
      cases ho'
      exact hnf vs hd
  have notin : ∀ b, b ≠ X.env.locals → b ∉ X.fs → b ∉ frs X.stack := fun b h1 h2 z => (List.mem_cons.mp (I.stkSub b z)).elim h1 h2
  refine ⟨I5.track hna ⟨hxo, ⟨oe, he⟩, fun h1 h2 x k => x.at k⟩ (fun b u e n hx => ?_) (fra _ List.mem_cons_self) (fun x c e => ?_) (fun p hp => ?_), hna⟩
  · by_cases hb : b ∈ X.fs
    · exact fra b (List.mem_cons_of_mem _ hb)
    · exact nst b u (I.base.keep b u e n hb hx) (I.base.free b u e n hx) (notin b (Nat.ne_of_lt (Nat.lt_of_lt_of_le (Heap.lt_size e) I.ok.above)) hb)
  · by_cases hb : c ∈ X.fs
    · exact fra c (List.mem_cons_of_mem _ hb)
    · obtain ⟨v, o, ho, _⟩ := I.cell x c e
      exact nst c o ho (I.freeC x c e) (notin c (I.cne x c e) hb)
  · obtain ⟨e, n, ne, nf, _⟩ := I.pin p hp
    exact nst p.1 p.2 e n (notin p.1 ne nf)

/-! ### try -/
/-- the reading; E is what is wanted of an exception of the body: it fits the clause, and the suite does its work -/
def tTry (K : Frag) (D : Addr) (i : Nat) (tb : (St → XK) → TS) (th : TS) : TS := fun D' σ H =>
  tb (fun σ₁ cls _ H₁ => ∃ C, cls = .ref C ∧ subIn K (.ref C) (.ref D) = some true ∧ ∀ a, H₁ a = none →
    th { nx := fun σ₂ H₂ => D'.nx (σ₂.set i none) H₂, rt := D'.rt, bk := fun σ₂ H₂ => D'.bk (σ₂.set i none) H₂, ct := fun σ₂ H₂ => D'.ct (σ₂.set i none) H₂ } (σ₁.set i (some (.ref a))) (upd H₁ a (xob a (.ref C)))) D' σ H
theorem ps_try {X : Cx} {body suite : List Stmt} {b₀ : Stmt} {x n : Str} {np hpos pos : Pos} {D : Addr} {i : Nat} {tb : (St → XK) → TS} {th : TS} (hst : X.stack = X.env :: X.outer) (hfr : X.env.frame = some X.env.locals) (hex : X.ex = []) (hgx : Gl X x) (hmx : X.mg x = some (.ref D)) (hD : ExcTest X.K D)
    (hN : X.N.Nodup) (hi : X.N[i]? = some n) (hl : X.env.scope.names.lookup n = some .local)
    (hb : ∀ pn E' E, Passes (CXE X.prog X.w) (X.bear pn E') E → PSs (X.bear pn E') body (tb E))
    (hh : ∀ a, PSs (X.hot (X.A.mark (some (.ref a)))).nox (b₀ :: suite) th) (hdb : (x == ("__debug__" : Str)) = false := by decide) :
    PS X (.Try body [.ExceptHandler (some (.Name x np)) (some n) (b₀ :: suite) hpos] [] [] pos) (tTry X.K D i tb th) := by
  intro pins s σ H D' I h
  refine wpAny_Try_except (wpAny_mono (hb _ _ _ passes_try [] s σ H D' (I.bear (Lands X pins _)) h) (fun f s1 q => ?_) fun e s1 q => ?_)
  · have q' := SP.unbear q
    cases f with
    | next => exact wpAny_execs_nil q'
    | brk => exact q'
    | cont => exact q'
    | ret u => exact q'
  · obtain ⟨a, cls, σ₁, H₁, Hc, sc, rfl, Ic, fl, C, rfl, hsub, hE⟩ := q
    obtain ⟨B, a0, hfl, hok, kB, tB⟩ := fl.ex
    have hfr' : X.A.frames = some (X.env :: X.outer) := by rw [← hst]; exact Ic.ok.frames
    rw [hst] at hfl
    refine wpAny_looks_onW hfr' hfr hfl fun h4 held4 sm4 => ?_
    refine wpAny_landsW held4 fun h5 fl5 sm5 => ?_
    have sm45 := sm4.trans sm5
    have fl5' : Heap.FlyingW B X.stack a (.ref C) a0 h5 := by rw [hst]; exact fl5
    obtain ⟨I5, hna⟩ := lands_inv Ic hex fl kB tB hok fl5' sm45
    have I5h : Inv (X.hot (X.A.mark (some (.ref a)))) pins σ₁ (upd H₁ a (xob a (.ref C))) { s1 with heap := h5 } := I5.hot rfl
    refine wpAny_handleBy_cons (codeAny_handlers_test (ld_glob (X := X.hot (X.A.mark (some (.ref a)))) I5h hgx hmx ?_ hdb)) (by intro z; cases z)
    refine excMatches_K I5.kIn (I5.exc upd_same) hD hsub ?_
    show codeAny _ _ _ _ _
    refine codeAny_handlers_suite_as ?_
    refine lands_againW fl5 fun h6 fl6 sm6 => ?_
    have fl6' : Heap.FlyingW B X.stack a (.ref C) a0 h6 := by rw [hst]; exact fl6
    obtain ⟨I6, _⟩ := lands_inv Ic hex fl kB tB hok fl6' (sm45.trans sm6)
    have I6h : Inv (X.hot (X.A.mark (some (.ref a)))).nox pins σ₁ (upd H₁ a (xob a (.ref C))) { s1 with heap := h6 } := (I6.hot (A := X.A.mark (some (.ref a))) rfl).wish _
    refine store_ok (X := (X.hot (X.A.mark (some (.ref a)))).nox) (v := .ref a) I6h hN hi (.inl hl) rfl (fun s7 I7 => ?_) (.inr hl)
    refine wpAny_mono (hh a pins s7 _ _ _ I7 (hE a hna)) (fun f s8 q8 => ?_) fun _ _ z => z.elim
    have back : ∀ {σ8 : St} {H8 : Hp} {Q' : Unit → Shared → Prop}, Inv (X.hot (X.A.mark (some (.ref a)))).nox pins σ8 H8 s8 → (∀ s9, Inv X pins (σ8.set i none) H8 s9 → Q' () s9) → wpAny (model X.prog X.w) X.A (do bindName X.env n .none; unbindBehindTheSuite X.env n hpos) Q' X.xe s8 := fun {σ8 H8 Q'} I8 k =>
      forget_ok (X := X) (I8.unwish.cool I.ok) hN hi hl k
    cases f with
    | next => obtain ⟨σ8, H8, I8, q9⟩ := q8; exact back I8 fun s9 I9 => ⟨_, H8, I9, q9⟩
    | brk => obtain ⟨σ8, H8, I8, q9⟩ := q8; exact back I8 fun s9 I9 => ⟨_, H8, I9, q9⟩
    | cont => obtain ⟨σ8, H8, I8, q9⟩ := q8; exact back I8 fun s9 I9 => ⟨_, H8, I9, q9⟩
    | ret u => obtain ⟨v8, σ8, H8, I8, r8, q9⟩ := q8; exact back I8 fun s9 I9 => ⟨v8, _, H8, I9, r8, q9⟩

/-! ### a def that is called where an exception is being handled -/
structure RoomH (k : Nat) (A : Around) : Prop where
  dp : A.depth + 3 * k + 5 < recursionLimit
  un : A.units + 16 * k + 200 < cLine
theorem RoomH.deeper {k : Nat} {A : Around} (r : RoomH (k + 1) A) (env : Env) : RoomH k (A.deeper env) := by
  refine ⟨?_, ?_⟩
  · have := r.dp
    show A.depth + 1 + 3 * k + 5 < recursionLimit
    omega
  · have := r.un
    show A.units + 3 + 16 * k + 200 < cLine
    omega
theorem RoomH.depth {k : Nat} {A : Around} (r : RoomH k A) : A.depth < recursionLimit := by have := r.dp; omega
theorem RoomH.units {k : Nat} {A : Around} (r : RoomH k A) : A.units + 64 < cLine := by have := r.un; omega
theorem Room.hot {k : Nat} {A : Around} (r : Room k A) (v : Option Value) : RoomH k (A.mark v) := ⟨r.dp, r.un⟩
structure FnOkH (P : Program) (w : World) (K : PySem.W.Frag) (mg : Str → Option Value) (base : Heap) (k : Nat) (f : Addr) (fd : FuncData) (ps : List Str) (sp : Sp) : Prop where
  len : ∀ vs H Q E, sp vs H Q E → vs.length = ps.length
  run : ∀ (A : Around) (outer : List Env) (s : Shared) (H : Hp) (args : Args) (us : List Value) (vs : List V) (Q : VK) (E : XK), RoomH k A → Env0 P w K mg base A outer s H → BindsTo s fd args (ps.zip us) → Vals vs us → sp vs H Q E →
    codeAny (model P w) A (.call (.ref f) args) (CR CX0 outer P w H s Q E) s
abbrev cool (A : Around) : Around := { A with handled := none }
section
variable {P : Program} {w : World} {K : PySem.W.Frag} {mg : Str → Option Value} {base : Heap}
theorem Fun.okH {x qual : Str} {st : Stmt} {f : Addr} {fd : FuncData} {N ps : List Str} {k : Nat} {sp : Sp} (F : Fun K x qual st f fd) (S : FnScope N ps (defScope st)) (len : ∀ vs H Q E, sp vs H Q E → vs.length = ps.length)
    (hbody : ∀ (cdv : Value) (A : Around) (outer : List Env) (s : Shared) (H : Hp) (vs : List V) (Q : VK) (E : XK), RoomH k (A.deeper (envOfC qual (defScope st) s.heap.objs.size f cdv)) → sp vs H Q E →
      ∃ t, PSs ((cxOf CX0 P w K mg base N qual (defScope st) f cdv (cool A) outer s H E).hot (A.deeper (envOfC qual (defScope st) s.heap.objs.size f cdv))).nox (defBody st) t ∧ t { nx := fun _ H' => Q .non H', rt := Q } (start N vs) H) :
    FnOkH P w K mg base (k + 1) f fd ps sp := by
  obtain ⟨oc, od, kV, doc, pm, an, cdv, ct, osl, rfl, lk, hcd⟩ := F.ex
  refine ⟨len, fun A outer s H args us vs Q E hr e0 hb r hsp => ?_⟩
  have hl := len _ _ _ _ hsp
  have KX : K.In s.heap := e0.mod.kin.keeps fun b o e => (e0.bs b o e).1
  have lim : s.heap.NoLimit := e0.mod.nolimit.keeps fun b o e => (e0.bs b o e).1
  have hkind : ∀ y ∈ ps.zip us, (defScope st).names.lookup y.1 = some .local ∨ ((defScope st).names.lookup y.1 = some .cell ∧ ((cellsFrom (s.heap.objs.size + 1) (defScope st).names []).lookup y.1).isSome = true) := fun ⟨n, v⟩ hy => by
    rcases S.par n (List.of_mem_zip hy).1 with q | q
    · exact .inl q
    · exact .inr ⟨q, PySem.W.cellsFrom_some _ _ _ (.inl q)⟩
  refine codeAny_call_function hr.depth (KX _ _ lk) rfl S.co S.gen rfl (PySem.W.codeRec_of KX hcd) (hb _ _ _ _ ?_)
  refine wpAny_newFunctionEnv_cells S.kind hkind fun env he s1 x => ?_
  subst he
  refine ⟨lim.keeps x.toInCall.keep, codeAny_func ?_⟩
  obtain ⟨t, ht, hq⟩ := hbody cdv A outer s H vs Q E (hr.deeper _) hsp
  have I0 : Inv (cxOf CX0 P w K mg base N qual (defScope st) f cdv (cool A) outer s H E) [] (start N vs) H s1 := inv_start (A := cool A) S rfl ⟨e0.frames, e0.mod, e0.bs, e0.bsz, e0.funs, e0.frf, e0.hok, e0.bare⟩ hl r x
  have I : Inv ((cxOf CX0 P w K mg base N qual (defScope st) f cdv (cool A) outer s H E).hot (A.deeper (envOfC qual (defScope st) s.heap.objs.size f cdv))).nox [] (start N vs) H s1 := (I0.hot (A := A.deeper (envOfC qual (defScope st) s.heap.objs.size f cdv)) rfl).wish _
  refine wpAny_mono (ht [] s1 (start N vs) H _ I hq) (fun fl s' hs => ?_) fun e s' hs => hs.elim
  have fin : ∀ {σ' : St} {H' : Hp} {v : V} {u : Value}, Inv ((cxOf CX0 P w K mg base N qual (defScope st) f cdv (cool A) outer s H E).hot (A.deeper (envOfC qual (defScope st) s.heap.objs.size f cdv))).nox [] σ' H' s' → RelV v u → Q v H' → CE outer P w H s Q u s' :=
    fun {σ' H' v u} J rv q => ⟨v, H', J.os, J.bare, J.base, J.hok, rv, q⟩
  cases fl with
  | ret u =>
    obtain ⟨v, σ', H', J, rv, q⟩ := hs
    exact fin J rv q
  | next =>
    obtain ⟨σ', H', J, q⟩ := hs
    exact fin (v := V.non) (u := Value.none) J rfl q
  | brk =>
    obtain ⟨_, _, _, q⟩ := hs
    exact False.elim q
  | cont =>
    obtain ⟨_, _, _, q⟩ := hs
    exact False.elim q
end
/-- a def whose exceptions its callers get -/
theorem Fun.okE {P : Program} {w : World} {K : PySem.W.Frag} {mg : Str → Option Value} {base : Heap} {x qual : Str} {st : Stmt} {f : Addr} {fd : FuncData} {N ps : List Str} {k : Nat} {sp : Sp} (F : Fun K x qual st f fd) (S : FnScope N ps (defScope st)) (len : ∀ vs H Q E, sp vs H Q E → vs.length = ps.length)
    (hbody : ∀ (cdv : Value) (A : Around) (outer : List Env) (s : Shared) (H : Hp) (vs : List V) (Q : VK) (E : XK), Room k (A.deeper (envOfC qual (defScope st) s.heap.objs.size f cdv)) → sp vs H Q E →
      ∃ t, PSs (cxOf (CXE P w) P w K mg base N qual (defScope st) f cdv A outer s H E) (defBody st) t ∧ t { nx := fun _ H' => Q .non H', rt := Q } (start N vs) H) : FnOk P w K mg base (CXE P w) (k + 1) f fd ps sp := by
  obtain ⟨oc, od, kV, doc, pm, an, cdv, ct, osl, rfl, lk, hcd⟩ := F.ex
  exact fn_of lk hcd S len fun A outer s H vs Q E hr hsp => hbody cdv A outer s H vs Q E hr hsp
theorem FnOkH.calm {P : Program} {w : World} {K : PySem.W.Frag} {mg : Str → Option Value} {base : Heap} {k : Nat} {f : Addr} {fd : FuncData} {ps : List Str} {sp : Sp} (F : FnOkH P w K mg base k f fd ps sp) : FnOk P w K mg base CX0 k f fd ps sp :=
  ⟨F.len, fun A outer s H args us vs Q E hr => F.run A outer s H args us vs Q E ⟨hr.dp, hr.un⟩⟩
section
variable {X : Cx} {k : Nat} {f : Addr} {fd : FuncData} {ps : List Str} {sp : Sp} {x : Str} {p pos : Pos} {e : Expr} {es : List Expr} {t : TA}
theorem pe_callH (F : FnOkH X.prog X.w X.K X.mg X.base k f fd ps sp) (hr : RoomH k X.A) (hg : Gl X x) (hm : X.mg x = some (.ref f)) (hk : PySem.W.keepIn X.K (.ref f) = true) (hb : Binds X.K fd ps [])
    (ha : PA X (e :: es) t) (hdb : (x == ("__debug__" : Str)) = false := by decide) (he : starEach (e :: es) X.env = (false, eval e X.env) :: starEach es X.env := by rfl) (hpl : (backTo pos (starEach es X.env)).any (·.1) = false := by rfl) :
    PE X (.Call (.Name x p) (e :: es) [] pos) (tCall sp [] (fun _ => E0) t) := by
  intro pins s σ H Q I h
  refine wpAny_Call_Name_kw (ld_glob I hg hm ?_ hdb)
  refine PySem.W.callWith_K (h₀ := X.base) I.ok.mod.kin hk (thn (ha pos pins s σ H _ I h) fun us s1 ⟨vs, H1, I1, r, q⟩ => ⟨I1.kIn, ?_⟩) he hpl
  have r2 : Vals (vs ++ []) (us ++ []) := r.append .nil
  have hl : (us ++ []).length = ps.length := by rw [← r2.length]; exact F.len _ _ _ _ q
  refine wpAny_call (codeAny_mono (F.run X.A X.stack s1 H1 ⟨us, []⟩ (us ++ []) (vs ++ []) Q E0 hr I1.env0 (hb s1 us I1.kIn hl) r2 q) fun r s' hq => ?_)
  cases r with
  | error e => exact hq.elim
  | ok fl =>
    cases fl with
    | ret u => exact I1.after hq
    | next => exact False.elim hq
    | brk => exact False.elim hq
    | cont => exact False.elim hq
end
end L2


set_option Elab.async false
set_option maxHeartbeats 4000000
set_option maxRecDepth 100000
/-! More rules over the hand layer: == of data, a tuple times an int, count and index of flat lists, great products, isinstance of a caught exception. -/
namespace L2
open PySem PySem.Spec PyProof.Rows PySem.W

/-! ### data that cannot change -/
mutual
inductive Im (H : Hp) : V → PyData → Prop
  | non : Im H .non .none
  | bl (b : Bool) : Im H (.bl b) (.bool b)
  | int (i : Int) : Im H (.int i) (.int i)
  | str (x : Str) : Im H (.str x) (.str x)
  | tup {a : Addr} {xs : List V} {ds : List PyData} : H a = some (.tup xs) → Ims H xs ds → Im H (.ref a) (.tuple ds)
inductive Ims (H : Hp) : List V → List PyData → Prop
  | nil : Ims H [] []
  | cons {x : V} {d : PyData} {xs : List V} {ds : List PyData} : Im H x d → Ims H xs ds → Ims H (x :: xs) (d :: ds)
end
def KeepT (H H' : Hp) : Prop := ∀ a xs, H a = some (.tup xs) → H' a = some (.tup xs)
theorem KeepT.refl (H : Hp) : KeepT H H := fun _ _ h => h
theorem KeepT.trans {H H1 H2 : Hp} (a : KeepT H H1) (b : KeepT H1 H2) : KeepT H H2 := fun c xs h => b c xs (a c xs h)
theorem KeepT.of {H H' : Hp} (h : Same H H') : KeepT H H' := fun a xs e => h a _ e
mutual
theorem Im.keep {H H' : Hp} (k : KeepT H H') {x : V} {d : PyData} (h : Im H x d) : Im H' x d := by
  cases h with
  | non => exact .non
  | bl b => exact .bl b
  | int i => exact .int i
  | str x => exact .str x
  | tup e r => exact .tup (k _ _ e) (Ims.keep k r)
theorem Ims.keep {H H' : Hp} (k : KeepT H H') {xs : List V} {ds : List PyData} (h : Ims H xs ds) : Ims H' xs ds := by
  cases h with
  | nil => exact .nil
  | cons a r => exact .cons (Im.keep k a) (Ims.keep k r)
end
mutual
theorem Im.reads {X : Cx} {pins : List (Addr × Obj)} {σ : St} {H : Hp} {s : Shared} (I : Inv X pins σ H s) {x : V} {d : PyData} (h : Im H x d) {u : Value} (r : RelV x u) : ∃ as, Reads s.heap u d as := by
  cases h with
  | non => cases (show u = Value.none from r); exact ⟨_, .none⟩
  | bl b => cases (show u = Value.bool b from r); exact ⟨_, .bool b⟩
  | int i => obtain ⟨t, z⟩ := (show ∃ t, u = Value.int i t from r); cases z; exact ⟨_, .int i t⟩
  | str y => obtain ⟨t, z⟩ := (show ∃ t, u = Value.str y t from r); cases z; exact ⟨_, .str y t⟩
  | @tup a xs ds e q =>
    cases (show u = Value.ref a from r)
    obtain ⟨_, its, rv, o, h1, h2, n, h3⟩ := (show ObjOk X.prog X.w H s.heap a (.tup xs) from I.hok a _ e)
    obtain ⟨as, z⟩ := Ims.reads I q rv
    exact ⟨_, .tuple h1 h2 h3 (by simpa using z)⟩
theorem Ims.reads {X : Cx} {pins : List (Addr × Obj)} {σ : St} {H : Hp} {s : Shared} (I : Inv X pins σ H s) {xs : List V} {ds : List PyData} (h : Ims H xs ds) {us : List Value} (r : Vals xs us) : ∃ as, ReadsAll s.heap us ds as := by
  cases h with
  | nil => cases r; exact ⟨_, .nil⟩
  | cons a q =>
    cases r with
    | cons r1 r2 =>
      obtain ⟨as, z1⟩ := Im.reads I a r1
      obtain ⟨bs, z2⟩ := Ims.reads I q r2
      exact ⟨_, .cons z1 z2⟩
end
/-- such data, or a list of such -/
def Dat (K : Frag) (H : Hp) (x : V) (d : PyData) : Prop := Im H x d ∨ ∃ p xs ds, x = .ref p ∧ d = .list ds ∧ SqL K H p xs ∧ Ims H xs ds
theorem Dat.reads {X : Cx} {pins : List (Addr × Obj)} {σ : St} {H : Hp} {s : Shared} (I : Inv X pins σ H s) {x : V} {d : PyData} (h : Dat X.K H x d) {u : Value} (r : RelV x u) : ∃ as, Reads s.heap u d as := by
  rcases h with h | ⟨p, xs, ds, rfl, rfl, hp, hi⟩
  · exact h.reads I r
  · cases (show u = Value.ref p from r)
    obtain ⟨its, rv, ⟨o, n, e, h1, _, h3⟩, _⟩ := I.list hp
    obtain ⟨as, z⟩ := hi.reads I rv
    exact ⟨_, .list e h1 h3 (by simpa using z)⟩
def rEqD (K : Frag) : R2 := fun x y H Q => ∃ d e, Dat K H x d ∧ Dat K H y e ∧ SeqAt.shaped d = true ∧ SeqAt.shaped e = true ∧ Q (.bl (PyData.eqv d e)) H
def rNeD (K : Frag) : R2 := fun x y H Q => ∃ d e, Dat K H x d ∧ Dat K H y e ∧ SeqAt.shaped d = true ∧ SeqAt.shaped e = true ∧ Q (.bl (!PyData.eqv d e)) H
section
variable {X : Cx}
theorem op_eqD (hu : X.A.units + 64 < cLine) : OpR X (compareOp .Eq) (rEqD X.K) := by
  intro pins s σ H x y v u Q I rx ry h
  obtain ⟨d, e, hd, he, sd, se, q⟩ := h
  obtain ⟨as, z1⟩ := hd.reads I rx
  obtain ⟨bs, z2⟩ := he.reads I ry
  exact eq_dataH z1 z2 sd se hu ⟨.bl _, H, I, rfl, q⟩
theorem op_neD (hu : X.A.units + 64 < cLine) : OpR X (compareOp .NotEq) (rNeD X.K) := by
  intro pins s σ H x y v u Q I rx ry h
  obtain ⟨d, e, hd, he, sd, se, q⟩ := h
  obtain ⟨as, z1⟩ := hd.reads I rx
  obtain ⟨bs, z2⟩ := he.reads I ry
  exact ne_dataH z1 z2 sd se hu ⟨.bl _, H, I, rfl, q⟩
end
theorem eqv_of_shaped {d : PyData} (h : SeqAt.shaped d = true) : PyData.eqv d d = true := SeqAt.eqv_refl d (SeqAt.canLay_of_shaped h)

/-! ### great products -/
theorem op_mulB : OpR X (binaryOp .Mult) (rI (fun i j => i.natAbs < 2 ^ 200 ∧ j.natAbs < 2 ^ 200) fun i j => .int (i * j)) := opI fun i j _ _ _ _ _ hc q =>
  mul_int q (IntMulOk.of_bits (Nat.le_trans (intBits_le hc.1) (by decide)) (Nat.le_trans (intBits_le hc.2) (by decide)))

/-! ### a tuple times an int -/
theorem noFill_tuple_mul : fillsNumberSlot (.type "tuple") "mul" = pure false :=
  PySem.fillsNumberSlot_seq (id := "tuple.__mul__") (r := some (.builtin "tuple.__rmul__")) F.slot_tuple_mul.lookup (by decide +kernel) F.slot_tuple_rmul.lookup (by decide +kernel)
theorem repeat_tuple : seqRepeat? (.type "tuple") = pure (some (.builtin "tuple.__mul__")) := by
  unfold seqRepeat?
  rw [PySem.seqSlot_of (T := "tuple") (name := "__mul__") (id := "tuple.__mul__") F.slot_tuple_mul.lookup (by decide +kernel), PySem.seqSlot_of (T := "tuple") (name := "__rmul__") (id := "tuple.__rmul__") F.slot_tuple_rmul.lookup (by decide +kernel)]
  rfl
theorem int_rmul_tuple (a : Int) (t : Tok) (l : Addr) (items : Array Value) (n : Nat) (dd : Option Addr) (sl : Array (Option Value)) :
    Meets (Builtin.«int.__rmul__» ⟨[.int a t, .ref l], []⟩) (fun _ R s => s.heap.get? l = some { cls := .type "tuple", dict := dd, data := .seq items n, slots := sl } ∧ R (.ok (.ret Value.notImplemented)) s) :=
  .of_wp fun prog w A R s h => by obtain ⟨hp, g, d, tk, os⟩ := s; obtain ⟨hl, h⟩ := h; wp_walk; exact ⟨_, rfl, h⟩
end L2
namespace L2
open PySem PySem.Spec PyProof.Rows PySem.W
theorem tuple_mul (l : Addr) (items : Array Value) (n : Nat) (dd : Option Addr) (sl : Array (Option Value)) (k : Int) (u : Tok) (hne : items.isEmpty = false) (h1 : 1 < k) (h2 : k < 2 ^ 63) (hsz : items.size * k.toNat ≤ sizeLine) :
    Meets (Builtin.«tuple.__mul__» ⟨[.ref l, .int k u], []⟩) (fun _ R s => s.heap.get? l = some { cls := .type "tuple", dict := dd, data := .seq items n, slots := sl } ∧
      R (.ok (.ret (.ref s.heap.objs.size))) { s with heap := s.heap.push { cls := .type "tuple", data := .seq ((List.replicate k.toNat items).foldl (fun x1 x2 => x1 ++ x2) #[]) } }) :=
  .of_wp fun prog w A R s h => by
    obtain ⟨hp, g, d, tk, os⟩ := s; obtain ⟨hl, h⟩ := h
    have hmul : (items.size : Int) * k = ((items.size * k.toNat : Nat) : Int) := by
      rw [Int.natCast_mul, Int.toNat_of_nonneg (by omega)]
    have hL : (sizeLine : Nat) ≤ 2 ^ 40 := by decide
    have hc0 : ¬(decide (k < -2 ^ 63) || decide (k ≥ 2 ^ 63)) = true := by
      rw [Bool.or_eq_true, decide_eq_true_eq, decide_eq_true_eq]; omega
    have hc1 : ¬(items.isEmpty || k == 1) = true := by
      rw [hne, Bool.false_or, beq_iff_eq]; omega
    have hc2 : ¬(decide (k ≤ 0) || items.isEmpty) = true := by
      rw [hne, Bool.or_false, decide_eq_true_eq]; omega
    have hc3 : ¬((items.size : Int) * k > (2 ^ 63 - 1) / 8) := by
      rw [hmul]
      have : (2 ^ 63 - 1 : Int) / 8 = 1152921504606846975 := by decide
      rw [this]
      have : (2 : Nat) ^ 40 = 1099511627776 := by decide
      omega
    have hc4 : ¬Builtin.Tuple.tupleTooMany ((items.size : Int) * k) = true := by
      rw [hmul]
      unfold Builtin.Tuple.tupleTooMany
      rw [decide_eq_true_eq]; omega
    wp_walk
    rw [if_neg hc0]
    wp_walk
    rw [if_neg hc1]
    wp_walk
    rw [if_neg hc2]
    wp_walk
    rw [if_neg hc3]
    wp_walk
    rw [if_neg hc4]
    have hc5 : ¬((List.foldl (fun x1 x2 => x1 ++ x2) #[] (List.replicate k.toNat items)).size > sizeLine) := by
      have e := foldl_rep items.toList k.toNat []
      rw [List.nil_append] at e
      have e' : List.foldl (fun x1 x2 => x1 ++ x2) #[] (List.replicate k.toNat items) = (List.replicate k.toNat items.toList).flatten.toArray := e
      rw [e', List.size_toArray, len_rep, Array.length_toList, Nat.mul_comm]
      omega
    wp_walk
    exact ⟨_, rfl, h⟩
def rRepT : R2 := fun x y H Q => ∃ l k xs, x = .ref l ∧ y = .int k ∧ H l = some (.tup xs) ∧ xs ≠ [] ∧ 1 < k ∧ k < 2 ^ 63 ∧ xs.length * k.toNat ≤ sizeLine ∧
  ∀ p, H p = none → Q (.ref p) (upd H p (.tup (List.replicate k.toNat xs).flatten))
section
variable {X : Cx}
theorem Inv.tnew {pins : List (Addr × Obj)} {σ : St} {H : Hp} {s : Shared} {ys : List V} {its : List Value} {t' : Nat} (I : Inv X pins σ H s) (hv : Vals ys its) (hz : ys.length ≤ sizeLine) :
    Inv X pins σ (upd H s.heap.objs.size (.tup ys)) { s with heap := s.heap.push { cls := .type "tuple", data := .seq its.toArray }, toks := t' } :=
  I.laid (fun _ _ e => Heap.get?_push_of_some _ e) (Nat.le_refl _) ⟨hz, its, hv, _, Heap.get?_push_size _ rfl, rfl, _, rfl⟩
theorem op_repT : OpR X (binaryOp .Mult) rRepT := by
  intro pins s σ H x y v u Q I rx ry h
  obtain ⟨l, k, xs, rfl, rfl, hH, hne, h1, h2, hz, q⟩ := h
  cases rx
  obtain ⟨t, rfl⟩ := ry
  obtain ⟨z, its, r, o, e, hc, n, hd⟩ := (show ObjOk X.prog X.w H s.heap l (.tup xs) from I.hok l _ hH)
  obtain ⟨cls, dd, data, sl⟩ := o
  dsimp only at hc hd
  subst hc hd
  have hl : xs.length = its.length := r.length
  have hemp : its.toArray.isEmpty = false := by
    cases its with
    | nil => cases r; exact absurd rfl hne
    | cons _ _ => rfl
  refine wpAny_binaryOp_repeat_ref (T := "tuple") (U := "int") (by decide) ⟨_, e, rfl⟩ (fun s' => typeIs_int s' k t) noFill_tuple_mul F.fills_int_mul F.slot_int_rmul repeat_tuple F.slot_int_index.lookup
    (call_meets F.slot_int_rmul (typeIs_int s k t) F.entry_int_rmul (F.args_int_rmul_2 _ _) (int_rmul_tuple k t l its.toArray n dd sl)
      ⟨e, rfl, ⟨_, e, rfl⟩, call_meets F.slot_tuple_mul ⟨_, e, rfl⟩ F.entry_tuple_mul (F.args_tuple_mul_2 _ _) (tuple_mul l its.toArray n dd sl k t hemp h1 h2 (by rw [List.size_toArray, ← hl]; exact hz)) ⟨e, ?_⟩⟩)
  have hnew : (List.replicate k.toNat its.toArray).foldl (fun x1 x2 => x1 ++ x2) #[] = (List.replicate k.toNat its).flatten.toArray := by
    have := foldl_rep its k.toNat []
    rw [List.nil_append] at this
    exact this
  rw [hnew]
  exact ⟨.ref _, _, I.tnew (t' := s.toks) (r.rep k.toNat) (by rw [len_rep, Nat.mul_comm]; exact hz), rfl, q _ I.fresh⟩

/-! ### count, index in a list of flat items -/
theorem countP_eqU {x : V} : ∀ {xs : List V} {us : List Value}, Vals xs us → xs.all flatV = true → us.countP (eqU x) = xs.countP fun y => eqV y x
  | _, _, .nil, _ => rfl
  | _, _, .cons (a := y) (b := u) r t, h => by
    rw [List.all_cons, Bool.and_eq_true] at h
    rw [List.countP_cons, List.countP_cons, countP_eqU t h.2, eqU_of r h.1]
def rCount (K : Frag) : V → List V → Hp → VK → Prop := fun x vs H Q => ∃ l xs y, x = .ref l ∧ vs = [y] ∧ SqL K H l xs ∧ flatV y = true ∧ xs.all flatV = true ∧ Q (.int (xs.countP fun z => eqV z y : Nat)) H
theorem mt_count : MtR X "list.count" (rCount X.K) := by
  intro pins s σ H x xs v us Q I rx rs h
  obtain ⟨l, ys, y, rfl, rfl, hl, fy, fa, q⟩ := h
  cases rx
  obtain ⟨u, rfl, ru⟩ := rs.one
  obtain ⟨its, rv, ⟨o, n, e, hc, _, hd⟩, _⟩ := I.list hl
  obtain ⟨cls, dd, data, sl⟩ := o
  dsimp only at hc hd
  subst hc hd
  refine call_meets F.slot_list_count ⟨_, e, rfl⟩ F.entry_list_count (F.args_list_count_2 _ _) (SeqAt.list_countAt l its.toArray n dd sl u (eqU y)) ⟨e, fun z hz => mem_eqAt ru fy rv fa z (by simpa using hz), ?_⟩
  refine ⟨.int _, H, I.tok _, ⟨_, rfl⟩, ?_⟩
  rw [countP_eqU rv fa]
  exact q
def rIndex (K : Frag) : V → List V → Hp → VK → Prop := fun x vs H Q => ∃ l xs y j, x = .ref l ∧ vs = [y] ∧ SqL K H l xs ∧ flatV y = true ∧ xs.all flatV = true ∧ (∃ z, xs[j]? = some z ∧ eqV z y = true) ∧ (∀ m z, m < j → xs[m]? = some z → eqV z y = false) ∧ Q (.int (j : Nat)) H
theorem mt_index : MtR X "list.index" (rIndex X.K) := by
  intro pins s σ H x xs v us Q I rx rs h
  obtain ⟨l, ys, y, j, rfl, rfl, hl, fy, fa, ⟨z, hz, hit⟩, hno, q⟩ := h
  cases rx
  obtain ⟨u, rfl, ru⟩ := rs.one
  obtain ⟨its, rv, ⟨o, n, e, hc, _, hd⟩, hlen⟩ := I.list hl
  obtain ⟨cls, dd, data, sl⟩ := o
  dsimp only at hc hd
  subst hc hd
  have hll := rv.length
  have hjy : j < ys.length := (List.getElem?_eq_some_iff.mp hz).1
  have hj : j < its.toArray.size := by rw [List.size_toArray]; omega
  have allf : ∀ w ∈ ys, flatV w = true := fun w hw => List.all_eq_true.mp fa w hw
  have val : ∀ m (hm : m < its.toArray.size) w, ys[m]? = some w → eqU y its.toArray[m] = eqV w y := fun m hm w hw => by
    obtain ⟨u', hu', ru'⟩ := rv.get hw
    have : its.toArray[m] = u' := by
      have h1 : its[m]? = some its.toArray[m] := by simp
      rw [h1] at hu'
      exact Option.some.inj hu'
    rw [this]
    exact eqU_of ru' (allf w (List.mem_of_getElem? hw))
  have h63 : (j : Int) < 2 ^ 63 - 1 := by
    have : (sizeLine : Nat) < 2 ^ 62 := by decide
    omega
  refine call_meets F.slot_list_index ⟨_, e, rfl⟩ F.entry_list_index (F.args_list_index_2 _ _) (SeqAt.list_indexAt l its.toArray n dd sl u (eqU y) j hj h63 (by rw [val j hj z hz]; exact hit) fun m hm hmj => ?_) ⟨e, fun z hz => mem_eqAt ru fy rv fa z (by simpa using hz), ⟨.int _, H, I.tok _, ⟨_, rfl⟩, q⟩⟩
  have hmy : m < ys.length := by omega
  rw [val m hm ys[m] (List.getElem?_eq_getElem hmy)]
  exact hno m _ hmj (List.getElem?_eq_getElem hmy)
end

/-! ### isinstance of a caught exception -/
structure XFacts (K : Frag) (C : Addr) : Prop where
  ga : findIn K (.ref C) "__getattribute__" = some (some (.builtin "BaseException.__getattribute__"))
  gh : findIn K (.ref C) "__getattr__" = some none
  cc : findIn K (.ref C) "__class__" = some (some (.builtin "object.__class__"))
  ob : mroIn K C (.type "object") = some true
  ba : mroIn K C (.type "BaseException") = some true
  cl : (clsIn K C).isSome = true
  gg : specialIn K (.builtin "object.__class__") "__get__" = some (some (.builtin "getset_descriptor.__get__"))
  tk : takesIn K (.builtin "object.__class__") = some true
section
variable {prog : Program} {w : World} {A : Around} {E : Value → Shared → Prop} {s : Shared} {K : Frag} {x C : Addr}
theorem class_getE {tp : Value} {R : Result → Shared → Prop} (X : K.In s.heap) (I : ExcAt x (.ref C) s.heap) (hm : mroIn K C (.type "object") = some true)
    (h : R (.ok (.ret (.ref C))) s) : codeAny (model prog w) A (.call (.builtin "getset_descriptor.__get__") ⟨[.builtin "object.__class__", .ref x, tp], []⟩) R s := by
  obtain ⟨hh, g, dr, t, os⟩ := s
  have L0 := looks_typeExc (M := model prog w) I
  have L1 := looks_mroIn (M := model prog w) X hm
  refine codeAny_call_builtin KF.slot_gs.plain KF.entry_gs (KF.slot_gs.check _ _ _ _ _ _ _ _ KF.type_class (KF.args_gs _ _ _) ?_)
  unfold Builtin.«getset_descriptor.__get__» Builtin.Getset_descriptor.descrGet
  rw [dga_obj]
  refine wpAny_bind (wpAny_pure ?_)
  unfold Builtin.Getset_descriptor.descrGetter Builtin.Getset_descriptor.descrCheckInstance Builtin.Getset_descriptor.descrNameAndClass isInstance
  simp only [KF.owner_class]
  repeat lk
  refine ⟨Code.quiet_builtin _ (by decide +kernel), codeAny_builtin KF.entry_class ?_⟩
  unfold Builtin.«object.__class__» shownTypeOf
  repeat lk
  exact h
theorem exc_ga {tk : Tok} {Q : PySem.Fin → Shared → Prop} (X : K.In s.heap) (I : ExcAt x (.ref C) s.heap) (T : XFacts K C) (h : Q (.done (.ret (.ref C))) s) :
    wpAny (model prog w) A (Builtin.«object.__getattribute__» ⟨[.ref x, .str "__class__" tk], []⟩) Q E s := by
  obtain ⟨hh, g, d, t, os⟩ := s
  have L0 := looks_typeExc (M := model prog w) I
  have L3 := looks_findIn (M := model prog w) X T.cc
  have L4 : Looks (model prog w) hh (Builtin.ObjectAttr.getOf (some (.builtin "object.__class__"))) (some (.builtin "getset_descriptor.__get__")) := looks_specialIn X T.gg
  have L5 := looks_takesIn (M := model prog w) X T.tk
  unfold Builtin.«object.__getattribute__»
  refine wpAny_bind (wpAny_pure ?_)
  dsimp only
  refine wpAny_bind (wpAny_pure ?_)
  refine wpAny_bind (L0.at ?_)
  unfold Builtin.ObjectAttr.find Builtin.ObjectAttr.dataDescriptor?
  refine wpAny_bind (wpAny_bind (L3.at (wpAny_bind (L4.at ?_))))
  dsimp only
  refine wpAny_bind (wpAny_bind (L5.at ?_))
  simp only [if_true]
  refine wpAny_pure ?_
  dsimp only
  refine wpAny_bind (wpAny_rule (wpAny_pure ?_))
  dsimp only
  unfold Builtin.ObjectAttr.bindTo
  dsimp only
  refine wpAny_bind (wpAny_holding (wpAny_call (class_getE (s := ⟨hh, g, d, t, os⟩) X I T.ob ?_)))
  exact wpAny_pure h
theorem exc_check {M : Model} {nameV : Value} {Q : Unit → Shared → Prop} (X : K.In s.heap) (I : ExcAt x (.ref C) s.heap) (T : XFacts K C) (hq : Q () s) : wpAny M A (checkBuiltinCall "BaseException.__getattribute__" ⟨[.ref x, nameV], []⟩) Q E s := by
  obtain ⟨hh, g, d, t, os⟩ := s
  have hk : builtinKind "BaseException.__getattribute__" = some .slot := by decide +kernel
  have hsplit : splitId "BaseException.__getattribute__" = some ("BaseException", "__getattribute__") := by decide +kernel
  have L0 := looks_typeExc (M := M) I
  have L1 : Looks M hh (isInstance (.ref x) (.type "BaseException")) true := L0.andThen (looks_mroIn X T.ba)
  have ha := F.args_bexc_ga (.ref x) nameV
  simp only [checkBuiltinCall, hk, hsplit]
  refine wpAny_bind (L1.at ?_)
  simp only [Bool.not_true, Bool.false_eq_true, if_false]
  exact wpAny_of_eq ha hq
theorem exc_class {Q : Option Value → Shared → Prop} (X : K.In s.heap) (I : ExcAt x (.ref C) s.heap) (T : XFacts K C) (h : Q (some (.ref C)) { s with toks := s.toks + 1 }) : wpAny (model prog w) A (getAttr? (.ref x) "__class__") Q E s := by
  obtain ⟨hh, g, d, t, os⟩ := s
  have L0 := looks_typeExc (M := model prog w) I
  have L1 := looks_findIn (M := model prog w) X T.ga
  have L2 := looks_findIn (M := model prog w) X T.gh
  have hx2 : (Value.builtin "BaseException.__getattribute__" == Value.builtin "object.__getattribute__") = false := by decide +kernel
  have f3 := F.excAttr_ValueError.ga.bind (.ref x)
  unfold getAttr? getAttrBy? getAttrBy
  refine wpAny_bind (wpAny_mkText (wpAny_bind (wpAny_attempt (wpAny_holding (wpAny_bind (L0.at (wpAny_bind (L1.at ?_))))))))
  simp only [hx2, Bool.and_false, Bool.false_eq_true, if_false]
  unfold getAttrByItsOwn hookBefore
  simp only [onTheHeap, if_true]
  refine wpAny_bind (L2.at ?_)
  refine wpAny_bind (wpAny_attempt (wpAny_holding ?_))
  unfold callGetattribute boundAndCalled
  simp only [Bool.false_and, Bool.false_eq_true, if_false]
  rw [f3]
  refine wpAny_bind (wpAny_pure ?_)
  dsimp only
  refine wpAny_call (codeAny_call_builtin F.excAttr_ValueError.ga.plain F.entry_bexc_ga (exc_check (s := ⟨hh, g, d, t + 1, os⟩) X I T ?_))
  refine exc_ga (s := ⟨hh, g, d, t + 1, os⟩) X I T ?_
  exact wpAny_pure (wpAny_pure h)
end
end L2
namespace L2
open PySem PySem.Spec PyProof.Rows PySem.W
theorem Ims.length {H : Hp} : ∀ {xs : List V} {ds : List PyData}, Ims H xs ds → xs.length = ds.length
  | _, _, .nil => rfl
  | _, _, .cons _ r => by rw [List.length_cons, List.length_cons, Ims.length r]
section
variable {prog : Program} {w : World} {A : Around} {E : Value → Shared → Prop} {s : Shared} {K : Frag} {x C : Addr}
theorem kitExc (K : Frag) (C a : Addr) (T : XFacts K C) : KitX K (.ref a) (.ref C) (ExcAt a (.ref C)) where
  ty := fun _ _ _ p => looks_typeExc p
  it := fun _ _ X _ => looks_isType X T.cl
  ne := fun h tp dd its n sl X htp => by
    refine Bool.eq_false_iff.mpr fun q => ?_
    have e : C = tp := Value.ref.inj (beq_iff_eq.mp q)
    subst e
    have hcD := T.cl
    unfold clsIn at hcD
    split at hcD
    · rename_i c' d' cd' sl' ho
      have z := (X _ _ ho).symm.trans htp
      cases z
    · cases hcD
  ca := fun X p k => exc_class X p T k
end
def kitV (K : Frag) (C : Addr) : V → Option Bool
  | .ref d => kitOne K (.ref C) (.ref d)
  | .ty n => kitOne K (.ref C) (.type n)
  | _ => none
def rIsi (K : Frag) : List V → Hp → VK → Prop := fun xs H Q => ∃ (a C : Addr) (c : V) (b : Bool), xs = [.ref a, c] ∧ H a = some (xob a (.ref C)) ∧ XFacts K C ∧ kitV K C c = some b ∧ Q (.bl b) H
theorem call_isi {X : Cx} : CallR X (.builtin "isinstance") (rIsi X.K) := by
  intro pins s σ H xs us Q I r h
  obtain ⟨a, C, c, b, rfl, ha, T, e, q⟩ := h
  obtain ⟨u, v, rfl, ru, rv⟩ := r.two
  cases (show u = Value.ref a from ru)
  have fin : ∀ tk, EP X pins σ Q (.bool b) { s with toks := tk } := fun tk => ⟨.bl b, H, I.tok tk, rfl, q⟩
  cases c with
  | ref d =>
    cases (show v = Value.ref d from rv)
    exact kia_one (kitExc X.K C a T) I.kIn (I.exc ha) e (fun z => nomatch z) fin
  | ty n =>
    cases (show v = Value.type n from rv)
    exact kia_one (kitExc X.K C a T) I.kIn (I.exc ha) e (fun z => nomatch z) fin
  | non => cases e
  | bl _ => cases e
  | int _ => cases e
  | str _ => cases e
  | byt _ => cases e
  | flt _ => cases e
theorem pe_isi {X : Cx} {a b : Expr} {ta tb : TE} {p pos : Pos} (ha : PE X a ta) (hb : PE X b tb) (hg : Gl X "isinstance") (hm : X.mg "isinstance" = none)
    (h1 : starEach [a, b] X.env = (false, eval a X.env) :: starEach [b] X.env := by rfl) (h2 : starEach [b] X.env = (false, eval b X.env) :: starEach [] X.env := by rfl) (hpl : (backTo pos (starEach [b] X.env)).any (·.1) = false := by rfl) :
    PE X (.Call (.Name "isinstance" p) [a, b] [] pos) (tCB (rIsi X.K) (tCons ta (tCons tb tNil))) :=
  pe_callB call_isi hg hm PyProof.Rows.Boot.«isinstance» (pa_cons ha (pa_cons hb pa_nil h2) h1) (by decide) (by decide) h1 hpl
end L2


set_option Elab.async false
set_option maxHeartbeats 4000000
set_option maxRecDepth 100000
/-! Exceptions made as values, their text; str.join; try without a name. -/
namespace L2
open PySem PySem.Spec PyProof.Rows PySem.W

/-! ### an exception that was made: its class, the tuple of its arguments at t -/
def ExcArg (a : Addr) (cls : Value) (t : Addr) (h : Heap) : Prop := ∃ oe vs, h.get? a = some oe ∧ oe.cls = cls ∧ oe.data = .fields vs ∧ vs[0]? = some (.ref t)
def xobA (a : Addr) (cls : Value) (t : Addr) : HO := .ext (ExcArg a cls t)
theorem ExcArg.at {a t : Addr} {cls : Value} {h h' : Heap} (x : ExcArg a cls t h) (k : ∀ o, h.get? a = some o → h'.get? a = some o) : ExcArg a cls t h' := by
  obtain ⟨oe, vs, e, r⟩ := x
  exact ⟨oe, vs, k oe e, r⟩
theorem ExcArg.exc {a t : Addr} {cls : Value} {h : Heap} (x : ExcArg a cls t h) : ExcAt a cls h := by
  obtain ⟨oe, vs, e, h1, h2, _⟩ := x
  exact ⟨oe, vs, e, h1, h2⟩
/-- an exception, caught or made -/
def IsX (H : Hp) (a C : Addr) : Prop := H a = some (xob a (.ref C)) ∨ ∃ t, H a = some (xobA a (.ref C) t)
theorem IsX.same {H H' : Hp} {a C : Addr} (h : IsX H a C) (s : Same H H') : IsX H' a C := by
  rcases h with h | ⟨t, h⟩
  · exact .inl (s _ _ h)
  · exact .inr ⟨t, s _ _ h⟩
section
variable {X : Cx} {pins : List (Addr × Obj)} {σ : St} {H : Hp} {s : Shared}
theorem Inv.isX {a C : Addr} (I : Inv X pins σ H s) (h : IsX H a C) : ExcAt a (.ref C) s.heap := by
  rcases h with h | ⟨t, h⟩
  · exact I.exc h
  · exact (show ExcArg a (.ref C) t s.heap from (I.hok a _ h).1).exc
theorem Inv.xmade {h' : Heap} {e C : Addr} {xs : List V} {vs : List Value} (I : Inv X pins σ H s) (hx : Heap.MadeExcOf s.heap h' e (.ref C) vs) (r : Vals xs vs) (hz : xs.length ≤ sizeLine) :
    ∃ t, H e = none ∧ H t = none ∧ e ≠ t ∧ Inv X pins σ (upd (upd H t (.tup xs)) e (xobA e (.ref C) t)) { s with heap := h' } := by
  obtain ⟨t, he, ht0, ht⟩ := hx.there
  have he0 := hx.new
  have ne : e ≠ t := fun z => by rw [z, ht] at he; cases he
  have hHe : H e = none := I.hok.absent he0
  have hHt : H t = none := I.hok.absent ht0
  have n1 : ∀ b o, s.heap.get? b = some o → b ≠ e := fun b o q z => by rw [z, he0] at q; cases q
  have n2 : ∀ b o, s.heap.get? b = some o → b ≠ t := fun b o q z => by rw [z, ht0] at q; cases q
  have up : ∀ b o, H b = some o → (upd (upd H t (.tup xs)) e (xobA e (.ref C) t)) b = some o := fun b o q => by
    rw [upd_ne (ne_of_none q hHe), upd_ne (ne_of_none q hHt)]; exact q
  refine ⟨t, hHe, hHt, ne, I.un (t' := s.toks) ⟨fun b o q _ _ _ => hx.keeps b o q, fun b o q _ _ _ => ⟨o.slots, hx.keeps b o q⟩, fun b o q n _ => ?_, fun b o q _ => ⟨o, hx.keeps b o q⟩, fun b ys q => up b _ q, fun b o u q => up b _ q, fun b ps q => ⟨#[], by rw [up b _ q]; simp⟩⟩ fun b o q => ?_⟩
  · rw [upd_ne (n1 b o q), upd_ne (n2 b o q)]; exact n
  · by_cases hb : b = e
    · subst hb
      rw [upd_same] at q
      cases q
      exact ⟨⟨_, _, he, rfl, rfl, rfl⟩, ⟨_, he⟩, fun h1 h2 x k => x.at k⟩
    · rw [upd_ne hb] at q
      by_cases hb2 : b = t
      · subst hb2
        rw [upd_same] at q
        cases q
        exact ⟨hz, vs, r, _, ht, rfl, _, rfl⟩
      · rw [upd_ne hb2] at q
        refine (I.hok b o q).stay (fun c u _ e1 => hx.keeps c u e1) (fun c e1 => ?_) fun c ys e1 => up c _ e1
        · exact up c _ e1
end

/-! ### C(..), an exception made -/
def tMkx (C : Addr) (t : TA) : TE := fun σ H Q => t σ H fun vs H1 => vs.length ≤ sizeLine ∧ ∀ e u, H1 e = none → H1 u = none → e ≠ u → Q (.ref e) (upd (upd H1 u (.tup vs)) e (xobA e (.ref C) u))
theorem pe_mkx {X : Cx} {x : Str} {C : Addr} {e₀ : Expr} {rest : List Expr} {t : TA} {np pos : Pos} (hC : ExcCls X.K C) (hk : keepIn X.K (.ref C) = true) (hg : Gl X x) (hm : X.mg x = some (.ref C)) (ha : PA X (e₀ :: rest) t)
    (hdb : (x == ("__debug__" : Str)) = false := by decide) (he : starEach (e₀ :: rest) X.env = (false, eval e₀ X.env) :: starEach rest X.env := by rfl) (hpl : (backTo pos (starEach rest X.env)).any (·.1) = false := by rfl) :
    PE X (.Call (.Name x np) (e₀ :: rest) [] pos) (tMkx C t) := by
  intro pins s σ H Q I h
  obtain ⟨bm, N', nm, q, bs, hdct, sn, sub, ab, col, dd, k0, k1, k2, k3, k5, lk, hok, hni, ht⟩ := exc_in hC.exc
  refine wpAny_Call_Name_kw (ld_glob I hg hm ?_ hdb)
  refine PySem.W.callWith_K (h₀ := X.base) I.ok.mod.kin hk (thn (ha pos pins s σ H _ I h) fun us s1 ⟨vs, H1, I1, r, hz, q1⟩ => ⟨I1.kIn, ?_⟩) he hpl
  obtain ⟨h0, g, d, tt, os⟩ := s1
  have hN : h0.Ns N' (h0.nsMap N') := .of_isNs (PySem.W.isNs_of_in I1.kIn hok)
  refine wpAny_call_exc_subT PySem.F.excBase_ValueError (PySem.W.tail_of_in I1.kIn ht) (I1.kIn _ _ lk) hN (PySem.W.nsMap_none_of_in I1.kIn hok hni) (fun h' e hx => ?_) (by show us.length ≤ sizeLine; rw [← r.length]; exact hz)
  obtain ⟨u, n1, n2, ne, I2⟩ := I1.xmade hx r hz
  exact ⟨.ref e, _, I2, rfl, q1 e u n1 n2 ne⟩

/-! ### str(e) -/
structure XStr (K : Frag) (C : Addr) : Prop where
  st : findIn K (.ref C) "__str__" = some (some (.builtin "BaseException.__str__"))
  ba : mroIn K C (.type "BaseException") = some true
section
variable {prog : Program} {w : World} {A : Around} {E : Value → Shared → Prop} {s : Shared} {K : Frag} {x C t0 : Addr}
theorem exc_checkS {M : Model} {Q : Unit → Shared → Prop} (X : K.In s.heap) (I : ExcAt x (.ref C) s.heap) (T : XStr K C) (hq : Q () s) : wpAny M A (checkBuiltinCall "BaseException.__str__" ⟨[.ref x], []⟩) Q E s := by
  obtain ⟨hh, g, d, t, os⟩ := s
  have hk : builtinKind "BaseException.__str__" = some .slot := by decide +kernel
  have hsplit : splitId "BaseException.__str__" = some ("BaseException", "__str__") := by decide +kernel
  have L0 := looks_typeExc (M := M) I
  have L1 : Looks M hh (isInstance (.ref x) (.type "BaseException")) true := L0.andThen (looks_mroIn X T.ba)
  have ha := F.args_bexc_str (.ref x)
  simp only [checkBuiltinCall, hk, hsplit]
  refine wpAny_bind (L1.at ?_)
  simp only [Bool.not_true, Bool.false_eq_true, if_false]
  exact wpAny_of_eq ha hq
theorem bexcArgsO {M : Model} {cls : Value} {items : List Value} {Q : Value × List Value → Shared → Prop} (x1 : ExcArg x cls t0 s.heap) (ht : s.heap.TupAt t0 items) (hq : Q (.ref t0, items) s) :
    wpAny M A (Builtin.BaseException.bexcArgs (.ref x)) Q E s := by
  obtain ⟨o, vs, ho, _, hd, h0⟩ := x1
  obtain ⟨ot, k, hto, _, htd⟩ := ht
  unfold Builtin.BaseException.bexcArgs
  refine wpAny_bind (wpAny_field ho hd h0 (wpAny_bind (wpAny_seqItems hto htd ?_)))
  have e : items.toArray.toList = items := by simp
  show wpAny M A (pure (Value.ref t0, items.toArray.toList)) Q E s
  rw [e]; exact wpAny_pure hq
theorem call_excStr {m : Str} {tk : Tok} {Q : Value → Shared → Prop} (X : K.In s.heap) (I : ExcArg x (.ref C) t0 s.heap) (ht : s.heap.TupAt t0 [.str m tk]) (T : XStr K C) (hq : Q (.str m tk) s) :
    wpAny (model prog w) A (call (.builtin "BaseException.__str__") [.ref x]) Q E s := by
  refine wpAny_call (codeAny_call_builtin F.excStr_ValueError.str.plain F.entry_bexc_str (exc_checkS X I.exc T ?_))
  unfold Builtin.«BaseException.__str__»
  repeat (first | with_reducible refine bexcArgsO I ht ?_ | wp_step)
  exact hq
theorem strOf_own {m : Str} {tk : Tok} {Q : Value → Shared → Prop} (hu : A.units < cLine) (X : K.In s.heap) (I : ExcArg x (.ref C) t0 s.heap) (ht : s.heap.TupAt t0 [.str m tk]) (T : XStr K C) (hq : Q (.str m tk) s) :
    wpAny (model prog w) A (Builtin.Str.strOf (.ref x)) Q E s := by
  have sp : wpAny (model prog w) A (callSpecial? (.ref x) "__str__") (fun v s' => v = some (.str m tk) ∧ s' = s) E s := by
    simp only [callSpecial?, specialOf]
    have L := looks_typeExc (M := model prog w) I.exc
    have L3 := looks_findIn (M := model prog w) X T.st
    obtain ⟨hh, g, d, t, os⟩ := s
    refine wpAny_bind (wpAny_bind (L.at (L3.at ?_)))
    simp only [F.excStr_ValueError.str.bind]
    exact wpAny_holding (wpAny_bind (wpAny_pure (wpAny_bind (wpAny_mono (call_excStr (s := ⟨hh, g, d, t, os⟩) (Q := fun v s' => v = .str m tk ∧ s' = ⟨hh, g, d, t, os⟩) X I ht T ⟨rfl, rfl⟩) (fun v s' ⟨h1, h2⟩ => wpAny_pure ⟨by rw [h1], h2⟩) fun _ _ h' => h'))))
  unfold Builtin.Str.strOf
  repeat (first | with_reducible refine wpAny_cRoomFor hu ?_ | with_reducible refine wpAny_bind (wpAny_mono sp (fun v s' ⟨h1, h2⟩ => ?_) fun _ _ h' => h') | wp_step)
  subst h1 h2
  repeat wp_step
  exact hq
end
theorem call_strX {X : Cx} (hu : X.A.units + 64 < cLine) : CallR X (.type "str") (fun xs H Q => ∃ a C t m, xs = [.ref a] ∧ H a = some (xobA a (.ref C) t) ∧ H t = some (.tup [.str m]) ∧ XStr X.K C ∧ Q (.str m) H) := by
  intro pins s σ H xs us Q I r h
  obtain ⟨a, C, t, m, rfl, ha, ht, T, q⟩ := h
  obtain ⟨u, rfl, ru⟩ := r.one
  cases (show u = Value.ref a from ru)
  have hx : ExcArg a (.ref C) t s.heap := (I.hok a _ ha).1
  obtain ⟨_, its, rv, o, e1, e2, n, e3⟩ := (show ObjOk X.prog X.w H s.heap t (.tup [.str m]) from I.hok t _ ht)
  obtain ⟨v, rfl, rv1⟩ := rv.one
  obtain ⟨tk, rfl⟩ := rv1
  exact callType_new F.called_str (by decide) (F.typeCall_str_1 _) (F.newCall_str_1 _) (fun obj => F.args_object_init_2 obj _) F.entry_str_new
    (meets_str_new (S := fun A' R s' => A'.units + 1 < cLine ∧ X.K.In s'.heap ∧ ExcArg a (.ref C) t s'.heap ∧ s'.heap.TupAt t [.str m tk] ∧ R (.ok (.ret (.str m tk))) s')
      fun _ _ A' _ _ hq => strOf_own (A := A'.in1) hq.1 hq.2.1 hq.2.2.1 hq.2.2.2.1 T hq.2.2.2.2)
    ⟨(by show X.A.units + 1 + 1 < cLine; omega), I.kIn, hx, ⟨o, n, e1, e2, e3⟩, typeIs_str _ _ _, .str m, H, I, ⟨tk, rfl⟩, q⟩

/-! ### isinstance of an exception, caught or made -/
def rIsX (K : Frag) : List V → Hp → VK → Prop := fun xs H Q => ∃ (a C : Addr) (c : V) (b : Bool), xs = [.ref a, c] ∧ IsX H a C ∧ XFacts K C ∧ kitV K C c = some b ∧ Q (.bl b) H
theorem call_isX {X : Cx} : CallR X (.builtin "isinstance") (rIsX X.K) := by
  intro pins s σ H xs us Q I r h
  obtain ⟨a, C, c, b, rfl, ha, T, e, q⟩ := h
  obtain ⟨u, v, rfl, ru, rv⟩ := r.two
  cases (show u = Value.ref a from ru)
  have fin : ∀ tk, EP X pins σ Q (.bool b) { s with toks := tk } := fun tk => ⟨.bl b, H, I.tok tk, rfl, q⟩
  cases c with
  | ref d =>
    cases (show v = Value.ref d from rv)
    exact kia_one (kitExc X.K C a T) I.kIn (I.isX ha) e (fun z => nomatch z) fin
  | ty n =>
    cases (show v = Value.type n from rv)
    exact kia_one (kitExc X.K C a T) I.kIn (I.isX ha) e (fun z => nomatch z) fin
  | non => cases e
  | bl _ => cases e
  | int _ => cases e
  | str _ => cases e
  | byt _ => cases e
  | flt _ => cases e
theorem pe_isX {X : Cx} {a b : Expr} {ta tb : TE} {p pos : Pos} (ha : PE X a ta) (hb : PE X b tb) (hg : Gl X "isinstance") (hm : X.mg "isinstance" = none)
    (h1 : starEach [a, b] X.env = (false, eval a X.env) :: starEach [b] X.env := by rfl) (h2 : starEach [b] X.env = (false, eval b X.env) :: starEach [] X.env := by rfl) (hpl : (backTo pos (starEach [b] X.env)).any (·.1) = false := by rfl) :
    PE X (.Call (.Name "isinstance" p) [a, b] [] pos) (tCB (rIsX X.K) (tCons ta (tCons tb tNil))) :=
  pe_callB call_isX hg hm PyProof.Rows.Boot.«isinstance» (pa_cons ha (pa_cons hb pa_nil h2) h1) (by decide) (by decide) h1 hpl

/-! ### sep.join(list of texts) -/
def joinS (sep : Str) : List Str → Str
  | [p] => p
  | l => Builtin.Str.glued sep l
theorem strs_of : ∀ {xs : List Str} {us : List Value}, Vals (xs.map V.str) us → ∃ l : List (Str × Tok), us = strValues l ∧ l.map (·.1) = xs
  | [], _, r => by cases r; exact ⟨[], rfl, rfl⟩
  | x :: xs, _, r => by
    cases r with
    | cons h t =>
      obtain ⟨tk, rfl⟩ := h
      obtain ⟨l, rfl, e⟩ := strs_of t
      exact ⟨(x, tk) :: l, rfl, by rw [List.map_cons, e]⟩
def rJoin (K : Frag) : V → List V → Hp → VK → Prop := fun x vs H Q => ∃ sep l xs, x = .str sep ∧ vs = [.ref l] ∧ SqL K H l (xs.map V.str) ∧ Builtin.Str.tooLong (xs.toArray.foldl (· + ·.length + sep.length) 0) = false ∧ (Builtin.Str.glued sep xs).length ≤ sizeLine ∧ Q (.str (joinS sep xs)) H
theorem mt_sjoin {X : Cx} : MtR X "str.join" (rJoin X.K) := by
  intro pins s σ H x xs v us Q I rx rs h
  obtain ⟨sep, l, ys, rfl, rfl, hl, hz, hg, q⟩ := h
  obtain ⟨t, rfl⟩ := rx
  obtain ⟨u, rfl, ru⟩ := rs.one
  cases (show u = Value.ref l from ru)
  obtain ⟨its, rv, ⟨o, n, e, hc, _, hd⟩, _⟩ := I.list hl
  obtain ⟨ps, rfl, e2⟩ := strs_of rv
  subst e2
  refine call_meets F.slot_str_join (typeIs_str s sep t) F.entry_str_join (F.args_str_join_2 _ _) (meets_str_join_list sep t l ps hz) ⟨⟨o, e, hc, n, hd⟩, ?_⟩
  match ps with
  | [] => exact ⟨hg, .str _, H, I.tok _, ⟨_, rfl⟩, q⟩
  | [p] => exact ⟨.str _, H, I, ⟨_, rfl⟩, q⟩
  | p :: p' :: r => exact ⟨hg, .str _, H, I.tok _, ⟨_, rfl⟩, q⟩

/-! ### try, the clause without a name -/
def tTryN (K : Frag) (D : Addr) (tb : (St → XK) → TS) (th : TS) : TS := fun D' σ H =>
  tb (fun σ₁ cls _ H₁ => ∃ C, cls = .ref C ∧ subIn K (.ref C) (.ref D) = some true ∧ ∀ a, H₁ a = none → th D' σ₁ (upd H₁ a (xob a (.ref C)))) D' σ H
theorem ps_tryN {X : Cx} {body suite : List Stmt} {b₀ : Stmt} {x : Str} {np hpos pos : Pos} {D : Addr} {tb : (St → XK) → TS} {th : TS} (hst : X.stack = X.env :: X.outer) (hfr : X.env.frame = some X.env.locals) (hex : X.ex = []) (hgx : Gl X x) (hmx : X.mg x = some (.ref D)) (hD : ExcTest X.K D)
    (hb : ∀ pn E' E, Passes (CXE X.prog X.w) (X.bear pn E') E → PSs (X.bear pn E') body (tb E))
    (hh : ∀ a, PSs (X.hot (X.A.mark (some (.ref a)))).nox (b₀ :: suite) th) (hdb : (x == ("__debug__" : Str)) = false := by decide) :
    PS X (.Try body [.ExceptHandler (some (.Name x np)) none (b₀ :: suite) hpos] [] [] pos) (tTryN X.K D tb th) := by
  intro pins s σ H D' I h
  refine wpAny_Try_except (wpAny_mono (hb _ _ _ passes_try [] s σ H D' (I.bear (Lands X pins _)) h) (fun f s1 q => ?_) fun e s1 q => ?_)
  · have q' := SP.unbear q
    cases f with
    | next => exact wpAny_execs_nil q'
    | brk => exact q'
    | cont => exact q'
    | ret u => exact q'
  · obtain ⟨a, cls, σ₁, H₁, Hc, sc, rfl, Ic, fl, C, rfl, hsub, hE⟩ := q
    obtain ⟨B, a0, hfl, hok, kB, tB⟩ := fl.ex
    have hfr' : X.A.frames = some (X.env :: X.outer) := by rw [← hst]; exact Ic.ok.frames
    rw [hst] at hfl
    refine wpAny_looks_onW hfr' hfr hfl fun h4 held4 sm4 => ?_
    refine wpAny_landsW held4 fun h5 fl5 sm5 => ?_
    have sm45 := sm4.trans sm5
    have fl5' : Heap.FlyingW B X.stack a (.ref C) a0 h5 := by rw [hst]; exact fl5
    obtain ⟨I5, hna⟩ := lands_inv Ic hex fl kB tB hok fl5' sm45
    have I5h : Inv (X.hot (X.A.mark (some (.ref a)))) pins σ₁ (upd H₁ a (xob a (.ref C))) { s1 with heap := h5 } := I5.hot rfl
    refine wpAny_handleBy_cons (codeAny_handlers_test (ld_glob (X := X.hot (X.A.mark (some (.ref a)))) I5h hgx hmx ?_ hdb)) (by intro z; cases z)
    refine excMatches_K I5.kIn (I5.exc upd_same) hD hsub ?_
    show codeAny _ _ _ _ _
    refine codeAny_handlers_suite ?_
    refine lands_againW fl5 fun h6 fl6 sm6 => ?_
    have fl6' : Heap.FlyingW B X.stack a (.ref C) a0 h6 := by rw [hst]; exact fl6
    obtain ⟨I6, _⟩ := lands_inv Ic hex fl kB tB hok fl6' (sm45.trans sm6)
    have I6h : Inv (X.hot (X.A.mark (some (.ref a)))).nox pins σ₁ (upd H₁ a (xob a (.ref C))) { s1 with heap := h6 } := (I6.hot (A := X.A.mark (some (.ref a))) rfl).wish _
    refine wpAny_mono (hh a pins _ _ _ _ I6h (hE a hna)) (fun f s8 q8 => ?_) fun _ _ z => z.elim
    cases f with
    | next => obtain ⟨σ8, H8, I8, q9⟩ := q8; exact ⟨σ8, H8, I8.unwish.cool I.ok, q9⟩
    | brk => obtain ⟨σ8, H8, I8, q9⟩ := q8; exact ⟨σ8, H8, I8.unwish.cool I.ok, q9⟩
    | cont => obtain ⟨σ8, H8, I8, q9⟩ := q8; exact ⟨σ8, H8, I8.unwish.cool I.ok, q9⟩
    | ret u => obtain ⟨v8, σ8, H8, I8, r8, q9⟩ := q8; exact ⟨v8, σ8, H8, I8.unwish.cool I.ok, r8, q9⟩

/-! ### data that may lie in the module, too -/
def DatT (K : Frag) (H : Hp) (x : V) (d : PyData) : Prop := Dat K H x d ∨ ∃ a xs ds, x = .ref a ∧ d = .tuple ds ∧ SqT K H a xs ∧ Ims H xs ds
theorem DatT.reads {X : Cx} {pins : List (Addr × Obj)} {σ : St} {H : Hp} {s : Shared} (I : Inv X pins σ H s) {x : V} {d : PyData} (h : DatT X.K H x d) {u : Value} (r : RelV x u) : ∃ as, Reads s.heap u d as := by
  rcases h with h | ⟨p, xs, ds, rfl, rfl, hp, hi⟩
  · exact h.reads I r
  · cases (show u = Value.ref p from r)
    obtain ⟨its, rv, ⟨o, e, h1, n, h3⟩, _⟩ := I.tuple hp
    obtain ⟨as, z⟩ := hi.reads I rv
    exact ⟨_, .tuple e h1 h3 (by simpa using z)⟩
def rEqT (K : Frag) : R2 := fun x y H Q => ∃ d e, DatT K H x d ∧ DatT K H y e ∧ SeqAt.shaped d = true ∧ SeqAt.shaped e = true ∧ Q (.bl (PyData.eqv d e)) H
def rNeT (K : Frag) : R2 := fun x y H Q => ∃ d e, DatT K H x d ∧ DatT K H y e ∧ SeqAt.shaped d = true ∧ SeqAt.shaped e = true ∧ Q (.bl (!PyData.eqv d e)) H
theorem op_eqT {X : Cx} (hu : X.A.units + 64 < cLine) : OpR X (compareOp .Eq) (rEqT X.K) := by
  intro pins s σ H x y v u Q I rx ry h
  obtain ⟨d, e, hd, he, sd, se, q⟩ := h
  obtain ⟨as, z1⟩ := hd.reads I rx
  obtain ⟨bs, z2⟩ := he.reads I ry
  exact eq_dataH z1 z2 sd se hu ⟨.bl _, H, I, rfl, q⟩
theorem op_neT {X : Cx} (hu : X.A.units + 64 < cLine) : OpR X (compareOp .NotEq) (rNeT X.K) := by
  intro pins s σ H x y v u Q I rx ry h
  obtain ⟨d, e, hd, he, sd, se, q⟩ := h
  obtain ⟨as, z1⟩ := hd.reads I rx
  obtain ⟨bs, z2⟩ := he.reads I ry
  exact ne_dataH z1 z2 sd se hu ⟨.bl _, H, I, rfl, q⟩
/-- nothing is promised: what never is called -/
theorem FnOk.never {P : Program} {w : World} {K : Frag} {mg : Str → Option Value} {base : Heap} {CX : CXT} {k : Nat} {f : Addr} {fd : FuncData} {ps : List Str} : FnOk P w K mg base CX k f fd ps (fun _ _ _ _ => False) :=
  ⟨fun _ _ _ _ h => h.elim, fun _ _ _ _ _ _ _ _ _ _ _ _ _ h => h.elim⟩
theorem passN {P : Program} {w : World} {X : Cx} : Passes (CXE P w) X (fun _ => E0) := fun _ _ _ _ _ _ _ ⟨_, _, _, _, _, z⟩ => z.elim
theorem same_new {H : Hp} {p : Addr} {o : HO} (h : H p = none) : Same H (upd H p o) := fun b u e => by rw [upd_ne (ne_of_none e h)]; exact e
end L2


set_option Elab.async false
set_option maxHeartbeats 4000000
set_option maxRecDepth 100000
namespace KS
open PySem L2
def top (i : Nat) : Stmt := PySem.Challenge.pw_stillpoint_k10_refusals_apart.main.body.getD i (.Pass ⟨0, 0, 0, 0⟩)
abbrev s_Disk_init : Stmt := inClass (top 17) 0
abbrev s_Disk_read : Stmt := inClass (top 17) 1
abbrev s_Disk_write : Stmt := inClass (top 17) 2
abbrev s_newest_first : Stmt := top 86
abbrev s_Files_stat : Stmt := inClass (top 88) 3
abbrev s_files_of : Stmt := top 89
abbrev s_mounted : Stmt := top 90
abbrev s__law_cell : Stmt := top 92
abbrev s__law_drawn : Stmt := top 93
abbrev s__law_word : Stmt := top 94
abbrev s__law_mounted : Stmt := top 95
abbrev s_law : Stmt := top 96
inductive Rf where
  | noThing | noDirectory | badName | isThere | noRoom | notEmpty | wrongKind | tooGreat | readOnly | noFiles
  deriving DecidableEq, Repr
/-- what stands where, behind the top -/
structure Gs where
  Disk_init : Addr
  Disk_init_d : FuncData
  Disk_read : Addr
  Disk_read_d : FuncData
  Disk_write : Addr
  Disk_write_d : FuncData
  newest_first : Addr
  newest_first_d : FuncData
  Files_stat : Addr
  Files_stat_d : FuncData
  files_of : Addr
  files_of_d : FuncData
  mounted : Addr
  mounted_d : FuncData
  _law_cell : Addr
  _law_cell_d : FuncData
  _law_drawn : Addr
  _law_drawn_d : FuncData
  _law_word : Addr
  _law_word_d : FuncData
  _law_mounted : Addr
  _law_mounted_d : FuncData
  law : Addr
  law_d : FuncData
  Disk : Addr
  Files : Addr
  NoThing : Addr
  NoDirectory : Addr
  BadName : Addr
  IsThere : Addr
  NoRoom : Addr
  NotEmpty : Addr
  WrongKind : Addr
  TooGreat : Addr
  ReadOnly : Addr
  NoFiles : Addr
  StillError : Addr
  FEWEST_BLOCKS_t : Tok
  MOST_BLOCKS_t : Tok
  BLOCK_BYTES_t : Tok
  MARK : Addr
  TURN_PLACE_t : Tok
  TURNS_t : Tok
def Gs.xa (g : Gs) : Rf → Addr
  | .noThing => g.NoThing
  | .noDirectory => g.NoDirectory
  | .badName => g.BadName
  | .isThere => g.IsThere
  | .noRoom => g.NoRoom
  | .notEmpty => g.NotEmpty
  | .wrongKind => g.WrongKind
  | .tooGreat => g.TooGreat
  | .readOnly => g.ReadOnly
  | .noFiles => g.NoFiles
def Rf.word : Rf → Str
  | .noThing => "NoThing"
  | .noDirectory => "NoDirectory"
  | .badName => "BadName"
  | .isThere => "IsThere"
  | .noRoom => "NoRoom"
  | .notEmpty => "NotEmpty"
  | .wrongKind => "WrongKind"
  | .tooGreat => "TooGreat"
  | .readOnly => "ReadOnly"
  | .noFiles => "NoFiles"
/-- what the walk asks of the text as the top has made it -/
structure Tx (K : PySem.W.Frag) (mg : Str → Option Value) (g : Gs) : Prop where
  m_Disk : mg "Disk" = some (.ref g.Disk)
  m_Files : mg "Files" = some (.ref g.Files)
  m_NoThing : mg "NoThing" = some (.ref g.NoThing)
  m_NoDirectory : mg "NoDirectory" = some (.ref g.NoDirectory)
  m_BadName : mg "BadName" = some (.ref g.BadName)
  m_IsThere : mg "IsThere" = some (.ref g.IsThere)
  m_NoRoom : mg "NoRoom" = some (.ref g.NoRoom)
  m_NotEmpty : mg "NotEmpty" = some (.ref g.NotEmpty)
  m_WrongKind : mg "WrongKind" = some (.ref g.WrongKind)
  m_TooGreat : mg "TooGreat" = some (.ref g.TooGreat)
  m_ReadOnly : mg "ReadOnly" = some (.ref g.ReadOnly)
  m_NoFiles : mg "NoFiles" = some (.ref g.NoFiles)
  m_StillError : mg "StillError" = some (.ref g.StillError)
  c_Disk : Cls K g.Disk
  n_Disk_blocks : NoAttr K g.Disk "blocks"
  n_Disk_log : NoAttr K g.Disk "log"
  c_Files : Cls K g.Files
  n_Files_state : NoAttr K g.Files "state"
  n_Files_kept : NoAttr K g.Files "kept"
  n_Files_store : NoAttr K g.Files "store"
  n_Files_image : NoAttr K g.Files "image"
  F_Disk_init : Fun K "__init__" "Disk.__init__" s_Disk_init g.Disk_init g.Disk_init_d
  b_Disk_init : Binds K g.Disk_init_d ["self", "count"] []
  mk_Disk : Mk K g.Disk g.Disk_init
  F_Disk_read : Fun K "read" "Disk.read" s_Disk_read g.Disk_read g.Disk_read_d
  b_Disk_read : Binds K g.Disk_read_d ["self", "number"] []
  h_Disk_read : Meth K g.Disk "read" g.Disk_read
  F_Disk_write : Fun K "write" "Disk.write" s_Disk_write g.Disk_write g.Disk_write_d
  b_Disk_write : Binds K g.Disk_write_d ["self", "number", "block"] []
  h_Disk_write : Meth K g.Disk "write" g.Disk_write
  F_newest_first : Fun K "newest_first" "newest_first" s_newest_first g.newest_first g.newest_first_d
  b_newest_first : Binds K g.newest_first_d ["disk"] []
  m_newest_first : mg "newest_first" = some (.ref g.newest_first)
  F_Files_stat : Fun K "stat" "Files.stat" s_Files_stat g.Files_stat g.Files_stat_d
  b_Files_stat : Binds K g.Files_stat_d ["self", "number"] []
  h_Files_stat : Meth K g.Files "stat" g.Files_stat
  F_files_of : Fun K "files_of" "files_of" s_files_of g.files_of g.files_of_d
  b_files_of : Binds K g.files_of_d ["disk", "slot"] []
  m_files_of : mg "files_of" = some (.ref g.files_of)
  F_mounted : Fun K "mounted" "mounted" s_mounted g.mounted g.mounted_d
  b_mounted : Binds K g.mounted_d ["disk"] []
  m_mounted : mg "mounted" = some (.ref g.mounted)
  F__law_cell : Fun K "_law_cell" "_law_cell" s__law_cell g._law_cell g._law_cell_d
  b__law_cell : Binds K g._law_cell_d ["_law_script", "_law_k"] []
  m__law_cell : mg "_law_cell" = some (.ref g._law_cell)
  F__law_drawn : Fun K "_law_drawn" "_law_drawn" s__law_drawn g._law_drawn g._law_drawn_d
  b__law_drawn : Binds K g._law_drawn_d ["_law_cell_here", "_law_k"] []
  m__law_drawn : mg "_law_drawn" = some (.ref g._law_drawn)
  F__law_word : Fun K "_law_word" "_law_word" s__law_word g._law_word g._law_word_d
  b__law_word : Binds K g._law_word_d ["_law_e"] []
  m__law_word : mg "_law_word" = some (.ref g._law_word)
  F__law_mounted : Fun K "_law_mounted" "_law_mounted" s__law_mounted g._law_mounted g._law_mounted_d
  b__law_mounted : Binds K g._law_mounted_d ["_law_disk"] []
  m__law_mounted : mg "_law_mounted" = some (.ref g._law_mounted)
  F_law : Fun K "law" "law" s_law g.law g.law_d
  b_law : Binds K g.law_d ["_law_script"] []
  m_law : mg "law" = some (.ref g.law)
  x_NoThing : ExcCls K g.NoThing
  x_NoDirectory : ExcCls K g.NoDirectory
  x_BadName : ExcCls K g.BadName
  x_IsThere : ExcCls K g.IsThere
  x_NoRoom : ExcCls K g.NoRoom
  x_NotEmpty : ExcCls K g.NotEmpty
  x_WrongKind : ExcCls K g.WrongKind
  x_TooGreat : ExcCls K g.TooGreat
  x_ReadOnly : ExcCls K g.ReadOnly
  x_NoFiles : ExcCls K g.NoFiles
  xf : ∀ r : Rf, XFacts K (g.xa r)
  kit : ∀ r u : Rf, PySem.W.kitOne K (.ref (g.xa r)) (.ref (g.xa u)) = some (decide (r = u))
  kitS : ∀ r : Rf, PySem.W.kitOne K (.ref (g.xa r)) (.ref g.StillError) = some true
  kitV : ∀ r : Rf, PySem.W.kitOne K (.ref (g.xa r)) (.type "ValueError") = some true
  t_NoFiles : ExcTest K g.NoFiles
  sub_NoFiles : PySem.W.subIn K (.ref g.NoFiles) (.ref g.NoFiles) = some true
  k_NoThing : PySem.W.keepIn K (.ref g.NoThing) = true
  k_NoDirectory : PySem.W.keepIn K (.ref g.NoDirectory) = true
  k_BadName : PySem.W.keepIn K (.ref g.BadName) = true
  k_IsThere : PySem.W.keepIn K (.ref g.IsThere) = true
  k_NoRoom : PySem.W.keepIn K (.ref g.NoRoom) = true
  k_NotEmpty : PySem.W.keepIn K (.ref g.NotEmpty) = true
  k_WrongKind : PySem.W.keepIn K (.ref g.WrongKind) = true
  k_TooGreat : PySem.W.keepIn K (.ref g.TooGreat) = true
  k_ReadOnly : PySem.W.keepIn K (.ref g.ReadOnly) = true
  k_NoFiles : PySem.W.keepIn K (.ref g.NoFiles) = true
  xs : ∀ r : Rf, XStr K (g.xa r)
  g_FEWEST_BLOCKS : mg "FEWEST_BLOCKS" = some (.int 16 g.FEWEST_BLOCKS_t)
  g_MOST_BLOCKS : mg "MOST_BLOCKS" = some (.int 256 g.MOST_BLOCKS_t)
  g_BLOCK_BYTES : mg "BLOCK_BYTES" = some (.int 64 g.BLOCK_BYTES_t)
  g_MARK : mg "MARK" = some (.ref g.MARK)
  q_MARK : ∀ H, SqT K H g.MARK [.int 83, .int 116, .int 105, .int 108]
  g_TURN_PLACE : mg "TURN_PLACE" = some (.int 4 g.TURN_PLACE_t)
  g_TURNS : mg "TURNS" = some (.int 256 g.TURNS_t)
  z_range : mg "range" = none
  z_len : mg "len" = none
  z_isinstance : mg "isinstance" = none
  z_ValueError : mg "ValueError" = none
  z_tuple : mg "tuple" = none
  z_str : mg "str" = none
end KS


set_option Elab.async false
set_option maxHeartbeats 4000000
set_option maxRecDepth 100000
/-! What every law's proof wants: cells, draws, words of refusals. -/
namespace KS
open PySem L2
/-! ### the mathematics -/
def cellF (ns : List Int) (k : Int) : Int := if ns = [] then k * 7919 else ns.getD (k % (ns.length : Int)).toNat 0 + k / (ns.length : Int) * 104729
def moreF (c k : Int) : Int := (c * 6364136223846793005 + (k + 1) * 1442695040888963407) % 340282366920938463463374607431768211507
def drawF (c k : Int) : Int := moreF c k * moreF c k % 340282366920938463463374607431768211297
theorem moreF_lo (c k : Int) : 0 ≤ moreF c k := Int.emod_nonneg _ (by decide)
theorem moreF_hi (c k : Int) : moreF c k < 340282366920938463463374607431768211507 := Int.emod_lt_of_pos _ (by decide)
theorem drawF_lo (c k : Int) : 0 ≤ drawF c k := Int.emod_nonneg _ (by decide)
theorem drawF_hi (c k : Int) : drawF c k < 340282366920938463463374607431768211297 := Int.emod_lt_of_pos _ (by decide)
theorem ixN_ok {n : Int} {m : Nat} (h0 : 0 ≤ n) (h1 : n < (m : Int)) : ixN m n = some n.toNat := by
  unfold ixN
  rw [if_pos h0, if_pos h1]
theorem atI_ok {α : Type} {xs : List α} {n : Int} {v : α} (h0 : 0 ≤ n) (h : xs[n.toNat]? = some v) : atI xs n = some v := by
  have h1 : n < (xs.length : Int) := by
    have := (List.getElem?_eq_some_iff.mp h).1
    omega
  unfold atI
  rw [ixN_ok h0 h1]
  exact h
/-! ### ints as data -/
theorem ims_ints (H : Hp) : ∀ ns : List Int, Ims H (ns.map V.int) (ns.map PyData.int)
  | [] => .nil
  | n :: r => .cons (.int n) (ims_ints H r)
theorem ims_strs (H : Hp) : ∀ ns : List Str, Ims H (ns.map V.str) (ns.map PyData.str)
  | [] => .nil
  | n :: r => .cons (.str n) (ims_strs H r)
def Flat (k : Nat) (d : PyData) : Prop := d.canLay0 = true ∧ d.depth ≤ k
theorem flat_all {k : Nat} : ∀ {ds : List PyData}, (∀ d ∈ ds, Flat k d) → PyData.canLayAll0 ds = true ∧ PyData.depthAll ds ≤ k
  | [], _ => ⟨rfl, Nat.zero_le _⟩
  | d :: r, h => by
    obtain ⟨h1, h2⟩ := h d List.mem_cons_self
    obtain ⟨h3, h4⟩ := flat_all (ds := r) fun e he => h e (List.mem_cons_of_mem _ he)
    refine ⟨?_, ?_⟩
    · show (PyData.canLay0 d && PyData.canLayAll0 r) = true
      rw [h1, h3]; rfl
    · show max d.depth (PyData.depthAll r) ≤ k
      exact Nat.max_le.mpr ⟨h2, h4⟩
theorem Flat.tup {k : Nat} {ds : List PyData} (h : ∀ d ∈ ds, Flat k d) : Flat (k + 1) (.tuple ds) := by
  obtain ⟨h1, h2⟩ := flat_all h
  exact ⟨h1, Nat.succ_le_succ h2⟩
theorem Flat.mono {j k : Nat} {d : PyData} (h : Flat j d) (l : j ≤ k) : Flat k d := ⟨h.1, Nat.le_trans h.2 l⟩
theorem shaped_list {k : Nat} {ds : List PyData} (h : ∀ d ∈ ds, Flat k d) (hk : k ≤ 60) : SeqAt.shaped (.list ds) = true := by
  obtain ⟨h1, h2⟩ := flat_all h
  have h3 : PyData.depth (.list ds) ≤ 64 := by
    show PyData.depthAll ds + 1 ≤ 64
    omega
  unfold SeqAt.shaped
  rw [show PyData.canLay0 (.list ds) = true from h1, decide_eq_true h3]
  rfl
theorem shaped_flat {k : Nat} {d : PyData} (h : Flat k d) (hk : k ≤ 60) : SeqAt.shaped d = true := by
  have h3 : d.depth ≤ 64 := Nat.le_trans h.2 (by omega)
  unfold SeqAt.shaped
  rw [h.1, decide_eq_true h3]
  rfl
theorem flat_int (i : Int) : Flat 0 (.int i) := ⟨rfl, Nat.le_refl _⟩
theorem flat_str {i : Str} (h : (PyData.str i).canLay0 = true) : Flat 0 (.str i) := ⟨h, Nat.le_refl _⟩
theorem flat_none : Flat 0 .none := ⟨rfl, Nat.le_refl _⟩
theorem flat_ints (ns : List Int) : Flat 1 (.tuple (ns.map .int)) := Flat.tup fun d hd => by
  obtain ⟨i, _, rfl⟩ := List.mem_map.mp hd
  exact flat_int i
theorem shaped_ints (ns : List Int) : SeqAt.shaped (.list (ns.map PyData.int)) = true := shaped_list (k := 0) (fun d hd => by
  obtain ⟨i, _, rfl⟩ := List.mem_map.mp hd
  exact flat_int i) (by decide)
theorem Ims.snoc {H : Hp} {v : V} {d : PyData} (h : Im H v d) : ∀ {xs : List V} {ds : List PyData}, Ims H xs ds → Ims H (xs ++ [v]) (ds ++ [d])
  | _, _, .nil => .cons h .nil
  | _, _, .cons a r => .cons a (Ims.snoc h r)
theorem rep_flat (n : Nat) (v : V) : (List.replicate n [v]).flatten = List.replicate n v := by
  induction n with
  | zero => rfl
  | succ n ih => rw [List.replicate_succ, List.flatten_cons, ih]; rfl

section
variable {P : Program} {w : World} {K : PySem.W.Frag} {mg : Str → Option Value} {base : Heap} {g : Gs}
/-! ### cells and draws -/
def spCell (K : PySem.W.Frag) : Sp := fun vs H Q _ => ∃ (a : Addr) (ns : List Int) (k : Int), vs = [.ref a, .int k] ∧ SqL K H a (ns.map V.int) ∧ ns.length ≤ 63 ∧ 0 ≤ k ∧ k < 1000000 ∧ ∀ H', Same H H' → Q (.int (cellF ns k)) H'
def spDrawn : Sp := fun vs H Q _ => ∃ c k : Int, vs = [.int c, .int k] ∧ Q (.int (drawF c k)) H
theorem sc__law_cell : FnScope ["_law_script", "_law_k"] ["_law_script", "_law_k"] (defScope s__law_cell) := ⟨rfl, rfl, rfl, by decide +kernel, rfl, by decide +kernel, by decide +kernel⟩
theorem ok__law_cell (T : Tx K mg g) : FnOk P w K mg base (CXE P w) 1 g._law_cell g._law_cell_d ["_law_script", "_law_k"] (spCell K) := by
  refine T.F__law_cell.okE sc__law_cell (fun vs H Q E h => ?_) (fun cdv A outer s H vs Q E hr h => ?_)
  · obtain ⟨a, ns, k, rfl, _⟩ := h
    rfl
  · obtain ⟨a, ns, k, rfl, hS, hl, hk0, hk1, q⟩ := h
    have hu64 := hr.units
    refine ⟨_, (pss_cons (ps_if (pt_cmpR (op_eqT hu64) (pv 0) (pe_lst pa_nil) (nomark _)) (pss_one (ps_ret (pe_op op_mul (pv 1) pe_int))) pss_nil)
      (pss_one (ps_ret (pe_op op_add (pe_ix ix_list (pv 0) (pe_op op_mod (pv 1) (pe_callB call_len_seq (by rfl) T.z_len PySem.boot_len (pa_cons (pv 0) pa_nil))) (fun _ _ => rfl)) (pe_op op_mul (pe_op op_fdiv (pv 1) (pe_callB call_len_seq (by rfl) T.z_len PySem.boot_len (pa_cons (pv 0) pa_nil))) pe_int))))), ?_⟩
    refine ⟨_, rfl, Nat.zero_le _, fun p hp => ?_⟩
    have sm : Same H (upd H p (.lst [])) := same_new hp
    have hS' := sm.seq hS
    refine ⟨.list (ns.map .int), .list [], .inl (.inr ⟨a, _, _, rfl, rfl, hS', ims_ints _ ns⟩), .inl (.inr ⟨p, [], [], rfl, rfl, SqL.of upd_same, .nil⟩), shaped_ints ns, rfl, _, rfl, ?_⟩
    cases ns with
    | nil =>
      refine iteT ?_
      refine ⟨_, rfl, _, _, rfl, rfl, .inr ⟨by decide, by decide⟩, ?_⟩
      exact q _ sm
    | cons n r =>
      refine iteF ?_
      have hL : (0 : Int) < ((n :: r).length : Int) := by rw [List.length_cons]; omega
      have hm0 : 0 ≤ k % ((n :: r).length : Int) := Int.emod_nonneg _ (by omega)
      have hm1 : k % ((n :: r).length : Int) < ((n :: r).length : Int) := Int.emod_lt_of_pos _ hL
      have hlt : (k % ((n :: r).length : Int)).toNat < (n :: r).length := by omega
      have hd0 : 0 ≤ k / ((n :: r).length : Int) := Int.ediv_nonneg hk0 (by omega)
      have hd1 : k / ((n :: r).length : Int) ≤ k := Int.ediv_le_self _ hk0
      have hat : atI ((n :: r).map V.int) (k % ((n :: r).length : Int)) = some (V.int ((n :: r).getD (k % ((n :: r).length : Int)).toNat 0)) := by
        refine atI_ok hm0 ?_
        rw [List.getElem?_map, List.getElem?_eq_getElem hlt, Option.map_some, List.getD_eq_getElem?_getD, List.getElem?_eq_getElem hlt]
        rfl
      have hmap : ((n :: r).map V.int).length = (n :: r).length := List.length_map ..
      refine ⟨_, rfl, _, rfl, _, rfl, a, _, rfl, .inl hS', _, _, rfl, rfl, (by rw [hmap]; exact hL), a, _, _, _, rfl, rfl, hS', (by rw [hmap]; exact hat), ?_⟩
      refine ⟨_, rfl, _, rfl, a, _, rfl, .inl hS', _, _, rfl, rfl, (by rw [hmap]; exact ⟨hL, by omega⟩), _, _, rfl, rfl, .inr ⟨by decide, by decide⟩, _, _, rfl, rfl, ?_⟩
      have := q _ sm
      rw [hmap]
      unfold cellF at this
      rw [if_neg (by simp)] at this
      exact this
theorem sc__law_drawn : FnScope ["_law_cell_here", "_law_k", "_law_more"] ["_law_cell_here", "_law_k"] (defScope s__law_drawn) := ⟨rfl, rfl, rfl, by decide +kernel, rfl, by decide +kernel, by decide +kernel⟩
theorem ok__law_drawn (T : Tx K mg g) : FnOk P w K mg base (CXE P w) 1 g._law_drawn g._law_drawn_d ["_law_cell_here", "_law_k"] spDrawn := by
  refine T.F__law_drawn.okE sc__law_drawn (fun vs H Q E h => ?_) (fun cdv A outer s H vs Q E hr h => ?_)
  · obtain ⟨c, k, rfl, _⟩ := h
    rfl
  · obtain ⟨c, k, rfl, q⟩ := h
    refine ⟨_, (pss_cons (ps_set (i := 2) sc__law_drawn.nd rfl (Or.inl rfl) (pe_op op_mod (pe_op op_add (pe_op op_mul (pv 0) pe_int) (pe_op op_mul (pe_op op_add (pv 1) pe_int) pe_int)) pe_int))
      (pss_one (ps_ret (pe_op op_mod (pe_op op_mulB (pv 2) (pv 2)) pe_int)))), ?_⟩
    refine ⟨_, rfl, _, _, rfl, rfl, .inr ⟨by decide, by decide⟩, _, rfl, _, _, rfl, rfl, _, _, rfl, rfl, .inr ⟨by decide, by decide⟩, _, _, rfl, rfl, _, _, rfl, rfl, (by show (0 : Int) < 340282366920938463463374607431768211507; decide), ?_⟩
    have h1 := moreF_lo c k
    have h2 := moreF_hi c k
    have h3 : (moreF c k).natAbs < 2 ^ 200 := by
      have : (moreF c k).natAbs < 340282366920938463463374607431768211507 := by omega
      exact Nat.lt_trans this (by decide)
    refine ⟨_, rfl, _, rfl, _, _, rfl, rfl, ⟨h3, h3⟩, _, _, rfl, rfl, (by show (0 : Int) < 340282366920938463463374607431768211297; decide), ?_⟩
    exact q
/-! ### the word of a refusal -/
def spWord (g : Gs) : Sp := fun vs H Q _ => ∃ (a : Addr) (r : Rf), vs = [.ref a] ∧ IsX H a (g.xa r) ∧ ∀ H', Same H H' → Q (.str r.word) H'
def rfs : List Rf := [.noThing, .noDirectory, .badName, .isThere, .noRoom, .notEmpty, .wrongKind, .tooGreat, .readOnly, .noFiles]
theorem rf_count (r : Rf) : ((rfs.map fun u => V.bl (decide (r = u))).countP fun z => eqV z (.bl true)) = 1 := by cases r <;> decide
def rfIx : Rf → Nat
  | .noThing => 0 | .noDirectory => 1 | .badName => 2 | .isThere => 3 | .noRoom => 4 | .notEmpty => 5 | .wrongKind => 6 | .tooGreat => 7 | .readOnly => 8 | .noFiles => 9
theorem rf_at (r : Rf) : ∃ z, (rfs.map fun u => V.bl (decide (r = u)))[rfIx r]? = some z ∧ eqV z (.bl true) = true := by cases r <;> exact ⟨_, rfl, rfl⟩
theorem rf_ahead (r : Rf) : ∀ m z, m < rfIx r → (rfs.map fun u => V.bl (decide (r = u)))[m]? = some z → eqV z (.bl true) = false := by
  intro m z hm hz
  have hm' : m < 10 := by cases r <;> simp only [rfIx] at hm <;> omega
  have key : ∀ r : Rf, ∀ m : Fin 10, m.val < rfIx r → (rfs.map fun u => V.bl (decide (r = u)))[m.val]? = some (.bl false) := by
    intro r m
    cases r <;> revert m <;> decide
  have := key r ⟨m, hm'⟩ hm
  rw [this] at hz
  cases hz
  rfl
theorem rf_name (r : Rf) : atI [V.str "NoThing", .str "NoDirectory", .str "BadName", .str "IsThere", .str "NoRoom", .str "NotEmpty", .str "WrongKind", .str "TooGreat", .str "ReadOnly", .str "NoFiles"] ((rfIx r : Nat) : Int) = some (.str r.word) := by
  cases r <;> rfl
theorem sc__law_word : FnScope ["_law_e", "_law_flags", "_law_names"] ["_law_e"] (defScope s__law_word) := ⟨rfl, rfl, rfl, by decide +kernel, rfl, by decide +kernel, by decide +kernel⟩
theorem ok__law_word (T : Tx K mg g) : FnOkH P w K mg base 1 g._law_word g._law_word_d ["_law_e"] (spWord g) := by
  refine T.F__law_word.okH sc__law_word (fun vs H Q E h => ?_) (fun cdv A outer s H vs Q E hr h => ?_)
  · obtain ⟨a, r, rfl, _⟩ := h
    rfl
  · obtain ⟨a, r, rfl, ha, q⟩ := h
    refine ⟨_, (pss_cons (ps_set (i := 1) sc__law_word.nd rfl (Or.inl rfl) (pe_lst (pa_cons (pe_isX (pv 0) (pe_glob (v := .ref g.NoThing) rfl T.m_NoThing rfl) rfl T.z_isinstance) (pa_cons (pe_isX (pv 0) (pe_glob (v := .ref g.NoDirectory) rfl T.m_NoDirectory rfl) rfl T.z_isinstance) (pa_cons (pe_isX (pv 0) (pe_glob (v := .ref g.BadName) rfl T.m_BadName rfl) rfl T.z_isinstance) (pa_cons (pe_isX (pv 0) (pe_glob (v := .ref g.IsThere) rfl T.m_IsThere rfl) rfl T.z_isinstance) pa_nil))))))
      (pss_cons (ps_set (i := 1) sc__law_word.nd rfl (Or.inl rfl) (pe_op op_cat (pv 1) (pe_lst (pa_cons (pe_isX (pv 0) (pe_glob (v := .ref g.NoRoom) rfl T.m_NoRoom rfl) rfl T.z_isinstance) (pa_cons (pe_isX (pv 0) (pe_glob (v := .ref g.NotEmpty) rfl T.m_NotEmpty rfl) rfl T.z_isinstance) (pa_cons (pe_isX (pv 0) (pe_glob (v := .ref g.WrongKind) rfl T.m_WrongKind rfl) rfl T.z_isinstance) pa_nil))))))
      (pss_cons (ps_set (i := 1) sc__law_word.nd rfl (Or.inl rfl) (pe_op op_cat (pv 1) (pe_lst (pa_cons (pe_isX (pv 0) (pe_glob (v := .ref g.TooGreat) rfl T.m_TooGreat rfl) rfl T.z_isinstance) (pa_cons (pe_isX (pv 0) (pe_glob (v := .ref g.ReadOnly) rfl T.m_ReadOnly rfl) rfl T.z_isinstance) (pa_cons (pe_isX (pv 0) (pe_glob (v := .ref g.NoFiles) rfl T.m_NoFiles rfl) rfl T.z_isinstance) pa_nil))))))
      (pss_cons (ps_set (i := 2) sc__law_word.nd rfl (Or.inl rfl) (pe_lst (pa_cons pe_str (pa_cons pe_str (pa_cons pe_str (pa_cons pe_str (pa_cons pe_str (pa_cons pe_str (pa_cons pe_str (pa_cons pe_str (pa_cons pe_str pa_nil)))))))))))
      (pss_cons (ps_if (PW.pt (pw_or (pt_cmpR op_ne (pe_bm PySem.F.plainAttrs_list PySem.F.slot_list_count PySem.F.type_list_count mt_count (pv 1) (pa_cons pe_bl pa_nil)) pe_int (nomark _)) (pw_or (pt_not (pt_val (pe_isX (pv 0) (pe_glob (v := .ref g.StillError) rfl T.m_StillError rfl) rfl T.z_isinstance))) (pw_or1 (pt_not (pt_val (pe_isX (pv 0) (pe_bltn (v := .ty "ValueError") rfl T.z_ValueError PyProof.Rows.Boot.«ValueError» rfl) rfl T.z_isinstance))))))) (pss_one (ps_ret pe_str)) pss_nil)
      (pss_one (ps_ret (pe_ix ix_list (pe_op op_cat (pv 2) (pe_lst (pa_cons pe_str pa_nil))) (pe_bm PySem.F.plainAttrs_list PySem.F.slot_list_index PySem.F.type_list_index mt_index (pv 1) (pa_cons pe_bl pa_nil)) (fun _ _ => rfl))))))))), ?_⟩
    have xf := T.xf r
    refine ⟨_, rfl, a, _, _, _, rfl, ha, xf, T.kit r .noThing, _, rfl, a, _, _, _, rfl, ha, xf, T.kit r .noDirectory, _, rfl, a, _, _, _, rfl, ha, xf, T.kit r .badName, _, rfl, a, _, _, _, rfl, ha, xf, T.kit r .isThere, (by show 4 ≤ sizeLine; decide), fun p1 n1 => ?_⟩
    have s1 := same_new (o := .lst [.bl (decide (r = .noThing)), .bl (decide (r = .noDirectory)), .bl (decide (r = .badName)), .bl (decide (r = .isThere))]) n1
    have h1 := ha.same s1
    refine ⟨_, rfl, _, rfl, a, _, _, _, rfl, h1, xf, T.kit r .noRoom, _, rfl, a, _, _, _, rfl, h1, xf, T.kit r .notEmpty, _, rfl, a, _, _, _, rfl, h1, xf, T.kit r .wrongKind, (by show 3 ≤ sizeLine; decide), fun p2 n2 => ?_⟩
    have s2 := same_new (o := .lst [.bl (decide (r = .noRoom)), .bl (decide (r = .notEmpty)), .bl (decide (r = .wrongKind))]) n2
    refine ⟨p1, p2, _, _, rfl, rfl, s2 _ _ upd_same, upd_same, (by show 7 ≤ sizeLine; decide), fun p3 n3 => ?_⟩
    have s3 := same_new (o := .lst ([.bl (decide (r = .noThing)), .bl (decide (r = .noDirectory)), .bl (decide (r = .badName)), .bl (decide (r = .isThere))] ++ [.bl (decide (r = .noRoom)), .bl (decide (r = .notEmpty)), .bl (decide (r = .wrongKind))])) n3
    have h3 := (h1.same s2).same s3
    refine ⟨_, rfl, _, rfl, a, _, _, _, rfl, h3, xf, T.kit r .tooGreat, _, rfl, a, _, _, _, rfl, h3, xf, T.kit r .readOnly, _, rfl, a, _, _, _, rfl, h3, xf, T.kit r .noFiles, (by show 3 ≤ sizeLine; decide), fun p4 n4 => ?_⟩
    have s4 := same_new (o := .lst [.bl (decide (r = .tooGreat)), .bl (decide (r = .readOnly)), .bl (decide (r = .noFiles))]) n4
    refine ⟨p3, p4, _, _, rfl, rfl, s4 _ _ upd_same, upd_same, (by show 10 ≤ sizeLine; decide), fun p5 n5 => ?_⟩
    have s5 := same_new (o := .lst (rfs.map fun u => V.bl (decide (r = u)))) n5
    have h5 := (h3.same s4).same s5
    refine ⟨(by show 9 ≤ sizeLine; decide), fun p6 n6 => ?_⟩
    have s6 := same_new (o := .lst [.str "NoThing", .str "NoDirectory", .str "BadName", .str "IsThere", .str "NoRoom", .str "NotEmpty", .str "WrongKind", .str "TooGreat", .str "ReadOnly"]) n6
    have h6 := h5.same s6
    have hf := s6 _ _ (upd_same (H := upd (upd (upd (upd H p1 _) p2 _) p3 _) p4 _) (a := p5) (o := .lst (rfs.map fun u => V.bl (decide (r = u)))))
    have hfl : (rfs.map fun u => V.bl (decide (r = u))).all flatV = true := rfl
    refine ⟨_, rfl, .inl ⟨rfl, _, SqL.of hf⟩, p5, _, _, rfl, rfl, SqL.of hf, rfl, hfl, rfl, _, rfl, ?_⟩
    rw [rf_count]
    refine iteF ?_
    refine ⟨_, rfl, a, _, _, _, rfl, h6, xf, T.kitS r, _, rfl, ?_⟩
    refine iteF ?_
    refine ⟨_, rfl, a, _, _, _, rfl, h6, xf, T.kitV r, _, rfl, ?_⟩
    refine iteF ?_
    refine ⟨_, rfl, (by show 1 ≤ sizeLine; decide), fun p7 n7 => ?_⟩
    have s7 := same_new (o := .lst [.str "NoFiles"]) n7
    refine ⟨p6, p7, _, _, rfl, rfl, s7 _ _ upd_same, upd_same, (by show 10 ≤ sizeLine; decide), fun p8 n8 => ?_⟩
    have s8 := same_new (o := .lst ([.str "NoThing", .str "NoDirectory", .str "BadName", .str "IsThere", .str "NoRoom", .str "NotEmpty", .str "WrongKind", .str "TooGreat", .str "ReadOnly"] ++ [.str "NoFiles"])) n8
    have hf8 := s8 _ _ (s7 _ _ hf)
    refine ⟨_, rfl, .inl ⟨rfl, _, SqL.of hf8⟩, p5, _, _, rfIx r, rfl, rfl, SqL.of hf8, rfl, hfl, rf_at r, rf_ahead r, p8, _, _, _, rfl, rfl, SqL.of upd_same, rf_name r, ?_⟩
    exact q _ (s1.trans (s2.trans (s3.trans (s4.trans (s5.trans (s6.trans (s7.trans s8)))))))
end
end KS


set_option Elab.async false
set_option maxHeartbeats 4000000
set_option maxRecDepth 100000
/-! The class Disk. -/
namespace KS
open PySem L2
theorem bl_ne : ¬ (("blocks" : Str) = "log") := by decide +kernel
theorem lb_ne : ¬ (("log" : Str) = "blocks") := by decide +kernel
def flds (b l : Addr) : List (Str × V) := putF "log" (.ref l) (putF "blocks" (.ref b) [])
theorem flds_eq (b l : Addr) : flds b l = ([("blocks", V.ref b), ("log", V.ref l)] : List (Str × V)) := by
  show (if ("blocks" : Str) = "log" then [(("blocks" : Str), V.ref l)] else (("blocks" : Str), V.ref b) :: putF "log" (V.ref l) []) = ([("blocks", V.ref b), ("log", V.ref l)] : List (Str × V))
  rw [if_neg bl_ne]
  all_goals rfl
theorem flds_b (b l : Addr) : (flds b l).lookup ("blocks" : Str) = some (.ref b) := by
  unfold flds
  rw [lookup_putF, if_neg bl_ne, lookup_putF, if_pos rfl]
theorem flds_l (b l : Addr) : (flds b l).lookup ("log" : Str) = some (.ref l) := by
  unfold flds
  rw [lookup_putF, if_pos rfl]
theorem flds_no (b l : Addr) {m : Str} (h1 : ¬ m = "log") (h2 : ¬ m = "blocks") : (flds b l).lookup m = none := by
  unfold flds
  rw [lookup_putF, if_neg h1, lookup_putF, if_neg h2]
  all_goals rfl
theorem flds_put (b c l : Addr) : putF "blocks" (.ref c) (flds b l) = flds c l := by
  rw [flds_eq, flds_eq]
  show (if ("blocks" : Str) = "blocks" then (("blocks" : Str), V.ref c) :: [(("log" : Str), V.ref l)] else _) = ([("blocks", V.ref c), ("log", V.ref l)] : List (Str × V))
  rw [if_pos rfl]
def zeros : PyData := .tuple (List.replicate 64 (.int 0))
/-- a disk stands at p: its lists at b and l, what they hold, as data -/
structure DiskAt (C : Addr) (H : Hp) (p b l : Addr) (vb vl : List V) (bs lg : List PyData) : Prop where
  ob : ∃ dx, H p = some (.ins C dx (flds b l))
  hb : H b = some (.lst vb)
  hl : H l = some (.lst vl)
  ib : Ims H vb bs
  il : Ims H vl lg
  ne : b ≠ l


/-! ### promises -/
def spInit (C TG : Addr) : Sp := fun vs H Q E => ∃ (p dx : Addr) (n : Int), vs = [.ref p, .int n] ∧ H p = some (.ins C dx []) ∧ ((n < 16 ∨ 256 < n) → E (.ref TG) none H) ∧
  (16 ≤ n → n ≤ 256 → ∀ (b l : Addr) (vb : List V) (H' : Hp), H b = none → H l = none → DiskAt C H' p b l vb [] (List.replicate n.toNat zeros) [] → (∀ c o, H c = some o → c ≠ p → H' c = some o) → Q .non H')
def spRead (C : Addr) : Sp := fun vs H Q _ => ∃ (p dx b l : Addr) (vb : List V) (n : Int) (v : V), vs = [.ref p, .int n] ∧ H p = some (.ins C dx (flds b l)) ∧ H b = some (.lst vb) ∧ 0 ≤ n ∧ vb[n.toNat]? = some v ∧ Q v H
def spWrite (C : Addr) : Sp := fun vs H Q _ => ∃ (p dx b l : Addr) (vb vl : List V) (n : Int) (v : V), vs = [.ref p, .int n, v] ∧ H p = some (.ins C dx (flds b l)) ∧ H b = some (.lst vb) ∧ H l = some (.lst vl) ∧ b ≠ l ∧ 0 ≤ n ∧ n < (vb.length : Int) ∧ vl.length ≤ 1000 ∧
  ∀ t, H t = none → Q .non (upd (upd (upd H b (.lst (vb.set n.toNat v))) t (.tup [.str "write", .int n, v])) l (.lst (vl ++ [.ref t])))
def spBar (C : Addr) : Sp := fun vs H Q _ => ∃ (p dx b l : Addr) (vl : List V), vs = [.ref p] ∧ H p = some (.ins C dx (flds b l)) ∧ H l = some (.lst vl) ∧ vl.length ≤ 1000 ∧
  ∀ t, H t = none → Q .non (upd (upd H t (.tup [.str "barrier"])) l (.lst (vl ++ [.ref t])))
section
variable {P : Program} {w : World} {K : PySem.W.Frag} {mg : Str → Option Value} {base : Heap} {g : Gs}
theorem sc_Disk_read : FnScope ["self", "number"] ["self", "number"] (defScope s_Disk_read) := ⟨rfl, rfl, rfl, by decide +kernel, rfl, by decide +kernel, by decide +kernel⟩
theorem ok_Disk_read (T : Tx K mg g) : FnOk P w K mg base (CXE P w) 1 g.Disk_read g.Disk_read_d ["self", "number"] (spRead g.Disk) := by
  refine T.F_Disk_read.okE sc_Disk_read (fun vs H Q E h => ?_) (fun cdv A outer s H vs Q E hr h => ?_)
  · obtain ⟨p, dx, b, l, vb, n, v, rfl, _⟩ := h
    rfl
  · obtain ⟨p, dx, b, l, vb, n, v, rfl, hp, hb, h0, hv, q⟩ := h
    refine ⟨_, (pss_one (ps_ret (pe_ix ix_list (pe_fld (pv 0) rfl) (pv 1) (fun _ _ => rfl)))), ?_⟩
    exact ⟨_, rfl, p, g.Disk, dx, _, _, rfl, hp, T.c_Disk, T.n_Disk_blocks, flds_b _ _, _, rfl, b, vb, n, v, rfl, rfl, SqL.of hb, atI_ok h0 hv, q⟩
theorem sc_Disk_write : FnScope ["self", "number", "block"] ["self", "number", "block"] (defScope s_Disk_write) := ⟨rfl, rfl, rfl, by decide +kernel, rfl, by decide +kernel, by decide +kernel⟩
theorem ok_Disk_write (T : Tx K mg g) : FnOk P w K mg base (CXE P w) 1 g.Disk_write g.Disk_write_d ["self", "number", "block"] (spWrite g.Disk) := by
  refine T.F_Disk_write.okE sc_Disk_write (fun vs H Q E h => ?_) (fun cdv A outer s H vs Q E hr h => ?_)
  · obtain ⟨p, dx, b, l, vb, vl, n, v, rfl, _⟩ := h
    rfl
  · obtain ⟨p, dx, b, l, vb, vl, n, v, rfl, hp, hb, hl, ne, h0, h1, hz, q⟩ := h
    refine ⟨_, (pss_cons (ps_asg (pv 2) (pg_sub (pe_fld (pv 0) rfl) (pv 1) set_list))
      (pss_one (ps_expr (pe_bm PySem.F.plainAttrs_list PySem.F.slot_list_append PySem.F.type_list_append mt_append (pe_fld (pv 0) rfl) (pa_cons (pe_tup (pa_cons pe_str (pa_cons (pv 1) (pa_cons (pv 2) pa_nil)))) pa_nil))))), ?_⟩
    have npb : p ≠ b := ne_of hp hb (by intro z; cases z)
    have hp1 : ∀ o, (upd H b o) p = some (.ins g.Disk dx (flds b l)) := fun o => by rw [upd_ne npb]; exact hp
    have hl1 : ∀ o, (upd H b o) l = some (.lst vl) := fun o => by rw [upd_ne ne.symm]; exact hl
    refine ⟨_, rfl, _, rfl, p, g.Disk, dx, _, _, rfl, hp, T.c_Disk, T.n_Disk_blocks, flds_b _ _, _, rfl, b, vb, n, n.toNat, rfl, rfl, hb, ixN_ok h0 h1, ?_⟩
    refine ⟨_, rfl, p, g.Disk, dx, _, _, rfl, hp1 _, T.c_Disk, T.n_Disk_log, flds_l _ _, .inl ⟨rfl, vl, SqL.of (hl1 _)⟩, ?_⟩
    refine ⟨_, rfl, _, rfl, by show 3 ≤ sizeLine; decide, fun t ht => ?_⟩
    have nlt : l ≠ t := ne_of_none (hl1 _) ht
    have ht' : H t = none := by
      by_cases z : t = b
      · rw [z, upd_same] at ht; cases ht
      · rw [upd_ne z] at ht; exact ht
    refine ⟨l, vl, _, rfl, rfl, (by rw [upd_ne nlt]; exact hl1 _), small1000 hz, ?_⟩
    exact q t ht'
theorem ims_rep {H : Hp} {v : V} {d : PyData} (h : Im H v d) : ∀ n : Nat, Ims H (List.replicate n v) (List.replicate n d)
  | 0 => .nil
  | n + 1 => .cons h (ims_rep h n)
theorem sc_Disk_init : FnScope ["self", "count"] ["self", "count"] (defScope s_Disk_init) := ⟨rfl, rfl, rfl, by decide +kernel, rfl, by decide +kernel, by decide +kernel⟩
theorem ok_Disk_init (T : Tx K mg g) : FnOk P w K mg base (CXE P w) 1 g.Disk_init g.Disk_init_d ["self", "count"] (spInit g.Disk g.TooGreat) := by
  refine T.F_Disk_init.okE sc_Disk_init (fun vs H Q E h => ?_) (fun cdv A outer s H vs Q E hr h => ?_)
  · obtain ⟨p, dx, n, rfl, _⟩ := h
    rfl
  · obtain ⟨p, dx, n, rfl, hp, hE, q⟩ := h
    refine ⟨_, (pss_cons (ps_if (PW.pt (pw_or (pt_cmpR op_lt (pv 1) (pe_glob (v := .int 16) rfl T.g_FEWEST_BLOCKS ⟨_, rfl⟩) (nomark _)) (pw_or1 (pt_cmpR op_gt (pv 1) (pe_glob (v := .int 256) rfl T.g_MOST_BLOCKS ⟨_, rfl⟩) (nomark _))))) (pss_one (ps_raise T.x_TooGreat rfl T.m_TooGreat (pa_cons pe_str pa_nil))) pss_nil)
      (pss_cons (ps_fld (pv 0) (pe_comp (own := ["number"]) (fv := []) (ix := []) (comp_scope (sc := defScope s_Disk_init) (N := ["self", "count"]) rfl rfl (by decide +kernel)) rfl (pi_range1 rfl T.z_range (pa_cons (pv 1) pa_nil)) (fun _ _ _ _ _ => pg_name (i := 0) (show (["number"] : List Str).Nodup from by decide +kernel) rfl (Or.inl rfl) (Or.inr rfl)) (fun _ _ _ _ _ => pif_nil) (fun _ _ _ _ _ => (pe_op op_repT (pe_tup (pa_cons pe_int pa_nil)) (pe_glob (v := .int 64) rfl T.g_BLOCK_BYTES ⟨_, rfl⟩)))) rfl)
      (pss_one (ps_fld (pv 0) (pe_lst pa_nil) rfl)))), ?_⟩
    refine ⟨_, rfl, _, _, rfl, rfl, _, rfl, ?_⟩
    by_cases h1 : n < 16
    · rw [decide_eq_true h1]
      refine iteT (iteT ?_)
      exact ⟨by show 1 ≤ sizeLine; decide, hE (.inl h1)⟩
    · rw [decide_eq_false h1]
      refine iteF ⟨_, rfl, _, _, rfl, rfl, _, rfl, ?_⟩
      by_cases h2 : 256 < n
      · rw [decide_eq_true h2]
        refine iteT ?_
        exact ⟨by show 1 ≤ sizeLine; decide, hE (.inr h2)⟩
      · rw [decide_eq_false h2]
        refine iteF ?_
        have h1' : 16 ≤ n := by omega
        have h2' : n ≤ 256 := by omega
        -- self.blocks = [(0,) * BLOCK_BYTES for number in range(count)]
        refine ⟨_, rfl, n, rfl, by omega, by omega, fun D hD => ?_⟩
        have npD : p ≠ D := ne_of_none hp hD
        have hnL : n.toNat ≤ sizeLine := by
          have : (256 : Nat) ≤ sizeLine := by decide
          omega
        refine comp_range (tOp rRepT (tTup (tCons (tC (V.int 0)) tNil)) (tC (V.int 64))) (n := n.toNat) (lo := 0) (fun i ys H' => ys.length = i ∧ H' D = some (.lst ys) ∧ Ims H' ys (List.replicate i zeros) ∧ Same H H') ⟨rfl, upd_same, .nil, same_new hD⟩ hnL (fun i ys H' h => ⟨h.2.1, Nat.le_of_eq h.1⟩) (fun i ys H' N hi h k => ?_) (fun ys H' h => ?_)
        · obtain ⟨e1, e2, e3, e4⟩ := h
          refine ⟨by show 1 ≤ sizeLine; decide, fun t ht => ?_⟩
          refine ⟨t, 64, [.int 0], rfl, rfl, upd_same, by simp, by decide, by decide, by show 1 * 64 ≤ sizeLine; decide, fun u hu => ?_⟩
          have ntD : D ≠ t := ne_of_none e2 ht
          have nuD : D ≠ u := ne_of_none (H := upd H' t (.tup [.int 0])) (by rw [upd_ne ntD]; exact e2) hu
          have sm : Same H' (upd (upd H' t (.tup [.int 0])) u (.tup (List.replicate (64 : Int).toNat [V.int 0]).flatten)) := (same_new ht).trans (same_new hu)
          have hD5 : (upd (upd H' t (.tup [.int 0])) u (.tup (List.replicate (64 : Int).toNat [V.int 0]).flatten)) D = some (.lst ys) := sm _ _ e2
          refine k _ _ hD5 ⟨by rw [List.length_append, e1]; rfl, upd_same, ?_, ?_⟩
          · have hz : Im (upd (upd (upd H' t (.tup [.int 0])) u (.tup (List.replicate (64 : Int).toNat [V.int 0]).flatten)) D (.lst (ys ++ [.ref u]))) (.ref u) zeros := by
              refine .tup (xs := List.replicate 64 (V.int 0)) ?_ (ims_rep (.int 0) 64)
              rw [upd_ne nuD.symm, upd_same]
              rw [rep_flat]
              rfl
            rw [List.replicate_succ']
            refine Ims.snoc hz (Ims.keep (fun a xs e => ?_) e3)
            have e' := sm _ _ e
            have : a ≠ D := ne_of e e2 (by intro z; cases z)
            rw [upd_ne this]
            exact e'
          · intro b o e
            have : b ≠ D := fun z => by rw [z, hD] at e; cases e
            rw [upd_ne this]
            exact sm _ _ (e4 _ _ e)
        · obtain ⟨e1, e2, e3, e4⟩ := h
          have hp' : H' p = some (.ins g.Disk dx []) := e4 _ _ hp
          refine ⟨_, rfl, p, g.Disk, dx, [], rfl, hp', T.c_Disk, T.n_Disk_blocks, (by show 0 < 1000; decide), ?_⟩
          refine ⟨Nat.zero_le _, fun L hL => ?_⟩
          have npL : p ≠ L := ne_of_none (H := upd H' p (.ins g.Disk dx (putF "blocks" (.ref D) []))) upd_same hL
          have nDL : D ≠ L := ne_of_none (H := upd H' p (.ins g.Disk dx (putF "blocks" (.ref D) []))) (by rw [upd_ne npD.symm]; exact e2) hL
          have hL' : H' L = none := by rw [upd_ne npL.symm] at hL; exact hL
          refine ⟨_, rfl, p, g.Disk, dx, _, rfl, (by rw [upd_ne npL, upd_same]), T.c_Disk, T.n_Disk_log, (by show 1 < 1000; decide), ?_⟩
          have hLH : H L = none := by
            cases z : H L with
            | none => rfl
            | some o => have := e4 _ _ z; rw [hL'] at this; cases this
          refine q h1' h2' D L ys _ hD hLH ⟨⟨dx, upd_same⟩, ?_, ?_, ?_, .nil, nDL⟩ fun c o e hc => ?_
          · rw [upd_ne npD.symm, upd_ne nDL, upd_ne npD.symm]; exact e2
          · rw [upd_ne npL.symm, upd_same]
          · refine Ims.keep (fun a xs e => ?_) e3
            have a1 : a ≠ p := ne_of e hp' (by intro z; cases z)
            have a2 : a ≠ L := ne_of_none e hL'
            rw [upd_ne a1, upd_ne a2, upd_ne a1]
            exact e
          · have c2 : c ≠ L := ne_of_none e hLH
            rw [upd_ne hc, upd_ne c2, upd_ne hc]
            exact e4 _ _ e
end
end KS


set_option Elab.async false
set_option maxHeartbeats 4000000
set_option maxRecDepth 100000
set_option linter.all false
namespace KS
open PySem L2
theorem no_rd (b l : Addr) : (flds b l).lookup ("read" : Str) = none := flds_no b l (by decide +kernel) (by decide +kernel)
theorem no_wr (b l : Addr) : (flds b l).lookup ("write" : Str) = none := flds_no b l (by decide +kernel) (by decide +kernel)
/-- a disk whose first two blocks are noughts -/
structure Blank (C : Addr) (H : Hp) (p : Addr) : Prop where
  ex : ∃ dx b l vb z0 z1, H p = some (.ins C dx (flds b l)) ∧ H b = some (.lst vb) ∧ vb[0]? = some (.ref z0) ∧ vb[1]? = some (.ref z1) ∧ H z0 = some (.tup (List.replicate 64 (.int 0))) ∧ H z1 = some (.tup (List.replicate 64 (.int 0)))
theorem Blank.same {C : Addr} {H H' : Hp} {p : Addr} (h : Blank C H p) (s : Same H H') : Blank C H' p := by
  obtain ⟨dx, b, l, vb, z0, z1, h1, h2, h3, h4, h5, h6⟩ := h.ex
  exact ⟨dx, b, l, vb, z0, z1, s _ _ h1, s _ _ h2, h3, h4, s _ _ h5, s _ _ h6⟩
section
variable {P : Program} {w : World} {K : PySem.W.Frag} {mg : Str → Option Value} {base : Heap} {g : Gs}
def spNewest (g : Gs) : Sp := fun vs H Q _ => ∃ p, vs = [.ref p] ∧ Blank g.Disk H p ∧ ∀ t, H t = none → Q (.ref t) (upd H t (.tup [.int 0, .int 1]))
theorem sc_newest_first : FnScope ["disk", "first", "second"] ["disk"] (defScope s_newest_first) := ⟨rfl, rfl, rfl, by decide +kernel, rfl, by decide +kernel, by decide +kernel⟩
theorem ok_newest_first (T : Tx K mg g) : FnOk P w K mg base (CXE P w) 5 g.newest_first g.newest_first_d ["disk"] (spNewest g) := by
  refine T.F_newest_first.okE sc_newest_first (fun vs H Q E h => ?_) (fun cdv A outer s H vs Q E hr h => ?_)
  · obtain ⟨p, rfl, _⟩ := h
    rfl
  · obtain ⟨p, rfl, B, q⟩ := h
    obtain ⟨dx, b, l, vb, z0, z1, hp, hb, h0, h1, hz0, hz1⟩ := B.ex
    refine ⟨_, (pss_cons (ps_set (i := 1) sc_newest_first.nd rfl (Or.inl rfl) (pe_meth (pv 0) T.c_Disk T.h_Disk_read (ok_Disk_read T) (hr.mono (by decide)) T.b_Disk_read .nil passes_def (pa_cons pe_int pa_nil)))
      (pss_cons (ps_set (i := 2) sc_newest_first.nd rfl (Or.inl rfl) (pe_meth (pv 0) T.c_Disk T.h_Disk_read (ok_Disk_read T) (hr.mono (by decide)) T.b_Disk_read .nil passes_def (pa_cons pe_int pa_nil)))
      (pss_cons (ps_if (PW.pt (pw_or (pt_cmp (pc_isN (pv 1))) (pw_or1 (pt_cmp (pc_isN (pv 2)))))) (pss_one (ps_ret (pe_tup (pa_cons pe_int (pa_cons pe_int pa_nil))))) pss_nil)
      (pss_cons (ps_if (pt_cmpR op_eq (pe_op op_mod (pe_op op_sub (pe_ix ix_tup (pv 2) (pe_glob (v := .int 4) rfl T.g_TURN_PLACE ⟨_, rfl⟩) (fun _ _ => rfl)) (pe_ix ix_tup (pv 1) (pe_glob (v := .int 4) rfl T.g_TURN_PLACE ⟨_, rfl⟩) (fun _ _ => rfl))) (pe_glob (v := .int 256) rfl T.g_TURNS ⟨_, rfl⟩)) pe_int (nomark _)) (pss_one (ps_ret (pe_tup (pa_cons pe_int (pa_cons pe_int pa_nil))))) pss_nil)
      (pss_one (ps_ret (pe_tup (pa_cons pe_int (pa_cons pe_int pa_nil))))))))), ?_⟩
    refine ⟨_, rfl, p, dx, _, rfl, hp, no_rd _ _, p, dx, b, l, vb, 0, _, rfl, hp, hb, by decide, h0, ?_⟩
    refine ⟨_, rfl, p, dx, _, rfl, hp, no_rd _ _, p, dx, b, l, vb, 1, _, rfl, hp, hb, by decide, h1, ?_⟩
    refine ⟨_, rfl, _, rfl, iteF ⟨_, rfl, _, rfl, iteF ?_⟩⟩
    refine ⟨_, rfl, z1, _, 4, .int 0, rfl, rfl, SqT.of hz1, rfl, _, rfl, z0, _, 4, .int 0, rfl, rfl, SqT.of hz0, rfl, _, _, rfl, rfl, _, _, rfl, rfl, (by show (0 : Int) < 256; decide), rfl, _, rfl, iteF ?_⟩
    exact ⟨by show 2 ≤ sizeLine; decide, fun t ht => q t ht⟩
def spFilesOf (g : Gs) : Sp := fun vs H _ E => ∃ p, ∃ n : Int, vs = [.ref p, .int n] ∧ Blank g.Disk H p ∧ (n = 0 ∨ n = 1) ∧ ∀ H', Same H H' → E (.ref g.NoFiles) none H'
theorem neMark : (!PyData.eqv (.tuple [.int 0, .int 0, .int 0, .int 0]) (.tuple [.int 83, .int 116, .int 105, .int 108])) = true := by decide
theorem sc_files_of : FnScope ["disk", "slot", "block", "reader", "state", "kept", "image"] ["disk", "slot"] (defScope s_files_of) := ⟨rfl, rfl, rfl, by decide +kernel, rfl, by decide +kernel, by decide +kernel⟩
theorem ok_files_of (T : Tx K mg g) : FnOk P w K mg base (CXE P w) 10 g.files_of g.files_of_d ["disk", "slot"] (spFilesOf g) := by
  refine T.F_files_of.okE sc_files_of (fun vs H Q E h => ?_) (fun cdv A outer s H vs Q E hr h => ?_)
  · obtain ⟨p, n, rfl, _⟩ := h
    rfl
  · obtain ⟨p, n, rfl, B, hn, q⟩ := h
    have hu64 := hr.units
    obtain ⟨dx, b, l, vb, z0, z1, hp, hb, h0, h1, hz0, hz1⟩ := B.ex
    have key : ∃ z, vb[n.toNat]? = some (.ref z) ∧ H z = some (.tup (List.replicate 64 (.int 0))) := by
      rcases hn with rfl | rfl
      · exact ⟨z0, h0, hz0⟩
      · exact ⟨z1, h1, hz1⟩
    obtain ⟨z, hv, hz⟩ := key
    refine ⟨_, (pss_cons (ps_set (i := 2) sc_files_of.nd rfl (Or.inl rfl) (pe_meth (pv 0) T.c_Disk T.h_Disk_read (ok_Disk_read T) (hr.mono (by decide)) T.b_Disk_read .nil passes_def (pa_cons (pv 1) pa_nil)))
      (pss_cons (ps_if (PW.pt (pw_or (pt_cmp (pc_isN (pv 2))) (pw_or1 (pt_cmpR (op_neT hu64) (pe_slice sl_tup (pv 2) po_none (po_some (pe_callB call_len_seq (by rfl) T.z_len PySem.boot_len (pa_cons (pe_glob (v := .ref g.MARK) rfl T.g_MARK rfl) pa_nil)))) (pe_glob (v := .ref g.MARK) rfl T.g_MARK rfl) (nomark _))))) (pss_one (ps_raise T.x_NoFiles rfl T.m_NoFiles (pa_cons pe_str pa_nil))) pss_nil)
      pss_never)), ?_⟩
    refine ⟨_, rfl, p, dx, _, rfl, hp, no_rd _ _, _, rfl, p, dx, b, l, vb, n, _, rfl, hp, hb, by omega, hv, ?_⟩
    refine ⟨_, rfl, _, rfl, iteF ?_⟩
    refine ⟨_, rfl, g.MARK, _, rfl, .inr (T.q_MARK _), _, rfl, z, _, rfl, SqT.of hz, (by decide), fun t ht => ?_⟩
    refine ⟨.tuple [.int 0, .int 0, .int 0, .int 0], .tuple [.int 83, .int 116, .int 105, .int 108], .inl (.inl (.tup upd_same ?_)), .inr ⟨g.MARK, _, _, rfl, rfl, T.q_MARK _, .cons (.int _) (.cons (.int _) (.cons (.int _) (.cons (.int _) .nil)))⟩, rfl, rfl, _, rfl, ?_⟩
    · exact (.cons (.int 0) (.cons (.int 0) (.cons (.int 0) (.cons (.int 0) .nil))))
    · rw [neMark]
      refine iteT ?_
      exact ⟨by show 1 ≤ sizeLine; decide, q _ (same_new ht)⟩
def spMounted (g : Gs) : Sp := fun vs H _ E => ∃ p, vs = [.ref p] ∧ Blank g.Disk H p ∧ ∀ H', Same H H' → E (.ref g.NoFiles) none H'
theorem sc_mounted : FnScope ["disk", "slot", "files"] ["disk"] (defScope s_mounted) := ⟨rfl, rfl, rfl, by decide +kernel, rfl, by decide +kernel, by decide +kernel⟩
theorem ok_mounted (T : Tx K mg g) : FnOk P w K mg base (CXE P w) 11 g.mounted g.mounted_d ["disk"] (spMounted g) := by
  refine T.F_mounted.okE sc_mounted (fun vs H Q E h => ?_) (fun cdv A outer s H vs Q E hr h => ?_)
  · obtain ⟨p, rfl, _⟩ := h
    rfl
  · obtain ⟨p, rfl, B, q⟩ := h
    refine ⟨_, pss_cons (ps_for PassesOwn.leaving rfl (pi_tup (pe_call (ok_newest_first T) (hr.mono (by decide)) rfl T.m_newest_first T.F_newest_first.kp T.b_newest_first .nil passes_def (pa_cons (pv 0) pa_nil))) (pg_name (i := 1) sc_mounted.nd rfl (Or.inl rfl))
        (pss_cons (ps_tryN (X := cxOf (CXE P w) P w K mg base ["disk", "slot", "files"] "mounted" (defScope s_mounted) g.mounted cdv A outer s H E) (tb := fun E => tAsg (tCall (spFilesOf g) [] E (tCons (tVar 0) (tCons (tVar 1) tNil))) (gName 2)) rfl rfl rfl rfl T.m_NoFiles T.t_NoFiles
          (fun pn E' E hE => pss_one (ps_set (i := 2) sc_mounted.nd rfl (Or.inl rfl) (pe_call (ok_files_of T) (hr.mono (by decide)) rfl T.m_files_of T.F_files_of.kp T.b_files_of .nil hE (pa_cons (pv 0) (pa_cons (pv 1) pa_nil)))))
          (fun a => pss_one ps_continue)) (pss_one (ps_ret (pv 2)))))
      (pss_one (ps_raise T.x_NoFiles rfl T.m_NoFiles (pa_cons pe_str pa_nil))), ?_⟩
    refine ⟨_, rfl, p, rfl, B, fun t ht => ?_⟩
    refine ⟨t, rfl, ⟨_, SqT.of upd_same⟩, ?_⟩
    refine for_tup (xs := [.int 0, .int 1]) (fun i σ H' => σ.length = 3 ∧ σ[0]? = some (some (.ref p)) ∧ Same (upd H t (.tup [.int 0, .int 1])) H') ⟨rfl, rfl, Same.refl _⟩ (fun i σ H' _ h => SqT.of (h.2.2 _ _ upd_same)) (fun i x σ H' hx h => ?_) (fun σ H' h => ?_)
    · obtain ⟨hl, h0, sm⟩ := h
      have B' : Blank g.Disk H' p := B.same ((same_new ht).trans sm)
      have hx' : ∃ n : Int, x = .int n ∧ (n = 0 ∨ n = 1) := by
        match i, hx with
        | 0, hx => cases hx; exact ⟨0, rfl, .inl rfl⟩
        | 1, hx => cases hx; exact ⟨1, rfl, .inr rfl⟩
      obtain ⟨n, rfl, hn⟩ := hx'
      match σ, hl, h0 with
      | [_, o1, o2], _, h0 =>
        cases h0
        refine ⟨_, rfl, _, rfl, p, n, rfl, B', hn, fun H2 s2 => ⟨g.NoFiles, rfl, T.sub_NoFiles, fun a na => ?_⟩⟩
        exact ⟨rfl, rfl, sm.trans (s2.trans (same_new na))⟩
    · exact ⟨by show 1 ≤ sizeLine; decide, q _ ((same_new ht).trans h.2.2)⟩
def spLMounted (g : Gs) : Sp := fun vs H Q _ => ∃ p, vs = [.ref p] ∧ Blank g.Disk H p ∧ ∀ H', Same H H' → Q (.str "NoFiles") H'
theorem sc__law_mounted : FnScope ["_law_disk", "_law_e"] ["_law_disk"] (defScope s__law_mounted) := ⟨rfl, rfl, rfl, by decide +kernel, rfl, by decide +kernel, by decide +kernel⟩
theorem ok__law_mounted (T : Tx K mg g) : FnOk P w K mg base (CXE P w) 12 g._law_mounted g._law_mounted_d ["_law_disk"] (spLMounted g) := by
  refine T.F__law_mounted.okE sc__law_mounted (fun vs H Q E h => ?_) (fun cdv A outer s H vs Q E hr h => ?_)
  · obtain ⟨p, rfl, _⟩ := h
    rfl
  · obtain ⟨p, rfl, B, q⟩ := h
    refine ⟨_, pss_one (ps_try (X := cxOf (CXE P w) P w K mg base ["_law_disk", "_law_e"] "_law_mounted" (defScope s__law_mounted) g._law_mounted cdv A outer s H E) (i := 1)
      (tb := fun E => tRet (tOp (rIxT K) (tMeth g.Files "stat" (fun _ _ _ _ => False) [] E (tCall (spMounted g) [] E (tCons (tVar 0) tNil)) (tCons (tC (.int 0)) tNil)) (tC (.int 0))))
      rfl rfl rfl rfl T.m_NoFiles T.t_NoFiles sc__law_mounted.nd rfl rfl
      (fun pn E' E hE => pss_one (ps_ret (pe_ix ix_tup (pe_meth (pe_call (ok_mounted T) (hr.mono (by decide)) rfl T.m_mounted T.F_mounted.kp T.b_mounted .nil hE (pa_cons (pv 0) pa_nil)) T.c_Files T.h_Files_stat (FnOk.never (CX := CXE P w) (k := 1)) (hr.mono (by decide)) T.b_Files_stat .nil hE (pa_cons pe_int pa_nil)) pe_int (fun _ _ => rfl))))
      (fun a => pss_one (ps_ret (pe_callH (ok__law_word T) ((hr.mono (by decide)).hot _) rfl T.m__law_word T.F__law_word.kp T.b__law_word (pa_cons (pv 1) pa_nil))))), ?_⟩
    refine ⟨_, rfl, p, rfl, B, fun H1 s1 => ⟨g.NoFiles, rfl, T.sub_NoFiles, fun a na => ?_⟩⟩
    refine ⟨_, rfl, a, .noFiles, rfl, .inl upd_same, fun H' sm => ?_⟩
    exact q H' (s1.trans ((same_new na).trans sm))
/-! ### the law -/
def spLaw (K : PySem.W.Frag) : Sp := fun vs H Q _ => ∃ (a : Addr) (ns : List Int), vs = [.ref a] ∧ SqL K H a (ns.map V.int) ∧ ns.length ≤ 63 ∧ ∀ H', Q (.bl true) H'
/-- an exception of the class at C, made of the text m -/
def MadeX (H : Hp) (e C : Addr) (m : Str) : Prop := ∃ u, H e = some (xobA e (.ref C) u) ∧ H u = some (.tup [.str m])
theorem MadeX.same {H H' : Hp} {e C : Addr} {m : Str} (h : MadeX H e C m) (s : Same H H') : MadeX H' e C m := by
  obtain ⟨u, h1, h2⟩ := h
  exact ⟨u, s _ _ h1, s _ _ h2⟩
theorem made_new {H : Hp} {e u C : Addr} {m : Str} (he : H e = none) (hu : H u = none) (ne : e ≠ u) : Same H (upd (upd H u (.tup [.str m])) e (xobA e (.ref C) u)) ∧ MadeX (upd (upd H u (.tup [.str m])) e (xobA e (.ref C) u)) e C m := by
  refine ⟨fun b o q => ?_, u, upd_same, ?_⟩
  · rw [upd_ne (ne_of_none q he), upd_ne (ne_of_none q hu)]; exact q
  · rw [upd_ne ne.symm, upd_same]
theorem sum_ones : ∀ (xs : List Str) (a : Nat), (∀ x ∈ xs, x.length = 1) → xs.foldl (fun n x => n + x.length + Str.length "") a = a + xs.length
  | [], a, _ => rfl
  | x :: r, a, h => by
    rw [List.foldl_cons, sum_ones r _ fun y hy => h y (List.mem_cons_of_mem _ hy), h x List.mem_cons_self, List.length_cons]
    show a + 1 + 0 + r.length = _
    omega
theorem not_long {xs : List Str} (h : ∀ x ∈ xs, x.length = 1) (hl : xs.length ≤ 9) : Builtin.Str.tooLong (xs.toArray.foldl (fun n x => n + x.length + Str.length "") 0) = false := by
  have e : xs.toArray.foldl (fun n x => n + x.length + Str.length "") 0 = xs.length := by
    rw [List.foldl_toArray, sum_ones xs 0 h, Nat.zero_add]
  rw [e]
  unfold Builtin.Str.tooLong
  have : (9 : Nat) ≤ sizeLine := by decide
  rw [decide_eq_false_iff_not]
  omega
theorem Ims.get {H : Hp} : ∀ {vs : List V} {ds : List PyData} {i : Nat} {d : PyData}, Ims H vs ds → ds[i]? = some d → ∃ v, vs[i]? = some v ∧ Im H v d
  | _, _, _, _, .nil, h => by simp at h
  | _, _, 0, _, .cons a r, h => by simp at h; subst h; exact ⟨_, rfl, a⟩
  | _, _, i + 1, d, .cons a r, h => by
    obtain ⟨v, h1, h2⟩ := Ims.get (i := i) r (by simpa using h)
    exact ⟨v, by simpa using h1, h2⟩
theorem ims_rep_inv {H : Hp} : ∀ {n : Nat} {vs : List V}, Ims H vs (List.replicate n (.int 0)) → vs = List.replicate n (.int 0)
  | 0, _, h => by cases h; rfl
  | n + 1, _, h => by
    rw [List.replicate_succ] at h
    cases h with
    | cons a r =>
      cases a
      rw [ims_rep_inv r, List.replicate_succ]
theorem zero_block {H : Hp} {vb : List V} {n i : Nat} (h : Ims H vb (List.replicate n zeros)) (hi : i < n) : ∃ z, vb[i]? = some (.ref z) ∧ H z = some (.tup (List.replicate 64 (.int 0))) := by
  obtain ⟨v, h1, h2⟩ := Ims.get h (i := i) (d := zeros) (by rw [List.getElem?_replicate, if_pos hi])
  unfold zeros at h2
  cases h2 with
  | tup e r => exact ⟨_, h1, by rw [e, ims_rep_inv r]⟩
theorem not_long2 {xs : List Str} (h : ∀ x ∈ xs, x.length = 1) (hl : xs.length ≤ 9) : (Builtin.Str.glued "" xs).length ≤ sizeLine := by
  have e : ∀ ys : List Str, (∀ x ∈ ys, x.length = 1) → (ys.map (·.length)).sum = ys.length := by
    intro ys
    induction ys with
    | nil => intro _; rfl
    | cons y r ih => intro h; rw [List.map_cons, List.sum_cons, ih fun x hx => h x (List.mem_cons_of_mem _ hx), h y List.mem_cons_self, List.length_cons]; omega
  have : (9 : Nat) ≤ sizeLine := by decide
  rw [PySem.size_glued, e xs h]
  show xs.length + (xs.length - 1) * 0 ≤ sizeLine
  omega
def esOf (e0 e1 e2 e3 e4 e5 e6 e7 e8 e9 : Addr) : Rf → Addr
  | .noThing => e0 | .noDirectory => e1 | .badName => e2 | .isThere => e3 | .noRoom => e4 | .notEmpty => e5 | .wrongKind => e6 | .tooGreat => e7 | .readOnly => e8 | .noFiles => e9
theorem rfs_at {i : Nat} (h : i < 10) : ∃ r : Rf, rfs[i]? = some r ∧ rfIx r = i := by
  match i, h with
  | 0, _ => exact ⟨_, rfl, rfl⟩
  | 1, _ => exact ⟨_, rfl, rfl⟩
  | 2, _ => exact ⟨_, rfl, rfl⟩
  | 3, _ => exact ⟨_, rfl, rfl⟩
  | 4, _ => exact ⟨_, rfl, rfl⟩
  | 5, _ => exact ⟨_, rfl, rfl⟩
  | 6, _ => exact ⟨_, rfl, rfl⟩
  | 7, _ => exact ⟨_, rfl, rfl⟩
  | 8, _ => exact ⟨_, rfl, rfl⟩
  | 9, _ => exact ⟨_, rfl, rfl⟩
theorem sc_law : FnScope ["_law_script", "_law_words", "_law_made", "_law_names", "_law_k", "_law_count", "_law_disk"] ["_law_script"] (defScope s_law) := ⟨rfl, rfl, rfl, by decide +kernel, rfl, by decide +kernel, by decide +kernel⟩
theorem ok_law (T : Tx K mg g) : FnOk P w K mg base CX0 13 g.law g.law_d ["_law_script"] (spLaw K) := by
  refine T.F_law.ok sc_law (fun vs H Q E h => ?_) (fun cdv A outer s H vs Q E hr h => ?_)
  · obtain ⟨a, ns, rfl, _⟩ := h
    rfl
  · obtain ⟨a, ns, rfl, hS, hlen, q⟩ := h
    have hu64 := hr.units
    refine ⟨_, (pss_cons (ps_set (i := 1) sc_law.nd rfl (Or.inl rfl) (pe_bm PySem.F.plainAttrs_str PySem.F.slot_str_join PySem.F.type_str_join mt_sjoin pe_str (pa_cons (pe_comp (own := ["_law_k"]) (fv := ["_law_script"]) (ix := [0]) (comp_scope (sc := defScope s_law) (N := ["_law_script", "_law_words", "_law_made", "_law_names", "_law_k", "_law_count", "_law_disk"]) rfl rfl (by decide +kernel)) rfl (pi_range1 rfl T.z_range (pa_cons (pe_op op_mod (pe_call (ok__law_cell T) (hr.mono (by decide)) rfl T.m__law_cell T.F__law_cell.kp T.b__law_cell .nil passN (pa_cons (pv 0) (pa_cons pe_int pa_nil))) pe_int) pa_nil)) (fun _ _ _ _ _ => pg_name (i := 0) (show (["_law_k", "_law_script"] : List Str).Nodup from by decide +kernel) rfl (Or.inl rfl) (Or.inr rfl)) (fun _ _ _ _ _ => pif_nil) (fun _ _ _ _ _ => (pe_ix ix_str pe_str (pe_op op_mod (pe_call (ok__law_drawn T) (hr.mono (by decide)) rfl T.m__law_drawn T.F__law_drawn.kp T.b__law_drawn .nil passN (pa_cons (pe_call (ok__law_cell T) (hr.mono (by decide)) rfl T.m__law_cell T.F__law_cell.kp T.b__law_cell .nil passN (pa_cons (pv 1) (pa_cons (pv 0) pa_nil))) (pa_cons (pv 0) pa_nil))) pe_int) (fun _ _ => rfl)))) pa_nil)))
      (pss_cons (ps_set (i := 2) sc_law.nd rfl (Or.inl rfl) (pe_lst (pa_cons (pe_mkx T.x_NoThing T.k_NoThing rfl T.m_NoThing (pa_cons (pv 1) pa_nil)) (pa_cons (pe_mkx T.x_NoDirectory T.k_NoDirectory rfl T.m_NoDirectory (pa_cons (pv 1) pa_nil)) (pa_cons (pe_mkx T.x_BadName T.k_BadName rfl T.m_BadName (pa_cons (pv 1) pa_nil)) (pa_cons (pe_mkx T.x_IsThere T.k_IsThere rfl T.m_IsThere (pa_cons (pv 1) pa_nil)) (pa_cons (pe_mkx T.x_NoRoom T.k_NoRoom rfl T.m_NoRoom (pa_cons (pv 1) pa_nil)) (pa_cons (pe_mkx T.x_NotEmpty T.k_NotEmpty rfl T.m_NotEmpty (pa_cons (pv 1) pa_nil)) pa_nil))))))))
      (pss_cons (ps_set (i := 2) sc_law.nd rfl (Or.inl rfl) (pe_op op_cat (pv 2) (pe_lst (pa_cons (pe_mkx T.x_WrongKind T.k_WrongKind rfl T.m_WrongKind (pa_cons (pv 1) pa_nil)) (pa_cons (pe_mkx T.x_TooGreat T.k_TooGreat rfl T.m_TooGreat (pa_cons (pv 1) pa_nil)) (pa_cons (pe_mkx T.x_ReadOnly T.k_ReadOnly rfl T.m_ReadOnly (pa_cons (pv 1) pa_nil)) (pa_cons (pe_mkx T.x_NoFiles T.k_NoFiles rfl T.m_NoFiles (pa_cons (pv 1) pa_nil)) pa_nil)))))))
      (pss_cons (ps_set (i := 3) sc_law.nd rfl (Or.inl rfl) (pe_lst (pa_cons pe_str (pa_cons pe_str (pa_cons pe_str (pa_cons pe_str (pa_cons pe_str (pa_cons pe_str (pa_cons pe_str (pa_cons pe_str (pa_cons pe_str pa_nil)))))))))))
      (pss_cons (ps_for PassesOwn.never rfl (pi_range1 rfl T.z_range (pa_cons pe_int pa_nil)) (pg_name (i := 4) sc_law.nd rfl (Or.inl rfl)) (pss_one (ps_if (PW.pt (pw_or (pt_cmpR op_ne (pe_callTy (call_strX hu64) rfl T.z_str PyProof.Rows.Boot.«str» (pa_cons (pe_ix ix_list (pv 2) (pv 4) (fun _ _ => rfl)) pa_nil)) (pv 1) (nomark _)) (pw_or1 (pt_cmpR op_ne (pe_call (ok__law_word T).calm (hr.mono (by decide)) rfl T.m__law_word T.F__law_word.kp T.b__law_word .nil pass0 (pa_cons (pe_ix ix_list (pv 2) (pv 4) (fun _ _ => rfl)) pa_nil)) (pe_ix ix_list (pe_op op_cat (pv 3) (pe_lst (pa_cons pe_str pa_nil))) (pv 4) (fun _ _ => rfl)) (nomark _))))) (pss_one (ps_ret pe_bl)) pss_nil)))
      (pss_cons (ps_set (i := 5) sc_law.nd rfl (Or.inl rfl) (pe_op op_add pe_int (pe_op op_mod (pe_call (ok__law_cell T) (hr.mono (by decide)) rfl T.m__law_cell T.F__law_cell.kp T.b__law_cell .nil passN (pa_cons (pv 0) (pa_cons pe_int pa_nil))) pe_int)))
      (pss_cons (ps_set (i := 6) sc_law.nd rfl (Or.inl rfl) (pe_make T.mk_Disk (ok_Disk_init T) (hr.mono (by decide)) rfl T.m_Disk T.b_Disk_init .nil passN (pa_cons (pv 5) pa_nil)))
      (pss_cons (ps_if (pt_cmpR op_eq (pe_op op_mod (pe_call (ok__law_cell T) (hr.mono (by decide)) rfl T.m__law_cell T.F__law_cell.kp T.b__law_cell .nil passN (pa_cons (pv 0) (pa_cons pe_int pa_nil))) pe_int) pe_int (nomark _)) (pss_one (ps_expr (pe_meth (pv 6) T.c_Disk T.h_Disk_write (ok_Disk_write T) (hr.mono (by decide)) T.b_Disk_write .nil passN (pa_cons (pe_op op_add pe_int (pe_op op_mod (pe_call (ok__law_cell T) (hr.mono (by decide)) rfl T.m__law_cell T.F__law_cell.kp T.b__law_cell .nil passN (pa_cons (pv 0) (pa_cons pe_int pa_nil))) (pe_op op_sub (pv 5) pe_int))) (pa_cons (pe_callTy call_tuple_of rfl T.z_tuple PyProof.Rows.Boot.«tuple» (pa_cons (pe_comp (own := ["_law_k"]) (fv := ["_law_script"]) (ix := [0]) (comp_scope (sc := defScope s_law) (N := ["_law_script", "_law_words", "_law_made", "_law_names", "_law_k", "_law_count", "_law_disk"]) rfl rfl (by decide +kernel)) rfl (pi_range1 rfl T.z_range (pa_cons pe_int pa_nil)) (fun _ _ _ _ _ => pg_name (i := 0) (show (["_law_k", "_law_script"] : List Str).Nodup from by decide +kernel) rfl (Or.inl rfl) (Or.inr rfl)) (fun _ _ _ _ _ => pif_nil) (fun _ _ _ _ _ => (pe_op op_mod (pe_call (ok__law_cell T) (hr.mono (by decide)) rfl T.m__law_cell T.F__law_cell.kp T.b__law_cell .nil passN (pa_cons (pv 1) (pa_cons (pv 0) pa_nil))) pe_int))) pa_nil)) pa_nil))))) pss_nil)
      (pss_one (ps_ret (pe_cmpR op_in_seq (pe_call (ok__law_mounted T) (hr.mono (by decide)) rfl T.m__law_mounted T.F__law_mounted.kp T.b__law_mounted .nil passN (pa_cons (pv 6) pa_nil)) (pe_lst (pa_cons pe_str (pa_cons pe_str pa_nil))) rfl))))))))))), ?_⟩
    -- the words
    refine ⟨rfl, _, rfl, a, ns, 0, rfl, hS, hlen, by decide, by decide, fun H1 s1 => ?_⟩
    refine ⟨_, _, rfl, rfl, (by show (0 : Int) < 9; decide), ?_⟩
    have c0 : 0 ≤ cellF ns 0 % 9 := Int.emod_nonneg _ (by decide)
    have c1 : cellF ns 0 % 9 < 9 := Int.emod_lt_of_pos _ (by decide)
    refine ⟨_, rfl, by omega, by omega, fun D hD => ?_⟩
    have hSZ : (9 : Nat) ≤ sizeLine := by decide
    refine comp_range _ (n := (cellF ns 0 % 9).toNat) (lo := 0) (fun i ys H' => ∃ xs : List Str, ys = xs.map V.str ∧ xs.length = i ∧ (∀ x ∈ xs, x.length = 1) ∧ H' D = some (.lst ys) ∧ Same H1 H') ⟨[], rfl, rfl, (fun _ h => nomatch h), upd_same, same_new hD⟩ (by omega) (fun i ys H' h => ?_) (fun i ys H' N hi h k => ?_) (fun ys H' h => ?_)
    · obtain ⟨xs, rfl, e, _, h4, _⟩ := h
      exact ⟨h4, by rw [List.length_map]; omega⟩
    · obtain ⟨xs, rfl, e, h3, h4, h5⟩ := h
      have h5' := s1.trans h5
      refine ⟨_, rfl, _, rfl, a, ns, _, rfl, h5'.seq hS, hlen, by omega, by omega, fun H2 s2 => ?_⟩
      refine ⟨_, rfl, _, _, rfl, _, _, rfl, rfl, (by show (0 : Int) < 7; decide), ?_⟩
      generalize hdr : drawF (cellF ns (0 + (i : Nat))) (0 + (i : Nat)) = dd
      have d0 : 0 ≤ dd % 7 := Int.emod_nonneg _ (by decide)
      have d1 : dd % 7 < 7 := Int.emod_lt_of_pos _ (by decide)
      have hc : ∃ c, atI (Str.cps "abc -'x").toList (dd % 7) = some c := by
        generalize dd % 7 = m at d0 d1
        refine ⟨(Str.cps "abc -'x").toList.getD m.toNat 0, atI_ok d0 ?_⟩
        have hl : (Str.cps "abc -'x").toList.length = 7 := by decide
        rw [List.getD_eq_getElem?_getD, List.getElem?_eq_getElem (by omega)]
        rfl
      obtain ⟨c, hc⟩ := hc
      refine ⟨_, _, c, rfl, rfl, (by decide), hc, ?_⟩
      refine k _ _ (s2 _ _ h4) ⟨xs ++ [⟨#[c]⟩], by rw [List.map_append]; rfl, by rw [List.length_append, e]; rfl, fun x hx => ?_, upd_same, fun b o eb => ?_⟩
      · rcases List.mem_append.mp hx with h | h
        · exact h3 x h
        · rw [List.mem_singleton.mp h]; rfl
      · have : b ≠ D := fun z => by rw [z, hD] at eb; cases eb
        rw [upd_ne this]
        exact s2 _ _ (h5 _ _ eb)
    · obtain ⟨xs, rfl, e, h3, h4, h5⟩ := h
      refine ⟨_, D, xs, rfl, rfl, SqL.of h4, not_long h3 (by omega), not_long2 h3 (by omega), ?_⟩
      generalize joinS "" xs = wd
      -- the ten
      refine ⟨_, rfl, by show 1 ≤ sizeLine; decide, fun e0 u0 a0 b0 n0 => ?_⟩
      obtain ⟨t0, m0⟩ := made_new (C := g.NoThing) (m := wd) a0 b0 n0
      generalize upd (upd H' u0 (.tup [.str wd])) e0 (xobA e0 (.ref g.NoThing) u0) = A0 at t0 m0 ⊢
      clear a0 b0 n0
      refine ⟨_, rfl, by show 1 ≤ sizeLine; decide, fun e1 u1 a1 b1 n1 => ?_⟩
      obtain ⟨t1, m1⟩ := made_new (C := g.NoDirectory) (m := wd) a1 b1 n1
      generalize upd (upd A0 u1 (.tup [.str wd])) e1 (xobA e1 (.ref g.NoDirectory) u1) = A1 at t1 m1 ⊢
      clear a1 b1 n1
      refine ⟨_, rfl, by show 1 ≤ sizeLine; decide, fun e2 u2 a2 b2 n2 => ?_⟩
      obtain ⟨t2, m2⟩ := made_new (C := g.BadName) (m := wd) a2 b2 n2
      generalize upd (upd A1 u2 (.tup [.str wd])) e2 (xobA e2 (.ref g.BadName) u2) = A2 at t2 m2 ⊢
      clear a2 b2 n2
      refine ⟨_, rfl, by show 1 ≤ sizeLine; decide, fun e3 u3 a3 b3 n3 => ?_⟩
      obtain ⟨t3, m3⟩ := made_new (C := g.IsThere) (m := wd) a3 b3 n3
      generalize upd (upd A2 u3 (.tup [.str wd])) e3 (xobA e3 (.ref g.IsThere) u3) = A3 at t3 m3 ⊢
      clear a3 b3 n3
      refine ⟨_, rfl, by show 1 ≤ sizeLine; decide, fun e4 u4 a4 b4 n4 => ?_⟩
      obtain ⟨t4, m4⟩ := made_new (C := g.NoRoom) (m := wd) a4 b4 n4
      generalize upd (upd A3 u4 (.tup [.str wd])) e4 (xobA e4 (.ref g.NoRoom) u4) = A4 at t4 m4 ⊢
      clear a4 b4 n4
      refine ⟨_, rfl, by show 1 ≤ sizeLine; decide, fun e5 u5 a5 b5 n5 => ?_⟩
      obtain ⟨t5, m5⟩ := made_new (C := g.NotEmpty) (m := wd) a5 b5 n5
      generalize upd (upd A4 u5 (.tup [.str wd])) e5 (xobA e5 (.ref g.NotEmpty) u5) = A5 at t5 m5 ⊢
      clear a5 b5 n5
      refine ⟨by show 6 ≤ sizeLine; decide, fun p1 hp1 => ?_⟩
      have tp1 := same_new (o := .lst [.ref e0, .ref e1, .ref e2, .ref e3, .ref e4, .ref e5]) hp1
      have fp1 := upd_same (H := A5) (a := p1) (o := .lst [.ref e0, .ref e1, .ref e2, .ref e3, .ref e4, .ref e5])
      generalize upd A5 p1 (.lst [.ref e0, .ref e1, .ref e2, .ref e3, .ref e4, .ref e5]) = B1 at tp1 fp1 ⊢
      clear hp1
      refine ⟨_, rfl, _, rfl, by show 1 ≤ sizeLine; decide, fun e6 u6 a6 b6 n6 => ?_⟩
      obtain ⟨t6, m6⟩ := made_new (C := g.WrongKind) (m := wd) a6 b6 n6
      generalize upd (upd B1 u6 (.tup [.str wd])) e6 (xobA e6 (.ref g.WrongKind) u6) = A6 at t6 m6 ⊢
      clear a6 b6 n6
      refine ⟨_, rfl, by show 1 ≤ sizeLine; decide, fun e7 u7 a7 b7 n7 => ?_⟩
      obtain ⟨t7, m7⟩ := made_new (C := g.TooGreat) (m := wd) a7 b7 n7
      generalize upd (upd A6 u7 (.tup [.str wd])) e7 (xobA e7 (.ref g.TooGreat) u7) = A7 at t7 m7 ⊢
      clear a7 b7 n7
      refine ⟨_, rfl, by show 1 ≤ sizeLine; decide, fun e8 u8 a8 b8 n8 => ?_⟩
      obtain ⟨t8, m8⟩ := made_new (C := g.ReadOnly) (m := wd) a8 b8 n8
      generalize upd (upd A7 u8 (.tup [.str wd])) e8 (xobA e8 (.ref g.ReadOnly) u8) = A8 at t8 m8 ⊢
      clear a8 b8 n8
      refine ⟨_, rfl, by show 1 ≤ sizeLine; decide, fun e9 u9 a9 b9 n9 => ?_⟩
      obtain ⟨t9, m9⟩ := made_new (C := g.NoFiles) (m := wd) a9 b9 n9
      generalize upd (upd A8 u9 (.tup [.str wd])) e9 (xobA e9 (.ref g.NoFiles) u9) = A9 at t9 m9 ⊢
      clear a9 b9 n9
      refine ⟨by show 4 ≤ sizeLine; decide, fun p2 hp2 => ?_⟩
      have tp2 := same_new (o := .lst [.ref e6, .ref e7, .ref e8, .ref e9]) hp2
      have fp2 := upd_same (H := A9) (a := p2) (o := .lst [.ref e6, .ref e7, .ref e8, .ref e9])
      generalize upd A9 p2 (.lst [.ref e6, .ref e7, .ref e8, .ref e9]) = B2 at tp2 fp2 ⊢
      clear hp2
      have r9 := t9.trans tp2
      have r8 := t8.trans r9
      have r7 := t7.trans r8
      have r6 := t6.trans r7
      refine ⟨p1, p2, _, _, rfl, rfl, r6 _ _ fp1, fp2, by show 10 ≤ sizeLine; decide, fun p3 hp3 => ?_⟩
      have tp3 := same_new (o := .lst ([.ref e0, .ref e1, .ref e2, .ref e3, .ref e4, .ref e5] ++ [.ref e6, .ref e7, .ref e8, .ref e9])) hp3
      have fp3 := upd_same (H := B2) (a := p3) (o := .lst ([.ref e0, .ref e1, .ref e2, .ref e3, .ref e4, .ref e5] ++ [.ref e6, .ref e7, .ref e8, .ref e9]))
      generalize upd B2 p3 (.lst ([.ref e0, .ref e1, .ref e2, .ref e3, .ref e4, .ref e5] ++ [.ref e6, .ref e7, .ref e8, .ref e9])) = B3 at tp3 fp3 ⊢
      clear hp3
      refine ⟨by show 9 ≤ sizeLine; decide, fun p4 hp4 => ?_⟩
      have tp4 := same_new (o := .lst [.str "NoThing", .str "NoDirectory", .str "BadName", .str "IsThere", .str "NoRoom", .str "NotEmpty", .str "WrongKind", .str "TooGreat", .str "ReadOnly"]) hp4
      have fp4 := upd_same (H := B3) (a := p4) (o := .lst [.str "NoThing", .str "NoDirectory", .str "BadName", .str "IsThere", .str "NoRoom", .str "NotEmpty", .str "WrongKind", .str "TooGreat", .str "ReadOnly"])
      generalize upd B3 p4 (.lst [.str "NoThing", .str "NoDirectory", .str "BadName", .str "IsThere", .str "NoRoom", .str "NotEmpty", .str "WrongKind", .str "TooGreat", .str "ReadOnly"]) = B4 at tp4 fp4 ⊢
      clear hp4
      have tq := tp3.trans tp4
      have q9 := tp2.trans tq
      have q8 := t9.trans q9
      have q7 := t8.trans q8
      have q6 := t7.trans q7
      have q5 := tp1.trans (t6.trans q6)
      have q4 := t5.trans q5
      have q3 := t4.trans q4
      have q2 := t3.trans q3
      have q1 := t2.trans q2
      have q0 := t1.trans q1
      have qall := s1.trans (h5.trans (t0.trans q0))
      have hmade : B4 p3 = some (.lst (rfs.map fun r => V.ref (esOf e0 e1 e2 e3 e4 e5 e6 e7 e8 e9 r))) := tp4 _ _ fp3
      have hX : ∀ r, MadeX B4 (esOf e0 e1 e2 e3 e4 e5 e6 e7 e8 e9 r) (g.xa r) wd := fun r => by
        cases r with
        | noThing => exact m0.same q0
        | noDirectory => exact m1.same q1
        | badName => exact m2.same q2
        | isThere => exact m3.same q3
        | noRoom => exact m4.same q4
        | notEmpty => exact m5.same q5
        | wrongKind => exact m6.same q6
        | tooGreat => exact m7.same q7
        | readOnly => exact m8.same q8
        | noFiles => exact m9.same q9
      have hnames := fp4
      clear q0 q1 q2 q3 q4 q5 q6 q7 q8 q9 tq tp1 tp2 tp3 tp4 fp1 fp2 fp3 t0 t1 t2 t3 t4 t5 t6 t7 t8 t9 m0 m1 m2 m3 m4 m5 m6 m7 m8 m9 r6 r7 r8 r9
      refine ⟨10, rfl, by decide, by decide, ?_⟩
      refine for_range (n := 10) (fun i σ H' => σ.length = 7 ∧ σ[0]? = some (some (.ref a)) ∧ σ[1]? = some (some (.str wd)) ∧ σ[2]? = some (some (.ref p3)) ∧ σ[3]? = some (some (.ref p4)) ∧ Same B4 H') ⟨rfl, rfl, rfl, rfl, rfl, Same.refl _⟩ (fun i σ H' hi h => ?_) (fun σ H' h => ?_)
      · obtain ⟨hl, g0, g1, g2, g3, sm⟩ := h
        obtain ⟨r, hr1, hr2⟩ := rfs_at hi
        obtain ⟨u, hx1, hx2⟩ := (hX r).same sm
        have hat : atI (rfs.map fun r => V.ref (esOf e0 e1 e2 e3 e4 e5 e6 e7 e8 e9 r)) (0 + (i : Nat)) = some (.ref (esOf e0 e1 e2 e3 e4 e5 e6 e7 e8 e9 r)) := by
          refine atI_ok (by omega) ?_
          rw [show ((0 : Int) + (i : Nat)).toNat = i by omega, List.getElem?_map, hr1]
          rfl
        match σ, hl, g0, g1, g2, g3 with
        | [_, _, _, _, o4, o5, o6], _, g0, g1, g2, g3 =>
          cases g0; cases g1; cases g2; cases g3
          refine ⟨_, rfl, _, rfl, p3, _, _, _, rfl, rfl, SqL.of (sm _ _ hmade), hat, ?_⟩
          refine ⟨_, g.xa r, u, wd, rfl, hx1, hx2, T.xs r, ?_⟩
          refine ⟨_, rfl, rfl, _, rfl, iteNS rfl ?_⟩
          refine ⟨_, rfl, _, rfl, p3, _, _, _, rfl, rfl, SqL.of (sm _ _ hmade), hat, ?_⟩
          refine ⟨_, r, rfl, .inr ⟨u, hx1⟩, fun H2 s2 => ?_⟩
          refine ⟨_, rfl, by show 1 ≤ sizeLine; decide, fun p5 hp5 => ?_⟩
          have sp5 := same_new (o := .lst [.str "NoFiles"]) hp5
          refine ⟨p4, p5, _, _, rfl, rfl, sp5 _ _ (s2 _ _ (sm _ _ hnames)), upd_same, by show 10 ≤ sizeLine; decide, fun p6 hp6 => ?_⟩
          have sp6 := same_new (o := .lst ([.str "NoThing", .str "NoDirectory", .str "BadName", .str "IsThere", .str "NoRoom", .str "NotEmpty", .str "WrongKind", .str "TooGreat", .str "ReadOnly"] ++ [.str "NoFiles"])) hp6
          refine ⟨_, rfl, p6, _, _, _, rfl, rfl, SqL.of upd_same, (by rw [show (0 : Int) + (i : Nat) = ((rfIx r : Nat) : Int) by omega]; exact rf_name r), ?_⟩
          refine ⟨rfl, _, rfl, iteNS rfl ?_⟩
          exact ⟨rfl, rfl, rfl, rfl, rfl, sm.trans (s2.trans (sp5.trans sp6))⟩
      · obtain ⟨hl, g0, g1, g2, g3, sm⟩ := h
        have hS' := (qall.trans sm).seq hS
        match σ, hl, g0, g1, g2, g3 with
        | [_, _, _, _, o4, o5, o6], _, g0, g1, g2, g3 =>
          cases g0; cases g1; cases g2; cases g3
          refine ⟨_, rfl, a, ns, 1, rfl, hS', hlen, by decide, by decide, fun H2 s2 => ?_⟩
          refine ⟨_, _, rfl, rfl, (by show (0 : Int) < 240; decide), _, _, rfl, rfl, ?_⟩
          have k0 : 0 ≤ cellF ns 1 % 240 := Int.emod_nonneg _ (by decide)
          have k1 : cellF ns 1 % 240 < 240 := Int.emod_lt_of_pos _ (by decide)
          generalize cellF ns 1 % 240 = m at k0 k1 ⊢
          refine ⟨_, rfl, ?_⟩
          intro x dx nx ndx nex
          refine ⟨x, dx, (17 + m), rfl, upd_same, fun z => by omega, fun _ _ b l vb H3 fb fl D3 kp => ⟨rfl, ?_⟩⟩
          have s0 : Same H2 (upd (upd H2 dx (.own x)) x (.ins g.Disk dx [])) := fun b o e => by
            rw [upd_ne (ne_of_none e nx), upd_ne (ne_of_none e ndx)]
            exact e
          have s3 : Same H2 H3 := fun c o e => kp c o (s0 c o e) (ne_of_none e nx)
          have hS3 := (s2.trans s3).seq hS'
          obtain ⟨⟨dy, hd⟩, hb, hl, ib, _, nebl⟩ := D3
          obtain ⟨z0, v0, hz0⟩ := zero_block ib (i := 0) (by omega)
          obtain ⟨z1, v1, hz1⟩ := zero_block ib (i := 1) (by omega)
          have hvl : vb.length = (17 + m).toNat := by rw [Ims.length ib, List.length_replicate]
          have B : Blank g.Disk H3 x := ⟨dy, b, l, vb, z0, z1, hd, hb, v0, v1, hz0, hz1⟩
          refine ⟨_, rfl, a, ns, 2, rfl, hS3, hlen, by decide, by decide, fun H4 s4 => ⟨_, _, rfl, rfl, (by show (0 : Int) < 2; decide), rfl, _, rfl, ite2 (fun _ => ?_) (fun _ => ?_)⟩⟩
          · refine ⟨_, rfl, x, dy, _, rfl, s4 _ _ hd, no_wr _ _, ?_⟩
            refine ⟨_, rfl, a, ns, 3, rfl, s4.seq hS3, hlen, by decide, by decide, fun H5 s5 => ?_⟩
            refine ⟨_, rfl, _, _, rfl, rfl, _, _, rfl, rfl, (by show 0 < (17 + m) - 16; omega), _, _, rfl, rfl, ?_⟩
            have j0 : 0 ≤ cellF ns 3 % ((17 + m) - 16) := Int.emod_nonneg _ (by omega)
            have j1 : cellF ns 3 % ((17 + m) - 16) < (17 + m) - 16 := Int.emod_lt_of_pos _ (by omega)
            refine ⟨64, rfl, by decide, by decide, fun D hD => ?_⟩
            refine comp_range _ (n := 64) (lo := 0) (fun i ys H' => ys.length = i ∧ H' D = some (.lst ys) ∧ Same H5 H') ⟨rfl, upd_same, same_new hD⟩ (by decide) (fun i ys H' h => ⟨h.2.1, Nat.le_of_eq h.1⟩) (fun i ys H' N hi h k => ?_) (fun ys H' h => ?_)
            · obtain ⟨e1, e2, e3⟩ := h
              refine ⟨_, rfl, _, rfl, a, ns, _, rfl, (s5.trans e3).seq (s4.seq hS3), hlen, by omega, by omega, fun H6 s6 => ⟨_, _, rfl, rfl, (by show (0 : Int) < 256; decide), ?_⟩⟩
              refine k _ _ (s6 _ _ e2) ⟨by rw [List.length_append, e1]; rfl, upd_same, fun c o e => ?_⟩
              have : c ≠ D := fun z => by rw [z, hD] at e; cases e
              rw [upd_ne this]
              exact s6 _ _ (e3 _ _ e)
            · obtain ⟨e1, e2, e3⟩ := h
              refine ⟨D, ys, rfl, .inl ⟨SqL.of e2, fun t ht => ?_⟩⟩
              have s7 := s4.trans (s5.trans (e3.trans (same_new (o := .tup ys) ht)))
              refine ⟨x, dy, b, l, vb, [], _, _, rfl, s7 _ _ hd, s7 _ _ hb, s7 _ _ hl, nebl, by omega, by omega, by decide, fun t2 ht2 => ?_⟩
              have hx7 := s7 _ _ hd
              have hb7 := s7 _ _ hb
              have hl7 := s7 _ _ hl
              have B7 : Blank g.Disk (upd (upd (upd (upd H' t (.tup ys)) b (.lst (vb.set (16 + cellF ns 3 % ((17 + m) - 16)).toNat (.ref t)))) t2 (.tup [.str "write", .int (16 + cellF ns 3 % ((17 + m) - 16)), .ref t])) l (.lst ([] ++ [.ref t2]))) x := by
                have keep : ∀ c o, c ≠ b → c ≠ l → (upd H' t (.tup ys)) c = some o → (upd (upd (upd (upd H' t (.tup ys)) b (.lst (vb.set (16 + cellF ns 3 % ((17 + m) - 16)).toNat (.ref t)))) t2 (.tup [.str "write", .int (16 + cellF ns 3 % ((17 + m) - 16)), .ref t])) l (.lst ([] ++ [.ref t2]))) c = some o := fun c o c1 c2 e => by
                  rw [upd_ne c2, upd_ne (ne_of_none e ht2), upd_ne c1]
                  exact e
                refine ⟨dy, b, l, vb.set (16 + cellF ns 3 % ((17 + m) - 16)).toNat (.ref t), z0, z1, keep _ _ (ne_of hx7 hb7 (by intro z; cases z)) (ne_of hx7 hl7 (by intro z; cases z)) hx7, ?_, ?_, ?_, keep _ _ (ne_of (s7 _ _ hz0) hb7 (by intro z; cases z)) (ne_of (s7 _ _ hz0) hl7 (by intro z; cases z)) (s7 _ _ hz0), keep _ _ (ne_of (s7 _ _ hz1) hb7 (by intro z; cases z)) (ne_of (s7 _ _ hz1) hl7 (by intro z; cases z)) (s7 _ _ hz1)⟩
                · rw [upd_ne nebl, upd_ne (ne_of_none hb7 ht2), upd_same]
                · rw [List.getElem?_set_ne (by omega)]; exact v0
                · rw [List.getElem?_set_ne (by omega)]; exact v1
              exact ⟨_, rfl, x, rfl, B7, fun H6 s6 => ⟨by show 2 ≤ sizeLine; decide, fun q1 hq1 => ⟨q1, _, rfl, .inl (SqL.of upd_same), rfl, rfl, q _⟩⟩⟩
          · exact ⟨_, rfl, x, rfl, B.same s4, fun H6 s6 => ⟨by show 2 ≤ sizeLine; decide, fun q1 hq1 => ⟨q1, _, rfl, .inl (SqL.of upd_same), rfl, rfl, q _⟩⟩⟩
end
end KS


set_option Elab.async false
set_option maxHeartbeats 16000000
set_option maxRecDepth 100000
namespace KS
open PySem L2
theorem all_mk {l : PySem.W.OpenLaw} {w : World} {K : PySem.W.Frag} {h : Heap} {mg : Str → Option Value} {fa a_Disk a_Files a_NoThing a_NoDirectory a_BadName a_IsThere a_NoRoom a_NotEmpty a_WrongKind a_TooGreat a_ReadOnly a_NoFiles a_StillError f_Disk_init f_Disk_read f_Disk_write f_newest_first f_Files_stat f_files_of f_mounted f__law_cell f__law_drawn f__law_word f__law_mounted f_law a_MARK : Addr} (X : K.In h) (G : h.Ns mainGlobals mg) (hfa : mg "law" = some (.ref fa))
    {od_Disk_init an_Disk_init od_Disk_read an_Disk_read od_Disk_write an_Disk_write od_newest_first an_newest_first od_Files_stat an_Files_stat od_files_of an_files_of od_mounted an_mounted od__law_cell an__law_cell od__law_drawn an__law_drawn od__law_word an__law_word od__law_mounted an__law_mounted od_law an_law do_MARK : Option Addr} {sl_Disk_init sl_Disk_read sl_Disk_write sl_newest_first sl_Files_stat sl_files_of sl_mounted sl__law_cell sl__law_drawn sl__law_word sl__law_mounted sl_law so_MARK : Array (Option Value)} {oc_Disk_init kV_Disk_init dc_Disk_init pm_Disk_init cd_Disk_init ct_Disk_init oc_Disk_read kV_Disk_read dc_Disk_read pm_Disk_read cd_Disk_read ct_Disk_read oc_Disk_write kV_Disk_write dc_Disk_write pm_Disk_write cd_Disk_write ct_Disk_write oc_newest_first kV_newest_first dc_newest_first pm_newest_first cd_newest_first ct_newest_first oc_Files_stat kV_Files_stat dc_Files_stat pm_Files_stat cd_Files_stat ct_Files_stat oc_files_of kV_files_of dc_files_of pm_files_of cd_files_of ct_files_of oc_mounted kV_mounted dc_mounted pm_mounted cd_mounted ct_mounted oc__law_cell kV__law_cell dc__law_cell pm__law_cell cd__law_cell ct__law_cell oc__law_drawn kV__law_drawn dc__law_drawn pm__law_drawn cd__law_drawn ct__law_drawn oc__law_word kV__law_word dc__law_word pm__law_word cd__law_word ct__law_word oc__law_mounted kV__law_mounted dc__law_mounted pm__law_mounted cd__law_mounted ct__law_mounted oc_law kV_law dc_law pm_law cd_law ct_law : Value} {t_FEWEST_BLOCKS t_MOST_BLOCKS t_BLOCK_BYTES u_MARK_0 u_MARK_1 u_MARK_2 u_MARK_3 t_TURN_PLACE t_TURNS : Tok} {xcd_NoThing xcd_NoDirectory xcd_BadName xcd_IsThere xcd_NoRoom xcd_NotEmpty xcd_WrongKind xcd_TooGreat xcd_ReadOnly xcd_NoFiles : ClassData} {nn_MARK : Nat}
    (e_Disk : PySem.W.nsIn K mainGlobals "Disk" = some (some (.ref a_Disk)))
    (e_Files : PySem.W.nsIn K mainGlobals "Files" = some (some (.ref a_Files)))
    (e_NoThing : PySem.W.nsIn K mainGlobals "NoThing" = some (some (.ref a_NoThing)))
    (e_NoDirectory : PySem.W.nsIn K mainGlobals "NoDirectory" = some (some (.ref a_NoDirectory)))
    (e_BadName : PySem.W.nsIn K mainGlobals "BadName" = some (some (.ref a_BadName)))
    (e_IsThere : PySem.W.nsIn K mainGlobals "IsThere" = some (some (.ref a_IsThere)))
    (e_NoRoom : PySem.W.nsIn K mainGlobals "NoRoom" = some (some (.ref a_NoRoom)))
    (e_NotEmpty : PySem.W.nsIn K mainGlobals "NotEmpty" = some (some (.ref a_NotEmpty)))
    (e_WrongKind : PySem.W.nsIn K mainGlobals "WrongKind" = some (some (.ref a_WrongKind)))
    (e_TooGreat : PySem.W.nsIn K mainGlobals "TooGreat" = some (some (.ref a_TooGreat)))
    (e_ReadOnly : PySem.W.nsIn K mainGlobals "ReadOnly" = some (some (.ref a_ReadOnly)))
    (e_NoFiles : PySem.W.nsIn K mainGlobals "NoFiles" = some (some (.ref a_NoFiles)))
    (e_StillError : PySem.W.nsIn K mainGlobals "StillError" = some (some (.ref a_StillError)))
    (pg_Disk : PySem.W.plainGet K a_Disk Str.empty = true)
    (hd_Disk : PySem.W.hasDictIn K a_Disk = true)
    (po_Disk : PySem.W.plainOver K a_Disk = true)
    (sa_Disk : PySem.W.findIn K (.ref a_Disk) "__setattr__" = some (some (.builtin "object.__setattr__")))
    (mk_Disk : PySem.W.makesIn K a_Disk = true)
    (kc_Disk : PySem.W.keepIn K (.ref a_Disk) = true)
    (n_Disk_blocks : PySem.W.findIn K (.ref a_Disk) "blocks" = some none)
    (n_Disk_log : PySem.W.findIn K (.ref a_Disk) "log" = some none)
    (pg_Files : PySem.W.plainGet K a_Files Str.empty = true)
    (hd_Files : PySem.W.hasDictIn K a_Files = true)
    (po_Files : PySem.W.plainOver K a_Files = true)
    (sa_Files : PySem.W.findIn K (.ref a_Files) "__setattr__" = some (some (.builtin "object.__setattr__")))
    (n_Files_state : PySem.W.findIn K (.ref a_Files) "state" = some none)
    (n_Files_kept : PySem.W.findIn K (.ref a_Files) "kept" = some none)
    (n_Files_store : PySem.W.findIn K (.ref a_Files) "store" = some none)
    (n_Files_image : PySem.W.findIn K (.ref a_Files) "image" = some none)
    (a_Disk_init : PySem.W.findIn K (.ref a_Disk) "__init__" = some (some (.ref f_Disk_init)))
    (i_Disk_init : PySem.W.isFn K (.ref f_Disk_init) = true)
    (l_Disk_init : K.lookup f_Disk_init = some ⟨oc_Disk_init, od_Disk_init, .func (PySem.W.fnOf "__init__" "Disk.__init__" (defArgs s_Disk_init) (defBody s_Disk_init) (defScope s_Disk_init) .none kV_Disk_init dc_Disk_init pm_Disk_init an_Disk_init cd_Disk_init ct_Disk_init), sl_Disk_init⟩)
    (c_Disk_init : PySem.W.codeIn K cd_Disk_init "Disk.__init__" = true)
    (k_Disk_init : PySem.W.keepIn K (.ref f_Disk_init) = true)
    (a_Disk_read : PySem.W.findIn K (.ref a_Disk) "read" = some (some (.ref f_Disk_read)))
    (i_Disk_read : PySem.W.isFn K (.ref f_Disk_read) = true)
    (l_Disk_read : K.lookup f_Disk_read = some ⟨oc_Disk_read, od_Disk_read, .func (PySem.W.fnOf "read" "Disk.read" (defArgs s_Disk_read) (defBody s_Disk_read) (defScope s_Disk_read) .none kV_Disk_read dc_Disk_read pm_Disk_read an_Disk_read cd_Disk_read ct_Disk_read), sl_Disk_read⟩)
    (c_Disk_read : PySem.W.codeIn K cd_Disk_read "Disk.read" = true)
    (k_Disk_read : PySem.W.keepIn K (.ref f_Disk_read) = true)
    (a_Disk_write : PySem.W.findIn K (.ref a_Disk) "write" = some (some (.ref f_Disk_write)))
    (i_Disk_write : PySem.W.isFn K (.ref f_Disk_write) = true)
    (l_Disk_write : K.lookup f_Disk_write = some ⟨oc_Disk_write, od_Disk_write, .func (PySem.W.fnOf "write" "Disk.write" (defArgs s_Disk_write) (defBody s_Disk_write) (defScope s_Disk_write) .none kV_Disk_write dc_Disk_write pm_Disk_write an_Disk_write cd_Disk_write ct_Disk_write), sl_Disk_write⟩)
    (c_Disk_write : PySem.W.codeIn K cd_Disk_write "Disk.write" = true)
    (k_Disk_write : PySem.W.keepIn K (.ref f_Disk_write) = true)
    (a_newest_first : PySem.W.nsIn K mainGlobals "newest_first" = some (some (.ref f_newest_first)))
    (l_newest_first : K.lookup f_newest_first = some ⟨oc_newest_first, od_newest_first, .func (PySem.W.fnOf "newest_first" "newest_first" (defArgs s_newest_first) (defBody s_newest_first) (defScope s_newest_first) .none kV_newest_first dc_newest_first pm_newest_first an_newest_first cd_newest_first ct_newest_first), sl_newest_first⟩)
    (c_newest_first : PySem.W.codeIn K cd_newest_first "newest_first" = true)
    (k_newest_first : PySem.W.keepIn K (.ref f_newest_first) = true)
    (a_Files_stat : PySem.W.findIn K (.ref a_Files) "stat" = some (some (.ref f_Files_stat)))
    (i_Files_stat : PySem.W.isFn K (.ref f_Files_stat) = true)
    (l_Files_stat : K.lookup f_Files_stat = some ⟨oc_Files_stat, od_Files_stat, .func (PySem.W.fnOf "stat" "Files.stat" (defArgs s_Files_stat) (defBody s_Files_stat) (defScope s_Files_stat) .none kV_Files_stat dc_Files_stat pm_Files_stat an_Files_stat cd_Files_stat ct_Files_stat), sl_Files_stat⟩)
    (c_Files_stat : PySem.W.codeIn K cd_Files_stat "Files.stat" = true)
    (k_Files_stat : PySem.W.keepIn K (.ref f_Files_stat) = true)
    (a_files_of : PySem.W.nsIn K mainGlobals "files_of" = some (some (.ref f_files_of)))
    (l_files_of : K.lookup f_files_of = some ⟨oc_files_of, od_files_of, .func (PySem.W.fnOf "files_of" "files_of" (defArgs s_files_of) (defBody s_files_of) (defScope s_files_of) .none kV_files_of dc_files_of pm_files_of an_files_of cd_files_of ct_files_of), sl_files_of⟩)
    (c_files_of : PySem.W.codeIn K cd_files_of "files_of" = true)
    (k_files_of : PySem.W.keepIn K (.ref f_files_of) = true)
    (a_mounted : PySem.W.nsIn K mainGlobals "mounted" = some (some (.ref f_mounted)))
    (l_mounted : K.lookup f_mounted = some ⟨oc_mounted, od_mounted, .func (PySem.W.fnOf "mounted" "mounted" (defArgs s_mounted) (defBody s_mounted) (defScope s_mounted) .none kV_mounted dc_mounted pm_mounted an_mounted cd_mounted ct_mounted), sl_mounted⟩)
    (c_mounted : PySem.W.codeIn K cd_mounted "mounted" = true)
    (k_mounted : PySem.W.keepIn K (.ref f_mounted) = true)
    (a__law_cell : PySem.W.nsIn K mainGlobals "_law_cell" = some (some (.ref f__law_cell)))
    (l__law_cell : K.lookup f__law_cell = some ⟨oc__law_cell, od__law_cell, .func (PySem.W.fnOf "_law_cell" "_law_cell" (defArgs s__law_cell) (defBody s__law_cell) (defScope s__law_cell) .none kV__law_cell dc__law_cell pm__law_cell an__law_cell cd__law_cell ct__law_cell), sl__law_cell⟩)
    (c__law_cell : PySem.W.codeIn K cd__law_cell "_law_cell" = true)
    (k__law_cell : PySem.W.keepIn K (.ref f__law_cell) = true)
    (a__law_drawn : PySem.W.nsIn K mainGlobals "_law_drawn" = some (some (.ref f__law_drawn)))
    (l__law_drawn : K.lookup f__law_drawn = some ⟨oc__law_drawn, od__law_drawn, .func (PySem.W.fnOf "_law_drawn" "_law_drawn" (defArgs s__law_drawn) (defBody s__law_drawn) (defScope s__law_drawn) .none kV__law_drawn dc__law_drawn pm__law_drawn an__law_drawn cd__law_drawn ct__law_drawn), sl__law_drawn⟩)
    (c__law_drawn : PySem.W.codeIn K cd__law_drawn "_law_drawn" = true)
    (k__law_drawn : PySem.W.keepIn K (.ref f__law_drawn) = true)
    (a__law_word : PySem.W.nsIn K mainGlobals "_law_word" = some (some (.ref f__law_word)))
    (l__law_word : K.lookup f__law_word = some ⟨oc__law_word, od__law_word, .func (PySem.W.fnOf "_law_word" "_law_word" (defArgs s__law_word) (defBody s__law_word) (defScope s__law_word) .none kV__law_word dc__law_word pm__law_word an__law_word cd__law_word ct__law_word), sl__law_word⟩)
    (c__law_word : PySem.W.codeIn K cd__law_word "_law_word" = true)
    (k__law_word : PySem.W.keepIn K (.ref f__law_word) = true)
    (a__law_mounted : PySem.W.nsIn K mainGlobals "_law_mounted" = some (some (.ref f__law_mounted)))
    (l__law_mounted : K.lookup f__law_mounted = some ⟨oc__law_mounted, od__law_mounted, .func (PySem.W.fnOf "_law_mounted" "_law_mounted" (defArgs s__law_mounted) (defBody s__law_mounted) (defScope s__law_mounted) .none kV__law_mounted dc__law_mounted pm__law_mounted an__law_mounted cd__law_mounted ct__law_mounted), sl__law_mounted⟩)
    (c__law_mounted : PySem.W.codeIn K cd__law_mounted "_law_mounted" = true)
    (k__law_mounted : PySem.W.keepIn K (.ref f__law_mounted) = true)
    (a_law : PySem.W.nsIn K mainGlobals "law" = some (some (.ref f_law)))
    (l_law : K.lookup f_law = some ⟨oc_law, od_law, .func (PySem.W.fnOf "law" "law" (defArgs s_law) (defBody s_law) (defScope s_law) .none kV_law dc_law pm_law an_law cd_law ct_law), sl_law⟩)
    (c_law : PySem.W.codeIn K cd_law "law" = true)
    (k_law : PySem.W.keepIn K (.ref f_law) = true)
    (xc_NoThing : PySem.W.excIn K a_NoThing [.type "ValueError", .type "Exception", .type "BaseException", .type "object"] "ValueError.__new__" = true)
    (xga_NoThing : PySem.W.findIn K (.ref a_NoThing) "__getattribute__" = some (some (.builtin "BaseException.__getattribute__")))
    (xgh_NoThing : PySem.W.findIn K (.ref a_NoThing) "__getattr__" = some none)
    (xcc_NoThing : PySem.W.findIn K (.ref a_NoThing) "__class__" = some (some (.builtin "object.__class__")))
    (xob_NoThing : PySem.W.mroIn K a_NoThing (.type "object") = some true)
    (xba_NoThing : PySem.W.mroIn K a_NoThing (.type "BaseException") = some true)
    (xcl_NoThing : PySem.W.clsIn K a_NoThing = some xcd_NoThing)
    (xc_NoDirectory : PySem.W.excIn K a_NoDirectory [.type "ValueError", .type "Exception", .type "BaseException", .type "object"] "ValueError.__new__" = true)
    (xga_NoDirectory : PySem.W.findIn K (.ref a_NoDirectory) "__getattribute__" = some (some (.builtin "BaseException.__getattribute__")))
    (xgh_NoDirectory : PySem.W.findIn K (.ref a_NoDirectory) "__getattr__" = some none)
    (xcc_NoDirectory : PySem.W.findIn K (.ref a_NoDirectory) "__class__" = some (some (.builtin "object.__class__")))
    (xob_NoDirectory : PySem.W.mroIn K a_NoDirectory (.type "object") = some true)
    (xba_NoDirectory : PySem.W.mroIn K a_NoDirectory (.type "BaseException") = some true)
    (xcl_NoDirectory : PySem.W.clsIn K a_NoDirectory = some xcd_NoDirectory)
    (xc_BadName : PySem.W.excIn K a_BadName [.type "ValueError", .type "Exception", .type "BaseException", .type "object"] "ValueError.__new__" = true)
    (xga_BadName : PySem.W.findIn K (.ref a_BadName) "__getattribute__" = some (some (.builtin "BaseException.__getattribute__")))
    (xgh_BadName : PySem.W.findIn K (.ref a_BadName) "__getattr__" = some none)
    (xcc_BadName : PySem.W.findIn K (.ref a_BadName) "__class__" = some (some (.builtin "object.__class__")))
    (xob_BadName : PySem.W.mroIn K a_BadName (.type "object") = some true)
    (xba_BadName : PySem.W.mroIn K a_BadName (.type "BaseException") = some true)
    (xcl_BadName : PySem.W.clsIn K a_BadName = some xcd_BadName)
    (xc_IsThere : PySem.W.excIn K a_IsThere [.type "ValueError", .type "Exception", .type "BaseException", .type "object"] "ValueError.__new__" = true)
    (xga_IsThere : PySem.W.findIn K (.ref a_IsThere) "__getattribute__" = some (some (.builtin "BaseException.__getattribute__")))
    (xgh_IsThere : PySem.W.findIn K (.ref a_IsThere) "__getattr__" = some none)
    (xcc_IsThere : PySem.W.findIn K (.ref a_IsThere) "__class__" = some (some (.builtin "object.__class__")))
    (xob_IsThere : PySem.W.mroIn K a_IsThere (.type "object") = some true)
    (xba_IsThere : PySem.W.mroIn K a_IsThere (.type "BaseException") = some true)
    (xcl_IsThere : PySem.W.clsIn K a_IsThere = some xcd_IsThere)
    (xc_NoRoom : PySem.W.excIn K a_NoRoom [.type "ValueError", .type "Exception", .type "BaseException", .type "object"] "ValueError.__new__" = true)
    (xga_NoRoom : PySem.W.findIn K (.ref a_NoRoom) "__getattribute__" = some (some (.builtin "BaseException.__getattribute__")))
    (xgh_NoRoom : PySem.W.findIn K (.ref a_NoRoom) "__getattr__" = some none)
    (xcc_NoRoom : PySem.W.findIn K (.ref a_NoRoom) "__class__" = some (some (.builtin "object.__class__")))
    (xob_NoRoom : PySem.W.mroIn K a_NoRoom (.type "object") = some true)
    (xba_NoRoom : PySem.W.mroIn K a_NoRoom (.type "BaseException") = some true)
    (xcl_NoRoom : PySem.W.clsIn K a_NoRoom = some xcd_NoRoom)
    (xc_NotEmpty : PySem.W.excIn K a_NotEmpty [.type "ValueError", .type "Exception", .type "BaseException", .type "object"] "ValueError.__new__" = true)
    (xga_NotEmpty : PySem.W.findIn K (.ref a_NotEmpty) "__getattribute__" = some (some (.builtin "BaseException.__getattribute__")))
    (xgh_NotEmpty : PySem.W.findIn K (.ref a_NotEmpty) "__getattr__" = some none)
    (xcc_NotEmpty : PySem.W.findIn K (.ref a_NotEmpty) "__class__" = some (some (.builtin "object.__class__")))
    (xob_NotEmpty : PySem.W.mroIn K a_NotEmpty (.type "object") = some true)
    (xba_NotEmpty : PySem.W.mroIn K a_NotEmpty (.type "BaseException") = some true)
    (xcl_NotEmpty : PySem.W.clsIn K a_NotEmpty = some xcd_NotEmpty)
    (xc_WrongKind : PySem.W.excIn K a_WrongKind [.type "ValueError", .type "Exception", .type "BaseException", .type "object"] "ValueError.__new__" = true)
    (xga_WrongKind : PySem.W.findIn K (.ref a_WrongKind) "__getattribute__" = some (some (.builtin "BaseException.__getattribute__")))
    (xgh_WrongKind : PySem.W.findIn K (.ref a_WrongKind) "__getattr__" = some none)
    (xcc_WrongKind : PySem.W.findIn K (.ref a_WrongKind) "__class__" = some (some (.builtin "object.__class__")))
    (xob_WrongKind : PySem.W.mroIn K a_WrongKind (.type "object") = some true)
    (xba_WrongKind : PySem.W.mroIn K a_WrongKind (.type "BaseException") = some true)
    (xcl_WrongKind : PySem.W.clsIn K a_WrongKind = some xcd_WrongKind)
    (xc_TooGreat : PySem.W.excIn K a_TooGreat [.type "ValueError", .type "Exception", .type "BaseException", .type "object"] "ValueError.__new__" = true)
    (xga_TooGreat : PySem.W.findIn K (.ref a_TooGreat) "__getattribute__" = some (some (.builtin "BaseException.__getattribute__")))
    (xgh_TooGreat : PySem.W.findIn K (.ref a_TooGreat) "__getattr__" = some none)
    (xcc_TooGreat : PySem.W.findIn K (.ref a_TooGreat) "__class__" = some (some (.builtin "object.__class__")))
    (xob_TooGreat : PySem.W.mroIn K a_TooGreat (.type "object") = some true)
    (xba_TooGreat : PySem.W.mroIn K a_TooGreat (.type "BaseException") = some true)
    (xcl_TooGreat : PySem.W.clsIn K a_TooGreat = some xcd_TooGreat)
    (xc_ReadOnly : PySem.W.excIn K a_ReadOnly [.type "ValueError", .type "Exception", .type "BaseException", .type "object"] "ValueError.__new__" = true)
    (xga_ReadOnly : PySem.W.findIn K (.ref a_ReadOnly) "__getattribute__" = some (some (.builtin "BaseException.__getattribute__")))
    (xgh_ReadOnly : PySem.W.findIn K (.ref a_ReadOnly) "__getattr__" = some none)
    (xcc_ReadOnly : PySem.W.findIn K (.ref a_ReadOnly) "__class__" = some (some (.builtin "object.__class__")))
    (xob_ReadOnly : PySem.W.mroIn K a_ReadOnly (.type "object") = some true)
    (xba_ReadOnly : PySem.W.mroIn K a_ReadOnly (.type "BaseException") = some true)
    (xcl_ReadOnly : PySem.W.clsIn K a_ReadOnly = some xcd_ReadOnly)
    (xc_NoFiles : PySem.W.excIn K a_NoFiles [.type "ValueError", .type "Exception", .type "BaseException", .type "object"] "ValueError.__new__" = true)
    (xga_NoFiles : PySem.W.findIn K (.ref a_NoFiles) "__getattribute__" = some (some (.builtin "BaseException.__getattribute__")))
    (xgh_NoFiles : PySem.W.findIn K (.ref a_NoFiles) "__getattr__" = some none)
    (xcc_NoFiles : PySem.W.findIn K (.ref a_NoFiles) "__class__" = some (some (.builtin "object.__class__")))
    (xob_NoFiles : PySem.W.mroIn K a_NoFiles (.type "object") = some true)
    (xba_NoFiles : PySem.W.mroIn K a_NoFiles (.type "BaseException") = some true)
    (xcl_NoFiles : PySem.W.clsIn K a_NoFiles = some xcd_NoFiles)
    (xgg : PySem.W.specialIn K (.builtin "object.__class__") "__get__" = some (some (.builtin "getset_descriptor.__get__")))
    (xtk : PySem.W.takesIn K (.builtin "object.__class__") = some true)
    (q_NoThing_NoThing : PySem.W.kitOne K (.ref a_NoThing) (.ref a_NoThing) = some true)
    (q_NoThing_NoDirectory : PySem.W.kitOne K (.ref a_NoThing) (.ref a_NoDirectory) = some false)
    (q_NoThing_BadName : PySem.W.kitOne K (.ref a_NoThing) (.ref a_BadName) = some false)
    (q_NoThing_IsThere : PySem.W.kitOne K (.ref a_NoThing) (.ref a_IsThere) = some false)
    (q_NoThing_NoRoom : PySem.W.kitOne K (.ref a_NoThing) (.ref a_NoRoom) = some false)
    (q_NoThing_NotEmpty : PySem.W.kitOne K (.ref a_NoThing) (.ref a_NotEmpty) = some false)
    (q_NoThing_WrongKind : PySem.W.kitOne K (.ref a_NoThing) (.ref a_WrongKind) = some false)
    (q_NoThing_TooGreat : PySem.W.kitOne K (.ref a_NoThing) (.ref a_TooGreat) = some false)
    (q_NoThing_ReadOnly : PySem.W.kitOne K (.ref a_NoThing) (.ref a_ReadOnly) = some false)
    (q_NoThing_NoFiles : PySem.W.kitOne K (.ref a_NoThing) (.ref a_NoFiles) = some false)
    (qS_NoThing : PySem.W.kitOne K (.ref a_NoThing) (.ref a_StillError) = some true)
    (qV_NoThing : PySem.W.kitOne K (.ref a_NoThing) (.type "ValueError") = some true)
    (q_NoDirectory_NoThing : PySem.W.kitOne K (.ref a_NoDirectory) (.ref a_NoThing) = some false)
    (q_NoDirectory_NoDirectory : PySem.W.kitOne K (.ref a_NoDirectory) (.ref a_NoDirectory) = some true)
    (q_NoDirectory_BadName : PySem.W.kitOne K (.ref a_NoDirectory) (.ref a_BadName) = some false)
    (q_NoDirectory_IsThere : PySem.W.kitOne K (.ref a_NoDirectory) (.ref a_IsThere) = some false)
    (q_NoDirectory_NoRoom : PySem.W.kitOne K (.ref a_NoDirectory) (.ref a_NoRoom) = some false)
    (q_NoDirectory_NotEmpty : PySem.W.kitOne K (.ref a_NoDirectory) (.ref a_NotEmpty) = some false)
    (q_NoDirectory_WrongKind : PySem.W.kitOne K (.ref a_NoDirectory) (.ref a_WrongKind) = some false)
    (q_NoDirectory_TooGreat : PySem.W.kitOne K (.ref a_NoDirectory) (.ref a_TooGreat) = some false)
    (q_NoDirectory_ReadOnly : PySem.W.kitOne K (.ref a_NoDirectory) (.ref a_ReadOnly) = some false)
    (q_NoDirectory_NoFiles : PySem.W.kitOne K (.ref a_NoDirectory) (.ref a_NoFiles) = some false)
    (qS_NoDirectory : PySem.W.kitOne K (.ref a_NoDirectory) (.ref a_StillError) = some true)
    (qV_NoDirectory : PySem.W.kitOne K (.ref a_NoDirectory) (.type "ValueError") = some true)
    (q_BadName_NoThing : PySem.W.kitOne K (.ref a_BadName) (.ref a_NoThing) = some false)
    (q_BadName_NoDirectory : PySem.W.kitOne K (.ref a_BadName) (.ref a_NoDirectory) = some false)
    (q_BadName_BadName : PySem.W.kitOne K (.ref a_BadName) (.ref a_BadName) = some true)
    (q_BadName_IsThere : PySem.W.kitOne K (.ref a_BadName) (.ref a_IsThere) = some false)
    (q_BadName_NoRoom : PySem.W.kitOne K (.ref a_BadName) (.ref a_NoRoom) = some false)
    (q_BadName_NotEmpty : PySem.W.kitOne K (.ref a_BadName) (.ref a_NotEmpty) = some false)
    (q_BadName_WrongKind : PySem.W.kitOne K (.ref a_BadName) (.ref a_WrongKind) = some false)
    (q_BadName_TooGreat : PySem.W.kitOne K (.ref a_BadName) (.ref a_TooGreat) = some false)
    (q_BadName_ReadOnly : PySem.W.kitOne K (.ref a_BadName) (.ref a_ReadOnly) = some false)
    (q_BadName_NoFiles : PySem.W.kitOne K (.ref a_BadName) (.ref a_NoFiles) = some false)
    (qS_BadName : PySem.W.kitOne K (.ref a_BadName) (.ref a_StillError) = some true)
    (qV_BadName : PySem.W.kitOne K (.ref a_BadName) (.type "ValueError") = some true)
    (q_IsThere_NoThing : PySem.W.kitOne K (.ref a_IsThere) (.ref a_NoThing) = some false)
    (q_IsThere_NoDirectory : PySem.W.kitOne K (.ref a_IsThere) (.ref a_NoDirectory) = some false)
    (q_IsThere_BadName : PySem.W.kitOne K (.ref a_IsThere) (.ref a_BadName) = some false)
    (q_IsThere_IsThere : PySem.W.kitOne K (.ref a_IsThere) (.ref a_IsThere) = some true)
    (q_IsThere_NoRoom : PySem.W.kitOne K (.ref a_IsThere) (.ref a_NoRoom) = some false)
    (q_IsThere_NotEmpty : PySem.W.kitOne K (.ref a_IsThere) (.ref a_NotEmpty) = some false)
    (q_IsThere_WrongKind : PySem.W.kitOne K (.ref a_IsThere) (.ref a_WrongKind) = some false)
    (q_IsThere_TooGreat : PySem.W.kitOne K (.ref a_IsThere) (.ref a_TooGreat) = some false)
    (q_IsThere_ReadOnly : PySem.W.kitOne K (.ref a_IsThere) (.ref a_ReadOnly) = some false)
    (q_IsThere_NoFiles : PySem.W.kitOne K (.ref a_IsThere) (.ref a_NoFiles) = some false)
    (qS_IsThere : PySem.W.kitOne K (.ref a_IsThere) (.ref a_StillError) = some true)
    (qV_IsThere : PySem.W.kitOne K (.ref a_IsThere) (.type "ValueError") = some true)
    (q_NoRoom_NoThing : PySem.W.kitOne K (.ref a_NoRoom) (.ref a_NoThing) = some false)
    (q_NoRoom_NoDirectory : PySem.W.kitOne K (.ref a_NoRoom) (.ref a_NoDirectory) = some false)
    (q_NoRoom_BadName : PySem.W.kitOne K (.ref a_NoRoom) (.ref a_BadName) = some false)
    (q_NoRoom_IsThere : PySem.W.kitOne K (.ref a_NoRoom) (.ref a_IsThere) = some false)
    (q_NoRoom_NoRoom : PySem.W.kitOne K (.ref a_NoRoom) (.ref a_NoRoom) = some true)
    (q_NoRoom_NotEmpty : PySem.W.kitOne K (.ref a_NoRoom) (.ref a_NotEmpty) = some false)
    (q_NoRoom_WrongKind : PySem.W.kitOne K (.ref a_NoRoom) (.ref a_WrongKind) = some false)
    (q_NoRoom_TooGreat : PySem.W.kitOne K (.ref a_NoRoom) (.ref a_TooGreat) = some false)
    (q_NoRoom_ReadOnly : PySem.W.kitOne K (.ref a_NoRoom) (.ref a_ReadOnly) = some false)
    (q_NoRoom_NoFiles : PySem.W.kitOne K (.ref a_NoRoom) (.ref a_NoFiles) = some false)
    (qS_NoRoom : PySem.W.kitOne K (.ref a_NoRoom) (.ref a_StillError) = some true)
    (qV_NoRoom : PySem.W.kitOne K (.ref a_NoRoom) (.type "ValueError") = some true)
    (q_NotEmpty_NoThing : PySem.W.kitOne K (.ref a_NotEmpty) (.ref a_NoThing) = some false)
    (q_NotEmpty_NoDirectory : PySem.W.kitOne K (.ref a_NotEmpty) (.ref a_NoDirectory) = some false)
    (q_NotEmpty_BadName : PySem.W.kitOne K (.ref a_NotEmpty) (.ref a_BadName) = some false)
    (q_NotEmpty_IsThere : PySem.W.kitOne K (.ref a_NotEmpty) (.ref a_IsThere) = some false)
    (q_NotEmpty_NoRoom : PySem.W.kitOne K (.ref a_NotEmpty) (.ref a_NoRoom) = some false)
    (q_NotEmpty_NotEmpty : PySem.W.kitOne K (.ref a_NotEmpty) (.ref a_NotEmpty) = some true)
    (q_NotEmpty_WrongKind : PySem.W.kitOne K (.ref a_NotEmpty) (.ref a_WrongKind) = some false)
    (q_NotEmpty_TooGreat : PySem.W.kitOne K (.ref a_NotEmpty) (.ref a_TooGreat) = some false)
    (q_NotEmpty_ReadOnly : PySem.W.kitOne K (.ref a_NotEmpty) (.ref a_ReadOnly) = some false)
    (q_NotEmpty_NoFiles : PySem.W.kitOne K (.ref a_NotEmpty) (.ref a_NoFiles) = some false)
    (qS_NotEmpty : PySem.W.kitOne K (.ref a_NotEmpty) (.ref a_StillError) = some true)
    (qV_NotEmpty : PySem.W.kitOne K (.ref a_NotEmpty) (.type "ValueError") = some true)
    (q_WrongKind_NoThing : PySem.W.kitOne K (.ref a_WrongKind) (.ref a_NoThing) = some false)
    (q_WrongKind_NoDirectory : PySem.W.kitOne K (.ref a_WrongKind) (.ref a_NoDirectory) = some false)
    (q_WrongKind_BadName : PySem.W.kitOne K (.ref a_WrongKind) (.ref a_BadName) = some false)
    (q_WrongKind_IsThere : PySem.W.kitOne K (.ref a_WrongKind) (.ref a_IsThere) = some false)
    (q_WrongKind_NoRoom : PySem.W.kitOne K (.ref a_WrongKind) (.ref a_NoRoom) = some false)
    (q_WrongKind_NotEmpty : PySem.W.kitOne K (.ref a_WrongKind) (.ref a_NotEmpty) = some false)
    (q_WrongKind_WrongKind : PySem.W.kitOne K (.ref a_WrongKind) (.ref a_WrongKind) = some true)
    (q_WrongKind_TooGreat : PySem.W.kitOne K (.ref a_WrongKind) (.ref a_TooGreat) = some false)
    (q_WrongKind_ReadOnly : PySem.W.kitOne K (.ref a_WrongKind) (.ref a_ReadOnly) = some false)
    (q_WrongKind_NoFiles : PySem.W.kitOne K (.ref a_WrongKind) (.ref a_NoFiles) = some false)
    (qS_WrongKind : PySem.W.kitOne K (.ref a_WrongKind) (.ref a_StillError) = some true)
    (qV_WrongKind : PySem.W.kitOne K (.ref a_WrongKind) (.type "ValueError") = some true)
    (q_TooGreat_NoThing : PySem.W.kitOne K (.ref a_TooGreat) (.ref a_NoThing) = some false)
    (q_TooGreat_NoDirectory : PySem.W.kitOne K (.ref a_TooGreat) (.ref a_NoDirectory) = some false)
    (q_TooGreat_BadName : PySem.W.kitOne K (.ref a_TooGreat) (.ref a_BadName) = some false)
    (q_TooGreat_IsThere : PySem.W.kitOne K (.ref a_TooGreat) (.ref a_IsThere) = some false)
    (q_TooGreat_NoRoom : PySem.W.kitOne K (.ref a_TooGreat) (.ref a_NoRoom) = some false)
    (q_TooGreat_NotEmpty : PySem.W.kitOne K (.ref a_TooGreat) (.ref a_NotEmpty) = some false)
    (q_TooGreat_WrongKind : PySem.W.kitOne K (.ref a_TooGreat) (.ref a_WrongKind) = some false)
    (q_TooGreat_TooGreat : PySem.W.kitOne K (.ref a_TooGreat) (.ref a_TooGreat) = some true)
    (q_TooGreat_ReadOnly : PySem.W.kitOne K (.ref a_TooGreat) (.ref a_ReadOnly) = some false)
    (q_TooGreat_NoFiles : PySem.W.kitOne K (.ref a_TooGreat) (.ref a_NoFiles) = some false)
    (qS_TooGreat : PySem.W.kitOne K (.ref a_TooGreat) (.ref a_StillError) = some true)
    (qV_TooGreat : PySem.W.kitOne K (.ref a_TooGreat) (.type "ValueError") = some true)
    (q_ReadOnly_NoThing : PySem.W.kitOne K (.ref a_ReadOnly) (.ref a_NoThing) = some false)
    (q_ReadOnly_NoDirectory : PySem.W.kitOne K (.ref a_ReadOnly) (.ref a_NoDirectory) = some false)
    (q_ReadOnly_BadName : PySem.W.kitOne K (.ref a_ReadOnly) (.ref a_BadName) = some false)
    (q_ReadOnly_IsThere : PySem.W.kitOne K (.ref a_ReadOnly) (.ref a_IsThere) = some false)
    (q_ReadOnly_NoRoom : PySem.W.kitOne K (.ref a_ReadOnly) (.ref a_NoRoom) = some false)
    (q_ReadOnly_NotEmpty : PySem.W.kitOne K (.ref a_ReadOnly) (.ref a_NotEmpty) = some false)
    (q_ReadOnly_WrongKind : PySem.W.kitOne K (.ref a_ReadOnly) (.ref a_WrongKind) = some false)
    (q_ReadOnly_TooGreat : PySem.W.kitOne K (.ref a_ReadOnly) (.ref a_TooGreat) = some false)
    (q_ReadOnly_ReadOnly : PySem.W.kitOne K (.ref a_ReadOnly) (.ref a_ReadOnly) = some true)
    (q_ReadOnly_NoFiles : PySem.W.kitOne K (.ref a_ReadOnly) (.ref a_NoFiles) = some false)
    (qS_ReadOnly : PySem.W.kitOne K (.ref a_ReadOnly) (.ref a_StillError) = some true)
    (qV_ReadOnly : PySem.W.kitOne K (.ref a_ReadOnly) (.type "ValueError") = some true)
    (q_NoFiles_NoThing : PySem.W.kitOne K (.ref a_NoFiles) (.ref a_NoThing) = some false)
    (q_NoFiles_NoDirectory : PySem.W.kitOne K (.ref a_NoFiles) (.ref a_NoDirectory) = some false)
    (q_NoFiles_BadName : PySem.W.kitOne K (.ref a_NoFiles) (.ref a_BadName) = some false)
    (q_NoFiles_IsThere : PySem.W.kitOne K (.ref a_NoFiles) (.ref a_IsThere) = some false)
    (q_NoFiles_NoRoom : PySem.W.kitOne K (.ref a_NoFiles) (.ref a_NoRoom) = some false)
    (q_NoFiles_NotEmpty : PySem.W.kitOne K (.ref a_NoFiles) (.ref a_NotEmpty) = some false)
    (q_NoFiles_WrongKind : PySem.W.kitOne K (.ref a_NoFiles) (.ref a_WrongKind) = some false)
    (q_NoFiles_TooGreat : PySem.W.kitOne K (.ref a_NoFiles) (.ref a_TooGreat) = some false)
    (q_NoFiles_ReadOnly : PySem.W.kitOne K (.ref a_NoFiles) (.ref a_ReadOnly) = some false)
    (q_NoFiles_NoFiles : PySem.W.kitOne K (.ref a_NoFiles) (.ref a_NoFiles) = some true)
    (qS_NoFiles : PySem.W.kitOne K (.ref a_NoFiles) (.ref a_StillError) = some true)
    (qV_NoFiles : PySem.W.kitOne K (.ref a_NoFiles) (.type "ValueError") = some true)
    (ty_NoFiles : PySem.W.typeIn K (.ref a_NoFiles) = some (.type "type"))
    (bs_NoFiles : PySem.W.subIn K (.ref a_NoFiles) (.type "BaseException") = some true)
    (sb_NoFiles : PySem.W.subIn K (.ref a_NoFiles) (.ref a_NoFiles) = some true)
    (ky_NoThing : PySem.W.keepIn K (.ref a_NoThing) = true)
    (ky_NoDirectory : PySem.W.keepIn K (.ref a_NoDirectory) = true)
    (ky_BadName : PySem.W.keepIn K (.ref a_BadName) = true)
    (ky_IsThere : PySem.W.keepIn K (.ref a_IsThere) = true)
    (ky_NoRoom : PySem.W.keepIn K (.ref a_NoRoom) = true)
    (ky_NotEmpty : PySem.W.keepIn K (.ref a_NotEmpty) = true)
    (ky_WrongKind : PySem.W.keepIn K (.ref a_WrongKind) = true)
    (ky_TooGreat : PySem.W.keepIn K (.ref a_TooGreat) = true)
    (ky_ReadOnly : PySem.W.keepIn K (.ref a_ReadOnly) = true)
    (ky_NoFiles : PySem.W.keepIn K (.ref a_NoFiles) = true)
    (st_NoThing : PySem.W.findIn K (.ref a_NoThing) "__str__" = some (some (.builtin "BaseException.__str__")))
    (st_NoDirectory : PySem.W.findIn K (.ref a_NoDirectory) "__str__" = some (some (.builtin "BaseException.__str__")))
    (st_BadName : PySem.W.findIn K (.ref a_BadName) "__str__" = some (some (.builtin "BaseException.__str__")))
    (st_IsThere : PySem.W.findIn K (.ref a_IsThere) "__str__" = some (some (.builtin "BaseException.__str__")))
    (st_NoRoom : PySem.W.findIn K (.ref a_NoRoom) "__str__" = some (some (.builtin "BaseException.__str__")))
    (st_NotEmpty : PySem.W.findIn K (.ref a_NotEmpty) "__str__" = some (some (.builtin "BaseException.__str__")))
    (st_WrongKind : PySem.W.findIn K (.ref a_WrongKind) "__str__" = some (some (.builtin "BaseException.__str__")))
    (st_TooGreat : PySem.W.findIn K (.ref a_TooGreat) "__str__" = some (some (.builtin "BaseException.__str__")))
    (st_ReadOnly : PySem.W.findIn K (.ref a_ReadOnly) "__str__" = some (some (.builtin "BaseException.__str__")))
    (st_NoFiles : PySem.W.findIn K (.ref a_NoFiles) "__str__" = some (some (.builtin "BaseException.__str__")))
    (g_FEWEST_BLOCKS : PySem.W.nsIn K mainGlobals "FEWEST_BLOCKS" = some (some (.int 16 t_FEWEST_BLOCKS)))
    (g_MOST_BLOCKS : PySem.W.nsIn K mainGlobals "MOST_BLOCKS" = some (some (.int 256 t_MOST_BLOCKS)))
    (g_BLOCK_BYTES : PySem.W.nsIn K mainGlobals "BLOCK_BYTES" = some (some (.int 64 t_BLOCK_BYTES)))
    (g_MARK : PySem.W.nsIn K mainGlobals "MARK" = some (some (.ref a_MARK)))
    (lt_MARK : K.lookup a_MARK = some ⟨.type "tuple", do_MARK, .seq #[.int 83 u_MARK_0, .int 116 u_MARK_1, .int 105 u_MARK_2, .int 108 u_MARK_3] nn_MARK, so_MARK⟩)
    (g_TURN_PLACE : PySem.W.nsIn K mainGlobals "TURN_PLACE" = some (some (.int 4 t_TURN_PLACE)))
    (g_TURNS : PySem.W.nsIn K mainGlobals "TURNS" = some (some (.int 256 t_TURNS)))
    (z_range : PySem.W.nsIn K mainGlobals "range" = some none)
    (z_len : PySem.W.nsIn K mainGlobals "len" = some none)
    (z_isinstance : PySem.W.nsIn K mainGlobals "isinstance" = some none)
    (z_ValueError : PySem.W.nsIn K mainGlobals "ValueError" = some none)
    (z_tuple : PySem.W.nsIn K mainGlobals "tuple" = some none)
    (z_str : PySem.W.nsIn K mainGlobals "str" = some none)
    : ∃ fd : FuncData, (∀ (s : Shared) (v : Value), BindsTo s fd ⟨[v], []⟩ [("_law_script", v)]) ∧ ∀ base : Heap, K.In base → base.Ns mainGlobals mg → FnOk l.prog w K mg base CX0 13 fa fd ["_law_script"] (spLaw K) := by
  have e := hfa.symm.trans (PySem.W.mg_of X G a_law)
  cases e
  let g : Gs := ⟨f_Disk_init, PySem.W.fnOf "__init__" "Disk.__init__" (defArgs s_Disk_init) (defBody s_Disk_init) (defScope s_Disk_init) .none kV_Disk_init dc_Disk_init pm_Disk_init an_Disk_init cd_Disk_init ct_Disk_init,
    f_Disk_read, PySem.W.fnOf "read" "Disk.read" (defArgs s_Disk_read) (defBody s_Disk_read) (defScope s_Disk_read) .none kV_Disk_read dc_Disk_read pm_Disk_read an_Disk_read cd_Disk_read ct_Disk_read,
    f_Disk_write, PySem.W.fnOf "write" "Disk.write" (defArgs s_Disk_write) (defBody s_Disk_write) (defScope s_Disk_write) .none kV_Disk_write dc_Disk_write pm_Disk_write an_Disk_write cd_Disk_write ct_Disk_write,
    f_newest_first, PySem.W.fnOf "newest_first" "newest_first" (defArgs s_newest_first) (defBody s_newest_first) (defScope s_newest_first) .none kV_newest_first dc_newest_first pm_newest_first an_newest_first cd_newest_first ct_newest_first,
    f_Files_stat, PySem.W.fnOf "stat" "Files.stat" (defArgs s_Files_stat) (defBody s_Files_stat) (defScope s_Files_stat) .none kV_Files_stat dc_Files_stat pm_Files_stat an_Files_stat cd_Files_stat ct_Files_stat,
    f_files_of, PySem.W.fnOf "files_of" "files_of" (defArgs s_files_of) (defBody s_files_of) (defScope s_files_of) .none kV_files_of dc_files_of pm_files_of an_files_of cd_files_of ct_files_of,
    f_mounted, PySem.W.fnOf "mounted" "mounted" (defArgs s_mounted) (defBody s_mounted) (defScope s_mounted) .none kV_mounted dc_mounted pm_mounted an_mounted cd_mounted ct_mounted,
    f__law_cell, PySem.W.fnOf "_law_cell" "_law_cell" (defArgs s__law_cell) (defBody s__law_cell) (defScope s__law_cell) .none kV__law_cell dc__law_cell pm__law_cell an__law_cell cd__law_cell ct__law_cell,
    f__law_drawn, PySem.W.fnOf "_law_drawn" "_law_drawn" (defArgs s__law_drawn) (defBody s__law_drawn) (defScope s__law_drawn) .none kV__law_drawn dc__law_drawn pm__law_drawn an__law_drawn cd__law_drawn ct__law_drawn,
    f__law_word, PySem.W.fnOf "_law_word" "_law_word" (defArgs s__law_word) (defBody s__law_word) (defScope s__law_word) .none kV__law_word dc__law_word pm__law_word an__law_word cd__law_word ct__law_word,
    f__law_mounted, PySem.W.fnOf "_law_mounted" "_law_mounted" (defArgs s__law_mounted) (defBody s__law_mounted) (defScope s__law_mounted) .none kV__law_mounted dc__law_mounted pm__law_mounted an__law_mounted cd__law_mounted ct__law_mounted,
    fa, PySem.W.fnOf "law" "law" (defArgs s_law) (defBody s_law) (defScope s_law) .none kV_law dc_law pm_law an_law cd_law ct_law,
    a_Disk,
    a_Files,
    a_NoThing,
    a_NoDirectory,
    a_BadName,
    a_IsThere,
    a_NoRoom,
    a_NotEmpty,
    a_WrongKind,
    a_TooGreat,
    a_ReadOnly,
    a_NoFiles,
    a_StillError,
    t_FEWEST_BLOCKS,
    t_MOST_BLOCKS,
    t_BLOCK_BYTES,
    a_MARK,
    t_TURN_PLACE,
    t_TURNS⟩
  have T : Tx K mg g := ⟨PySem.W.mg_of X G e_Disk,
    PySem.W.mg_of X G e_Files,
    PySem.W.mg_of X G e_NoThing,
    PySem.W.mg_of X G e_NoDirectory,
    PySem.W.mg_of X G e_BadName,
    PySem.W.mg_of X G e_IsThere,
    PySem.W.mg_of X G e_NoRoom,
    PySem.W.mg_of X G e_NotEmpty,
    PySem.W.mg_of X G e_WrongKind,
    PySem.W.mg_of X G e_TooGreat,
    PySem.W.mg_of X G e_ReadOnly,
    PySem.W.mg_of X G e_NoFiles,
    PySem.W.mg_of X G e_StillError,
    ⟨pg_Disk, hd_Disk, po_Disk, sa_Disk⟩,
    n_Disk_blocks,
    n_Disk_log,
    ⟨pg_Files, hd_Files, po_Files, sa_Files⟩,
    n_Files_state,
    n_Files_kept,
    n_Files_store,
    n_Files_image,
    fun_mk (st := s_Disk_init) l_Disk_init c_Disk_init k_Disk_init,
    (fun_mk (st := s_Disk_init) l_Disk_init c_Disk_init k_Disk_init).binds (ps := ["self", "count"]) fun _ _ _ _ _ _ us hl => match us, hl with | [_, _], _ => rfl,
    ⟨mk_Disk, a_Disk_init, i_Disk_init, kc_Disk⟩,
    fun_mk (st := s_Disk_read) l_Disk_read c_Disk_read k_Disk_read,
    (fun_mk (st := s_Disk_read) l_Disk_read c_Disk_read k_Disk_read).binds (ps := ["self", "number"]) fun _ _ _ _ _ _ us hl => match us, hl with | [_, _], _ => rfl,
    ⟨a_Disk_read, i_Disk_read, k_Disk_read⟩,
    fun_mk (st := s_Disk_write) l_Disk_write c_Disk_write k_Disk_write,
    (fun_mk (st := s_Disk_write) l_Disk_write c_Disk_write k_Disk_write).binds (ps := ["self", "number", "block"]) fun _ _ _ _ _ _ us hl => match us, hl with | [_, _, _], _ => rfl,
    ⟨a_Disk_write, i_Disk_write, k_Disk_write⟩,
    fun_mk (st := s_newest_first) l_newest_first c_newest_first k_newest_first,
    (fun_mk (st := s_newest_first) l_newest_first c_newest_first k_newest_first).binds (ps := ["disk"]) fun _ _ _ _ _ _ us hl => match us, hl with | [_], _ => rfl,
    PySem.W.mg_of X G a_newest_first,
    fun_mk (st := s_Files_stat) l_Files_stat c_Files_stat k_Files_stat,
    (fun_mk (st := s_Files_stat) l_Files_stat c_Files_stat k_Files_stat).binds (ps := ["self", "number"]) fun _ _ _ _ _ _ us hl => match us, hl with | [_, _], _ => rfl,
    ⟨a_Files_stat, i_Files_stat, k_Files_stat⟩,
    fun_mk (st := s_files_of) l_files_of c_files_of k_files_of,
    (fun_mk (st := s_files_of) l_files_of c_files_of k_files_of).binds (ps := ["disk", "slot"]) fun _ _ _ _ _ _ us hl => match us, hl with | [_, _], _ => rfl,
    PySem.W.mg_of X G a_files_of,
    fun_mk (st := s_mounted) l_mounted c_mounted k_mounted,
    (fun_mk (st := s_mounted) l_mounted c_mounted k_mounted).binds (ps := ["disk"]) fun _ _ _ _ _ _ us hl => match us, hl with | [_], _ => rfl,
    PySem.W.mg_of X G a_mounted,
    fun_mk (st := s__law_cell) l__law_cell c__law_cell k__law_cell,
    (fun_mk (st := s__law_cell) l__law_cell c__law_cell k__law_cell).binds (ps := ["_law_script", "_law_k"]) fun _ _ _ _ _ _ us hl => match us, hl with | [_, _], _ => rfl,
    PySem.W.mg_of X G a__law_cell,
    fun_mk (st := s__law_drawn) l__law_drawn c__law_drawn k__law_drawn,
    (fun_mk (st := s__law_drawn) l__law_drawn c__law_drawn k__law_drawn).binds (ps := ["_law_cell_here", "_law_k"]) fun _ _ _ _ _ _ us hl => match us, hl with | [_, _], _ => rfl,
    PySem.W.mg_of X G a__law_drawn,
    fun_mk (st := s__law_word) l__law_word c__law_word k__law_word,
    (fun_mk (st := s__law_word) l__law_word c__law_word k__law_word).binds (ps := ["_law_e"]) fun _ _ _ _ _ _ us hl => match us, hl with | [_], _ => rfl,
    PySem.W.mg_of X G a__law_word,
    fun_mk (st := s__law_mounted) l__law_mounted c__law_mounted k__law_mounted,
    (fun_mk (st := s__law_mounted) l__law_mounted c__law_mounted k__law_mounted).binds (ps := ["_law_disk"]) fun _ _ _ _ _ _ us hl => match us, hl with | [_], _ => rfl,
    PySem.W.mg_of X G a__law_mounted,
    fun_mk (st := s_law) l_law c_law k_law,
    (fun_mk (st := s_law) l_law c_law k_law).binds (ps := ["_law_script"]) fun _ _ _ _ _ _ us hl => match us, hl with | [_], _ => rfl,
    PySem.W.mg_of X G a_law,
    ⟨xc_NoThing⟩,
    ⟨xc_NoDirectory⟩,
    ⟨xc_BadName⟩,
    ⟨xc_IsThere⟩,
    ⟨xc_NoRoom⟩,
    ⟨xc_NotEmpty⟩,
    ⟨xc_WrongKind⟩,
    ⟨xc_TooGreat⟩,
    ⟨xc_ReadOnly⟩,
    ⟨xc_NoFiles⟩,
    fun r => by cases r with | noThing => exact ⟨xga_NoThing, xgh_NoThing, xcc_NoThing, xob_NoThing, xba_NoThing, congrArg Option.isSome xcl_NoThing, xgg, xtk⟩ | noDirectory => exact ⟨xga_NoDirectory, xgh_NoDirectory, xcc_NoDirectory, xob_NoDirectory, xba_NoDirectory, congrArg Option.isSome xcl_NoDirectory, xgg, xtk⟩ | badName => exact ⟨xga_BadName, xgh_BadName, xcc_BadName, xob_BadName, xba_BadName, congrArg Option.isSome xcl_BadName, xgg, xtk⟩ | isThere => exact ⟨xga_IsThere, xgh_IsThere, xcc_IsThere, xob_IsThere, xba_IsThere, congrArg Option.isSome xcl_IsThere, xgg, xtk⟩ | noRoom => exact ⟨xga_NoRoom, xgh_NoRoom, xcc_NoRoom, xob_NoRoom, xba_NoRoom, congrArg Option.isSome xcl_NoRoom, xgg, xtk⟩ | notEmpty => exact ⟨xga_NotEmpty, xgh_NotEmpty, xcc_NotEmpty, xob_NotEmpty, xba_NotEmpty, congrArg Option.isSome xcl_NotEmpty, xgg, xtk⟩ | wrongKind => exact ⟨xga_WrongKind, xgh_WrongKind, xcc_WrongKind, xob_WrongKind, xba_WrongKind, congrArg Option.isSome xcl_WrongKind, xgg, xtk⟩ | tooGreat => exact ⟨xga_TooGreat, xgh_TooGreat, xcc_TooGreat, xob_TooGreat, xba_TooGreat, congrArg Option.isSome xcl_TooGreat, xgg, xtk⟩ | readOnly => exact ⟨xga_ReadOnly, xgh_ReadOnly, xcc_ReadOnly, xob_ReadOnly, xba_ReadOnly, congrArg Option.isSome xcl_ReadOnly, xgg, xtk⟩ | noFiles => exact ⟨xga_NoFiles, xgh_NoFiles, xcc_NoFiles, xob_NoFiles, xba_NoFiles, congrArg Option.isSome xcl_NoFiles, xgg, xtk⟩,
    fun r u => by cases r with | noThing => (cases u with | noThing => exact q_NoThing_NoThing | noDirectory => exact q_NoThing_NoDirectory | badName => exact q_NoThing_BadName | isThere => exact q_NoThing_IsThere | noRoom => exact q_NoThing_NoRoom | notEmpty => exact q_NoThing_NotEmpty | wrongKind => exact q_NoThing_WrongKind | tooGreat => exact q_NoThing_TooGreat | readOnly => exact q_NoThing_ReadOnly | noFiles => exact q_NoThing_NoFiles) | noDirectory => (cases u with | noThing => exact q_NoDirectory_NoThing | noDirectory => exact q_NoDirectory_NoDirectory | badName => exact q_NoDirectory_BadName | isThere => exact q_NoDirectory_IsThere | noRoom => exact q_NoDirectory_NoRoom | notEmpty => exact q_NoDirectory_NotEmpty | wrongKind => exact q_NoDirectory_WrongKind | tooGreat => exact q_NoDirectory_TooGreat | readOnly => exact q_NoDirectory_ReadOnly | noFiles => exact q_NoDirectory_NoFiles) | badName => (cases u with | noThing => exact q_BadName_NoThing | noDirectory => exact q_BadName_NoDirectory | badName => exact q_BadName_BadName | isThere => exact q_BadName_IsThere | noRoom => exact q_BadName_NoRoom | notEmpty => exact q_BadName_NotEmpty | wrongKind => exact q_BadName_WrongKind | tooGreat => exact q_BadName_TooGreat | readOnly => exact q_BadName_ReadOnly | noFiles => exact q_BadName_NoFiles) | isThere => (cases u with | noThing => exact q_IsThere_NoThing | noDirectory => exact q_IsThere_NoDirectory | badName => exact q_IsThere_BadName | isThere => exact q_IsThere_IsThere | noRoom => exact q_IsThere_NoRoom | notEmpty => exact q_IsThere_NotEmpty | wrongKind => exact q_IsThere_WrongKind | tooGreat => exact q_IsThere_TooGreat | readOnly => exact q_IsThere_ReadOnly | noFiles => exact q_IsThere_NoFiles) | noRoom => (cases u with | noThing => exact q_NoRoom_NoThing | noDirectory => exact q_NoRoom_NoDirectory | badName => exact q_NoRoom_BadName | isThere => exact q_NoRoom_IsThere | noRoom => exact q_NoRoom_NoRoom | notEmpty => exact q_NoRoom_NotEmpty | wrongKind => exact q_NoRoom_WrongKind | tooGreat => exact q_NoRoom_TooGreat | readOnly => exact q_NoRoom_ReadOnly | noFiles => exact q_NoRoom_NoFiles) | notEmpty => (cases u with | noThing => exact q_NotEmpty_NoThing | noDirectory => exact q_NotEmpty_NoDirectory | badName => exact q_NotEmpty_BadName | isThere => exact q_NotEmpty_IsThere | noRoom => exact q_NotEmpty_NoRoom | notEmpty => exact q_NotEmpty_NotEmpty | wrongKind => exact q_NotEmpty_WrongKind | tooGreat => exact q_NotEmpty_TooGreat | readOnly => exact q_NotEmpty_ReadOnly | noFiles => exact q_NotEmpty_NoFiles) | wrongKind => (cases u with | noThing => exact q_WrongKind_NoThing | noDirectory => exact q_WrongKind_NoDirectory | badName => exact q_WrongKind_BadName | isThere => exact q_WrongKind_IsThere | noRoom => exact q_WrongKind_NoRoom | notEmpty => exact q_WrongKind_NotEmpty | wrongKind => exact q_WrongKind_WrongKind | tooGreat => exact q_WrongKind_TooGreat | readOnly => exact q_WrongKind_ReadOnly | noFiles => exact q_WrongKind_NoFiles) | tooGreat => (cases u with | noThing => exact q_TooGreat_NoThing | noDirectory => exact q_TooGreat_NoDirectory | badName => exact q_TooGreat_BadName | isThere => exact q_TooGreat_IsThere | noRoom => exact q_TooGreat_NoRoom | notEmpty => exact q_TooGreat_NotEmpty | wrongKind => exact q_TooGreat_WrongKind | tooGreat => exact q_TooGreat_TooGreat | readOnly => exact q_TooGreat_ReadOnly | noFiles => exact q_TooGreat_NoFiles) | readOnly => (cases u with | noThing => exact q_ReadOnly_NoThing | noDirectory => exact q_ReadOnly_NoDirectory | badName => exact q_ReadOnly_BadName | isThere => exact q_ReadOnly_IsThere | noRoom => exact q_ReadOnly_NoRoom | notEmpty => exact q_ReadOnly_NotEmpty | wrongKind => exact q_ReadOnly_WrongKind | tooGreat => exact q_ReadOnly_TooGreat | readOnly => exact q_ReadOnly_ReadOnly | noFiles => exact q_ReadOnly_NoFiles) | noFiles => (cases u with | noThing => exact q_NoFiles_NoThing | noDirectory => exact q_NoFiles_NoDirectory | badName => exact q_NoFiles_BadName | isThere => exact q_NoFiles_IsThere | noRoom => exact q_NoFiles_NoRoom | notEmpty => exact q_NoFiles_NotEmpty | wrongKind => exact q_NoFiles_WrongKind | tooGreat => exact q_NoFiles_TooGreat | readOnly => exact q_NoFiles_ReadOnly | noFiles => exact q_NoFiles_NoFiles),
    fun r => by cases r with | noThing => exact qS_NoThing | noDirectory => exact qS_NoDirectory | badName => exact qS_BadName | isThere => exact qS_IsThere | noRoom => exact qS_NoRoom | notEmpty => exact qS_NotEmpty | wrongKind => exact qS_WrongKind | tooGreat => exact qS_TooGreat | readOnly => exact qS_ReadOnly | noFiles => exact qS_NoFiles,
    fun r => by cases r with | noThing => exact qV_NoThing | noDirectory => exact qV_NoDirectory | badName => exact qV_BadName | isThere => exact qV_IsThere | noRoom => exact qV_NoRoom | notEmpty => exact qV_NotEmpty | wrongKind => exact qV_WrongKind | tooGreat => exact qV_TooGreat | readOnly => exact qV_ReadOnly | noFiles => exact qV_NoFiles,
    ⟨ty_NoFiles, congrArg Option.isSome xcl_NoFiles, bs_NoFiles⟩,
    sb_NoFiles,
    ky_NoThing,
    ky_NoDirectory,
    ky_BadName,
    ky_IsThere,
    ky_NoRoom,
    ky_NotEmpty,
    ky_WrongKind,
    ky_TooGreat,
    ky_ReadOnly,
    ky_NoFiles,
    fun r => by cases r with | noThing => exact ⟨st_NoThing, xba_NoThing⟩ | noDirectory => exact ⟨st_NoDirectory, xba_NoDirectory⟩ | badName => exact ⟨st_BadName, xba_BadName⟩ | isThere => exact ⟨st_IsThere, xba_IsThere⟩ | noRoom => exact ⟨st_NoRoom, xba_NoRoom⟩ | notEmpty => exact ⟨st_NotEmpty, xba_NotEmpty⟩ | wrongKind => exact ⟨st_WrongKind, xba_WrongKind⟩ | tooGreat => exact ⟨st_TooGreat, xba_TooGreat⟩ | readOnly => exact ⟨st_ReadOnly, xba_ReadOnly⟩ | noFiles => exact ⟨st_NoFiles, xba_NoFiles⟩,
    PySem.W.mg_of X G g_FEWEST_BLOCKS,
    PySem.W.mg_of X G g_MOST_BLOCKS,
    PySem.W.mg_of X G g_BLOCK_BYTES,
    PySem.W.mg_of X G g_MARK,
    fun H => .inr ⟨_, _, _, lt_MARK, rfl, rfl, (by show 4 ≤ sizeLine; decide), (.cons ⟨u_MARK_0, rfl⟩ (.cons ⟨u_MARK_1, rfl⟩ (.cons ⟨u_MARK_2, rfl⟩ (.cons ⟨u_MARK_3, rfl⟩ .nil))))⟩,
    PySem.W.mg_of X G g_TURN_PLACE,
    PySem.W.mg_of X G g_TURNS,
    PySem.W.mg_none_of X G z_range,
    PySem.W.mg_none_of X G z_len,
    PySem.W.mg_none_of X G z_isinstance,
    PySem.W.mg_none_of X G z_ValueError,
    PySem.W.mg_none_of X G z_tuple,
    PySem.W.mg_none_of X G z_str⟩
  refine ⟨g.law_d, fun s v => .of_eq rfl, fun base _ _ => ?_⟩
  exact ok_law T
theorem walk {l : PySem.W.OpenLaw} {q : Program} {loose : List Str} {XP : (Str → Option Value) → Heap → Prop} {YP : World → Heap → Prop} {d : DefRec} {K : Params → PySem.W.Frag} (hn : l.most = some 63) (hdf : d.params.defaults = [])
    (hY : ∀ (w : World) (h : Heap), YP w h → (K w.params).In h)
    (F : ∀ (w : World) (mg : Str → Option Value) (fa : Addr) (h : Heap), (K w.params).In h → h.Ns mainGlobals mg → mg d.name = some (.ref fa) →
      ∃ fd : FuncData, (∀ (s : Shared) (u : Value), BindsTo s fd ⟨[u], []⟩ [("_law_script", u)]) ∧ ∀ base : Heap, (K w.params).In base → base.Ns mainGlobals mg → FnOk l.prog w (K w.params) mg base CX0 13 fa fd ["_law_script"] (spLaw (K w.params))) :
    PySem.W.WalkO q loose XP YP l.row.toRowW d [] (fun f vs => PySem.call f vs) :=
  L2.walk_of (n := 63) (k := 13) (x := "_law_script") (CX := fun _ => CX0) (sp := fun w => spLaw (K w.params)) hn (by decide) hdf ⟨rfl, by decide, by decide⟩ hY F (fun _ _ a ns hl _ hS => ⟨a, ns, rfl, hS, hl, fun _ => rfl⟩) fun _ _ _ _ _ z => z
end KS


set_option Elab.async false
abbrev PySem.W.Fast.tw12190309776297175104 : Nat := 0
abbrev PySem.W.Fast.tw14970509181827423360 : Nat := 0
abbrev PySem.W.Fast.tw17200155079816920256 : Nat := 0
abbrev PySem.W.Fast.tw6213891124641300704 : Nat := 0
abbrev PySem.W.Fast.tw18280343851050352896 : Nat := 0
abbrev PySem.W.Fast.tw8614848073328945472 : Nat := 0
abbrev PySem.W.Fast.tw345765648951457152 : Nat := 0
abbrev PySem.W.Fast.tw2879723580311684544 : Nat := 0
abbrev PySem.W.Fast.tw12316539944264737344 : Nat := 0
abbrev PySem.W.Fast.tw7083655272417317536 : Nat := 0
abbrev PySem.W.Fast.tw11950497237424535200 : Nat := 0
abbrev PySem.W.Fast.tw9458898141599461088 : Nat := 0
abbrev PySem.W.Fast.tw1727596310926548768 : Nat := 0
abbrev PySem.W.Fast.tw13687973059555522464 : Nat := 0
abbrev PySem.W.Fast.tw13146517076091430816 : Nat := 0
abbrev PySem.W.Fast.tw2343622442562158593 : Nat := 0
abbrev PySem.W.Fast.tw1875126554707591329 : Nat := 0
abbrev PySem.W.Fast.tw8770560551955834017 : Nat := 0
abbrev PySem.W.Fast.tw784278112314962081 : Nat := 0
abbrev PySem.W.Fast.tw6120844732424089793 : Nat := 0
abbrev PySem.W.Fast.tw8701507922691261665 : Nat := 0
abbrev PySem.W.Fast.tw363775889822363905 : Nat := 0
abbrev PySem.W.Fast.tw12650516048785293633 : Nat := 0
abbrev PySem.W.Fast.tw16973740529913785697 : Nat := 0
abbrev PySem.W.Fast.tw11716703297613034881 : Nat := 0
abbrev PySem.W.Fast.tw12526369478802875809 : Nat := 0
abbrev PySem.W.Fast.tw14648379239492103617 : Nat := 0
abbrev PySem.W.Fast.tw16544099489972806081 : Nat := 0
abbrev PySem.W.Fast.tw8834542193911377409 : Nat := 0
abbrev PySem.W.Fast.tw6258754945611149921 : Nat := 0
abbrev PySem.W.Fast.tw81664755636863649 : Nat := 0
abbrev PySem.W.Fast.tw10656619299064177313 : Nat := 0
abbrev PySem.W.Fast.tw512144856100026049 : Nat := 0
abbrev PySem.W.Fast.tw11002090466036128481 : Nat := 0
abbrev PySem.W.Fast.tw3546703987167144769 : Nat := 0
abbrev PySem.W.Fast.tw1286748381280411489 : Nat := 0
abbrev PySem.W.Fast.tw356855014084878177 : Nat := 0
abbrev PySem.W.Fast.tw10626393815968894881 : Nat := 0
abbrev PySem.W.Fast.tw6789915295071394721 : Nat := 0
abbrev PySem.W.Fast.tw3875972222175820737 : Nat := 0
abbrev PySem.W.Fast.tw17160063080224737217 : Nat := 0
abbrev PySem.W.Fast.tw10437253827736846305 : Nat := 0
abbrev PySem.W.Fast.tw6801116159811190818 : Nat := 0
abbrev PySem.W.Fast.tw1672645246364591138 : Nat := 0
abbrev PySem.W.Fast.tw1800940672801252386 : Nat := 0
abbrev PySem.W.Fast.tw10088388319323286594 : Nat := 0
abbrev PySem.W.Fast.tw14147114145384612994 : Nat := 0
abbrev PySem.W.Fast.tw16520962092881997026 : Nat := 0
abbrev PySem.W.Fast.tw12832378221162418562 : Nat := 0
abbrev PySem.W.Fast.tw4343157607042358722 : Nat := 0
abbrev PySem.W.Fast.tw6863185404477844962 : Nat := 0
abbrev PySem.W.Fast.tw3239933292809029090 : Nat := 0
abbrev PySem.W.Fast.tw13930182750725348898 : Nat := 0
abbrev PySem.W.Fast.tw13459075652486116930 : Nat := 0
abbrev PySem.W.Fast.tw9536396233898104418 : Nat := 0
abbrev PySem.W.Fast.tw2059773424151848578 : Nat := 0
abbrev PySem.W.Fast.tw15516794266625647234 : Nat := 0
abbrev PySem.W.Fast.tw1022503407435154082 : Nat := 0
abbrev PySem.W.Fast.tw11724703179581719202 : Nat := 0
abbrev PySem.W.Fast.tw16115858907585400482 : Nat := 0
abbrev PySem.W.Fast.tw8658471397292942018 : Nat := 0
abbrev PySem.W.Fast.tw715916288147134210 : Nat := 0
abbrev PySem.W.Fast.tw1034862732489724706 : Nat := 0
abbrev PySem.W.Fast.tw11053861666378695554 : Nat := 0
abbrev PySem.W.Fast.tw11842178154093900674 : Nat := 0
abbrev PySem.W.Fast.tw13159234558975406018 : Nat := 0
abbrev PySem.W.Fast.tw9292371257876772802 : Nat := 0
abbrev PySem.W.Fast.tw1039137444488209539 : Nat := 0
abbrev PySem.W.Fast.tw5970120154404535459 : Nat := 0
abbrev PySem.W.Fast.tw10884604865712615619 : Nat := 0
abbrev PySem.W.Fast.tw17088373429928017123 : Nat := 0
abbrev PySem.W.Fast.tw3429682858088985827 : Nat := 0
abbrev PySem.W.Fast.tw18052430744452920579 : Nat := 0
abbrev PySem.W.Fast.tw1881247732538086691 : Nat := 0
abbrev PySem.W.Fast.tw9404828298276430179 : Nat := 0
abbrev PySem.W.Fast.tw17080608930810877411 : Nat := 0
abbrev PySem.W.Fast.tw10005886566980580867 : Nat := 0
abbrev PySem.W.Fast.tw14326599773725399651 : Nat := 0
abbrev PySem.W.Fast.tw10108434451252583043 : Nat := 0
abbrev PySem.W.Fast.tw15435502050508581507 : Nat := 0
abbrev PySem.W.Fast.tw12072884980003195523 : Nat := 0
abbrev PySem.W.Fast.tw18011303886597763811 : Nat := 0
abbrev PySem.W.Fast.tw922544565535003363 : Nat := 0
abbrev PySem.W.Fast.tw2556335881249511139 : Nat := 0
abbrev PySem.W.Fast.tw16869272643943398115 : Nat := 0
abbrev PySem.W.Fast.tw3014825776472698659 : Nat := 0
abbrev PySem.W.Fast.tw12277084300088042307 : Nat := 0
abbrev PySem.W.Fast.tw17811071551786937155 : Nat := 0
abbrev PySem.W.Fast.tw8016913919590364995 : Nat := 0
abbrev PySem.W.Fast.tw12525251376555203427 : Nat := 0
abbrev PySem.W.Fast.tw14771908352156478307 : Nat := 0
abbrev PySem.W.Fast.tw14574374697396134755 : Nat := 0
abbrev PySem.W.Fast.tw1152574686478486403 : Nat := 0
abbrev PySem.W.Fast.tw2182039121329381251 : Nat := 0
abbrev PySem.W.Fast.tw13637770885305636771 : Nat := 0
abbrev PySem.W.Fast.tw10063413727309541315 : Nat := 0
abbrev PySem.W.Fast.tw17661251614071932932 : Nat := 0
abbrev PySem.W.Fast.tw11878453411562378276 : Nat := 0
abbrev PySem.W.Fast.tw11682496564107940932 : Nat := 0
abbrev PySem.W.Fast.tw3609907689121671236 : Nat := 0
abbrev PySem.W.Fast.tw2408539536712831140 : Nat := 0
abbrev PySem.W.Fast.tw6022445258160425124 : Nat := 0
abbrev PySem.W.Fast.tw2142720844692756676 : Nat := 0
abbrev PySem.W.Fast.tw7167494732911603908 : Nat := 0
abbrev PySem.W.Fast.tw4019688040028173540 : Nat := 0
abbrev PySem.W.Fast.tw4110036936304398596 : Nat := 0
abbrev PySem.W.Fast.tw2310442761345582340 : Nat := 0
abbrev PySem.W.Fast.tw17973177799420074340 : Nat := 0
abbrev PySem.W.Fast.tw4349411920390557060 : Nat := 0
abbrev PySem.W.Fast.tw13533178811526607268 : Nat := 0
abbrev PySem.W.Fast.tw12772140169889706532 : Nat := 0
abbrev PySem.W.Fast.tw4381651109913178692 : Nat := 0
abbrev PySem.W.Fast.tw15940603731515628228 : Nat := 0
abbrev PySem.W.Fast.tw10910949354060411588 : Nat := 0
abbrev PySem.W.Fast.tw3633912142332509924 : Nat := 0
abbrev PySem.W.Fast.tw5097730423679442660 : Nat := 0
abbrev PySem.W.Fast.tw17562419016184920836 : Nat := 0
abbrev PySem.W.Fast.tw10275653871208233764 : Nat := 0
abbrev PySem.W.Fast.tw5540562108289171300 : Nat := 0
abbrev PySem.W.Fast.tw13286608824662399876 : Nat := 0
abbrev PySem.W.Fast.tw1897790866520620932 : Nat := 0
abbrev PySem.W.Fast.tw8491240175253652452 : Nat := 0
abbrev PySem.W.Fast.tw5124432560280730629 : Nat := 0
abbrev PySem.W.Fast.tw11920819597392587941 : Nat := 0
abbrev PySem.W.Fast.tw1103729880830988453 : Nat := 0
abbrev PySem.W.Fast.tw4001046425486421189 : Nat := 0
abbrev PySem.W.Fast.tw6949900195973926117 : Nat := 0
abbrev PySem.W.Fast.tw15864153060021140709 : Nat := 0
abbrev PySem.W.Fast.tw7463872743963183429 : Nat := 0
abbrev PySem.W.Fast.tw13304493218043123109 : Nat := 0
abbrev PySem.W.Fast.tw9059033046216939973 : Nat := 0
abbrev PySem.W.Fast.tw12814763372050606565 : Nat := 0
abbrev PySem.W.Fast.tw734818763445076485 : Nat := 0
abbrev PySem.W.Fast.tw1357910687033620997 : Nat := 0
abbrev PySem.W.Fast.tw11687161164484006437 : Nat := 0
abbrev PySem.W.Fast.tw15293634656094983749 : Nat := 0
abbrev PySem.W.Fast.tw11113386821861728869 : Nat := 0
abbrev PySem.W.Fast.tw11707940339684253317 : Nat := 0
abbrev PySem.W.Fast.tw500518371011466917 : Nat := 0
abbrev PySem.W.Fast.tw9275614518507496101 : Nat := 0
abbrev PySem.W.Fast.tw5133780548505473797 : Nat := 0
abbrev PySem.W.Fast.tw4237671879977416453 : Nat := 0
abbrev PySem.W.Fast.tw18082520768392782661 : Nat := 0
abbrev PySem.W.Fast.tw3613995961870896069 : Nat := 0
abbrev PySem.W.Fast.tw2095063740901451717 : Nat := 0
abbrev PySem.W.Fast.tw683025934818080709 : Nat := 0
abbrev PySem.W.Fast.tw4704041631438175205 : Nat := 0
abbrev PySem.W.Fast.tw10062690850155718629 : Nat := 0
abbrev PySem.W.Fast.tw6359782526476833765 : Nat := 0
abbrev PySem.W.Fast.tw10703336863649265702 : Nat := 0
abbrev PySem.W.Fast.tw10832270961646279782 : Nat := 0
abbrev PySem.W.Fast.tw3210052386100030694 : Nat := 0
abbrev PySem.W.Fast.tw7832532493736852742 : Nat := 0
abbrev PySem.W.Fast.tw5423564071162238214 : Nat := 0
abbrev PySem.W.Fast.tw9524333810933951750 : Nat := 0
abbrev PySem.W.Fast.tw334213106548109574 : Nat := 0
abbrev PySem.W.Fast.tw4550445950358945030 : Nat := 0
abbrev PySem.W.Fast.tw6857268025067221286 : Nat := 0
abbrev PySem.W.Fast.tw5947159636250236198 : Nat := 0
abbrev PySem.W.Fast.tw5863039038609920326 : Nat := 0
abbrev PySem.W.Fast.tw888778701139893606 : Nat := 0
abbrev PySem.W.Fast.tw4492635537794141638 : Nat := 0
abbrev PySem.W.Fast.tw5100836524206085574 : Nat := 0
abbrev PySem.W.Fast.tw16019922653422402054 : Nat := 0
abbrev PySem.W.Fast.tw12383520627854175878 : Nat := 0
abbrev PySem.W.Fast.tw12225039718639256262 : Nat := 0
abbrev PySem.W.Fast.tw10687170996262131398 : Nat := 0
abbrev PySem.W.Fast.tw5795137240347021030 : Nat := 0
abbrev PySem.W.Fast.tw5985644490141916934 : Nat := 0
abbrev PySem.W.Fast.tw5031796393413066502 : Nat := 0
abbrev PySem.W.Fast.tw6062928799938889510 : Nat := 0
abbrev PySem.W.Fast.tw12839434881296091942 : Nat := 0
abbrev PySem.W.Fast.tw11688672615178213190 : Nat := 0
abbrev PySem.W.Fast.tw2231816100727455590 : Nat := 0
abbrev PySem.W.Fast.tw3178981129857356678 : Nat := 0
abbrev PySem.W.Fast.tw1512484519044277126 : Nat := 0
abbrev PySem.W.Fast.tw12701967681007773574 : Nat := 0
abbrev PySem.W.Fast.tw17915965139182912486 : Nat := 0
abbrev PySem.W.Fast.tw16919715304385146854 : Nat := 0
abbrev PySem.W.Fast.tw16171374968240437222 : Nat := 0
abbrev PySem.W.Fast.tw4947937043949754375 : Nat := 0
abbrev PySem.W.Fast.tw18403183047514454023 : Nat := 0
abbrev PySem.W.Fast.tw8053971747567943719 : Nat := 0
abbrev PySem.W.Fast.tw17809379185138742343 : Nat := 0
abbrev PySem.W.Fast.tw154079577515121767 : Nat := 0
abbrev PySem.W.Fast.tw9000296225153155239 : Nat := 0
abbrev PySem.W.Fast.tw924839265889177767 : Nat := 0
abbrev PySem.W.Fast.tw14047274196945270983 : Nat := 0
abbrev PySem.W.Fast.tw16969795081625052359 : Nat := 0
abbrev PySem.W.Fast.tw3445839545063491879 : Nat := 0
abbrev PySem.W.Fast.tw16347884801191215463 : Nat := 0
abbrev PySem.W.Fast.tw4179720019975991687 : Nat := 0
abbrev PySem.W.Fast.tw5001198143934138823 : Nat := 0
abbrev PySem.W.Fast.tw1279418009948128711 : Nat := 0
abbrev PySem.W.Fast.tw15304985363949641191 : Nat := 0
abbrev PySem.W.Fast.tw16139258925361939975 : Nat := 0
abbrev PySem.W.Fast.tw10412898964377852423 : Nat := 0
abbrev PySem.W.Fast.tw10281194348096767495 : Nat := 0
abbrev PySem.W.Fast.tw7879799061888505383 : Nat := 0
abbrev PySem.W.Fast.tw4878369438554533415 : Nat := 0
abbrev PySem.W.Fast.tw16494195409195150983 : Nat := 0
abbrev PySem.W.Fast.tw17423896048247229063 : Nat := 0
abbrev PySem.W.Fast.tw1991078252528786055 : Nat := 0
abbrev PySem.W.Fast.tw17946937596933958279 : Nat := 0
abbrev PySem.W.Fast.tw9759410265853847207 : Nat := 0
abbrev PySem.W.Fast.tw8838212315229586087 : Nat := 0
abbrev PySem.W.Fast.tw15100503006508927815 : Nat := 0
abbrev PySem.W.Fast.tw11615977546087683911 : Nat := 0
abbrev PySem.W.Fast.tw2059542570936952679 : Nat := 0
abbrev PySem.W.Fast.tw18326170940888290151 : Nat := 0
abbrev PySem.W.Fast.tw12833345484138914695 : Nat := 0
abbrev PySem.W.Fast.tw1916234196197585799 : Nat := 0
abbrev PySem.W.Fast.tw3524409150353156039 : Nat := 0
abbrev PySem.W.Fast.tw16605106141250828263 : Nat := 0
abbrev PySem.W.Fast.tw16740417324076001255 : Nat := 0
abbrev PySem.W.Fast.tw1373079459319917640 : Nat := 0
abbrev PySem.W.Fast.tw4140328776122127432 : Nat := 0
abbrev PySem.W.Fast.tw8567100618855810152 : Nat := 0
abbrev PySem.W.Fast.tw10380398471966930056 : Nat := 0
abbrev PySem.W.Fast.tw8217769369905620104 : Nat := 0
abbrev PySem.W.Fast.tw4169130280963277992 : Nat := 0
abbrev PySem.W.Fast.tw16396740033832132776 : Nat := 0
abbrev PySem.W.Fast.tw7766126539851898120 : Nat := 0
abbrev PySem.W.Fast.tw2731042941918178600 : Nat := 0
abbrev PySem.W.Fast.tw11737216047965306152 : Nat := 0
abbrev PySem.W.Fast.tw8840692231763044744 : Nat := 0
abbrev PySem.W.Fast.tw4568176757854903784 : Nat := 0
abbrev PySem.W.Fast.tw11671305348785479176 : Nat := 0
abbrev PySem.W.Fast.tw17961626094349104680 : Nat := 0
abbrev PySem.W.Fast.tw791116505323043400 : Nat := 0
abbrev PySem.W.Fast.tw3166131680344705672 : Nat := 0
abbrev PySem.W.Fast.tw37159498695788200 : Nat := 0
abbrev PySem.W.Fast.tw4406215090955353768 : Nat := 0
abbrev PySem.W.Fast.tw5356210580387799752 : Nat := 0
abbrev PySem.W.Fast.tw8719821178670196424 : Nat := 0
abbrev PySem.W.Fast.tw7270441935406208744 : Nat := 0
abbrev PySem.W.Fast.tw4400412375970521832 : Nat := 0
abbrev PySem.W.Fast.tw7523623113889240808 : Nat := 0
abbrev PySem.W.Fast.tw11879601940843397960 : Nat := 0
abbrev PySem.W.Fast.tw5135425248488440680 : Nat := 0
abbrev PySem.W.Fast.tw6928129213042202472 : Nat := 0
abbrev PySem.W.Fast.tw18390521792187062152 : Nat := 0
abbrev PySem.W.Fast.tw7945851595186689960 : Nat := 0
abbrev PySem.W.Fast.tw3800982999846730793 : Nat := 0
abbrev PySem.W.Fast.tw18083096399277814921 : Nat := 0
abbrev PySem.W.Fast.tw3934479914254246089 : Nat := 0
abbrev PySem.W.Fast.tw8835968483145502921 : Nat := 0
abbrev PySem.W.Fast.tw2272535306005159177 : Nat := 0
abbrev PySem.W.Fast.tw7653292297501664553 : Nat := 0
abbrev PySem.W.Fast.tw2111958652235462985 : Nat := 0
abbrev PySem.W.Fast.tw17172026790602743145 : Nat := 0
abbrev PySem.W.Fast.tw4481784024556450185 : Nat := 0
abbrev PySem.W.Fast.tw4724376307464032649 : Nat := 0
abbrev PySem.W.Fast.tw10052541932049476009 : Nat := 0
abbrev PySem.W.Fast.tw9688736759909752265 : Nat := 0
abbrev PySem.W.Fast.tw11280037804005620329 : Nat := 0
abbrev PySem.W.Fast.tw4075486991583372905 : Nat := 0
abbrev PySem.W.Fast.tw10006086339605925513 : Nat := 0
abbrev PySem.W.Fast.tw132781009152273129 : Nat := 0
abbrev PySem.W.Fast.tw16618293060048559849 : Nat := 0
abbrev PySem.W.Fast.tw12018040195797153673 : Nat := 0
abbrev PySem.W.Fast.tw9852549479547416586 : Nat := 0
abbrev PySem.W.Fast.tw1937371748819978282 : Nat := 0
abbrev PySem.W.Fast.tw12673010680977069130 : Nat := 0
abbrev PySem.W.Fast.tw2136531395475116106 : Nat := 0
abbrev PySem.W.Fast.tw2825606445096392810 : Nat := 0
abbrev PySem.W.Fast.tw8041927707011470474 : Nat := 0
abbrev PySem.W.Fast.tw15213569385141707946 : Nat := 0
abbrev PySem.W.Fast.tw4173814765661798634 : Nat := 0
abbrev PySem.W.Fast.tw6865449146390488394 : Nat := 0
abbrev PySem.W.Fast.tw15605454719478772042 : Nat := 0
abbrev PySem.W.Fast.tw18001875832749002090 : Nat := 0
abbrev PySem.W.Fast.tw17554935539631978858 : Nat := 0
abbrev PySem.W.Fast.tw8665639398996317578 : Nat := 0
abbrev PySem.W.Fast.tw11606807132769807882 : Nat := 0
abbrev PySem.W.Fast.tw1265197839876551242 : Nat := 0
abbrev PySem.W.Fast.tw2864073628114123402 : Nat := 0
abbrev PySem.W.Fast.tw9924940319675245226 : Nat := 0
abbrev PySem.W.Fast.tw3823712583163383498 : Nat := 0
abbrev PySem.W.Fast.tw7545940497293527786 : Nat := 0
abbrev PySem.W.Fast.tw15148460761504866058 : Nat := 0
abbrev PySem.W.Fast.tw6045045490063972138 : Nat := 0
abbrev PySem.W.Fast.tw2011577668702364458 : Nat := 0
abbrev PySem.W.Fast.tw7096955370395082602 : Nat := 0
abbrev PySem.W.Fast.tw16357144186415447946 : Nat := 0
abbrev PySem.W.Fast.tw7982515527634877483 : Nat := 0
abbrev PySem.W.Fast.tw12603301274021473387 : Nat := 0
abbrev PySem.W.Fast.tw8928430481361432747 : Nat := 0
abbrev PySem.W.Fast.tw5231094012837821643 : Nat := 0
abbrev PySem.W.Fast.tw3379427944325470411 : Nat := 0
abbrev PySem.W.Fast.tw6345554223736881387 : Nat := 0
abbrev PySem.W.Fast.tw13797772083016775979 : Nat := 0
abbrev PySem.W.Fast.tw15650900942038744395 : Nat := 0
abbrev PySem.W.Fast.tw5052442791689173419 : Nat := 0
abbrev PySem.W.Fast.tw15839428306629345739 : Nat := 0
abbrev PySem.W.Fast.tw15856486620819375595 : Nat := 0
abbrev PySem.W.Fast.tw12396632371471558187 : Nat := 0
abbrev PySem.W.Fast.tw12327316912092787275 : Nat := 0
abbrev PySem.W.Fast.tw15009176610260340363 : Nat := 0
abbrev PySem.W.Fast.tw7660073391708680875 : Nat := 0
abbrev PySem.W.Fast.tw14272436322711292587 : Nat := 0
abbrev PySem.W.Fast.tw15469380304446122667 : Nat := 0
abbrev PySem.W.Fast.tw15028177903500099275 : Nat := 0
abbrev PySem.W.Fast.tw3552670937190590187 : Nat := 0
abbrev PySem.W.Fast.tw13089666731516707595 : Nat := 0
abbrev PySem.W.Fast.tw9796909813239173931 : Nat := 0
abbrev PySem.W.Fast.tw11138720002316218219 : Nat := 0
abbrev PySem.W.Fast.tw12190673873014179691 : Nat := 0
abbrev PySem.W.Fast.tw3057570922296409995 : Nat := 0
abbrev PySem.W.Fast.tw18230360981658872779 : Nat := 0
abbrev PySem.W.Fast.tw14467445473020769324 : Nat := 0
abbrev PySem.W.Fast.tw13932195752642058348 : Nat := 0
abbrev PySem.W.Fast.tw12881190904646758540 : Nat := 0
abbrev PySem.W.Fast.tw11319739803553849516 : Nat := 0
abbrev PySem.W.Fast.tw6084546163576041772 : Nat := 0
abbrev PySem.W.Fast.tw4663414236072755564 : Nat := 0
abbrev PySem.W.Fast.tw1678453640963413388 : Nat := 0
abbrev PySem.W.Fast.tw1303279057262150060 : Nat := 0
abbrev PySem.W.Fast.tw11389514941396129196 : Nat := 0
abbrev PySem.W.Fast.tw1660233892046002604 : Nat := 0
abbrev PySem.W.Fast.tw15244477172811313612 : Nat := 0
abbrev PySem.W.Fast.tw958142791365675500 : Nat := 0
abbrev PySem.W.Fast.tw6116496971414137324 : Nat := 0
abbrev PySem.W.Fast.tw7866743898732453356 : Nat := 0
abbrev PySem.W.Fast.tw13010452520248518156 : Nat := 0
abbrev PySem.W.Fast.tw8317205895444914700 : Nat := 0
abbrev PySem.W.Fast.tw1452837850526360108 : Nat := 0
abbrev PySem.W.Fast.tw3407276328329204268 : Nat := 0
abbrev PySem.W.Fast.tw6849206872745260716 : Nat := 0
abbrev PySem.W.Fast.tw1020553112163732172 : Nat := 0
abbrev PySem.W.Fast.tw14127284160753404652 : Nat := 0
abbrev PySem.W.Fast.tw4286083902765942508 : Nat := 0
abbrev PySem.W.Fast.tw14659712548850691852 : Nat := 0
abbrev PySem.W.Fast.tw2010395799282576140 : Nat := 0
abbrev PySem.W.Fast.tw12145475587338325868 : Nat := 0
abbrev PySem.W.Fast.tw1740524164758349708 : Nat := 0
abbrev PySem.W.Fast.tw3259225329932281772 : Nat := 0
abbrev PySem.W.Fast.tw16161132489454913484 : Nat := 0
abbrev PySem.W.Fast.tw14645101394821093324 : Nat := 0
abbrev PySem.W.Fast.tw13335580433881802732 : Nat := 0
abbrev PySem.W.Fast.tw9741709007051240428 : Nat := 0
abbrev PySem.W.Fast.tw6495420089805105165 : Nat := 0
abbrev PySem.W.Fast.tw13667718212375462957 : Nat := 0
abbrev PySem.W.Fast.tw9453476983661901869 : Nat := 0
abbrev PySem.W.Fast.tw6816160696706530381 : Nat := 0
abbrev PySem.W.Fast.tw2728866648578592013 : Nat := 0
abbrev PySem.W.Fast.tw3227202514278988045 : Nat := 0
abbrev PySem.W.Fast.tw14985451044883120397 : Nat := 0
abbrev PySem.W.Fast.tw3688878187937883437 : Nat := 0
abbrev PySem.W.Fast.tw13802866222065290573 : Nat := 0
abbrev PySem.W.Fast.tw7489291510286009709 : Nat := 0
abbrev PySem.W.Fast.tw16202879242429651309 : Nat := 0
abbrev PySem.W.Fast.tw3992781388473158029 : Nat := 0
abbrev PySem.W.Fast.tw17481225888537871789 : Nat := 0
abbrev PySem.W.Fast.tw8867904353912991149 : Nat := 0
abbrev PySem.W.Fast.tw8401036096329011629 : Nat := 0
abbrev PySem.W.Fast.tw3174686273210323501 : Nat := 0
abbrev PySem.W.Fast.tw5189677707374275117 : Nat := 0
abbrev PySem.W.Fast.tw8639020174504569453 : Nat := 0
abbrev PySem.W.Fast.tw9810566074694774381 : Nat := 0
abbrev PySem.W.Fast.tw75336360747560557 : Nat := 0
abbrev PySem.W.Fast.tw7563734963815974541 : Nat := 0
abbrev PySem.W.Fast.tw8641340683382010541 : Nat := 0
abbrev PySem.W.Fast.tw11643053243022166861 : Nat := 0
abbrev PySem.W.Fast.tw1463123578433905485 : Nat := 0
abbrev PySem.W.Fast.tw18431559779416642413 : Nat := 0
abbrev PySem.W.Fast.tw5016217270215432141 : Nat := 0
abbrev PySem.W.Fast.tw18436705679563052013 : Nat := 0
abbrev PySem.W.Fast.tw8096614269015213070 : Nat := 0
abbrev PySem.W.Fast.tw18414918267544913998 : Nat := 0
abbrev PySem.W.Fast.tw9419228461605079150 : Nat := 0
abbrev PySem.W.Fast.tw811784981531782286 : Nat := 0
abbrev PySem.W.Fast.tw2046500545577390222 : Nat := 0
abbrev PySem.W.Fast.tw15391667748879893678 : Nat := 0
abbrev PySem.W.Fast.tw11738325128404807918 : Nat := 0
abbrev PySem.W.Fast.tw2594607260603712814 : Nat := 0
abbrev PySem.W.Fast.tw7247689673416322350 : Nat := 0
abbrev PySem.W.Fast.tw17234502907418236206 : Nat := 0
abbrev PySem.W.Fast.tw2223947124531047758 : Nat := 0
abbrev PySem.W.Fast.tw15572833363875938670 : Nat := 0
abbrev PySem.W.Fast.tw2722792261779055982 : Nat := 0
abbrev PySem.W.Fast.tw10966760291550979502 : Nat := 0
abbrev PySem.W.Fast.tw715688642057465422 : Nat := 0
abbrev PySem.W.Fast.tw2386773027856126670 : Nat := 0
abbrev PySem.W.Fast.tw7693174448742536942 : Nat := 0
abbrev PySem.W.Fast.tw7223631919274282766 : Nat := 0
abbrev PySem.W.Fast.tw1268163764839050030 : Nat := 0
abbrev PySem.W.Fast.tw14868035797772109710 : Nat := 0
abbrev PySem.W.Fast.tw13237731021800605582 : Nat := 0
abbrev PySem.W.Fast.tw3225882401645128622 : Nat := 0
abbrev PySem.W.Fast.tw9677614575066493902 : Nat := 0
abbrev PySem.W.Fast.tw18189343766503509998 : Nat := 0
abbrev PySem.W.Fast.tw15288375691606419438 : Nat := 0
abbrev PySem.W.Fast.tw14716086143815643118 : Nat := 0
abbrev PySem.W.Fast.tw5090240619306718255 : Nat := 0
abbrev PySem.W.Fast.tw4055662029438466095 : Nat := 0
abbrev PySem.W.Fast.tw3069644881370464335 : Nat := 0
abbrev PySem.W.Fast.tw15169737753456074863 : Nat := 0
abbrev PySem.W.Fast.tw15807283885805836655 : Nat := 0
abbrev PySem.W.Fast.tw17632146392697072015 : Nat := 0
abbrev PySem.W.Fast.tw7731220103051997583 : Nat := 0
abbrev PySem.W.Fast.tw11772393619538672175 : Nat := 0
abbrev PySem.W.Fast.tw3403829090395206255 : Nat := 0
abbrev PySem.W.Fast.tw8030549708770276975 : Nat := 0
abbrev PySem.W.Fast.tw6169079529321779855 : Nat := 0
abbrev PySem.W.Fast.tw14006876161031396111 : Nat := 0
abbrev PySem.W.Fast.tw285262442190072655 : Nat := 0
abbrev PySem.W.Fast.tw3960075161635692399 : Nat := 0
abbrev PySem.W.Fast.tw12881428302518458351 : Nat := 0
abbrev PySem.W.Fast.tw3613141574869870608 : Nat := 0
abbrev PySem.W.Fast.tw15171166684099178512 : Nat := 0
abbrev PySem.W.Fast.tw16694010086907519056 : Nat := 0
abbrev PySem.W.Fast.tw833341132800526448 : Nat := 0
abbrev PySem.W.Fast.tw1130873300009520272 : Nat := 0
abbrev PySem.W.Fast.tw322479759577762960 : Nat := 0
abbrev PySem.W.Fast.tw4951584584134467824 : Nat := 0
abbrev PySem.W.Fast.tw999979140222211344 : Nat := 0
abbrev PySem.W.Fast.tw4841897833788721488 : Nat := 0
abbrev PySem.W.Fast.tw6081868593481910672 : Nat := 0
abbrev PySem.W.Fast.tw12694655418037765648 : Nat := 0
abbrev PySem.W.Fast.tw12019970889001943568 : Nat := 0
abbrev PySem.W.Fast.tw7347515192354829840 : Nat := 0
abbrev PySem.W.Fast.tw1073714639274319408 : Nat := 0
abbrev PySem.W.Fast.tw311129478801632816 : Nat := 0
abbrev PySem.W.Fast.tw11918842299769756304 : Nat := 0
abbrev PySem.W.Fast.tw15474430662695036560 : Nat := 0
abbrev PySem.W.Fast.tw8853550695236577968 : Nat := 0
abbrev PySem.W.Fast.tw14873293999875150576 : Nat := 0
abbrev PySem.W.Fast.tw9460211850393669424 : Nat := 0
abbrev PySem.W.Fast.tw10204911421263101776 : Nat := 0
abbrev PySem.W.Fast.tw1999064393627242352 : Nat := 0
abbrev PySem.W.Fast.tw14140706838912100240 : Nat := 0
abbrev PySem.W.Fast.tw16879529073188352944 : Nat := 0
abbrev PySem.W.Fast.tw14520869485574127536 : Nat := 0
abbrev PySem.W.Fast.tw2123419850806648784 : Nat := 0
abbrev PySem.W.Fast.tw6890512027871634384 : Nat := 0
abbrev PySem.W.Fast.tw15789179589821880304 : Nat := 0
abbrev PySem.W.Fast.tw12164030400402338897 : Nat := 0
abbrev PySem.W.Fast.tw18113434830976248913 : Nat := 0
abbrev PySem.W.Fast.tw10638678263986260081 : Nat := 0
abbrev PySem.W.Fast.tw12963485262938904689 : Nat := 0
abbrev PySem.W.Fast.tw543254017592353905 : Nat := 0
abbrev PySem.W.Fast.tw9333114031337151633 : Nat := 0
abbrev PySem.W.Fast.tw122117292591864017 : Nat := 0
abbrev PySem.W.Fast.tw16106877422387757297 : Nat := 0
abbrev PySem.W.Fast.tw5336933194604270865 : Nat := 0
abbrev PySem.W.Fast.tw17363809652746690865 : Nat := 0
abbrev PySem.W.Fast.tw13728632858473026897 : Nat := 0
abbrev PySem.W.Fast.tw6136535362698541425 : Nat := 0
abbrev PySem.W.Fast.tw12493578903354653105 : Nat := 0
abbrev PySem.W.Fast.tw8331375492622436977 : Nat := 0
abbrev PySem.W.Fast.tw13954613334676901553 : Nat := 0
abbrev PySem.W.Fast.tw16899875529195221681 : Nat := 0
abbrev PySem.W.Fast.tw10804134599012999921 : Nat := 0
abbrev PySem.W.Fast.tw14505612111124182833 : Nat := 0
abbrev PySem.W.Fast.tw2534662317661808465 : Nat := 0
abbrev PySem.W.Fast.tw15893478889666824081 : Nat := 0
abbrev PySem.W.Fast.tw6141788862957425585 : Nat := 0
abbrev PySem.W.Fast.tw9285478059803022289 : Nat := 0
abbrev PySem.W.Fast.tw1172148139180865489 : Nat := 0
abbrev PySem.W.Fast.tw4475149714186741778 : Nat := 0
abbrev PySem.W.Fast.tw8576000658183757842 : Nat := 0
abbrev PySem.W.Fast.tw12399880114319175730 : Nat := 0
abbrev PySem.W.Fast.tw8081537167863391314 : Nat := 0
abbrev PySem.W.Fast.tw16774979078784925810 : Nat := 0
abbrev PySem.W.Fast.tw15949636054404354162 : Nat := 0
abbrev PySem.W.Fast.tw3478442158584683634 : Nat := 0
abbrev PySem.W.Fast.tw8441600757018316018 : Nat := 0
abbrev PySem.W.Fast.tw2272377544775229682 : Nat := 0
abbrev PySem.W.Fast.tw12403612966343500018 : Nat := 0
abbrev PySem.W.Fast.tw17377440625081674994 : Nat := 0
abbrev PySem.W.Fast.tw10993059378202757394 : Nat := 0
abbrev PySem.W.Fast.tw1515347683271011602 : Nat := 0
abbrev PySem.W.Fast.tw14681781785232814418 : Nat := 0
abbrev PySem.W.Fast.tw14619514356258945394 : Nat := 0
abbrev PySem.W.Fast.tw6052552717491808658 : Nat := 0
abbrev PySem.W.Fast.tw8610103984646989234 : Nat := 0
abbrev PySem.W.Fast.tw9414597515313262002 : Nat := 0
abbrev PySem.W.Fast.tw10583323623082509778 : Nat := 0
abbrev PySem.W.Fast.tw17972055426300814802 : Nat := 0
abbrev PySem.W.Fast.tw12350912385916028402 : Nat := 0
abbrev PySem.W.Fast.tw8457559154081008114 : Nat := 0
abbrev PySem.W.Fast.tw8142782840432608786 : Nat := 0
abbrev PySem.W.Fast.tw3536548705409359442 : Nat := 0
abbrev PySem.W.Fast.tw13347464356927522418 : Nat := 0
abbrev PySem.W.Fast.tw7620094658909777554 : Nat := 0
abbrev PySem.W.Fast.tw8007725082963132050 : Nat := 0
abbrev PySem.W.Fast.tw2076729202023809714 : Nat := 0
abbrev PySem.W.Fast.tw2226570044782856914 : Nat := 0
abbrev PySem.W.Fast.tw17492174858287411922 : Nat := 0
abbrev PySem.W.Fast.tw13264860054338972402 : Nat := 0
abbrev PySem.W.Fast.tw4556079924044564242 : Nat := 0
abbrev PySem.W.Fast.tw10865568345833146130 : Nat := 0
abbrev PySem.W.Fast.tw4188537990545026834 : Nat := 0
abbrev PySem.W.Fast.tw2865062761559212818 : Nat := 0
abbrev PySem.W.Fast.tw5087658807636304690 : Nat := 0
abbrev PySem.W.Fast.tw12220322756286754610 : Nat := 0
abbrev PySem.W.Fast.tw11632458919026233202 : Nat := 0
abbrev PySem.W.Fast.tw14883792546006013810 : Nat := 0
abbrev PySem.W.Fast.tw400581341818602354 : Nat := 0
abbrev PySem.W.Fast.tw4502840805750730642 : Nat := 0
abbrev PySem.W.Fast.tw9626519069626574738 : Nat := 0
abbrev PySem.W.Fast.tw93020507856062450 : Nat := 0
abbrev PySem.W.Fast.tw10585525307182714866 : Nat := 0
abbrev PySem.W.Fast.tw12532532142657513523 : Nat := 0
abbrev PySem.W.Fast.tw2965082694583907379 : Nat := 0
abbrev PySem.W.Fast.tw14708677523327582323 : Nat := 0
abbrev PySem.W.Fast.tw17020582323211260051 : Nat := 0
abbrev PySem.W.Fast.tw6084815687816835251 : Nat := 0
abbrev PySem.W.Fast.tw17619826981857602835 : Nat := 0
abbrev PySem.W.Fast.tw5830829101357919571 : Nat := 0
abbrev PySem.W.Fast.tw13136243459679145331 : Nat := 0
abbrev PySem.W.Fast.tw910372016904102259 : Nat := 0
abbrev PySem.W.Fast.tw7080651558538830227 : Nat := 0
abbrev PySem.W.Fast.tw3777491469069238803 : Nat := 0
abbrev PySem.W.Fast.tw14029711909711155763 : Nat := 0
abbrev PySem.W.Fast.tw12853744035622892083 : Nat := 0
abbrev PySem.W.Fast.tw4560828496033806963 : Nat := 0
abbrev PySem.W.Fast.tw7707630699191470739 : Nat := 0
abbrev PySem.W.Fast.tw9095325565767377587 : Nat := 0
abbrev PySem.W.Fast.tw3769588066094169843 : Nat := 0
abbrev PySem.W.Fast.tw14759639219409995539 : Nat := 0
abbrev PySem.W.Fast.tw9140295064306604819 : Nat := 0
abbrev PySem.W.Fast.tw9680864599578477427 : Nat := 0
abbrev PySem.W.Fast.tw15369642689825251251 : Nat := 0
abbrev PySem.W.Fast.tw9318979288526403539 : Nat := 0
abbrev PySem.W.Fast.tw18424287249968709619 : Nat := 0
abbrev PySem.W.Fast.tw6063408536152389652 : Nat := 0
abbrev PySem.W.Fast.tw4413198673936003092 : Nat := 0
abbrev PySem.W.Fast.tw15144411066122765364 : Nat := 0
abbrev PySem.W.Fast.tw5434191044812055604 : Nat := 0
abbrev PySem.W.Fast.tw6579145014420041780 : Nat := 0
abbrev PySem.W.Fast.tw5489177649664163988 : Nat := 0
abbrev PySem.W.Fast.tw548546432925683892 : Nat := 0
abbrev PySem.W.Fast.tw8423256731422838004 : Nat := 0
abbrev PySem.W.Fast.tw10037367924753560820 : Nat := 0
abbrev PySem.W.Fast.tw1867062738441499892 : Nat := 0
abbrev PySem.W.Fast.tw273247782807343380 : Nat := 0
abbrev PySem.W.Fast.tw8125610908837738804 : Nat := 0
abbrev PySem.W.Fast.tw9726613156954538356 : Nat := 0
abbrev PySem.W.Fast.tw13223404926206055796 : Nat := 0
abbrev PySem.W.Fast.tw1791778731531718100 : Nat := 0
abbrev PySem.W.Fast.tw11951983048940886548 : Nat := 0
abbrev PySem.W.Fast.tw11699624565885700660 : Nat := 0
abbrev PySem.W.Fast.tw9416604076817461876 : Nat := 0
abbrev PySem.W.Fast.tw2556437202969927380 : Nat := 0
abbrev PySem.W.Fast.tw17049625125458446068 : Nat := 0
abbrev PySem.W.Fast.tw5692343372322942836 : Nat := 0
abbrev PySem.W.Fast.tw10685186056540781492 : Nat := 0
abbrev PySem.W.Fast.tw7149103752950681524 : Nat := 0
abbrev PySem.W.Fast.tw7246664389577169876 : Nat := 0
abbrev PySem.W.Fast.tw5129634498525987861 : Nat := 0
abbrev PySem.W.Fast.tw13323828065620592693 : Nat := 0
abbrev PySem.W.Fast.tw17426812436320172085 : Nat := 0
abbrev PySem.W.Fast.tw5601390207887032373 : Nat := 0
abbrev PySem.W.Fast.tw6328225739970200661 : Nat := 0
abbrev PySem.W.Fast.tw204974378507287669 : Nat := 0
abbrev PySem.W.Fast.tw10839782007050655861 : Nat := 0
abbrev PySem.W.Fast.tw3937887099230549141 : Nat := 0
abbrev PySem.W.Fast.tw16224348026488012021 : Nat := 0
abbrev PySem.W.Fast.tw16701800164526782709 : Nat := 0
abbrev PySem.W.Fast.tw6065337967511788885 : Nat := 0
abbrev PySem.W.Fast.tw3198680580856798549 : Nat := 0
abbrev PySem.W.Fast.tw17837451754675451413 : Nat := 0
abbrev PySem.W.Fast.tw9640358017619591733 : Nat := 0
abbrev PySem.W.Fast.tw7737068646210799189 : Nat := 0
abbrev PySem.W.Fast.tw13833391818052461141 : Nat := 0
abbrev PySem.W.Fast.tw4649836114748275285 : Nat := 0
abbrev PySem.W.Fast.tw13894362087357123189 : Nat := 0
abbrev PySem.W.Fast.tw8611756759839903349 : Nat := 0
abbrev PySem.W.Fast.tw10075497519940708981 : Nat := 0
abbrev PySem.W.Fast.tw14819854342761924213 : Nat := 0
abbrev PySem.W.Fast.tw9815774139622902389 : Nat := 0
abbrev PySem.W.Fast.tw4942763346556291797 : Nat := 0
abbrev PySem.W.Fast.tw8595769644723003093 : Nat := 0
abbrev PySem.W.Fast.tw14307082021551580949 : Nat := 0
abbrev PySem.W.Fast.tw9925542387330713461 : Nat := 0
abbrev PySem.W.Fast.tw17690472563641822165 : Nat := 0
abbrev PySem.W.Fast.tw7507622695495258069 : Nat := 0
abbrev PySem.W.Fast.tw1313859654695752726 : Nat := 0
abbrev PySem.W.Fast.tw12421374223820160022 : Nat := 0
abbrev PySem.W.Fast.tw15344757113123019894 : Nat := 0
abbrev PySem.W.Fast.tw4390950797830769814 : Nat := 0
abbrev PySem.W.Fast.tw14125463555216183446 : Nat := 0
abbrev PySem.W.Fast.tw2904500083297261814 : Nat := 0
abbrev PySem.W.Fast.tw5455714288843368726 : Nat := 0
abbrev PySem.W.Fast.tw3663948260998666550 : Nat := 0
abbrev PySem.W.Fast.tw31703750552393174 : Nat := 0
abbrev PySem.W.Fast.tw1336145240042602966 : Nat := 0
abbrev PySem.W.Fast.tw18065383814126214678 : Nat := 0
abbrev PySem.W.Fast.tw11872859480040261142 : Nat := 0
abbrev PySem.W.Fast.tw9821526556535968278 : Nat := 0
abbrev PySem.W.Fast.tw7110015196689250870 : Nat := 0
abbrev PySem.W.Fast.tw4112034165866277462 : Nat := 0
abbrev PySem.W.Fast.tw2220234957375144598 : Nat := 0
abbrev PySem.W.Fast.tw13779364956213153494 : Nat := 0
abbrev PySem.W.Fast.tw15056087709230207702 : Nat := 0
abbrev PySem.W.Fast.tw15611532641886701366 : Nat := 0
abbrev PySem.W.Fast.tw2364111875392874390 : Nat := 0
abbrev PySem.W.Fast.tw10235317072575244311 : Nat := 0
abbrev PySem.W.Fast.tw9571180497473512535 : Nat := 0
abbrev PySem.W.Fast.tw16720815278017953911 : Nat := 0
abbrev PySem.W.Fast.tw17888411876320478359 : Nat := 0
abbrev PySem.W.Fast.tw13462828668384915639 : Nat := 0
abbrev PySem.W.Fast.tw14961662369757300951 : Nat := 0
abbrev PySem.W.Fast.tw4499419417703058647 : Nat := 0
abbrev PySem.W.Fast.tw14715582057084140759 : Nat := 0
abbrev PySem.W.Fast.tw608683097210175703 : Nat := 0
abbrev PySem.W.Fast.tw11908837137817964791 : Nat := 0
abbrev PySem.W.Fast.tw14657151945947943159 : Nat := 0
abbrev PySem.W.Fast.tw3605650499223237879 : Nat := 0
abbrev PySem.W.Fast.tw12421093055637947703 : Nat := 0
abbrev PySem.W.Fast.tw8167022340044435767 : Nat := 0
abbrev PySem.W.Fast.tw938499860278195511 : Nat := 0
abbrev PySem.W.Fast.tw452584159191787831 : Nat := 0
abbrev PySem.W.Fast.tw3249412920552379799 : Nat := 0
abbrev PySem.W.Fast.tw329583199116106263 : Nat := 0
abbrev PySem.W.Fast.tw16318163840157387319 : Nat := 0
abbrev PySem.W.Fast.tw11811982297822992951 : Nat := 0
abbrev PySem.W.Fast.tw6962212580465096247 : Nat := 0
abbrev PySem.W.Fast.tw6010801752972876471 : Nat := 0
abbrev PySem.W.Fast.tw10640342887595895511 : Nat := 0
abbrev PySem.W.Fast.tw16992411894981017303 : Nat := 0
abbrev PySem.W.Fast.tw9917571478768738135 : Nat := 0
abbrev PySem.W.Fast.tw16880723510975717239 : Nat := 0
abbrev PySem.W.Fast.tw938780969008982935 : Nat := 0
abbrev PySem.W.Fast.tw15491732220953158583 : Nat := 0
abbrev PySem.W.Fast.tw12568679993184036823 : Nat := 0
abbrev PySem.W.Fast.tw7038283160200536120 : Nat := 0
abbrev PySem.W.Fast.tw14541414631447466104 : Nat := 0
abbrev PySem.W.Fast.tw1811722221342925944 : Nat := 0
abbrev PySem.W.Fast.tw9654992769960134808 : Nat := 0
abbrev PySem.W.Fast.tw17085193194637488312 : Nat := 0
abbrev PySem.W.Fast.tw9882460223553031384 : Nat := 0
abbrev PySem.W.Fast.tw7436944012014355800 : Nat := 0
abbrev PySem.W.Fast.tw11907706840929017176 : Nat := 0
abbrev PySem.W.Fast.tw6377406135842843992 : Nat := 0
abbrev PySem.W.Fast.tw17082315522700190072 : Nat := 0
abbrev PySem.W.Fast.tw13730498574330007960 : Nat := 0
abbrev PySem.W.Fast.tw4569905415471516088 : Nat := 0
abbrev PySem.W.Fast.tw11143619533945769464 : Nat := 0
abbrev PySem.W.Fast.tw2992359950936021752 : Nat := 0
abbrev PySem.W.Fast.tw946166609441745720 : Nat := 0
abbrev PySem.W.Fast.tw4542952321956630424 : Nat := 0
abbrev PySem.W.Fast.tw3757931085709280184 : Nat := 0
abbrev PySem.W.Fast.tw15815900200180833208 : Nat := 0
abbrev PySem.W.Fast.tw3177323081989166072 : Nat := 0
abbrev PySem.W.Fast.tw4146131111156042777 : Nat := 0
abbrev PySem.W.Fast.tw3934554335740084281 : Nat := 0
abbrev PySem.W.Fast.tw2554126930846173273 : Nat := 0
abbrev PySem.W.Fast.tw5479424713272139961 : Nat := 0
abbrev PySem.W.Fast.tw5669083933344383193 : Nat := 0
abbrev PySem.W.Fast.tw13926571109446342969 : Nat := 0
abbrev PySem.W.Fast.tw14533719554994490713 : Nat := 0
abbrev PySem.W.Fast.tw1827179725869686137 : Nat := 0
abbrev PySem.W.Fast.tw17204871687301619097 : Nat := 0
abbrev PySem.W.Fast.tw10872371594411789753 : Nat := 0
abbrev PySem.W.Fast.tw2905804984211058201 : Nat := 0
abbrev PySem.W.Fast.tw14477425724616693273 : Nat := 0
abbrev PySem.W.Fast.tw2285083036475525753 : Nat := 0
abbrev PySem.W.Fast.tw1444064935308964505 : Nat := 0
abbrev PySem.W.Fast.tw15987882807947868921 : Nat := 0
abbrev PySem.W.Fast.tw344527234683066105 : Nat := 0
abbrev PySem.W.Fast.tw5523816188667920153 : Nat := 0
abbrev PySem.W.Fast.tw17897747933209349945 : Nat := 0
abbrev PySem.W.Fast.tw16126960240308744025 : Nat := 0
abbrev PySem.W.Fast.tw7722594098618956729 : Nat := 0
abbrev PySem.W.Fast.tw11309641854025632729 : Nat := 0
abbrev PySem.W.Fast.tw5297985007756369881 : Nat := 0
abbrev PySem.W.Fast.tw16432196192584400889 : Nat := 0
abbrev PySem.W.Fast.tw14328213546731853850 : Nat := 0
abbrev PySem.W.Fast.tw6438473806536564858 : Nat := 0
abbrev PySem.W.Fast.tw5034466609640869018 : Nat := 0
abbrev PySem.W.Fast.tw2385886810466159770 : Nat := 0
abbrev PySem.W.Fast.tw2357072711065685178 : Nat := 0
abbrev PySem.W.Fast.tw7565442969539644698 : Nat := 0
abbrev PySem.W.Fast.tw5692791705274858778 : Nat := 0
abbrev PySem.W.Fast.tw1619498745562794298 : Nat := 0
abbrev PySem.W.Fast.tw4733347503491588410 : Nat := 0
abbrev PySem.W.Fast.tw13437799238930424122 : Nat := 0
abbrev PySem.W.Fast.tw14166280564633221466 : Nat := 0
abbrev PySem.W.Fast.tw1123783156533207418 : Nat := 0
abbrev PySem.W.Fast.tw3702236708846481786 : Nat := 0
abbrev PySem.W.Fast.tw13428079944028001690 : Nat := 0
abbrev PySem.W.Fast.tw11397900095847978394 : Nat := 0
abbrev PySem.W.Fast.tw2209054326529027610 : Nat := 0
abbrev PySem.W.Fast.tw15685721426786072090 : Nat := 0
abbrev PySem.W.Fast.tw16231557458326428250 : Nat := 0
abbrev PySem.W.Fast.tw11996838897906381402 : Nat := 0
abbrev PySem.W.Fast.tw17472347481189355130 : Nat := 0
abbrev PySem.W.Fast.tw324474780549683898 : Nat := 0
abbrev PySem.W.Fast.tw5743926005776313018 : Nat := 0
abbrev PySem.W.Fast.tw6436182020809061082 : Nat := 0
abbrev PySem.W.Fast.tw5181944144444141338 : Nat := 0
abbrev PySem.W.Fast.tw9166553901490570138 : Nat := 0
abbrev PySem.W.Fast.tw9707010504584906746 : Nat := 0
abbrev PySem.W.Fast.tw18023104480603946011 : Nat := 0
abbrev PySem.W.Fast.tw2695229176256354363 : Nat := 0
abbrev PySem.W.Fast.tw850889043266620507 : Nat := 0
abbrev PySem.W.Fast.tw367391336472670299 : Nat := 0
abbrev PySem.W.Fast.tw10916491590406254715 : Nat := 0
abbrev PySem.W.Fast.tw9848093854240792699 : Nat := 0
abbrev PySem.W.Fast.tw12406322407289303195 : Nat := 0
abbrev PySem.W.Fast.tw14628554324777292987 : Nat := 0
abbrev PySem.W.Fast.tw6373112491491086555 : Nat := 0
abbrev PySem.W.Fast.tw12866303522794636667 : Nat := 0
abbrev PySem.W.Fast.tw16447154546259144059 : Nat := 0
abbrev PySem.W.Fast.tw14743001525845082555 : Nat := 0
abbrev PySem.W.Fast.tw10957517153902659035 : Nat := 0
abbrev PySem.W.Fast.tw7442807974695283163 : Nat := 0
abbrev PySem.W.Fast.tw2962053201516604891 : Nat := 0
abbrev PySem.W.Fast.tw10635393214193827355 : Nat := 0
abbrev PySem.W.Fast.tw10749468742629891611 : Nat := 0
abbrev PySem.W.Fast.tw8823354804095168059 : Nat := 0
abbrev PySem.W.Fast.tw6309776147543915067 : Nat := 0
abbrev PySem.W.Fast.tw6721886163082020475 : Nat := 0
abbrev PySem.W.Fast.tw6098274478883967643 : Nat := 0
abbrev PySem.W.Fast.tw15680580867991518075 : Nat := 0
abbrev PySem.W.Fast.tw2022204439537801083 : Nat := 0
abbrev PySem.W.Fast.tw9134032940104244091 : Nat := 0
abbrev PySem.W.Fast.tw15175091068575112059 : Nat := 0
abbrev PySem.W.Fast.tw2370456574447673211 : Nat := 0
abbrev PySem.W.Fast.tw1562101778545400795 : Nat := 0
abbrev PySem.W.Fast.tw15199707311819639803 : Nat := 0
abbrev PySem.W.Fast.tw1097207759736500252 : Nat := 0
abbrev PySem.W.Fast.tw9702097769848565788 : Nat := 0
abbrev PySem.W.Fast.tw12819270987173277756 : Nat := 0
abbrev PySem.W.Fast.tw17805826371604564156 : Nat := 0
abbrev PySem.W.Fast.tw4690552717092424956 : Nat := 0
abbrev PySem.W.Fast.tw5953498025559018748 : Nat := 0
abbrev PySem.W.Fast.tw1162741518730527004 : Nat := 0
abbrev PySem.W.Fast.tw17388303851309215100 : Nat := 0
abbrev PySem.W.Fast.tw14544607783146937756 : Nat := 0
abbrev PySem.W.Fast.tw8004200062950584796 : Nat := 0
abbrev PySem.W.Fast.tw12248353879826036220 : Nat := 0
abbrev PySem.W.Fast.tw1415257463751031356 : Nat := 0
abbrev PySem.W.Fast.tw3020184100850594396 : Nat := 0
abbrev PySem.W.Fast.tw6974010221174472316 : Nat := 0
abbrev PySem.W.Fast.tw5194970605407702684 : Nat := 0
abbrev PySem.W.Fast.tw17985827661489675932 : Nat := 0
abbrev PySem.W.Fast.tw11625000786918332060 : Nat := 0
abbrev PySem.W.Fast.tw14034023500098971324 : Nat := 0
abbrev PySem.W.Fast.tw14755789177140806364 : Nat := 0
abbrev PySem.W.Fast.tw1525496559446073116 : Nat := 0
abbrev PySem.W.Fast.tw18279379628428239644 : Nat := 0
abbrev PySem.W.Fast.tw8292805025502794556 : Nat := 0
abbrev PySem.W.Fast.tw15464352178686476092 : Nat := 0
abbrev PySem.W.Fast.tw16324741885770312540 : Nat := 0
abbrev PySem.W.Fast.tw17210036796129570652 : Nat := 0
abbrev PySem.W.Fast.tw2177393499861708636 : Nat := 0
abbrev PySem.W.Fast.tw13967304181559562204 : Nat := 0
abbrev PySem.W.Fast.tw11646527063971078108 : Nat := 0
abbrev PySem.W.Fast.tw13720779392784236508 : Nat := 0
abbrev PySem.W.Fast.tw8252018477756356604 : Nat := 0
abbrev PySem.W.Fast.tw1688803860072314909 : Nat := 0
abbrev PySem.W.Fast.tw17753165683246229533 : Nat := 0
abbrev PySem.W.Fast.tw7281010915441122493 : Nat := 0
abbrev PySem.W.Fast.tw15185453830387908797 : Nat := 0
abbrev PySem.W.Fast.tw9829226953539741917 : Nat := 0
abbrev PySem.W.Fast.tw7546090090470506717 : Nat := 0
abbrev PySem.W.Fast.tw16051969904550644125 : Nat := 0
abbrev PySem.W.Fast.tw6613368474053421501 : Nat := 0
abbrev PySem.W.Fast.tw15645960171000931773 : Nat := 0
abbrev PySem.W.Fast.tw928458859574791677 : Nat := 0
abbrev PySem.W.Fast.tw9714424440172714493 : Nat := 0
abbrev PySem.W.Fast.tw622277751261593085 : Nat := 0
abbrev PySem.W.Fast.tw13664826758275220125 : Nat := 0
abbrev PySem.W.Fast.tw16167034053069317821 : Nat := 0
abbrev PySem.W.Fast.tw6332300329627963069 : Nat := 0
abbrev PySem.W.Fast.tw6843611234659031741 : Nat := 0
abbrev PySem.W.Fast.tw12891243585634684669 : Nat := 0
abbrev PySem.W.Fast.tw1426140759411025693 : Nat := 0
abbrev PySem.W.Fast.tw18082636507965127742 : Nat := 0
abbrev PySem.W.Fast.tw5904127660181359710 : Nat := 0
abbrev PySem.W.Fast.tw1077620837510472990 : Nat := 0
abbrev PySem.W.Fast.tw7691607013731890558 : Nat := 0
abbrev PySem.W.Fast.tw9030586213522863550 : Nat := 0
abbrev PySem.W.Fast.tw12793055175180838366 : Nat := 0
abbrev PySem.W.Fast.tw2814924635197901310 : Nat := 0
abbrev PySem.W.Fast.tw11942987096785623582 : Nat := 0
abbrev PySem.W.Fast.tw9838383837182122526 : Nat := 0
abbrev PySem.W.Fast.tw17482474993760865886 : Nat := 0
abbrev PySem.W.Fast.tw1907131949206509214 : Nat := 0
abbrev PySem.W.Fast.tw7026765243311757982 : Nat := 0
abbrev PySem.W.Fast.tw9231490624806543134 : Nat := 0
abbrev PySem.W.Fast.tw17603223366683651870 : Nat := 0
abbrev PySem.W.Fast.tw197184560729429854 : Nat := 0
abbrev PySem.W.Fast.tw10528095446053829502 : Nat := 0
abbrev PySem.W.Fast.tw5946391202934627230 : Nat := 0
abbrev PySem.W.Fast.tw1016579727340201886 : Nat := 0
abbrev PySem.W.Fast.tw16387074091268632542 : Nat := 0
abbrev PySem.W.Fast.tw1145879525729226750 : Nat := 0
abbrev PySem.W.Fast.tw16357884000061532191 : Nat := 0
abbrev PySem.W.Fast.tw15614450583271865375 : Nat := 0
abbrev PySem.W.Fast.tw13038181533986626623 : Nat := 0
abbrev PySem.W.Fast.tw14981923339744915519 : Nat := 0
abbrev PySem.W.Fast.tw14018816147679297631 : Nat := 0
abbrev PySem.W.Fast.tw4584065749193727167 : Nat := 0
abbrev PySem.W.Fast.tw6289849848696943807 : Nat := 0
abbrev PySem.W.Fast.tw14074378633531414751 : Nat := 0
abbrev PySem.W.Fast.tw16684346040624709887 : Nat := 0
abbrev PySem.W.Fast.tw10498404425755964703 : Nat := 0
abbrev PySem.W.Fast.tw2835788468135438655 : Nat := 0
abbrev PySem.W.Fast.tw9252375082687052127 : Nat := 0
abbrev PySem.W.Fast.tw10702475219682434463 : Nat := 0
abbrev PySem.W.Fast.tw2094298523936089663 : Nat := 0
abbrev PySem.W.Fast.tw2234619887827053151 : Nat := 0
abbrev PySem.W.Fast.tw494502521926734527 : Nat := 0
abbrev PySem.W.Fast.tw3404831652865176255 : Nat := 0
abbrev PySem.W.Fast.tw15011475737586294527 : Nat := 0
abbrev PySem.W.Fast.tw8961637207867041599 : Nat := 0
abbrev PySem.W.Fast.tw13734249201792892831 : Nat := 0
abbrev PySem.W.Fast.tw11954290503281037247 : Nat := 0
abbrev PySem.W.Fast.tw4024618260216837055 : Nat := 0
abbrev PySem.W.Fast.tw3879166740390672264 : Nat := 0
open PySem PySem.W PyProof.Rows
set_option maxRecDepth 100000 in
set_option maxHeartbeats 0 in
theorem PySem.Challenge.cw_stillpoint_k10_refusals_apart_holds : PySem.Challenge.rw_stillpoint_k10_refusals_apart.Holds := by
  w_on; o_law; k_head; (case hw => w_witness2)
  k_fill
  refine KS.walk (l := PySem.Challenge.rw_stillpoint_k10_refusals_apart) rfl rfl (fun w h Y => PySem.W.kIn_of Y) ?F
  case F =>
    intro w mg fa h KX G hmg
    refine' KS.all_mk KX G hmg ?e_Disk ?e_Files ?e_NoThing ?e_NoDirectory ?e_BadName ?e_IsThere ?e_NoRoom ?e_NotEmpty ?e_WrongKind ?e_TooGreat ?e_ReadOnly ?e_NoFiles ?e_StillError ?pg_Disk ?hd_Disk ?po_Disk ?sa_Disk ?mk_Disk ?kc_Disk ?n_Disk_blocks ?n_Disk_log ?pg_Files ?hd_Files ?po_Files ?sa_Files ?n_Files_state ?n_Files_kept ?n_Files_store ?n_Files_image ?a_Disk_init ?i_Disk_init ?l_Disk_init ?c_Disk_init ?k_Disk_init ?a_Disk_read ?i_Disk_read ?l_Disk_read ?c_Disk_read ?k_Disk_read ?a_Disk_write ?i_Disk_write ?l_Disk_write ?c_Disk_write ?k_Disk_write ?a_newest_first ?l_newest_first ?c_newest_first ?k_newest_first ?a_Files_stat ?i_Files_stat ?l_Files_stat ?c_Files_stat ?k_Files_stat ?a_files_of ?l_files_of ?c_files_of ?k_files_of ?a_mounted ?l_mounted ?c_mounted ?k_mounted ?a__law_cell ?l__law_cell ?c__law_cell ?k__law_cell ?a__law_drawn ?l__law_drawn ?c__law_drawn ?k__law_drawn ?a__law_word ?l__law_word ?c__law_word ?k__law_word ?a__law_mounted ?l__law_mounted ?c__law_mounted ?k__law_mounted ?a_law ?l_law ?c_law ?k_law ?xc_NoThing ?xga_NoThing ?xgh_NoThing ?xcc_NoThing ?xob_NoThing ?xba_NoThing ?xcl_NoThing ?xc_NoDirectory ?xga_NoDirectory ?xgh_NoDirectory ?xcc_NoDirectory ?xob_NoDirectory ?xba_NoDirectory ?xcl_NoDirectory ?xc_BadName ?xga_BadName ?xgh_BadName ?xcc_BadName ?xob_BadName ?xba_BadName ?xcl_BadName ?xc_IsThere ?xga_IsThere ?xgh_IsThere ?xcc_IsThere ?xob_IsThere ?xba_IsThere ?xcl_IsThere ?xc_NoRoom ?xga_NoRoom ?xgh_NoRoom ?xcc_NoRoom ?xob_NoRoom ?xba_NoRoom ?xcl_NoRoom ?xc_NotEmpty ?xga_NotEmpty ?xgh_NotEmpty ?xcc_NotEmpty ?xob_NotEmpty ?xba_NotEmpty ?xcl_NotEmpty ?xc_WrongKind ?xga_WrongKind ?xgh_WrongKind ?xcc_WrongKind ?xob_WrongKind ?xba_WrongKind ?xcl_WrongKind ?xc_TooGreat ?xga_TooGreat ?xgh_TooGreat ?xcc_TooGreat ?xob_TooGreat ?xba_TooGreat ?xcl_TooGreat ?xc_ReadOnly ?xga_ReadOnly ?xgh_ReadOnly ?xcc_ReadOnly ?xob_ReadOnly ?xba_ReadOnly ?xcl_ReadOnly ?xc_NoFiles ?xga_NoFiles ?xgh_NoFiles ?xcc_NoFiles ?xob_NoFiles ?xba_NoFiles ?xcl_NoFiles ?xgg ?xtk ?q_NoThing_NoThing ?q_NoThing_NoDirectory ?q_NoThing_BadName ?q_NoThing_IsThere ?q_NoThing_NoRoom ?q_NoThing_NotEmpty ?q_NoThing_WrongKind ?q_NoThing_TooGreat ?q_NoThing_ReadOnly ?q_NoThing_NoFiles ?qS_NoThing ?qV_NoThing ?q_NoDirectory_NoThing ?q_NoDirectory_NoDirectory ?q_NoDirectory_BadName ?q_NoDirectory_IsThere ?q_NoDirectory_NoRoom ?q_NoDirectory_NotEmpty ?q_NoDirectory_WrongKind ?q_NoDirectory_TooGreat ?q_NoDirectory_ReadOnly ?q_NoDirectory_NoFiles ?qS_NoDirectory ?qV_NoDirectory ?q_BadName_NoThing ?q_BadName_NoDirectory ?q_BadName_BadName ?q_BadName_IsThere ?q_BadName_NoRoom ?q_BadName_NotEmpty ?q_BadName_WrongKind ?q_BadName_TooGreat ?q_BadName_ReadOnly ?q_BadName_NoFiles ?qS_BadName ?qV_BadName ?q_IsThere_NoThing ?q_IsThere_NoDirectory ?q_IsThere_BadName ?q_IsThere_IsThere ?q_IsThere_NoRoom ?q_IsThere_NotEmpty ?q_IsThere_WrongKind ?q_IsThere_TooGreat ?q_IsThere_ReadOnly ?q_IsThere_NoFiles ?qS_IsThere ?qV_IsThere ?q_NoRoom_NoThing ?q_NoRoom_NoDirectory ?q_NoRoom_BadName ?q_NoRoom_IsThere ?q_NoRoom_NoRoom ?q_NoRoom_NotEmpty ?q_NoRoom_WrongKind ?q_NoRoom_TooGreat ?q_NoRoom_ReadOnly ?q_NoRoom_NoFiles ?qS_NoRoom ?qV_NoRoom ?q_NotEmpty_NoThing ?q_NotEmpty_NoDirectory ?q_NotEmpty_BadName ?q_NotEmpty_IsThere ?q_NotEmpty_NoRoom ?q_NotEmpty_NotEmpty ?q_NotEmpty_WrongKind ?q_NotEmpty_TooGreat ?q_NotEmpty_ReadOnly ?q_NotEmpty_NoFiles ?qS_NotEmpty ?qV_NotEmpty ?q_WrongKind_NoThing ?q_WrongKind_NoDirectory ?q_WrongKind_BadName ?q_WrongKind_IsThere ?q_WrongKind_NoRoom ?q_WrongKind_NotEmpty ?q_WrongKind_WrongKind ?q_WrongKind_TooGreat ?q_WrongKind_ReadOnly ?q_WrongKind_NoFiles ?qS_WrongKind ?qV_WrongKind ?q_TooGreat_NoThing ?q_TooGreat_NoDirectory ?q_TooGreat_BadName ?q_TooGreat_IsThere ?q_TooGreat_NoRoom ?q_TooGreat_NotEmpty ?q_TooGreat_WrongKind ?q_TooGreat_TooGreat ?q_TooGreat_ReadOnly ?q_TooGreat_NoFiles ?qS_TooGreat ?qV_TooGreat ?q_ReadOnly_NoThing ?q_ReadOnly_NoDirectory ?q_ReadOnly_BadName ?q_ReadOnly_IsThere ?q_ReadOnly_NoRoom ?q_ReadOnly_NotEmpty ?q_ReadOnly_WrongKind ?q_ReadOnly_TooGreat ?q_ReadOnly_ReadOnly ?q_ReadOnly_NoFiles ?qS_ReadOnly ?qV_ReadOnly ?q_NoFiles_NoThing ?q_NoFiles_NoDirectory ?q_NoFiles_BadName ?q_NoFiles_IsThere ?q_NoFiles_NoRoom ?q_NoFiles_NotEmpty ?q_NoFiles_WrongKind ?q_NoFiles_TooGreat ?q_NoFiles_ReadOnly ?q_NoFiles_NoFiles ?qS_NoFiles ?qV_NoFiles ?ty_NoFiles ?bs_NoFiles ?sb_NoFiles ?ky_NoThing ?ky_NoDirectory ?ky_BadName ?ky_IsThere ?ky_NoRoom ?ky_NotEmpty ?ky_WrongKind ?ky_TooGreat ?ky_ReadOnly ?ky_NoFiles ?st_NoThing ?st_NoDirectory ?st_BadName ?st_IsThere ?st_NoRoom ?st_NotEmpty ?st_WrongKind ?st_TooGreat ?st_ReadOnly ?st_NoFiles ?g_FEWEST_BLOCKS ?g_MOST_BLOCKS ?g_BLOCK_BYTES ?g_MARK ?lt_MARK ?g_TURN_PLACE ?g_TURNS ?z_range ?z_len ?z_isinstance ?z_ValueError ?z_tuple ?z_str
    (case e_Disk => k_is)
    (case e_Files => k_is)
    (case e_NoThing => k_is)
    (case e_NoDirectory => k_is)
    (case e_BadName => k_is)
    (case e_IsThere => k_is)
    (case e_NoRoom => k_is)
    (case e_NotEmpty => k_is)
    (case e_WrongKind => k_is)
    (case e_TooGreat => k_is)
    (case e_ReadOnly => k_is)
    (case e_NoFiles => k_is)
    (case e_StillError => k_is)
    (case pg_Disk => k_is)
    (case hd_Disk => k_is)
    (case po_Disk => k_is)
    (case sa_Disk => k_is)
    (case mk_Disk => k_is)
    (case kc_Disk => k_is)
    (case n_Disk_blocks => k_is)
    (case n_Disk_log => k_is)
    (case pg_Files => k_is)
    (case hd_Files => k_is)
    (case po_Files => k_is)
    (case sa_Files => k_is)
    (case n_Files_state => k_is)
    (case n_Files_kept => k_is)
    (case n_Files_store => k_is)
    (case n_Files_image => k_is)
    (case a_Disk_init => k_is)
    (case i_Disk_init => k_is)
    (case l_Disk_init => k_is)
    (case c_Disk_init => k_is)
    (case k_Disk_init => k_is)
    (case a_Disk_read => k_is)
    (case i_Disk_read => k_is)
    (case l_Disk_read => k_is)
    (case c_Disk_read => k_is)
    (case k_Disk_read => k_is)
    (case a_Disk_write => k_is)
    (case i_Disk_write => k_is)
    (case l_Disk_write => k_is)
    (case c_Disk_write => k_is)
    (case k_Disk_write => k_is)
    (case a_newest_first => k_is)
    (case l_newest_first => k_is)
    (case c_newest_first => k_is)
    (case k_newest_first => k_is)
    (case a_Files_stat => k_is)
    (case i_Files_stat => k_is)
    (case l_Files_stat => k_is)
    (case c_Files_stat => k_is)
    (case k_Files_stat => k_is)
    (case a_files_of => k_is)
    (case l_files_of => k_is)
    (case c_files_of => k_is)
    (case k_files_of => k_is)
    (case a_mounted => k_is)
    (case l_mounted => k_is)
    (case c_mounted => k_is)
    (case k_mounted => k_is)
    (case a__law_cell => k_is)
    (case l__law_cell => k_is)
    (case c__law_cell => k_is)
    (case k__law_cell => k_is)
    (case a__law_drawn => k_is)
    (case l__law_drawn => k_is)
    (case c__law_drawn => k_is)
    (case k__law_drawn => k_is)
    (case a__law_word => k_is)
    (case l__law_word => k_is)
    (case c__law_word => k_is)
    (case k__law_word => k_is)
    (case a__law_mounted => k_is)
    (case l__law_mounted => k_is)
    (case c__law_mounted => k_is)
    (case k__law_mounted => k_is)
    (case a_law => k_is)
    (case l_law => k_is)
    (case c_law => k_is)
    (case k_law => k_is)
    (case xc_NoThing => k_exc)
    (case xga_NoThing => k_is)
    (case xgh_NoThing => k_is)
    (case xcc_NoThing => k_is)
    (case xob_NoThing => k_is)
    (case xba_NoThing => k_is)
    (case xcl_NoThing => k_is)
    (case xc_NoDirectory => k_exc)
    (case xga_NoDirectory => k_is)
    (case xgh_NoDirectory => k_is)
    (case xcc_NoDirectory => k_is)
    (case xob_NoDirectory => k_is)
    (case xba_NoDirectory => k_is)
    (case xcl_NoDirectory => k_is)
    (case xc_BadName => k_exc)
    (case xga_BadName => k_is)
    (case xgh_BadName => k_is)
    (case xcc_BadName => k_is)
    (case xob_BadName => k_is)
    (case xba_BadName => k_is)
    (case xcl_BadName => k_is)
    (case xc_IsThere => k_exc)
    (case xga_IsThere => k_is)
    (case xgh_IsThere => k_is)
    (case xcc_IsThere => k_is)
    (case xob_IsThere => k_is)
    (case xba_IsThere => k_is)
    (case xcl_IsThere => k_is)
    (case xc_NoRoom => k_exc)
    (case xga_NoRoom => k_is)
    (case xgh_NoRoom => k_is)
    (case xcc_NoRoom => k_is)
    (case xob_NoRoom => k_is)
    (case xba_NoRoom => k_is)
    (case xcl_NoRoom => k_is)
    (case xc_NotEmpty => k_exc)
    (case xga_NotEmpty => k_is)
    (case xgh_NotEmpty => k_is)
    (case xcc_NotEmpty => k_is)
    (case xob_NotEmpty => k_is)
    (case xba_NotEmpty => k_is)
    (case xcl_NotEmpty => k_is)
    (case xc_WrongKind => k_exc)
    (case xga_WrongKind => k_is)
    (case xgh_WrongKind => k_is)
    (case xcc_WrongKind => k_is)
    (case xob_WrongKind => k_is)
    (case xba_WrongKind => k_is)
    (case xcl_WrongKind => k_is)
    (case xc_TooGreat => k_exc)
    (case xga_TooGreat => k_is)
    (case xgh_TooGreat => k_is)
    (case xcc_TooGreat => k_is)
    (case xob_TooGreat => k_is)
    (case xba_TooGreat => k_is)
    (case xcl_TooGreat => k_is)
    (case xc_ReadOnly => k_exc)
    (case xga_ReadOnly => k_is)
    (case xgh_ReadOnly => k_is)
    (case xcc_ReadOnly => k_is)
    (case xob_ReadOnly => k_is)
    (case xba_ReadOnly => k_is)
    (case xcl_ReadOnly => k_is)
    (case xc_NoFiles => k_exc)
    (case xga_NoFiles => k_is)
    (case xgh_NoFiles => k_is)
    (case xcc_NoFiles => k_is)
    (case xob_NoFiles => k_is)
    (case xba_NoFiles => k_is)
    (case xcl_NoFiles => k_is)
    (case xgg => k_is)
    (case xtk => k_is)
    (case q_NoThing_NoThing => kit_is)
    (case q_NoThing_NoDirectory => kit_is)
    (case q_NoThing_BadName => kit_is)
    (case q_NoThing_IsThere => kit_is)
    (case q_NoThing_NoRoom => kit_is)
    (case q_NoThing_NotEmpty => kit_is)
    (case q_NoThing_WrongKind => kit_is)
    (case q_NoThing_TooGreat => kit_is)
    (case q_NoThing_ReadOnly => kit_is)
    (case q_NoThing_NoFiles => kit_is)
    (case qS_NoThing => kit_is)
    (case qV_NoThing => kit_is)
    (case q_NoDirectory_NoThing => kit_is)
    (case q_NoDirectory_NoDirectory => kit_is)
    (case q_NoDirectory_BadName => kit_is)
    (case q_NoDirectory_IsThere => kit_is)
    (case q_NoDirectory_NoRoom => kit_is)
    (case q_NoDirectory_NotEmpty => kit_is)
    (case q_NoDirectory_WrongKind => kit_is)
    (case q_NoDirectory_TooGreat => kit_is)
    (case q_NoDirectory_ReadOnly => kit_is)
    (case q_NoDirectory_NoFiles => kit_is)
    (case qS_NoDirectory => kit_is)
    (case qV_NoDirectory => kit_is)
    (case q_BadName_NoThing => kit_is)
    (case q_BadName_NoDirectory => kit_is)
    (case q_BadName_BadName => kit_is)
    (case q_BadName_IsThere => kit_is)
    (case q_BadName_NoRoom => kit_is)
    (case q_BadName_NotEmpty => kit_is)
    (case q_BadName_WrongKind => kit_is)
    (case q_BadName_TooGreat => kit_is)
    (case q_BadName_ReadOnly => kit_is)
    (case q_BadName_NoFiles => kit_is)
    (case qS_BadName => kit_is)
    (case qV_BadName => kit_is)
    (case q_IsThere_NoThing => kit_is)
    (case q_IsThere_NoDirectory => kit_is)
    (case q_IsThere_BadName => kit_is)
    (case q_IsThere_IsThere => kit_is)
    (case q_IsThere_NoRoom => kit_is)
    (case q_IsThere_NotEmpty => kit_is)
    (case q_IsThere_WrongKind => kit_is)
    (case q_IsThere_TooGreat => kit_is)
    (case q_IsThere_ReadOnly => kit_is)
    (case q_IsThere_NoFiles => kit_is)
    (case qS_IsThere => kit_is)
    (case qV_IsThere => kit_is)
    (case q_NoRoom_NoThing => kit_is)
    (case q_NoRoom_NoDirectory => kit_is)
    (case q_NoRoom_BadName => kit_is)
    (case q_NoRoom_IsThere => kit_is)
    (case q_NoRoom_NoRoom => kit_is)
    (case q_NoRoom_NotEmpty => kit_is)
    (case q_NoRoom_WrongKind => kit_is)
    (case q_NoRoom_TooGreat => kit_is)
    (case q_NoRoom_ReadOnly => kit_is)
    (case q_NoRoom_NoFiles => kit_is)
    (case qS_NoRoom => kit_is)
    (case qV_NoRoom => kit_is)
    (case q_NotEmpty_NoThing => kit_is)
    (case q_NotEmpty_NoDirectory => kit_is)
    (case q_NotEmpty_BadName => kit_is)
    (case q_NotEmpty_IsThere => kit_is)
    (case q_NotEmpty_NoRoom => kit_is)
    (case q_NotEmpty_NotEmpty => kit_is)
    (case q_NotEmpty_WrongKind => kit_is)
    (case q_NotEmpty_TooGreat => kit_is)
    (case q_NotEmpty_ReadOnly => kit_is)
    (case q_NotEmpty_NoFiles => kit_is)
    (case qS_NotEmpty => kit_is)
    (case qV_NotEmpty => kit_is)
    (case q_WrongKind_NoThing => kit_is)
    (case q_WrongKind_NoDirectory => kit_is)
    (case q_WrongKind_BadName => kit_is)
    (case q_WrongKind_IsThere => kit_is)
    (case q_WrongKind_NoRoom => kit_is)
    (case q_WrongKind_NotEmpty => kit_is)
    (case q_WrongKind_WrongKind => kit_is)
    (case q_WrongKind_TooGreat => kit_is)
    (case q_WrongKind_ReadOnly => kit_is)
    (case q_WrongKind_NoFiles => kit_is)
    (case qS_WrongKind => kit_is)
    (case qV_WrongKind => kit_is)
    (case q_TooGreat_NoThing => kit_is)
    (case q_TooGreat_NoDirectory => kit_is)
    (case q_TooGreat_BadName => kit_is)
    (case q_TooGreat_IsThere => kit_is)
    (case q_TooGreat_NoRoom => kit_is)
    (case q_TooGreat_NotEmpty => kit_is)
    (case q_TooGreat_WrongKind => kit_is)
    (case q_TooGreat_TooGreat => kit_is)
    (case q_TooGreat_ReadOnly => kit_is)
    (case q_TooGreat_NoFiles => kit_is)
    (case qS_TooGreat => kit_is)
    (case qV_TooGreat => kit_is)
    (case q_ReadOnly_NoThing => kit_is)
    (case q_ReadOnly_NoDirectory => kit_is)
    (case q_ReadOnly_BadName => kit_is)
    (case q_ReadOnly_IsThere => kit_is)
    (case q_ReadOnly_NoRoom => kit_is)
    (case q_ReadOnly_NotEmpty => kit_is)
    (case q_ReadOnly_WrongKind => kit_is)
    (case q_ReadOnly_TooGreat => kit_is)
    (case q_ReadOnly_ReadOnly => kit_is)
    (case q_ReadOnly_NoFiles => kit_is)
    (case qS_ReadOnly => kit_is)
    (case qV_ReadOnly => kit_is)
    (case q_NoFiles_NoThing => kit_is)
    (case q_NoFiles_NoDirectory => kit_is)
    (case q_NoFiles_BadName => kit_is)
    (case q_NoFiles_IsThere => kit_is)
    (case q_NoFiles_NoRoom => kit_is)
    (case q_NoFiles_NotEmpty => kit_is)
    (case q_NoFiles_WrongKind => kit_is)
    (case q_NoFiles_TooGreat => kit_is)
    (case q_NoFiles_ReadOnly => kit_is)
    (case q_NoFiles_NoFiles => kit_is)
    (case qS_NoFiles => kit_is)
    (case qV_NoFiles => kit_is)
    (case ty_NoFiles => k_is)
    (case bs_NoFiles => k_is)
    (case sb_NoFiles => k_is)
    (case ky_NoThing => k_is)
    (case ky_NoDirectory => k_is)
    (case ky_BadName => k_is)
    (case ky_IsThere => k_is)
    (case ky_NoRoom => k_is)
    (case ky_NotEmpty => k_is)
    (case ky_WrongKind => k_is)
    (case ky_TooGreat => k_is)
    (case ky_ReadOnly => k_is)
    (case ky_NoFiles => k_is)
    (case st_NoThing => k_is)
    (case st_NoDirectory => k_is)
    (case st_BadName => k_is)
    (case st_IsThere => k_is)
    (case st_NoRoom => k_is)
    (case st_NotEmpty => k_is)
    (case st_WrongKind => k_is)
    (case st_TooGreat => k_is)
    (case st_ReadOnly => k_is)
    (case st_NoFiles => k_is)
    (case g_FEWEST_BLOCKS => k_is)
    (case g_MOST_BLOCKS => k_is)
    (case g_BLOCK_BYTES => k_is)
    (case g_MARK => k_is)
    (case lt_MARK => k_is)
    (case g_TURN_PLACE => k_is)
    (case g_TURNS => k_is)
    (case z_range => k_is)
    (case z_len => k_is)
    (case z_isinstance => k_is)
    (case z_ValueError => k_is)
    (case z_tuple => k_is)
    (case z_str => k_is)


