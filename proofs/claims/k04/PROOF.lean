import PyProof.Rows.All
import Wide.All
import OpenK.AllK
import Wide.FinOn
import Lean
import PyProof.EqAt
import PyProof.EqKinds
import PyProof.TupleCall
import PyProof.NeKinds
import PySem.Challenge.RW_leanmodes_k04_ends
-- CHANGE: your row's module here, as the last of these rows
set_option Elab.async false
set_option linter.all false
set_option maxRecDepth 100000
/-! THE HAND LAYER, for ints, bools, texts, own classes, LISTS and tuples (index, slices, in, append, pop ..), calls, loops. Paste it whole ahead of your own text; what your proof does not reach may be deleted. -/
namespace L2
open PySem PySem.Spec PyProof.Rows

/-- a key: an int or a str -/
abbrev Key := Sum Int Str
def keyIs : Key → Value → Bool
  | .inl k, v => Value.isInt k v
  | .inr x, v => Value.isStrOf x v
def keyH (w : World) : Key → Int
  | .inl k => hashInt k
  | .inr x => hashStr w x
theorem keyIs_shape : ∀ {k : Key} {v : Value}, keyIs k v = true → (∃ i t, k = Sum.inl i ∧ v = Value.int i t) ∨ (∃ x t, k = Sum.inr x ∧ v = Value.str x t)
  | .inl i, v, h => by
    obtain ⟨t, e⟩ := Value.isInt_shape (k := i) (v := v) h
    exact .inl ⟨i, t, rfl, e⟩
  | .inr x, v, h => by
    obtain ⟨t, e⟩ := Value.isStrOf_shape (x := x) (v := v) h
    exact .inr ⟨x, t, rfl, e⟩
theorem keyIs_int (i : Int) (t : Tok) : keyIs (.inl i) (.int i t) = true := by simp [keyIs, Value.isInt]
theorem keyIs_str (x : Str) (t : Tok) : keyIs (.inr x) (.str x t) = true := by simp [keyIs, Value.isStrOf]
theorem key_ll (a b : Int) : decide ((Sum.inl a : Key) = Sum.inl b) = (a == b) := by
  by_cases e : a = b
  · subst e; simp
  · have h : ¬ (Sum.inl a : Key) = Sum.inl b := fun q => e (Sum.inl.inj q)
    rw [decide_eq_false h]
    exact (beq_eq_false_iff_ne.mpr e).symm
theorem key_rr (a b : Str) : decide ((Sum.inr a : Key) = Sum.inr b) = decide (a = b) := by
  by_cases e : a = b
  · subst e; simp
  · have h : ¬ (Sum.inr a : Key) = Sum.inr b := fun q => e (Sum.inr.inj q)
    rw [decide_eq_false h, decide_eq_false e]
theorem key_lr (a : Int) (b : Str) : decide ((Sum.inl a : Key) = Sum.inr b) = false := decide_eq_false (fun q => nomatch q)
theorem key_rl (a : Str) (b : Int) : decide ((Sum.inr a : Key) = Sum.inl b) = false := decide_eq_false (fun q => nomatch q)

def mixKind (prog : Program) (w : World) : PySem.KeyKind prog w Key where
  is := keyIs
  hash := keyH w
  inj := fun v a b ha hb => by
    rcases keyIs_shape ha with ⟨i, t, rfl, rfl⟩ | ⟨x, t, rfl, rfl⟩
    · rcases keyIs_shape hb with ⟨j, u, rfl, e⟩ | ⟨y, u, rfl, e⟩
      · injection e with e1 _; rw [e1]
      · exact nomatch e
    · rcases keyIs_shape hb with ⟨j, u, rfl, e⟩ | ⟨y, u, rfl, e⟩
      · exact nomatch e
      · injection e with e1 _; rw [e1]
  byValue := fun k v h => by
    rcases keyIs_shape h with ⟨i, t, rfl, rfl⟩ | ⟨x, t, rfl, rfl⟩ <;> rfl
  pyHash := fun hv h => by
    rcases keyIs_shape hv with ⟨i, t, rfl, rfl⟩ | ⟨x, t, rfl, rfl⟩
    · exact wpAny_pyHash_int h
    · exact wpAny_pyHash_str h
  eqBool := fun hu hv h => by
    rcases keyIs_shape hu with ⟨i, t, rfl, rfl⟩ | ⟨x, t, rfl, rfl⟩
    · rcases keyIs_shape hv with ⟨j, u, rfl, rfl⟩ | ⟨y, u, rfl, rfl⟩
      · rw [key_ll] at h; exact wpAny_eqBool_int h
      · rw [key_lr] at h; exact SeqAt.EqAt.int_str i t y u _ _ _ _ h
    · rcases keyIs_shape hv with ⟨j, u, rfl, rfl⟩ | ⟨y, u, rfl, rfl⟩
      · rw [key_rl] at h; exact SeqAt.EqAt.str_int x t j u _ _ _ _ h
      · rw [key_rr] at h; exact wpAny_eqBool_str h
  «strs» := fun k x t v h => by
    rcases keyIs_shape h with ⟨i, u, rfl, e⟩ | ⟨y, u, rfl, e⟩
    · exact nomatch e
    · injection e with e1 _
      subst e1
      cases v <;> rfl

theorem mixKind_is (prog : Program) (w : World) (k : Key) (v : Value) : (mixKind prog w).is k v = keyIs k v := rfl
theorem mixKind_int (prog : Program) (w : World) (i : Int) (t : Tok) : (mixKind prog w).is (.inl i) (.int i t) = true := keyIs_int i t
theorem mixKind_str (prog : Program) (w : World) (x : Str) (t : Tok) : (mixKind prog w).is (.inr x) (.str x t) = true := keyIs_str x t
end L2

namespace L2
open PySem PySem.Spec PyProof.Rows

/-- a value, without the heap -/
inductive V where
  | non | bl (b : Bool) | int (i : Int) | str (x : Str) | byt (b : Array UInt8) | flt (b : UInt64) | ref (a : Addr) | ty (n : String)
  deriving DecidableEq

def RelV : V → Value → Prop
  | .non, u => u = Value.none
  | .bl b, u => u = Value.bool b
  | .int i, u => ∃ t, u = Value.int i t
  | .str x, u => ∃ t, u = Value.str x t
  | .byt b, u => ∃ t, u = Value.bytes b t
  | .flt b, u => ∃ t, u = Value.float b t
  | .ref a, u => u = Value.ref a
  | .ty n, u => u = Value.type n

abbrev Vals : List V → List Value → Prop := Paired RelV
theorem Vals.length {xs : List V} {us : List Value} (r : Vals xs us) : xs.length = us.length := Paired.length r
theorem Vals.get : ∀ {xs : List V} {us : List Value} {i : Nat} {x : V}, Vals xs us → xs[i]? = some x → ∃ u, us[i]? = some u ∧ RelV x u
  | _, _, _, _, .nil, e => by simp at e
  | _, _, 0, _, .cons r _, e => by simp at e; subst e; exact ⟨_, rfl, r⟩
  | _, _, i + 1, x, .cons _ t, e => by
    obtain ⟨u, h1, h2⟩ := Vals.get (i := i) (x := x) t (by simpa using e)
    exact ⟨u, by simpa using h1, h2⟩
theorem Vals.set {x : V} {u : Value} (r : RelV x u) : ∀ {xs : List V} {us : List Value} (i : Nat), Vals xs us → Vals (xs.set i x) (us.set i u)
  | _, _, _, .nil => .nil
  | _, _, 0, .cons _ t => .cons r t
  | _, _, i + 1, .cons q t => .cons q (Vals.set r i t)
theorem Vals.append : ∀ {xs ys : List V} {us ws : List Value}, Vals xs us → Vals ys ws → Vals (xs ++ ys) (us ++ ws)
  | _, _, _, _, .nil, s => s
  | _, _, _, _, .cons r t, s => .cons r (Vals.append t s)
theorem Vals.take : ∀ {xs : List V} {us : List Value} (n : Nat), Vals xs us → Vals (xs.take n) (us.take n)
  | _, _, 0, _ => .nil
  | _, _, _ + 1, .nil => .nil
  | _, _, n + 1, .cons r t => .cons r (Vals.take n t)
theorem Vals.drop : ∀ {xs : List V} {us : List Value} (n : Nat), Vals xs us → Vals (xs.drop n) (us.drop n)
  | _, _, 0, r => r
  | _, _, _ + 1, .nil => .nil
  | _, _, n + 1, .cons _ t => Vals.drop n t
theorem Vals.none_of : ∀ {xs : List V} {us : List Value} {i : Nat}, Vals xs us → xs[i]? = none → us[i]? = none := fun {xs us i} r e => by
  have h1 := r.length
  have h2 : xs.length ≤ i := List.getElem?_eq_none_iff.mp e
  exact List.getElem?_eq_none_iff.mpr (by omega)

def RelO : Option V → Option Value → Prop
  | some v, some u => RelV v u
  | none, none => True
  | _, _ => False
def KV {κ : Type} : List (κ × V) → List (κ × Value) → Prop := Paired fun (p : κ × V) (q : κ × Value) => p.1 = q.1 ∧ RelV p.2 q.2

/-- a key of a dict (00_mix): an int or a text -/
def kV : Key → V
  | .inl i => .int i
  | .inr x => .str x

/-- what stands at a tracked address -/
inductive HO where
  /-- a list -/
  | lst (xs : List V)
  /-- a tuple (never changes) -/
  | tup (xs : List V)
  /-- a dict whose keys are ints and texts; one whose keys are tuples of ints and texts (the empty one is both) -/
  | dK (kvs : List (Key × V)) | dT (kvs : List (List Key × V))
  /-- a set of ints: its members, its size -/
  | set (S : Int → Bool) (n : Nat)
  /-- an instance of the class at C, its dict at dx, its attributes -/
  | ins (C dx : Addr) (fs : List (Str × V))
  /-- the dict of the instance at x -/
  | own (x : Addr)
  /-- the dict of an exception -/
  | xd (fs : List (Str × V))
  /-- a bound method, f of x -/
  | met (f x : Addr)
  /-- a range object lo, lo + 1, .. below hi -/
  | rng (lo hi : Int)
  /-- a thing that is known to the object (the script; a dict while a loop walks it): read, never written while it is so -/
  | frz (o : Obj) (u : HO)
  /-- a code object's table -/
  | tbl (ps : Array Value)
  /-- any other thing, by what is true of its one object (a def of one's own: SetO a S n := HO.ext fun h => ..) -/
  | ext (φ : Heap → Prop)

abbrev Hp := Addr → Option HO
def upd (H : Hp) (a : Addr) (o : HO) : Hp := fun b => if b = a then some o else H b
theorem upd_same {H : Hp} {a : Addr} {o : HO} : upd H a o a = some o := by unfold upd; rw [if_pos rfl]
theorem upd_ne {H : Hp} {a b : Addr} {o : HO} (h : b ≠ a) : upd H a o b = H b := by unfold upd; rw [if_neg h]
theorem upd_upd {H : Hp} {a : Addr} {o u : HO} : upd (upd H a o) a u = upd H a u := by
  funext b; unfold upd; split <;> rfl
/-- two objects of different content stand apart -/
theorem ne_of {H : Hp} {a b : Addr} {o u : HO} (h : H a = some o) (h' : H b = some u) (d : o ≠ u) : a ≠ b := by
  intro e; subst e; rw [h] at h'; exact d (Option.some.inj h')
theorem ne_of_none {H : Hp} {a b : Addr} {o : HO} (h : H a = some o) (h' : H b = none) : a ≠ b := by
  intro e; subst e; rw [h] at h'; cases h'

section
variable (P : Program) (w : World)
def ObjOk (H : Hp) (h : Heap) (a : Addr) : HO → Prop
  | .lst xs => xs.length ≤ sizeLine ∧ ∃ (its : List Value) (n : Nat), Vals xs its ∧ h.get? a = some { cls := .type "list", data := .seq its.toArray n }
  | .tup xs => xs.length ≤ sizeLine ∧ ∃ its : List Value, Vals xs its ∧ IsTup h a its.toArray
  | .dK kvs => kvs.length ≤ sizeLine ∧ (a == sysModules) = false ∧ ∃ vs, KV kvs vs ∧ h.DictOf (mixKind P w) a vs
  | .dT kvs => kvs.length ≤ sizeLine ∧ (a == sysModules) = false ∧ ∃ xs : List (List Key × Addr × Value),
      Paired (fun (p : List Key × V) (q : List Key × Addr × Value) => p.1 = q.1 ∧ H q.2.1 = some (.tup (p.1.map kV)) ∧ RelV p.2 q.2.2) kvs xs ∧
      ∃ o es ep, h.get? a = some o ∧ o.ExactDict ∧ o.data = .dict es ep ∧ es.toList = xs.map (entryOfKey (tupleKind (mixKind P w))) ∧ (xs.map (·.1)).Nodup
  | .set S n => h.SetOf (intKind P w) a S n
  | .ins C dx fs => H dx = some (.own a) ∧ fs.length ≤ 1000 ∧ dx ≠ a ∧ h.get? a = some (PySem.W.instObj C dx) ∧
      ∃ mA, h.Ns1 dx mA ∧ (∀ f, RelO (fs.lookup f) (mA f)) ∧ PySem.Within mA (fs.map (·.1))
  | .own _ => ∃ o, h.get? a = some o
  | .xd fs => ∃ mA, h.Ns1 a mA ∧ ∀ f, RelO (fs.lookup f) (mA f)
  | .rng lo hi => ∃ t u v, h.get? a = some { cls := .type "range", data := .fields #[.int lo t, .int hi u, .int 1 v] }
  | .frz o u => h.get? a = some o ∧ ObjOk H h a u
  | .tbl ps => h.get? a = some { cls := .none, data := .fields ps }
  | .met f x => h.get? a = some (PySem.W.methodObj (.ref f) (.ref x))
  | .ext φ => φ h ∧ (∃ o, h.get? a = some o) ∧ ∀ h1 h2 : Heap, φ h1 → (∀ o, h1.get? a = some o → h2.get? a = some o) → φ h2
/-- the abstract heap is held -/
def HOk (H : Hp) (h : Heap) : Prop := ∀ a o, H a = some o → ObjOk P w H h a o
end

section
variable {P : Program} {w : World} {H H' : Hp} {h h' : Heap} {a : Addr} {o : HO}
theorem ObjOk.lt (x : ObjOk P w H h a o) : a < h.objs.size := by
  cases o with
  | lst xs => obtain ⟨_, _, _, _, e⟩ := x; exact Heap.lt_size e
  | tup xs => obtain ⟨_, _, _, p⟩ := x; exact p.lt
  | dK kvs => obtain ⟨_, _, _, _, o, _, _, e, _⟩ := x; exact Heap.lt_size e
  | dT kvs => obtain ⟨_, _, _, _, o, _, _, e, _⟩ := x; exact Heap.lt_size e
  | set S n => obtain ⟨o, _, _, _, e, _⟩ := x; exact Heap.lt_size e
  | ins C dx fs => obtain ⟨_, _, _, e, _⟩ := x; exact Heap.lt_size e
  | own y => obtain ⟨_, e⟩ := x; exact Heap.lt_size e
  | xd fs => obtain ⟨_, ⟨_, _, _, e, _⟩, _⟩ := x; exact Heap.lt_size e
  | rng lo hi => obtain ⟨_, _, _, e⟩ := x; exact Heap.lt_size e
  | frz ob u => obtain ⟨e, _⟩ := x; exact Heap.lt_size e
  | tbl ps => exact Heap.lt_size (show h.get? a = some _ from x)
  | met f y => exact Heap.lt_size (show h.get? a = some _ from x)
  | ext φ => obtain ⟨_, ⟨_, e⟩, _⟩ := x; exact Heap.lt_size e
theorem Paired.mapP {α β : Type} {F G : α → β → Prop} : ∀ {l₁ : List α} {l₂ : List β}, Paired F l₁ l₂ → (∀ a b, F a b → G a b) → Paired G l₁ l₂
  | _, _, .nil, _ => .nil
  | _, _, .cons r t, f => .cons (f _ _ r) (Paired.mapP t f)
theorem Paired.imp' {α β : Type} {F G : α → β → Prop} (f : ∀ a b, F a b → G a b) {l₁ : List α} {l₂ : List β} (r : Paired F l₁ l₂) : Paired G l₁ l₂ := Paired.mapP r f
/-- what an object's description leans on: its own object, its own dict, the tuples -/
theorem ObjOk.stay (x : ObjOk P w H h a o) (k : ∀ b u, (b = a ∨ H b = some (.own a)) → h.get? b = some u → h'.get? b = some u)
    (ho : ∀ b, H b = some (.own a) → H' b = some (.own a)) (ht : ∀ b xs, H b = some (.tup xs) → H' b = some (.tup xs)) : ObjOk P w H' h' a o := by
  induction o with
  | lst xs => obtain ⟨z, its, n, r, e⟩ := x; exact ⟨z, its, n, r, k _ _ (.inl rfl) e⟩
  | tup xs => obtain ⟨z, its, r, ob, e, c⟩ := x; exact ⟨z, its, r, ob, k _ _ (.inl rfl) e, c⟩
  | dK kvs => obtain ⟨z, y, vs, r, ob, es, ep, e, c⟩ := x; exact ⟨z, y, vs, r, ob, es, ep, k _ _ (.inl rfl) e, c⟩
  | dT kvs =>
    obtain ⟨z, y, xs, r, ob, es, ep, e, c⟩ := x
    exact ⟨z, y, xs, Paired.mapP r fun p q z => ⟨z.1, ht _ _ z.2.1, z.2.2⟩, ob, es, ep, k _ _ (.inl rfl) e, c⟩
  | set S n => obtain ⟨ob, es, ep, t, e, c⟩ := x; exact ⟨ob, es, ep, t, k _ _ (.inl rfl) e, c⟩
  | ins C dx fs =>
    obtain ⟨d, z, ne, e, mA, ⟨od, es, ep, e2, c⟩, r⟩ := x
    exact ⟨ho _ d, z, ne, k _ _ (.inl rfl) e, mA, ⟨od, es, ep, k _ _ (.inr d) e2, c⟩, r⟩
  | own y => obtain ⟨ob, e⟩ := x; exact ⟨ob, k _ _ (.inl rfl) e⟩
  | xd fs => obtain ⟨mA, ⟨od, es, ep, e, c⟩, r⟩ := x; exact ⟨mA, ⟨od, es, ep, k _ _ (.inl rfl) e, c⟩, r⟩
  | rng lo hi => obtain ⟨t, u, v, e⟩ := x; exact ⟨t, u, v, k _ _ (.inl rfl) e⟩
  | frz ob u ih => obtain ⟨e, q⟩ := x; exact ⟨k _ _ (.inl rfl) e, ih q⟩
  | tbl ps =>
    have e : h.get? a = some { cls := .none, data := .fields ps } := x
    show h'.get? a = some { cls := .none, data := .fields ps }
    exact k a _ (.inl rfl) e
  | met f y =>
    have e : h.get? a = some (PySem.W.methodObj (.ref f) (.ref y)) := x
    show h'.get? a = some (PySem.W.methodObj (.ref f) (.ref y))
    exact k a _ (.inl rfl) e
  | ext φ => obtain ⟨p, ⟨o, e⟩, st⟩ := x; exact ⟨st _ _ p fun o q => k _ _ (.inl rfl) q, ⟨o, k _ _ (.inl rfl) e⟩, st⟩
theorem HOk.lt (x : HOk P w H h) (e : H a = some o) : a < h.objs.size := (x a o e).lt
theorem HOk.fresh (x : HOk P w H h) (e : h.objs.size ≤ a) : H a = none := by
  cases q : H a with
  | none => rfl
  | some u => exact absurd (Nat.lt_of_lt_of_le (x.lt q) e) (Nat.lt_irrefl _)
/-- every object of the heap is kept -/
theorem HOk.kept (x : HOk P w H h) (k : ∀ b u, h.get? b = some u → h'.get? b = some u) : HOk P w H h' := fun a o e =>
  (x a o e).stay (fun b u _ q => k b u q) (fun _ q => q) fun _ _ q => q
/-- a new object is laid and tracked -/
theorem HOk.laid (x : HOk P w H h) (k : ∀ b u, h.get? b = some u → h'.get? b = some u) (hp : h.objs.size ≤ a) (new : ObjOk P w (upd H a o) h' a o) : HOk P w (upd H a o) h' := fun b u e => by
  have hn := x.fresh hp
  by_cases hb : b = a
  · subst hb; rw [upd_same] at e; cases e; exact new
  · rw [upd_ne hb] at e
    exact (x b u e).stay (fun c v _ q => k c v q) (fun c q => by rw [upd_ne (ne_of_none q hn)]; exact q) fun c xs q => by rw [upd_ne (ne_of_none q hn)]; exact q
end

/-- what may be read as u: it is u, or a known u -/
def Rd (H : Hp) (a : Addr) (u : HO) : Prop := H a = some u ∨ ∃ o, H a = some (.frz o u)
theorem Rd.of {H : Hp} {a : Addr} {u : HO} (h : H a = some u) : Rd H a u := .inl h
theorem Rd.ok {P : Program} {w : World} {H : Hp} {h : Heap} {a : Addr} {u : HO} (r : Rd H a u) (x : HOk P w H h) : ObjOk P w H h a u := by
  rcases r with r | ⟨o, r⟩
  · exact x a u r
  · obtain ⟨_, q⟩ := x a _ r
    exact q
/-- what may be written -/
def Mut : Option HO → Prop
  | some (.lst _) => True
  | some (.dK _) => True
  | some (.dT _) => True
  | some (.set _ _) => True
  | some (.ins _ _ _) => True
  | some (.ext _) => True
  | _ => False
section
variable {P : Program} {w : World} {H : Hp} {h h' : Heap} {x e : Addr} {o' : HO}
/-- the object at e is changed: x itself, or the dict of the instance x -/
theorem HOk.write (ok : HOk P w H h) (mu : Mut (H x)) (he : e = x ∨ H e = some (.own x)) (k : ∀ b u, b ≠ e → h.get? b = some u → h'.get? b = some u) (heo : ∃ u, h'.get? e = some u)
    (new : ObjOk P w (upd H x o') h' x o') : HOk P w (upd H x o') h' := fun b u q => by
  have nown : ∀ c y, H c = some (.own y) → c ≠ x := fun c y r z => by subst z; rw [r] at mu; exact mu
  have ntup : ∀ c xs, H c = some (.tup xs) → c ≠ x := fun c xs r z => by subst z; rw [r] at mu; exact mu
  by_cases hb : b = x
  · subst hb; rw [upd_same] at q; cases q; exact new
  · rw [upd_ne hb] at q
    by_cases hbe : b = e
    · have q' : H b = some (.own x) := by
        rcases he with z | z
        · exact absurd (hbe.trans z) hb
        · rw [hbe]; exact z
      rw [q] at q'; cases q'
      obtain ⟨v, hv⟩ := heo
      exact ⟨v, by rw [hbe]; exact hv⟩
    · refine (ok b u q).stay (fun c v hc r => k c v ?_ r) (fun c r => by rw [upd_ne (nown c b r)]; exact r) fun c xs r => by rw [upd_ne (ntup c xs r)]; exact r
      rcases hc with rfl | hc
      · exact hbe
      · rintro rfl
        rcases he with z | z
        · exact nown c b hc z
        · rw [hc] at z; cases z; exact hb rfl
end

/-! ### kept unless tracked; of the frames at fs (the callers') the slots may change (an exception that passes writes there); of the records at ex (iterators) nothing is said -/
structure Un (fs ex : List Addr) (H H' : Hp) (h h' : Heap) : Prop where
  keep : ∀ b o, h.get? b = some o → H b = none → b ∉ fs → b ∉ ex → h'.get? b = some o
  slot : ∀ b o, h.get? b = some o → H b = none → b ∈ fs → b ∉ ex → ∃ sl, h'.get? b = some { o with slots := sl }
  free : ∀ b o, h.get? b = some o → H b = none → b ∉ ex → H' b = none
  there : ∀ b o, h.get? b = some o → b ∉ ex → ∃ o', h'.get? b = some o'
  tups : ∀ b xs, H b = some (.tup xs) → H' b = some (.tup xs)
  frzs : ∀ b o u, H b = some (.frz o u) → H' b = some (.frz o u)
  tbls : ∀ b ps, H b = some (.tbl ps) → ∃ more, H' b = some (.tbl (ps ++ more))
section
variable {fs fs' ex ex' : List Addr} {H H1 H2 : Hp} {h h1 h2 h' : Heap} {a x e : Addr} {o : HO}
theorem Un.any (u : Un fs ex H H1 h h1) {b : Addr} {ob : Obj} (q : h.get? b = some ob) (n : H b = none) (hx : b ∉ ex) : ∃ sl, h1.get? b = some { ob with slots := sl } := by
  by_cases hb : b ∈ fs
  · exact u.slot b ob q n hb hx
  · exact ⟨ob.slots, u.keep b ob q n hb hx⟩
theorem Un.trans (a : Un fs ex H H1 h h1) (b : Un fs ex H1 H2 h1 h2) : Un fs ex H H2 h h2 where
  keep := fun c ob q n hc hx => b.keep c ob (a.keep c ob q n hc hx) (a.free c ob q n hx) hc hx
  slot := fun c ob q n hc hx => by
    obtain ⟨sl, e1⟩ := a.slot c ob q n hc hx
    obtain ⟨sl', e2⟩ := b.slot c _ e1 (a.free c ob q n hx) hc hx
    exact ⟨sl', e2⟩
  free := fun c ob q n hx => by
    obtain ⟨o', e1⟩ := a.there c ob q hx
    exact b.free c o' e1 (a.free c ob q n hx) hx
  there := fun c ob q hx => by
    obtain ⟨o', e1⟩ := a.there c ob q hx
    exact b.there c o' e1 hx
  tups := fun c xs q => b.tups c xs (a.tups c xs q)
  frzs := fun c ob xs q => b.frzs c ob xs (a.frzs c ob xs q)
  tbls := fun c ps q => by
    obtain ⟨m1, e1⟩ := a.tbls c ps q
    obtain ⟨m2, e2⟩ := b.tbls c _ e1
    exact ⟨m1 ++ m2, by rw [e2, Array.append_assoc]⟩
theorem Un.kept (k : ∀ b u, h.get? b = some u → h'.get? b = some u) : Un fs ex H H h h' :=
  ⟨fun b ob q _ _ _ => k b ob q, fun b ob q _ _ _ => ⟨ob.slots, k b ob q⟩, fun _ _ _ n _ => n, fun b ob q _ => ⟨ob, k b ob q⟩, fun _ _ q => q, fun _ _ _ q => q, fun _ ps q => ⟨#[], by rw [q]; simp⟩⟩
theorem Un.refl : Un fs ex H H h h := Un.kept fun _ _ q => q
theorem Un.laid (k : ∀ b u, h.get? b = some u → h'.get? b = some u) (hp : h.objs.size ≤ a) (hn : H a = none) : Un fs ex H (upd H a o) h h' where
  keep := fun b u q _ _ _ => k b u q
  slot := fun b u q _ _ _ => ⟨u.slots, k b u q⟩
  free := fun b u q n _ => by rw [upd_ne (Nat.ne_of_lt (Nat.lt_of_lt_of_le (Heap.lt_size q) hp))]; exact n
  there := fun b u q _ => ⟨u, k b u q⟩
  tups := fun b xs q => by rw [upd_ne (ne_of_none q hn)]; exact q
  frzs := fun b u xs q => by rw [upd_ne (ne_of_none q hn)]; exact q
  tbls := fun b ps q => ⟨#[], by rw [upd_ne (ne_of_none q hn), q]; simp⟩
theorem Un.write (mu : Mut (H x)) (he : e = x ∨ H e = some (.own x)) (k : ∀ b u, b ≠ e → h.get? b = some u → h'.get? b = some u) (heo : ∃ u, h'.get? e = some u) : Un fs ex H (upd H x o) h h' := by
  have hx : ∀ b, H b = none → b ≠ x := fun b n z => by subst z; rw [n] at mu; exact mu
  have hb : ∀ b, H b = none → b ≠ e := fun b n z => by
    subst z
    rcases he with r | r
    · exact hx b n r
    · rw [n] at r; cases r
  have hm : ∀ b u, H b = some u → ¬ Mut (some u) → b ≠ x := fun b u q nm z => by subst z; rw [q] at mu; exact nm mu
  refine ⟨fun b u q n _ _ => k b u (hb b n) q, fun b u q n _ _ => ⟨u.slots, k b u (hb b n) q⟩, fun b u q n _ => by rw [upd_ne (hx b n)]; exact n, fun b u q _ => ?_,
    fun b xs q => by rw [upd_ne (hm b _ q fun z => z)]; exact q, fun b u xs q => by rw [upd_ne (hm b _ q fun z => z)]; exact q, fun b ps q => ⟨#[], by rw [upd_ne (hm b _ q fun z => z), q]; simp⟩⟩
  by_cases hbe : b = e
  · subst hbe; exact heo
  · exact ⟨u, k b u hbe q⟩
theorem Un.mono (u : Un fs ex H H1 h h1) (hs : ∀ b ∈ fs, b ∈ fs') (hx : ∀ b ∈ ex, b ∈ ex') : Un fs' ex' H H1 h h1 :=
  ⟨fun b ob q n hb he => u.keep b ob q n (fun z => hb (hs b z)) fun z => he (hx b z), fun _ _ q n _ he => u.any q n fun z => he (hx _ z), fun b ob q n he => u.free b ob q n fun z => he (hx b z), fun b ob q he => u.there b ob q fun z => he (hx b z), u.tups, u.frzs, u.tbls⟩
end

/-! ### the heap without what is tracked -/
def trk (h : Heap) (H : Hp) : List Addr := (List.range h.objs.size).filter fun a => (H a).isSome
def hidT (h : Heap) (H : Hp) : Heap := PySem.W.hideAll h (trk h H)
theorem hidT_size (h : Heap) (H : Hp) : (hidT h H).objs.size = h.objs.size := PySem.W.hideAll_size _ _
theorem hidT_get {h : Heap} {H : Hp} {b : Addr} {o : Obj} (e : h.get? b = some o) (n : H b = none) : (hidT h H).get? b = some o :=
  PySem.W.hideAll_get _ e fun hm => by
    have q : (H b).isSome = true := (List.mem_filter.mp hm).2
    rw [n] at q; simp at q
theorem of_hidT {h : Heap} {H : Hp} {b : Addr} {o : Obj} (e : (hidT h H).get? b = some o) : h.get? b = some o ∧ H b = none := by
  have e' : h.get? b = some o := PySem.W.of_hideAll (trk h H) e
  refine ⟨e', ?_⟩
  cases q : H b with
  | none => rfl
  | some x =>
    have hm : b ∈ trk h H := List.mem_filter.mpr ⟨List.mem_range.mpr (Heap.lt_size e'), by simp [q]⟩
    have z : (hidT h H).get? b = none := PySem.W.hideAll_none (trk h H) hm
    rw [z] at e; cases e

/-! ### OpenK's ledger, filled with every new object but one -/
def allNews (g h : Heap) (L : Addr) : List (Addr × Obj) := (List.range h.objs.size).filterMap fun a => if a = L ∨ (g.get? a).isSome = true then none else (h.get? a).map fun o => (a, o)
theorem mem_allNews {g h : Heap} {L a : Addr} {o : Obj} (h1 : a ≠ L) (h2 : g.get? a = none) (h3 : h.get? a = some o) : (a, o) ∈ allNews g h L :=
  List.mem_filterMap.mpr ⟨a, List.mem_range.mpr (Heap.lt_size h3), by simp [h1, h2, h3]⟩
theorem of_mem_allNews {g h : Heap} {L : Addr} {p : Addr × Obj} (hp : p ∈ allNews g h L) : p.1 ≠ L ∧ g.get? p.1 = none ∧ h.get? p.1 = some p.2 := by
  obtain ⟨b, _, e⟩ := List.mem_filterMap.mp hp
  split at e
  · cases e
  · rename_i hn
    cases q : h.get? b with
    | none => rw [q] at e; simp at e
    | some u =>
      rw [q] at e
      simp only [Option.map_some, Option.some.injEq] at e
      subst e
      refine ⟨fun z => hn (.inl z), ?_, q⟩
      show g.get? b = none
      cases r : g.get? b with
      | none => rfl
      | some v => exact (hn (.inr (by simp [r]))).elim
def rest (g h : Heap) (L d : Addr) : List (Addr × Obj) := (allNews g h L).filter fun p => decide (p.1 ≠ d)
theorem rest_ne {g h : Heap} {L d : Addr} : ∀ p ∈ rest g h L d, p.1 ≠ d := fun p hp => of_decide_eq_true (List.mem_filter.mp hp).2
theorem mem_rest {g h : Heap} {L d a : Addr} {o : Obj} (h1 : a ≠ L) (h2 : g.get? a = none) (h3 : h.get? a = some o) (h4 : a ≠ d) : (a, o) ∈ rest g h L d :=
  List.mem_filter.mpr ⟨mem_allNews h1 h2 h3, decide_eq_true h4⟩
theorem news_all {g h : Heap} {L : Addr} : News g L h (allNews g h L) := fun p hp => let ⟨a, b, c⟩ := of_mem_allNews hp; ⟨c, a, b⟩
theorem news_at {g h : Heap} {L d : Addr} {o : Obj} (h1 : d ≠ L) (h2 : g.get? d = none) (h3 : h.get? d = some o) : News g L h ((d, o) :: rest g h L d) := fun p hp => by
  rcases List.mem_cons.mp hp with rfl | hp
  · exact ⟨h3, h1, h2⟩
  · exact news_all p (List.mem_filter.mp hp).1
/-- behind a rule that changed d alone: all else but the frame is kept -/
theorem kept_of_news {g h h' : Heap} {L d : Addr} {m : Str → Option Value} (k : ∀ b o, g.get? b = some o → h.get? b = some o) (F : Fr g L h' m) (N : News g L h' (rest g h L d)) :
    ∀ b o, b ≠ L → b ≠ d → h.get? b = some o → h'.get? b = some o := fun b o h1 h2 e => by
  cases q : g.get? b with
  | some u =>
    have := k b u q
    rw [e] at this; cases this
    exact F.keep b _ q
  | none => exact (N (b, o) (mem_rest h1 q e h2)).1
end L2

namespace L2
open PySem PySem.Spec PyProof.Rows

/-- the module's facts, over the base: the heap at the law's entry without what is tracked there -/
structure Mod (K : PySem.W.Frag) (mg : Str → Option Value) (base : Heap) : Prop where
  kin : K.In base
  glob : base.Ns mainGlobals mg
  blt : ∃ mb, base.Ns builtinsNs mb ∧ ∀ x : Str, x ≠ "__name__" → mb x = bootBuiltins x
  nolimit : base.NoLimit

/-- the context: a def's body (or a comprehension's block) running. base: fixed through the whole law; s₀, H₀: the entry; outer: the frames whose slots others may change (a def's callers); stack: all frames that run;
   ex: iterators that were made ahead of the entry and are walked here (a comprehension's); fn: the names whose cells were made at the entry (a def: all; a comprehension's block: its own); calm: not within an except suite; pn: pins that every state bears; xe: what is wanted of an exception that leaves the code -/
structure Cx where
  prog : Program
  w : World
  K : PySem.W.Frag
  mg : Str → Option Value
  base : Heap
  A : Around
  N : List Str
  s₀ : Shared
  H₀ : Hp
  env : Env
  outer : List Env
  stack : List Env
  ex : List Addr
  fn : Str → Bool
  calm : Bool
  pn : List (Addr × Obj)
  xe : Value → Shared → Prop
/-- the callers' frames -/
def frs (l : List Env) : List Addr := l.filterMap (·.frame)
abbrev Cx.fs (X : Cx) : List Addr := frs X.outer

def Vis (sc : Scope) (x : Str) : Prop := sc.names.lookup x = some .local ∨ sc.names.lookup x = some .cell ∨ sc.names.lookup x = some .free
def Loc (sc : Scope) (x : Str) : Prop := sc.names.lookup x = some .local ∨ sc.names.lookup x = some .cell
def Look (env : Env) (h : Heap) (m : Str → Option Value) (x : Str) (u : Value) : Prop :=
  (env.kindOf x = some .local ∧ m x = some u) ∨ ((env.kindOf x = some .cell ∨ env.kindOf x = some .free) ∧ ∃ c, env.cells.lookup x = some c ∧ h.IsCell c (some u))

structure Cx.Ok (X : Cx) : Prop where
  mod : Mod X.K X.mg X.base
  kind : X.env.scope.kind = .function
  glob : X.env.globals = mainGlobals
  blt : X.env.builtins = builtinsNs
  above : X.s₀.heap.objs.size ≤ X.env.locals
  inj : ∀ x y c, X.env.cells.lookup x = some c → X.env.cells.lookup y = some c → x = y
  has : ∀ x, (X.env.kindOf x = some .cell ∨ X.env.kindOf x = some .free) → ∃ c, X.env.cells.lookup x = some c
  cab : ∀ x c, X.fn x = true → X.env.cells.lookup x = some c → X.s₀.heap.objs.size ≤ c
  hd : X.calm = true → X.A.handled = none
  frames : X.A.frames = some X.stack
  stk : X.stack = X.outer ∨ (X.stack = X.env :: X.outer ∧ X.env.frame = some X.env.locals)
  exf : ∀ b ∈ X.ex, b ≠ X.env.locals ∧ ∀ x c, X.env.cells.lookup x = some c → c ≠ b
  bs : ∀ b o, X.base.get? b = some o → X.s₀.heap.get? b = some o ∧ X.H₀ b = none
  bsz : X.base.objs.size ≤ X.s₀.heap.objs.size
  noex : ∀ b o, X.base.get? b = some o → b ∉ X.ex
  exfs : ∀ b ∈ X.ex, b ∉ X.fs
  funs : X.s₀.heap.FunFrames X.base X.outer
  frf : ∀ b ∈ X.fs, X.H₀ b = none

structure Inv (X : Cx) (pins : List (Addr × Obj)) (σ : List (Option V)) (H : Hp) (s : Shared) : Prop where
  ok : X.Ok
  os : s.os = X.s₀.os
  bare : AllBare s.gens
  base : Un X.fs X.ex X.H₀ H X.s₀.heap s.heap
  loc : ∃ m, s.heap.Ns X.env.locals m ∧ ∀ (i : Nat) (x : Str) (v : V), X.N[i]? = some x → σ[i]? = some (some v) → Vis X.env.scope x → ∃ u, RelV v u ∧ Look X.env s.heap m x u
  cell : ∀ x c, X.env.cells.lookup x = some c → ∃ v, s.heap.IsCell c v
  free : H X.env.locals = none
  freeC : ∀ x c, X.env.cells.lookup x = some c → H c = none
  pin : ∀ p ∈ X.pn ++ pins, s.heap.get? p.1 = some p.2 ∧ H p.1 = none ∧ p.1 ≠ X.env.locals ∧ p.1 ∉ X.fs ∧ ∀ v, p.2.data ≠ .cell v
  hok : HOk X.prog X.w H s.heap
  len : σ.length = X.N.length

section
variable {X : Cx} {pins : List (Addr × Obj)} {σ : List (Option V)} {H H' : Hp} {s : Shared} {h' : Heap}

theorem Cx.Ok.nofr (ok : X.Ok) {b : Addr} {o : Obj} (e : X.base.get? b = some o) : b ∉ X.fs := fun hb => by
  have := (ok.funs.mem hb).1
  rw [e] at this; cases this
theorem Inv.bs (I : Inv X pins σ H s) : ∀ b o, X.base.get? b = some o → s.heap.get? b = some o ∧ H b = none := fun b o e =>
  ⟨I.base.keep b o (I.ok.bs b o e).1 (I.ok.bs b o e).2 (I.ok.nofr e) (I.ok.noex b o e), I.base.free b o (I.ok.bs b o e).1 (I.ok.bs b o e).2 (I.ok.noex b o e)⟩
theorem Inv.bk (I : Inv X pins σ H s) : ∀ b o, X.base.get? b = some o → s.heap.get? b = some o := fun b o e => (I.bs b o e).1
theorem Inv.mod (I : Inv X pins σ H s) : Mod X.K X.mg X.base := I.ok.mod
theorem Inv.kIn (I : Inv X pins σ H s) : X.K.In s.heap := I.ok.mod.kin.keeps I.bk
theorem Inv.nolimit (I : Inv X pins σ H s) : s.heap.NoLimit := I.ok.mod.nolimit.keeps I.bk
/-- the frame over the base: for OpenK's rules (K.In X.base is I.mod.kin) -/
theorem Inv.fr (I : Inv X pins σ H s) : ∃ m, Fr X.base X.env.locals s.heap m :=
  let ⟨m, hn, _⟩ := I.loc
  ⟨m, hn, I.bk, Nat.le_trans I.ok.bsz I.ok.above⟩
theorem Inv.lt (I : Inv X pins σ H s) : X.env.locals < s.heap.objs.size := let ⟨_, hn, _⟩ := I.loc; hn.lt
theorem Inv.sz (I : Inv X pins σ H s) : X.s₀.heap.objs.size ≤ s.heap.objs.size := Nat.le_trans I.ok.above (Nat.le_of_lt I.lt)
theorem Inv.nofs (I : Inv X pins σ H s) {a : Addr} (h : s.heap.objs.size ≤ a) : a ∉ X.fs := fun hb => by
  obtain ⟨_, o, ho, _⟩ := I.ok.funs.mem hb
  exact absurd (Nat.lt_of_lt_of_le (Heap.lt_size ho) (Nat.le_trans I.sz h)) (Nat.lt_irrefl _)
theorem Inv.cne (I : Inv X pins σ H s) : ∀ x c, X.env.cells.lookup x = some c → c ≠ X.env.locals := fun x c e z => by
  obtain ⟨v, o, ho, hd⟩ := I.cell x c e
  obtain ⟨m, ⟨o', es, ep, ho', hd', _⟩, _⟩ := I.loc
  rw [z, ho'] at ho; cases ho; rw [hd'] at hd; cases hd
theorem Inv.funs (I : Inv X pins σ H s) : s.heap.FunFrames X.base X.outer := by
  have all : ∀ (l : List Env), (∀ b ∈ frs l, b ∈ X.fs) → X.s₀.heap.FunFrames X.base l → s.heap.FunFrames X.base l := by
    intro l
    induction l with
    | nil => intro _ _; trivial
    | cons env r ih =>
      intro hs hl
      obtain ⟨hk, ⟨L, o, hf, hn, ho, hd⟩, hr⟩ := hl
      have hL : L ∈ X.fs := hs L (by unfold frs; rw [List.filterMap_cons, hf]; exact List.mem_cons_self)
      obtain ⟨sl, e⟩ := I.base.slot L o ho (I.ok.frf L hL) hL fun z => I.ok.exfs L z hL
      exact ⟨hk, ⟨L, _, hf, hn, e, hd⟩, ih (fun b hb => hs b (by unfold frs; rw [List.filterMap_cons, hf]; exact List.mem_cons_of_mem _ hb)) hr⟩
  exact all X.outer (fun _ hb => hb) I.ok.funs

/-- the frames that run, for a call -/
theorem Inv.stack (I : Inv X pins σ H s) : s.heap.FunFrames X.base X.stack := by
  rcases I.ok.stk with e | ⟨e, hf⟩
  · rw [e]; exact I.funs
  · rw [e]
    obtain ⟨m, hn, _⟩ := I.loc
    refine .cons (by rw [I.ok.kind]; decide) hf hn ?_ I.funs
    exact Heap.get?_none_of_le (Nat.le_trans I.ok.bsz I.ok.above)
theorem Inv.stkSub (I : Inv X pins σ H s) : ∀ b ∈ frs X.stack, b ∈ X.env.locals :: X.fs := fun b hb => by
  rcases I.ok.stk with e | ⟨e, hf⟩
  · rw [e] at hb; exact List.mem_cons_of_mem _ hb
  · rw [e] at hb
    unfold frs at hb
    rw [List.filterMap_cons, hf] at hb
    exact hb
theorem Inv.stkFree (I : Inv X pins σ H s) : ∀ b ∈ frs X.stack, H b = none := fun b hb => by
  rcases List.mem_cons.mp (I.stkSub b hb) with e | hb
  · rw [e]; exact I.free
  · obtain ⟨_, o, ho, _⟩ := I.ok.funs.mem hb
    exact I.base.free b o ho (I.ok.frf b hb) fun z => I.ok.exfs b z hb

/-- THE STEP: the untracked objects but the frame and the records at ch are kept (the callers' frames up to slots), the frame's map is kept, the new abstract heap is held -/
theorem Inv.step {g' : Array GenState} {t' : Nat} {d' : Drawn} {ch : List Addr} (I : Inv X pins σ H s)
    (hch : ∀ b ∈ ch, (b ∈ X.ex ∨ X.s₀.heap.objs.size ≤ b) ∧ b ≠ X.env.locals ∧ (∀ x c, X.env.cells.lookup x = some c → c ≠ b) ∧ ∀ p ∈ X.pn ++ pins, p.1 ≠ b)
    (keep : ∀ b o, b ≠ X.env.locals → b ∉ X.fs → b ∉ ch → s.heap.get? b = some o → H b = none → h'.get? b = some o)
    (slot : ∀ b o, b ≠ X.env.locals → b ∈ X.fs → b ∉ ch → s.heap.get? b = some o → H b = none → ∃ sl, h'.get? b = some { o with slots := sl }) (free : ∀ b o, b ∉ ch → s.heap.get? b = some o → H b = none → H' b = none)
    (there : ∀ b o, b ∉ ch → s.heap.get? b = some o → ∃ o', h'.get? b = some o')
    (tups : ∀ b xs, H b = some (.tup xs) → H' b = some (.tup xs)) (frzs : ∀ b o u, H b = some (.frz o u) → H' b = some (.frz o u)) (tbls : ∀ b ps, H b = some (.tbl ps) → ∃ more, H' b = some (.tbl (ps ++ more)))
    (ns : ∀ m, s.heap.Ns X.env.locals m → h'.Ns X.env.locals m) (hok : HOk X.prog X.w H' h') (hg : AllBare g') :
    Inv X pins σ H' { s with heap := h', gens := g', drawn := d', toks := t' } := by
  have neL : ∀ b o, X.s₀.heap.get? b = some o → b ≠ X.env.locals := fun b o e => Nat.ne_of_lt (Nat.lt_of_lt_of_le (Heap.lt_size e) I.ok.above)
  have neC : ∀ b o, X.s₀.heap.get? b = some o → b ∉ X.ex → b ∉ ch := fun b o e hx hb => by
    rcases (hch b hb).1 with z | z
    · exact hx z
    · exact absurd (Nat.lt_of_lt_of_le (Heap.lt_size e) z) (Nat.lt_irrefl _)
  have cellK : ∀ x c, X.env.cells.lookup x = some c → ∀ v, s.heap.IsCell c v → h'.IsCell c v := fun x c e v ⟨o, ho, hd⟩ => by
    have nch : c ∉ ch := fun z => (hch c z).2.2.1 x c e rfl
    by_cases hc : c ∈ X.fs
    · obtain ⟨sl, q⟩ := slot c o (I.cne x c e) hc nch ho (I.freeC x c e)
      exact ⟨_, q, hd⟩
    · exact ⟨o, keep c o (I.cne x c e) hc nch ho (I.freeC x c e), hd⟩
  refine ⟨I.ok, I.os, hg, ⟨fun b o e n hb hx => ?_, fun b o e n hb hx => ?_, fun b o e n hx => ?_, fun b o e hx => ?_, fun b xs e => tups b xs (I.base.tups b xs e), fun b o xs e => frzs b o xs (I.base.frzs b o xs e), fun b ps e => ?_⟩, ?_, fun x c e => ?_, ?_, fun x c e => ?_, fun p hp => ?_, hok, I.len⟩
  · exact keep b o (neL b o e) hb (neC b o e hx) (I.base.keep b o e n hb hx) (I.base.free b o e n hx)
  · obtain ⟨sl, e1⟩ := I.base.slot b o e n hb hx
    obtain ⟨sl', e2⟩ := slot b _ (neL b o e) hb (neC b o e hx) e1 (I.base.free b o e n hx)
    exact ⟨sl', e2⟩
  · obtain ⟨o', e1⟩ := I.base.there b o e hx
    exact free b o' (neC b o e hx) e1 (I.base.free b o e n hx)
  · obtain ⟨o', e1⟩ := I.base.there b o e hx
    exact there b o' (neC b o e hx) e1
  · obtain ⟨m1, e1⟩ := I.base.tbls b ps e
    obtain ⟨m2, e2⟩ := tbls b _ e1
    exact ⟨m1 ++ m2, by rw [e2, Array.append_assoc]⟩
  · obtain ⟨m, hn, hl⟩ := I.loc
    refine ⟨m, ns m hn, fun i x v e1 e2 e3 => ?_⟩
    obtain ⟨u, r, l⟩ := hl i x v e1 e2 e3
    refine ⟨u, r, ?_⟩
    rcases l with l | ⟨k, c, e, z⟩
    · exact .inl l
    · exact .inr ⟨k, c, e, cellK x c e _ z⟩
  · obtain ⟨v, z⟩ := I.cell x c e
    exact ⟨v, cellK x c e v z⟩
  · obtain ⟨m, ⟨o, _, _, ho, _⟩, _⟩ := I.loc
    exact free _ o (fun z => (hch _ z).2.1 rfl) ho I.free
  · obtain ⟨v, o, ho, hd⟩ := I.cell x c e
    exact free c o (fun z => (hch c z).2.2.1 x c e rfl) ho (I.freeC x c e)
  · obtain ⟨e, n, ne, nf, d⟩ := I.pin p hp
    have nch : p.1 ∉ ch := fun z => (hch p.1 z).2.2.2 p hp rfl
    exact ⟨keep p.1 p.2 ne nf nch e n, free p.1 p.2 nch e n, ne, nf, d⟩
/-- .. where the frame's own object is kept too -/
theorem Inv.un {t' : Nat} (I : Inv X pins σ H s) (u : Un X.fs [] H H' s.heap h') (hok : HOk X.prog X.w H' h') : Inv X pins σ H' { s with heap := h', toks := t' } := by
  obtain ⟨m, ⟨o, es, ep, ho, r⟩, _⟩ := id I.loc
  obtain ⟨sl, hL⟩ := u.any ho I.free (by simp)
  exact I.step (g' := s.gens) (d' := s.drawn) (ch := []) (fun _ z => nomatch z) (fun b o _ hb _ e n => u.keep b o e n hb (by simp)) (fun b o _ hb _ e n => u.slot b o e n hb (by simp)) (fun b o _ e n => u.free b o e n (by simp)) (fun b o _ e => u.there b o e (by simp)) u.tups u.frzs u.tbls (fun m' hm => by
    obtain ⟨o', es', ep', ho', r'⟩ := hm
    rw [ho] at ho'; cases ho'
    exact ⟨_, es', ep', hL, r'⟩) hok I.bare
/-- behind a call (or a comprehension's block): the slots of this frame may have changed too, the records at ch may have turned -/
theorem Inv.call {g' : Array GenState} {t' : Nat} {d' : Drawn} {ch : List Addr} (I : Inv X pins σ H s) (u : Un (frs X.stack) ch H H' s.heap h') (hok : HOk X.prog X.w H' h') (hg : AllBare g')
    (hch : ∀ b ∈ ch, (b ∈ X.ex ∨ X.s₀.heap.objs.size ≤ b) ∧ b ≠ X.env.locals ∧ (∀ x c, X.env.cells.lookup x = some c → c ≠ b) ∧ ∀ p ∈ X.pn ++ pins, p.1 ≠ b) :
    Inv X pins σ H' { s with heap := h', gens := g', drawn := d', toks := t' } := by
  obtain ⟨m, ⟨o, es, ep, ho, r⟩, _⟩ := id I.loc
  obtain ⟨sl, hL⟩ := u.any ho I.free fun z => (hch _ z).2.1 rfl
  exact I.step (ch := ch) hch (fun b o hL hb hc e n => u.keep b o e n (fun z => (List.mem_cons.mp (I.stkSub b z)).elim hL hb) hc) (fun b o _ _ hc e n => u.any e n hc) (fun b o hc e n => u.free b o e n hc) (fun b o hc e => u.there b o e hc) u.tups u.frzs u.tbls (fun m' hm => by
    obtain ⟨o', es', ep', ho', r'⟩ := hm
    rw [ho] at ho'; cases ho'
    exact ⟨_, es', ep', hL, r'⟩) hok hg
/-- an untracked record of ours (an iterator) has turned -/
theorem Inv.turned {t' : Nat} {it : Addr} (I : Inv X pins σ H s) (k : ∀ b o, b ≠ it → s.heap.get? b = some o → h'.get? b = some o) (hn : H it = none) (hL : it ≠ X.env.locals)
    (h1 : it ∈ X.ex ∨ X.s₀.heap.objs.size ≤ it) (h2 : ∀ x c, X.env.cells.lookup x = some c → c ≠ it) (h3 : ∀ p ∈ X.pn ++ pins, p.1 ≠ it) : Inv X pins σ H { s with heap := h', toks := t' } := by
  have nit : ∀ b u, H b = some u → b ≠ it := fun b u e z => by rw [z, hn] at e; cases e
  refine I.step (g' := s.gens) (d' := s.drawn) (ch := [it]) (fun b hb => ?_) (fun b o _ _ hc e _ => k b o (fun z => hc (by simp [z])) e) (fun b o _ _ hc e _ => ⟨o.slots, k b o (fun z => hc (by simp [z])) e⟩) (fun _ _ _ _ n => n)
    (fun b o hc e => ⟨o, k b o (fun z => hc (by simp [z])) e⟩) (fun _ _ e => e) (fun _ _ _ e => e) (fun b ps e => ⟨#[], by rw [e]; simp⟩) (fun m hm => ?_) (fun b u e => ?_) I.bare
  · have e : b = it := by simpa using hb
    subst e
    exact ⟨h1, hL, h2, h3⟩
  · obtain ⟨o, es, ep, ho, r⟩ := hm
    exact ⟨o, es, ep, k _ o (Ne.symm hL) ho, r⟩
  · refine (I.hok b u e).stay (fun c v hc q => k c v ?_ q) (fun _ q => q) fun _ _ q => q
    rcases hc with z | z
    · rw [z]; exact nit b u e
    · exact nit c _ z
theorem Inv.tok (I : Inv X pins σ H s) (t : Nat) : Inv X pins σ H { s with toks := t } := I.un (h' := s.heap) (t' := t) Un.refl I.hok
/-- all objects kept -/
theorem Inv.kept {t' : Nat} (I : Inv X pins σ H s) (k : ∀ b u, s.heap.get? b = some u → h'.get? b = some u) : Inv X pins σ H { s with heap := h', toks := t' } := I.un (Un.kept k) (I.hok.kept k)
/-- a new object laid and tracked -/
theorem Inv.laid {a : Addr} {o : HO} {t' : Nat} (I : Inv X pins σ H s) (k : ∀ b u, s.heap.get? b = some u → h'.get? b = some u) (hp : s.heap.objs.size ≤ a) (new : ObjOk X.prog X.w (upd H a o) h' a o) :
    Inv X pins σ (upd H a o) { s with heap := h', toks := t' } := I.un (Un.laid k hp (I.hok.fresh hp)) (I.hok.laid k hp new)
/-- an object written -/
theorem Inv.write {x e : Addr} {o : HO} {t' : Nat} (I : Inv X pins σ H s) (mu : Mut (H x)) (he : e = x ∨ H e = some (.own x)) (k : ∀ b u, b ≠ e → s.heap.get? b = some u → h'.get? b = some u) (heo : ∃ u, h'.get? e = some u)
    (new : ObjOk X.prog X.w (upd H x o) h' x o) : Inv X pins σ (upd H x o) { s with heap := h', toks := t' } := I.un (Un.write mu he k heo) (I.hok.write mu he k heo new)
/-- forgetting slots, pins -/
theorem Inv.weak {σ' : List (Option V)} (I : Inv X pins σ H s) (hl : σ'.length = σ.length) (w : ∀ (i : Nat) v, σ'[i]? = some (some v) → σ[i]? = some (some v)) : Inv X pins σ' H s :=
  ⟨I.ok, I.os, I.bare, I.base, let ⟨m, hn, hl'⟩ := I.loc; ⟨m, hn, fun i x v e1 e2 e3 => hl' i x v e1 (w i v e2) e3⟩, I.cell, I.free, I.freeC, I.pin, I.hok, hl.trans I.len⟩
theorem Inv.pins_of {pins' : List (Addr × Obj)} (I : Inv X pins σ H s) (h : ∀ p ∈ pins', s.heap.get? p.1 = some p.2 ∧ H p.1 = none ∧ p.1 ≠ X.env.locals ∧ p.1 ∉ X.fs ∧ ∀ v, p.2.data ≠ .cell v) : Inv X pins' σ H s :=
  ⟨I.ok, I.os, I.bare, I.base, I.loc, I.cell, I.free, I.freeC, fun p hp => (List.mem_append.mp hp).elim (fun z => I.pin p (List.mem_append_left _ z)) (h p), I.hok, I.len⟩

theorem nodup_ix {N : List Str} (hN : N.Nodup) {i j : Nat} {x : Str} (a : N[i]? = some x) (b : N[j]? = some x) : i = j := by
  obtain ⟨h1, e1⟩ := List.getElem?_eq_some_iff.mp a
  obtain ⟨h2, e2⟩ := List.getElem?_eq_some_iff.mp b
  exact (List.getElem_inj hN).mp (e1.trans e2.symm)

/-- a name is stored; what changed -/
theorem store_ok2 {M : Model} {A : Around} {E : Value → Shared → Prop} {i : Nat} {x : Str} {v : V} {u : Value} {Q : Unit → Shared → Prop} (I : Inv X pins σ H s) (hN : X.N.Nodup) (hi : X.N[i]? = some x) (hx : Loc X.env.scope x) (r : RelV v u)
    (h : ∀ s', Inv X pins (σ.set i (some v)) H s' → (∃ a, Heap.SameBut a s.heap s'.heap ∧ (a = X.env.locals ∨ X.env.cells.lookup x = some a)) → Q () s') (hf : X.fn x = true ∨ X.env.scope.names.lookup x = some .local := by first | exact .inl rfl | exact .inr rfl | assumption) : wpAny M A (storeName X.env x u) Q E s := by
  obtain ⟨m, hn, hl⟩ := id I.loc
  have hcls : (X.env.scope.kind == .class || (X.env.scope.kind == .module && X.env.locals != X.env.globals)) = false := by rw [I.ok.kind]; rfl
  have hiσ : i < σ.length := by rw [I.len]; exact (List.getElem?_eq_some_iff.mp hi).1
  have cne := I.cne
  have tracked : ∀ {a : Addr} {h' : Heap}, (∃ o, s.heap.get? a = some o ∧ H a = none) → Heap.SameBut a s.heap h' → HOk X.prog X.w H h' := fun {a h'} ha hs b ob e => by
    obtain ⟨_, _, hfree⟩ := ha
    refine (I.hok b ob e).stay (fun c w' hc q => (hs.2 c ?_).trans q) (fun _ q => q) fun _ _ q => q
    rintro rfl
    rcases hc with rfl | hc
    · rw [hfree] at e; cases e
    · rw [hfree] at hc; cases hc
  rcases hx with hk | hk
  · refine wpAny_storeName_local hk hn (fun h' hn' hs => ?_) hcls
    obtain ⟨oL, _, _, hoL, _⟩ := id hn
    refine h _ ⟨I.ok, I.os, I.bare, ⟨fun b o e n hb hx => ?_, fun b o e n hb hx => ?_, I.base.free, fun b o e hx => ?_, I.base.tups, I.base.frzs, I.base.tbls⟩, ⟨_, hn', fun j y v' e1 e2 e3 => ?_⟩, fun y c e => ?_, I.free, I.freeC, fun p hp => ?_, tracked ⟨oL, hoL, I.free⟩ hs, by simpa using I.len⟩ ⟨_, hs, .inl rfl⟩
    · exact (hs.2 b (Nat.ne_of_lt (Nat.lt_of_lt_of_le (Heap.lt_size e) I.ok.above))).trans (I.base.keep b o e n hb hx)
    · obtain ⟨sl, e1⟩ := I.base.slot b o e n hb hx
      exact ⟨sl, (hs.2 b (Nat.ne_of_lt (Nat.lt_of_lt_of_le (Heap.lt_size e) I.ok.above))).trans e1⟩
    · obtain ⟨o', e1⟩ := I.base.there b o e hx
      exact ⟨o', (hs.2 b (Nat.ne_of_lt (Nat.lt_of_lt_of_le (Heap.lt_size e) I.ok.above))).trans e1⟩
    · by_cases hj : j = i
      · subst hj
        rw [hi] at e1; cases e1
        rw [List.getElem?_set_self hiσ] at e2
        cases e2
        exact ⟨u, r, .inl ⟨hk, by simp⟩⟩
      · rw [List.getElem?_set_ne (Ne.symm hj)] at e2
        obtain ⟨u', r', q⟩ := hl j y v' e1 e2 e3
        refine ⟨u', r', ?_⟩
        rcases q with ⟨k, e⟩ | ⟨k, c, e, z⟩
        · refine .inl ⟨k, ?_⟩
          have : y ≠ x := fun e => hj (nodup_ix hN e1 (e ▸ hi))
          simp [this, e]
        · exact .inr ⟨k, c, e, z.sameBut hs (cne y c e)⟩
    · obtain ⟨w', z⟩ := I.cell y c e
      exact ⟨w', z.sameBut hs (cne y c e)⟩
    · obtain ⟨e, n, ne, nf, d⟩ := I.pin p hp
      exact ⟨(hs.2 p.1 ne).trans e, n, ne, nf, d⟩
  · have hfn : X.fn x = true := by
      rcases hf with z | z
      · exact z
      · rw [z] at hk; cases hk
    obtain ⟨c, hc⟩ := I.ok.has x (.inl hk)
    obtain ⟨w', z⟩ := I.cell x c hc
    refine wpAny_storeName_cell I.ok.kind hk hc z (fun h' hc' hs => ?_)
    obtain ⟨oc, hoc, hocd⟩ := id z
    refine h { s with heap := h' } ⟨I.ok, I.os, I.bare, ⟨fun b o e n hb hx => ?_, fun b o e n hb hx => ?_, I.base.free, fun b o e hx => ?_, I.base.tups, I.base.frzs, I.base.tbls⟩, ⟨m, hn.sameBut hs (Ne.symm (cne x c hc)), fun j y v' e1 e2 e3 => ?_⟩, fun y c' e => ?_, I.free, I.freeC, fun p hp => ?_, tracked ⟨oc, hoc, I.freeC x c hc⟩ hs, by simpa using I.len⟩ ⟨c, hs, .inr hc⟩
    · exact (hs.2 b (Nat.ne_of_lt (Nat.lt_of_lt_of_le (Heap.lt_size e) (I.ok.cab x c hfn hc)))).trans (I.base.keep b o e n hb hx)
    · obtain ⟨sl, e1⟩ := I.base.slot b o e n hb hx
      exact ⟨sl, (hs.2 b (Nat.ne_of_lt (Nat.lt_of_lt_of_le (Heap.lt_size e) (I.ok.cab x c hfn hc)))).trans e1⟩
    · obtain ⟨o', e1⟩ := I.base.there b o e hx
      exact ⟨o', (hs.2 b (Nat.ne_of_lt (Nat.lt_of_lt_of_le (Heap.lt_size e) (I.ok.cab x c hfn hc)))).trans e1⟩
    · by_cases hj : j = i
      · subst hj
        rw [hi] at e1; cases e1
        rw [List.getElem?_set_self hiσ] at e2
        cases e2
        exact ⟨u, r, .inr ⟨.inl hk, c, hc, hc'⟩⟩
      · rw [List.getElem?_set_ne (Ne.symm hj)] at e2
        obtain ⟨u', r', q⟩ := hl j y v' e1 e2 e3
        refine ⟨u', r', ?_⟩
        rcases q with q | ⟨k, c', e, z'⟩
        · exact .inl q
        · refine .inr ⟨k, c', e, z'.sameBut hs ?_⟩
          rintro rfl
          exact hj (nodup_ix hN e1 (I.ok.inj _ _ _ e hc ▸ hi))
    · by_cases hcc : c' = c
      · subst hcc; exact ⟨_, hc'⟩
      · obtain ⟨w2, z2⟩ := I.cell y c' e
        exact ⟨w2, z2.sameBut hs hcc⟩
    · obtain ⟨e, n, ne, nf, d⟩ := I.pin p hp
      refine ⟨(hs.2 p.1 ?_).trans e, n, ne, nf, d⟩
      intro q
      rw [q, hoc] at e
      have q' : oc = p.2 := Option.some.inj e
      exact d w' (by rw [← q']; exact hocd)
theorem store_ok {M : Model} {A : Around} {E : Value → Shared → Prop} {i : Nat} {x : Str} {v : V} {u : Value} {Q : Unit → Shared → Prop} (I : Inv X pins σ H s) (hN : X.N.Nodup) (hi : X.N[i]? = some x) (hx : Loc X.env.scope x) (r : RelV v u)
    (h : ∀ s', Inv X pins (σ.set i (some v)) H s' → Q () s') (hf : X.fn x = true ∨ X.env.scope.names.lookup x = some .local := by first | exact .inl rfl | exact .inr rfl | assumption) : wpAny M A (storeName X.env x u) Q E s :=
  store_ok2 I hN hi hx r (fun s' I' _ => h s' I') hf
/-- behind a call or a block, the state as it is -/
theorem Inv.call' {s' : Shared} {ch : List Addr} (I : Inv X pins σ H s) (ho : s'.os = s.os) (u : Un (frs X.stack) ch H H' s.heap s'.heap) (hok : HOk X.prog X.w H' s'.heap) (hg : AllBare s'.gens)
    (hch : ∀ b ∈ ch, (b ∈ X.ex ∨ X.s₀.heap.objs.size ≤ b) ∧ b ≠ X.env.locals ∧ (∀ x c, X.env.cells.lookup x = some c → c ≠ b) ∧ ∀ p ∈ X.pn ++ pins, p.1 ≠ b) : Inv X pins σ H' s' := by
  obtain ⟨h', g', d', t', o'⟩ := s'
  have e : o' = s.os := ho
  subst e
  exact I.call (g' := g') (t' := t') (d' := d') u hok hg hch
end

/-! ### the judgements -/
/-- an exception: its class, its own dict's address (where it has one), the abstract heap behind it -/
abbrev XK := Value → Option Addr → Hp → Prop
abbrev St := List (Option V)
abbrev VK := V → Hp → Prop
/-- an expression's reading; a test's; an argument list's -/
abbrev TE := St → Hp → VK → Prop
abbrev TT := St → Hp → (Bool → Hp → Prop) → Prop
abbrev TA := St → Hp → (List V → Hp → Prop) → Prop
/-- what is wanted behind a statement -/
structure Ends where
  nx : St → Hp → Prop
  rt : VK
  bk : St → Hp → Prop := fun _ _ => False
  ct : St → Hp → Prop := fun _ _ => False
abbrev TS := Ends → St → Hp → Prop

def EP (X : Cx) (pins : List (Addr × Obj)) (σ : St) (Q : VK) (u : Value) (s' : Shared) : Prop := ∃ v H', Inv X pins σ H' s' ∧ RelV v u ∧ Q v H'
def TP (X : Cx) (pins : List (Addr × Obj)) (σ : St) (Q : Bool → Hp → Prop) (b : Bool) (s' : Shared) : Prop := ∃ H', Inv X pins σ H' s' ∧ Q b H'
def AP (X : Cx) (pins : List (Addr × Obj)) (σ : St) (Q : List V → Hp → Prop) (us : List Value) (s' : Shared) : Prop := ∃ vs H', Inv X pins σ H' s' ∧ Vals vs us ∧ Q vs H'
def SP (X : Cx) (pins : List (Addr × Obj)) (D : Ends) (f : Flow) (s' : Shared) : Prop :=
  match f with
  | .next => ∃ σ' H', Inv X pins σ' H' s' ∧ D.nx σ' H'
  | .brk => ∃ σ' H', Inv X pins σ' H' s' ∧ D.bk σ' H'
  | .cont => ∃ σ' H', Inv X pins σ' H' s' ∧ D.ct σ' H'
  | .ret u => ∃ v σ' H', Inv X pins σ' H' s' ∧ RelV v u ∧ D.rt v H'

def PE (X : Cx) (e : Expr) (t : TE) : Prop :=
  ∀ (pins : List (Addr × Obj)) (s : Shared) (σ : St) (H : Hp) (Q : VK), Inv X pins σ H s → t σ H Q → wpAny (model X.prog X.w) X.A (eval e X.env) (EP X pins σ Q) X.xe s
def PT (X : Cx) (e : Expr) (t : TT) : Prop :=
  ∀ (pins : List (Addr × Obj)) (s : Shared) (σ : St) (H : Hp) (Q : Bool → Hp → Prop), Inv X pins σ H s → t σ H Q → wpAny (model X.prog X.w) X.A (isTrue e X.env (eval e X.env)) (TP X pins σ Q) X.xe s
/-- a test whatever its 'whole' is (and, or) -/
def PW (X : Cx) (e : Expr) (t : TT) : Prop :=
  ∀ (whole : Sem Value) (pins : List (Addr × Obj)) (s : Shared) (σ : St) (H : Hp) (Q : Bool → Hp → Prop), Inv X pins σ H s → t σ H Q → wpAny (model X.prog X.w) X.A (isTrue e X.env whole) (TP X pins σ Q) X.xe s
theorem PW.pt {X : Cx} {e : Expr} {t : TT} (h : PW X e t) : PT X e t := h _
/-- an argument list (no star), from the left -/
def PA (X : Cx) (es : List Expr) (t : TA) : Prop :=
  ∀ (pos : Pos) (pins : List (Addr × Obj)) (s : Shared) (σ : St) (H : Hp) (Q : List V → Hp → Prop), Inv X pins σ H s → t σ H Q → wpAny (model X.prog X.w) X.A (spliced (backTo pos (starEach es X.env))) (AP X pins σ Q) X.xe s
def PS (X : Cx) (st : Stmt) (t : TS) : Prop :=
  ∀ (pins : List (Addr × Obj)) (s : Shared) (σ : St) (H : Hp) (D : Ends), Inv X pins σ H s → t D σ H → wpAny (model X.prog X.w) X.A (exec st X.env) (SP X pins D) X.xe s
def PSs (X : Cx) (st : List Stmt) (t : TS) : Prop :=
  ∀ (pins : List (Addr × Obj)) (s : Shared) (σ : St) (H : Hp) (D : Ends), Inv X pins σ H s → t D σ H → wpAny (model X.prog X.w) X.A (execs st X.env) (SP X pins D) X.xe s
/-- weaken the end -/
theorem thn {α : Type} {t : Sem α} {Q Q' : α → Shared → Prop} {M : Model} {A : Around} {E : Value → Shared → Prop} {s : Shared} (h : wpAny M A t Q E s) (hQ : ∀ a s, Q a s → Q' a s) : wpAny M A t Q' E s := wpAny_mono h hQ fun _ _ x => x
end L2

namespace L2
open PySem PySem.Spec PyProof.Rows
section
variable {X : Cx}

/-- two expressions in a row -/
theorem bin {a b : Expr} {ta tb : TE} (ha : PE X a ta) (hb : PE X b tb) {pins : List (Addr × Obj)} {s : Shared} {σ : St} {H : Hp} {R : V → V → Hp → Prop} (I : Inv X pins σ H s) (h : ta σ H fun x H1 => tb σ H1 fun y H2 => R x y H2)
    {α : Type} {Q : α → Shared → Prop} {f : Value → Value → Sem α}
    (hf : ∀ v u s2 x y H2, Inv X pins σ H2 s2 → RelV x v → RelV y u → R x y H2 → wpAny (model X.prog X.w) X.A (f v u) Q X.xe s2) :
    wpAny (model X.prog X.w) X.A (eval a X.env) (fun v s₁ => wpAny (model X.prog X.w) X.A (eval b X.env) (fun u s₂ => wpAny (model X.prog X.w) X.A (f v u) Q X.xe s₂) X.xe s₁) X.xe s := by
  refine thn (ha pins s σ H _ I h) fun v s1 ⟨x, H1, I1, r1, q1⟩ => ?_
  refine thn (hb pins s1 σ H1 _ I1 q1) fun u s2 ⟨y, H2, I2, r2, q2⟩ => ?_
  exact hf v u s2 x y H2 I2 r1 r2 q2

/-! ### names and constants -/
def tVar (i : Nat) : TE := fun σ H Q => ∃ v, σ[i]? = some (some v) ∧ Q v H
def tC (v : V) : TE := fun _ H Q => Q v H
theorem pe_var {i : Nat} {x : Str} {pos : Pos} (hN : X.N[i]? = some x) (hv : Vis X.env.scope x) (hd : (x == ("__debug__" : Str)) = false := by decide) (hcd : (x == ("__classdict__" : Str)) = false := by decide) : PE X (.Name x pos) (tVar i) := by
  intro pins s σ H Q I h
  obtain ⟨v, e, h⟩ := h
  obtain ⟨m, hn, hl⟩ := I.loc
  obtain ⟨u, r, l⟩ := hl i x v hN e hv
  have fin : EP X pins σ Q u s := ⟨v, H, I, r, h⟩
  rcases l with ⟨hk, hm⟩ | ⟨hk, c, hc, hcell⟩
  · exact wpAny_Name (wpAny_loadName_local I.ok.kind hk hn hm fin) hd
  · rcases hk with hk | hk
    · exact wpAny_Name (wpAny_loadName_cell I.ok.kind hk hc hcell fin) hd
    · exact wpAny_Name (wpAny_loadName_free I.ok.kind hk hc hcell fin hcd) hd
theorem pe_int {i j pos} : PE X (.Constant (.int i) j pos) (tC (.int i)) := fun _ _ _ H _ I h => wpAny_Constant_int ⟨.int i, H, I.tok _, ⟨_, rfl⟩, h⟩
theorem pe_bl {b j pos} : PE X (.Constant (.bool b) j pos) (tC (.bl b)) := fun _ _ _ H _ I h => Constant_bool ⟨.bl b, H, I, rfl, h⟩
theorem pe_non {j pos} : PE X (.Constant .none j pos) (tC .non) := fun _ _ _ H _ I h => Constant_none ⟨.non, H, I, rfl, h⟩
theorem pe_str {x j pos} : PE X (.Constant (.str x) j pos) (tC (.str x)) := fun _ _ _ H _ I h => Calls.Constant_str ⟨.str x, H, I.tok _, ⟨_, rfl⟩, h⟩

/-- a global name of the def -/
def Gl (X : Cx) (x : Str) : Prop := X.env.kindOf x = some .globalImplicit
theorem ld_glob {E : Value → Shared → Prop} {pins : List (Addr × Obj)} {s : Shared} {σ : St} {H : Hp} {x : Str} {u : Value} {pos : Pos} {Q : Value → Shared → Prop} (I : Inv X pins σ H s) (hg : Gl X x) (hm : X.mg x = some u) (h : Q u s)
    (hd : (x == ("__debug__" : Str)) = false := by decide) : wpAny (model X.prog X.w) X.A (eval (.Name x pos) X.env) Q E s :=
  Calls.Name_function_global I.ok.kind hg (Calls.loadGlobal_global (by rw [I.ok.glob]; exact I.mod.glob.keeps I.bk) hm h) hd
theorem ld_blt {E : Value → Shared → Prop} {pins : List (Addr × Obj)} {s : Shared} {σ : St} {H : Hp} {x : Str} {u : Value} {pos : Pos} {Q : Value → Shared → Prop} (I : Inv X pins σ H s) (hg : Gl X x) (hm : X.mg x = none) (hv : bootBuiltins x = some u) (h : Q u s)
    (hn : x ≠ "__name__" := by decide) (hd : (x == ("__debug__" : Str)) = false := by decide) : wpAny (model X.prog X.w) X.A (eval (.Name x pos) X.env) Q E s := by
  obtain ⟨mb, h1, h2⟩ := I.mod.blt
  exact Calls.Name_function_global I.ok.kind hg (Calls.loadGlobal_builtin (by rw [I.ok.glob]; exact I.mod.glob.keeps I.bk) hm (by rw [I.ok.blt]; exact h1.keeps I.bk) ((h2 x hn).trans hv) h) hd
/-- a module's constant, a class, a function, as a value -/
theorem pe_glob {x : Str} {v : V} {u : Value} {pos : Pos} (hg : Gl X x) (hm : X.mg x = some u) (r : RelV v u) (hd : (x == ("__debug__" : Str)) = false := by decide) : PE X (.Name x pos) (tC v) :=
  fun _ _ _ H _ I h => ld_glob I hg hm ⟨v, H, I, r, h⟩ hd
theorem pe_bltn {x : Str} {v : V} {u : Value} {pos : Pos} (hg : Gl X x) (hm : X.mg x = none) (hv : bootBuiltins x = some u) (r : RelV v u) (hn : x ≠ "__name__" := by decide) (hd : (x == ("__debug__" : Str)) = false := by decide) : PE X (.Name x pos) (tC v) :=
  fun _ _ _ H _ I h => ld_blt I hg hm hv ⟨v, H, I, r, h⟩ hn hd

/-! ### arithmetic -/
/-- two ints -/
def t2I (ta tb : TE) (k : Int → Int → Hp → Prop) : St → Hp → Prop := fun σ H => ta σ H fun x H1 => tb σ H1 fun y H2 => ∃ i j, x = .int i ∧ y = .int j ∧ k i j H2
def tAdd (ta tb : TE) : TE := fun σ H Q => t2I ta tb (fun i j H2 => Q (.int (i + j)) H2) σ H
def tSub (ta tb : TE) : TE := fun σ H Q => t2I ta tb (fun i j H2 => Q (.int (i - j)) H2) σ H
/-- the left factor below 2^64 -/
def tMul (ta tb : TE) : TE := fun σ H Q => t2I ta tb (fun i j H2 => (-(2 ^ 64) < i ∧ i < 2 ^ 64) ∧ Q (.int (i * j)) H2) σ H
variable {a b : Expr} {ta tb : TE} {pos : Pos}
theorem pe_add (ha : PE X a ta) (hb : PE X b tb) : PE X (.BinOp a .Add b pos) (tAdd ta tb) := by
  intro pins s σ H Q I h
  refine wpAny_BinOp (bin ha hb I h fun v u s2 x y H2 I2 rx ry q => ?_)
  obtain ⟨i, j, rfl, rfl, q⟩ := q
  obtain ⟨t, rfl⟩ := rx
  obtain ⟨t', rfl⟩ := ry
  exact add_int ⟨.int _, H2, I2.tok _, ⟨_, rfl⟩, q⟩
theorem pe_sub (ha : PE X a ta) (hb : PE X b tb) : PE X (.BinOp a .Sub b pos) (tSub ta tb) := by
  intro pins s σ H Q I h
  refine wpAny_BinOp (bin ha hb I h fun v u s2 x y H2 I2 rx ry q => ?_)
  obtain ⟨i, j, rfl, rfl, q⟩ := q
  obtain ⟨t, rfl⟩ := rx
  obtain ⟨t', rfl⟩ := ry
  exact sub_int ⟨.int _, H2, I2.tok _, ⟨_, rfl⟩, q⟩
theorem pe_mul (ha : PE X a ta) (hb : PE X b tb) : PE X (.BinOp a .Mult b pos) (tMul ta tb) := by
  intro pins s σ H Q I h
  refine wpAny_BinOp (bin ha hb I h fun v u s2 x y H2 I2 rx ry q => ?_)
  obtain ⟨i, j, rfl, rfl, ⟨q1, q2⟩, q⟩ := q
  obtain ⟨t, rfl⟩ := rx
  obtain ⟨t', rfl⟩ := ry
  exact mul_int ⟨.int _, H2, I2.tok _, ⟨_, rfl⟩, q⟩ (.of_left (intBits_le_64 q1 q2))

/-! ### comparisons -/
def PC (X : Cx) (op : CmpOp) (a b : Expr) (t : TE) : Prop :=
  ∀ (pins : List (Addr × Obj)) (s : Shared) (σ : St) (H : Hp) (Q : VK), Inv X pins σ H s → t σ H Q →
    wpAny (model X.prog X.w) X.A (eval a X.env) (fun v s₁ => wpAny (model X.prog X.w) X.A (eval b X.env) (fun u s₂ => wpAny (model X.prog X.w) X.A (compareOp op v u) (EP X pins σ Q) X.xe s₂) X.xe s₁) X.xe s
theorem nobehind (b : Expr) {op : CmpOp} (h : op ≠ .In) (h2 : op ≠ .NotIn) : behindInMarks op b = false := by
  have e1 : (op == CmpOp.In) = false := by cases op <;> first | rfl | exact absurd rfl h
  have e2 : (op == CmpOp.NotIn) = false := by cases op <;> first | rfl | exact absurd rfl h2
  cases b <;> simp [behindInMarks, e1, e2]
def tCmp (p : Int → Int → Bool) (ta tb : TE) : TE := fun σ H Q => t2I ta tb (fun i j H2 => Q (.bl (p i j)) H2) σ H
abbrev tLt : TE → TE → TE := tCmp fun i j => decide (i < j)
abbrev tLe : TE → TE → TE := tCmp fun i j => decide (i ≤ j)
abbrev tGt : TE → TE → TE := tCmp fun i j => decide (j < i)
abbrev tGe : TE → TE → TE := tCmp fun i j => decide (j ≤ i)
abbrev tEqI : TE → TE → TE := tCmp fun i j => decide (i = j)
abbrev tNeI : TE → TE → TE := tCmp fun i j => !decide (i = j)
/-- a comparison of two ints, by its rule -/
theorem pc_int {op : CmpOp} {p : Int → Int → Bool} (ha : PE X a ta) (hb : PE X b tb)
    (rule : ∀ (i j : Int) (t u : Tok) (Q : Value → Shared → Prop) (s : Shared), Q (.bool (p i j)) s → wpAny (model X.prog X.w) X.A (compareOp op (.int i t) (.int j u)) Q X.xe s) : PC X op a b (tCmp p ta tb) := by
  intro pins s σ H Q I h
  refine bin ha hb I h fun v u s2 x y H2 I2 rx ry q => ?_
  obtain ⟨i, j, rfl, rfl, q⟩ := q
  obtain ⟨t, rfl⟩ := rx
  obtain ⟨t', rfl⟩ := ry
  exact rule i j t t' _ s2 ⟨.bl _, H2, I2, rfl, q⟩
theorem pc_lt (ha : PE X a ta) (hb : PE X b tb) : PC X .Lt a b (tLt ta tb) := pc_int ha hb fun _ _ _ _ _ _ h => lt_int h
theorem pc_le (ha : PE X a ta) (hb : PE X b tb) : PC X .LtE a b (tLe ta tb) := pc_int ha hb fun _ _ _ _ _ _ h => le_int h
theorem pc_gt (ha : PE X a ta) (hb : PE X b tb) : PC X .Gt a b (tGt ta tb) := pc_int ha hb fun _ _ _ _ _ _ h => gt_int h
theorem pc_ge (ha : PE X a ta) (hb : PE X b tb) : PC X .GtE a b (tGe ta tb) := pc_int ha hb fun _ _ _ _ _ _ h => ge_int h
theorem pc_eqI (ha : PE X a ta) (hb : PE X b tb) : PC X .Eq a b (tEqI ta tb) := pc_int ha hb fun _ _ _ _ _ _ h => eq_int (by rw [Bool.beq_eq_decide_eq]; exact h)
theorem pc_neI (ha : PE X a ta) (hb : PE X b tb) : PC X .NotEq a b (tNeI ta tb) := pc_int ha hb fun _ _ _ _ _ _ h => ne_int (by rw [bne, Bool.beq_eq_decide_eq]; exact h)
/-- is None -/
def tIsN (ta : TE) : TE := fun σ H Q => ta σ H fun x H1 => Q (.bl (decide (x = .non))) H1
def tNotN (ta : TE) : TE := fun σ H Q => ta σ H fun x H1 => Q (.bl (!decide (x = .non))) H1
theorem RelV.none_iff {x : V} {v : Value} (r : RelV x v) : (v == Value.none) = decide (x = .non) := by
  cases x with
  | non => cases r; rfl
  | bl _ => cases r; rfl
  | int _ => obtain ⟨t, rfl⟩ := r; rfl
  | str _ => obtain ⟨t, rfl⟩ := r; rfl
  | byt _ => obtain ⟨t, rfl⟩ := r; rfl
  | flt _ => obtain ⟨t, rfl⟩ := r; rfl
  | ref _ => cases r; rfl
  | ty _ => cases r; rfl
theorem pc_isN {j pos'} (ha : PE X a ta) : PC X .Is a (.Constant .none j pos') (tIsN ta) := by
  intro pins s σ H Q I h
  refine thn (ha pins s σ H _ I h) fun v s1 ⟨x, H1, I1, r1, q1⟩ => ?_
  exact Constant_none (is_none_gen ⟨.bl _, H1, I1, by rw [r1.none_iff]; rfl, q1⟩)
theorem pc_notN {j pos'} (ha : PE X a ta) : PC X .IsNot a (.Constant .none j pos') (tNotN ta) := by
  intro pins s σ H Q I h
  refine thn (ha pins s σ H _ I h) fun v s1 ⟨x, H1, I1, r1, q1⟩ => ?_
  exact Constant_none (isnot_none_gen ⟨.bl _, H1, I1, by rw [r1.none_iff]; rfl, q1⟩)
/-- a comparison as a value, as a test -/
def tB (t : TE) : TT := fun σ H Q => t σ H fun x H1 => ∃ c, x = .bl c ∧ Q c H1
theorem pe_cmp {op : CmpOp} {t : TE} (h : PC X op a b t) (h1 : behindInMarks op b = false := by first | exact nobehind _ (by decide) (by decide) | rfl) : PE X (.Compare a [op] [b] pos) t := fun pins s σ H Q I hw => wpAny_Compare1 (h pins s σ H Q I hw) h1
theorem pt_cmp {op : CmpOp} {t : TE} (h : PC X op a b t) (h1 : behindInMarks op b = false := by first | exact nobehind _ (by decide) (by decide) | rfl) : PT X (.Compare a [op] [b] pos) (tB t) := by
  intro pins s σ H Q I hw
  refine wpAny_isTrue_Compare1 (thn (h pins s σ H _ I hw) fun v s1 h1 => thn h1 fun u s2 h2 => thn h2 fun c s3 ⟨x, H1, I1, r1, q1⟩ => ?_) h1
  obtain ⟨d, rfl, q⟩ := q1
  cases r1
  exact wpAny_truthy_bool ⟨H1, I1, q⟩
/-- an expression whose value is a bool, as a test -/
theorem pt_val {e : Expr} {t : TE} (h : PE X e t) (he : ∀ whole, isTrue e X.env whole = (do let v ← whole; standAt e.pos; holding [v] (truthy v)) := by intro _; rfl) : PT X e (tB t) := by
  intro pins s σ H Q I hw
  refine isTrue_plain (thn (h pins s σ H _ I hw) fun v s1 ⟨x, H1, I1, r1, q1⟩ => ?_) (he _)
  obtain ⟨d, rfl, q⟩ := q1
  cases r1
  exact wpAny_truthy_bool ⟨H1, I1, q⟩

/-! ### and, or, not -/
variable {tA tB' : TT} {rest : List Expr}
def tAnd (t u : TT) : TT := fun σ H Q => t σ H fun c H1 => if c = true then u σ H1 Q else Q false H1
def tOr (t u : TT) : TT := fun σ H Q => t σ H fun c H1 => if c = true then Q true H1 else u σ H1 Q
def tNot (t : TT) : TT := fun σ H Q => t σ H fun c H1 => Q (!c) H1
theorem pw_and1 (ha : PT X a tA) : PW X (.BoolOp .And [a] pos) tA := by
  intro wh pins s σ H Q I h
  refine isTrue_and (thn (ha pins s σ H Q I h) fun c s1 e => ?_)
  cases c with
  | true => exact isTrue_and_nil e
  | false => exact e
theorem pw_or1 (ha : PT X a tA) : PW X (.BoolOp .Or [a] pos) tA := by
  intro wh pins s σ H Q I h
  refine isTrue_or (thn (ha pins s σ H Q I h) fun c s1 e => ?_)
  cases c with
  | false => exact isTrue_or_nil e
  | true => exact e
theorem pw_and (ha : PT X a tA) (hb : PW X (.BoolOp .And (b :: rest) pos) tB') : PW X (.BoolOp .And (a :: b :: rest) pos) (tAnd tA tB') := by
  intro wh pins s σ H Q I h
  refine isTrue_and (thn (ha pins s σ H _ I h) fun c s1 ⟨H1, I1, q1⟩ => ?_)
  cases c with
  | true => exact hb wh pins s1 σ H1 Q I1 q1
  | false => exact ⟨H1, I1, q1⟩
theorem pw_or (ha : PT X a tA) (hb : PW X (.BoolOp .Or (b :: rest) pos) tB') : PW X (.BoolOp .Or (a :: b :: rest) pos) (tOr tA tB') := by
  intro wh pins s σ H Q I h
  refine isTrue_or (thn (ha pins s σ H _ I h) fun c s1 ⟨H1, I1, q1⟩ => ?_)
  cases c with
  | true => exact ⟨H1, I1, q1⟩
  | false => exact hb wh pins s1 σ H1 Q I1 q1
theorem pt_not (ha : PT X a tA) : PT X (.UnaryOp .Not a pos) (tNot tA) := by
  intro pins s σ H Q I h
  exact isTrue_not (ha pins s σ H (fun c H1 => Q (!c) H1) I h)
/-- .. as values (bools) -/
def tAndV (ta tb : TE) : TE := fun σ H Q => ta σ H fun x H1 => ∃ c, x = .bl c ∧ if c = true then tb σ H1 Q else Q (.bl false) H1
def tOrV (ta tb : TE) : TE := fun σ H Q => ta σ H fun x H1 => ∃ c, x = .bl c ∧ if c = true then Q (.bl true) H1 else tb σ H1 Q
def tNotV (ta : TE) : TE := fun σ H Q => ta σ H fun x H1 => ∃ c, x = .bl c ∧ Q (.bl (!c)) H1
theorem pe_one {op} {t : TE} (h : PE X a t) : PE X (.BoolOp op [a] pos) t := fun pins s σ H Q I hw => BoolOp_one (h pins s σ H Q I hw)
theorem pe_and (ha : PE X a ta) (hb : PE X (.BoolOp .And (b :: rest) pos) tb) : PE X (.BoolOp .And (a :: b :: rest) pos) (tAndV ta tb) := by
  intro pins s σ H Q I h
  refine BoolOp_and (thn (ha pins s σ H _ I h) fun v s1 ⟨x, H1, I1, r1, q1⟩ => ?_)
  obtain ⟨c, rfl, q1⟩ := q1
  cases r1
  refine wpAny_truthy_bool ?_
  cases c with
  | true => exact hb pins s1 σ H1 Q I1 q1
  | false => exact ⟨.bl false, H1, I1, rfl, q1⟩
theorem pe_or (ha : PE X a ta) (hb : PE X (.BoolOp .Or (b :: rest) pos) tb) : PE X (.BoolOp .Or (a :: b :: rest) pos) (tOrV ta tb) := by
  intro pins s σ H Q I h
  refine BoolOp_or (thn (ha pins s σ H _ I h) fun v s1 ⟨x, H1, I1, r1, q1⟩ => ?_)
  obtain ⟨c, rfl, q1⟩ := q1
  cases r1
  refine wpAny_truthy_bool ?_
  cases c with
  | false => exact hb pins s1 σ H1 Q I1 q1
  | true => exact ⟨.bl true, H1, I1, rfl, q1⟩
theorem pe_not (ha : PE X a ta) : PE X (.UnaryOp .Not a pos) (tNotV ta) := by
  intro pins s σ H Q I h
  refine UnaryOp_ (thn (ha pins s σ H _ I h) fun v s1 ⟨x, H1, I1, r1, q1⟩ => ?_)
  obtain ⟨c, rfl, q1⟩ := q1
  cases r1
  exact not_of (wpAny_truthy_bool ⟨.bl (!c), H1, I1, rfl, q1⟩)
/-- a if t else b -/
def tIf (t : TT) (ta tb : TE) : TE := fun σ H Q => t σ H fun c H1 => if c = true then ta σ H1 Q else tb σ H1 Q
theorem pe_ifExp {c : Expr} (hc : PT X c tA) (ha : PE X a ta) (hb : PE X b tb) : PE X (.IfExp c a b pos) (tIf tA ta tb) := by
  intro pins s σ H Q I h
  refine wpAny_IfExp (thn (hc pins s σ H _ I h) fun d s1 ⟨H1, I1, q1⟩ => ?_)
  cases d with
  | true => exact ha pins s1 σ H1 Q I1 q1
  | false => exact hb pins s1 σ H1 Q I1 q1
end
end L2

namespace L2
open PySem PySem.Spec PyProof.Rows

/-! ### a list, a tuple that is read: tracked, frozen, or an object of the module -/
def SqL (K : PySem.W.Frag) (H : Hp) (a : Addr) (xs : List V) : Prop :=
  Rd H a (.lst xs) ∨
    ∃ (o : Obj) (its : Array Value) (n : Nat), K.lookup a = some o ∧ o.cls = .type "list" ∧ o.dict = none ∧ o.data = .seq its n ∧ its.size ≤ sizeLine ∧ Vals xs its.toList
def SqT (K : PySem.W.Frag) (H : Hp) (a : Addr) (xs : List V) : Prop :=
  Rd H a (.tup xs) ∨
    ∃ (o : Obj) (its : Array Value) (n : Nat), K.lookup a = some o ∧ o.cls = .type "tuple" ∧ o.data = .seq its n ∧ its.size ≤ sizeLine ∧ Vals xs its.toList
def absV : Value → Option V
  | .none => some .non
  | .bool b => some (.bl b)
  | .int i _ => some (.int i)
  | .str x _ => some (.str x)
  | .bytes b _ => some (.byt b)
  | .float b _ => some (.flt b)
  | .ref a => some (.ref a)
  | .type n => some (.ty n)
  | _ => none
theorem RelV.abs {x : V} {u : Value} (r : RelV x u) : absV u = some x := by
  cases x with
  | non => cases r; rfl
  | bl _ => cases r; rfl
  | int _ => obtain ⟨t, rfl⟩ := r; rfl
  | str _ => obtain ⟨t, rfl⟩ := r; rfl
  | byt _ => obtain ⟨t, rfl⟩ := r; rfl
  | flt _ => obtain ⟨t, rfl⟩ := r; rfl
  | ref _ => cases r; rfl
  | ty _ => cases r; rfl
theorem RelV.inj {x y : V} {u : Value} (r : RelV x u) (q : RelV y u) : x = y := Option.some.inj (r.abs.symm.trans q.abs)
theorem Vals.inj : ∀ {xs ys : List V} {us : List Value}, Vals xs us → Vals ys us → xs = ys
  | _, _, _, .nil, .nil => rfl
  | _, _, _, .cons r t, .cons r' t' => by rw [r.inj r', Vals.inj t t']
section
variable {X : Cx} {pins : List (Addr × Obj)} {σ : St} {H : Hp} {s : Shared} {a : Addr} {xs ys : List V}
theorem SqL.of {K : PySem.W.Frag} (h : H a = some (.lst xs)) : SqL K H a xs := .inl (.inl h)
theorem SqT.of {K : PySem.W.Frag} (h : H a = some (.tup xs)) : SqT K H a xs := .inl (.inl h)
theorem Inv.list (I : Inv X pins σ H s) (h : SqL X.K H a xs) : ∃ its : List Value, Vals xs its ∧ PlainL s.heap a its.toArray ∧ xs.length ≤ sizeLine := by
  rcases h with h | ⟨o, its, n, hk, hc, hd, hs, hz, r⟩
  · obtain ⟨z, its, n, r, e⟩ := h.ok I.hok
    exact ⟨its, r, ⟨_, n, e, rfl, rfl, rfl⟩, z⟩
  · refine ⟨its.toList, r, ⟨o, n, I.kIn a o hk, hc, hd, by simpa using hs⟩, ?_⟩
    have e := r.length
    simp only [Array.length_toList] at e
    omega
theorem Inv.tuple (I : Inv X pins σ H s) (h : SqT X.K H a xs) : ∃ its : List Value, Vals xs its ∧ IsTup s.heap a its.toArray ∧ xs.length ≤ sizeLine := by
  rcases h with h | ⟨o, its, n, hk, hc, hs, hz, r⟩
  · obtain ⟨z, its, r, p⟩ := h.ok I.hok
    exact ⟨its, r, p, z⟩
  · refine ⟨its.toList, r, ⟨o, I.kIn a o hk, hc, n, by simpa using hs⟩, ?_⟩
    have e := r.length
    simp only [Array.length_toList] at e
    omega
theorem Inv.list_inj (I : Inv X pins σ H s) (h : SqL X.K H a xs) (h' : SqL X.K H a ys) : xs = ys := by
  obtain ⟨its, r, ⟨o, n, e, _, _, d⟩, _⟩ := I.list h
  obtain ⟨its', r', ⟨o', n', e', _, _, d'⟩, _⟩ := I.list h'
  rw [e] at e'; cases e'
  rw [d] at d'
  injection d' with d1 _
  have : its = its' := by simpa using congrArg Array.toList d1
  subst this
  exact r.inj r'
theorem Inv.tuple_inj (I : Inv X pins σ H s) (h : SqT X.K H a xs) (h' : SqT X.K H a ys) : xs = ys := by
  obtain ⟨its, r, ⟨o, e, _, n, d⟩, _⟩ := I.tuple h
  obtain ⟨its', r', ⟨o', e', _, n', d'⟩, _⟩ := I.tuple h'
  rw [e] at e'; cases e'
  rw [d] at d'
  injection d' with d1 _
  have : its = its' := by simpa using congrArg Array.toList d1
  subst this
  exact r.inj r'
end

/-! ### another wish about exceptions -/
abbrev Cx.wish (X : Cx) (E : Value → Shared → Prop) : Cx := { X with xe := E }
/-- no exception leaves -/
abbrev Cx.nox (X : Cx) : Cx := X.wish fun _ _ => False
theorem Cx.Ok.wish {X : Cx} (ok : X.Ok) (E : Value → Shared → Prop) : (X.wish E).Ok :=
  ⟨ok.mod, ok.kind, ok.glob, ok.blt, ok.above, ok.inj, ok.has, ok.cab, ok.hd, ok.frames, ok.stk, ok.exf, ok.bs, ok.bsz, ok.noex, ok.exfs, ok.funs, ok.frf⟩
theorem Cx.Ok.unwish {X : Cx} {E : Value → Shared → Prop} (ok : (X.wish E).Ok) : X.Ok :=
  ⟨ok.mod, ok.kind, ok.glob, ok.blt, ok.above, ok.inj, ok.has, ok.cab, ok.hd, ok.frames, ok.stk, ok.exf, ok.bs, ok.bsz, ok.noex, ok.exfs, ok.funs, ok.frf⟩
section
variable {X : Cx} {pins : List (Addr × Obj)} {σ : St} {H : Hp} {s : Shared} {E : Value → Shared → Prop}
theorem Inv.wish (I : Inv X pins σ H s) (E : Value → Shared → Prop) : Inv (X.wish E) pins σ H s := ⟨I.ok.wish E, I.os, I.bare, I.base, I.loc, I.cell, I.free, I.freeC, I.pin, I.hok, I.len⟩
theorem Inv.unwish (I : Inv (X.wish E) pins σ H s) : Inv X pins σ H s := ⟨I.ok.unwish, I.os, I.bare, I.base, I.loc, I.cell, I.free, I.freeC, I.pin, I.hok, I.len⟩
theorem SP.unwish {D : Ends} {f : Flow} {s' : Shared} (h : SP (X.wish E) pins D f s') : SP X pins D f s' := by
  cases f with
  | next => obtain ⟨σ', H', I, q⟩ := h; exact ⟨σ', H', I.unwish, q⟩
  | brk => obtain ⟨σ', H', I, q⟩ := h; exact ⟨σ', H', I.unwish, q⟩
  | cont => obtain ⟨σ', H', I, q⟩ := h; exact ⟨σ', H', I.unwish, q⟩
  | ret u => obtain ⟨v, σ', H', I, r, q⟩ := h; exact ⟨v, σ', H', I.unwish, r, q⟩
theorem PE.nox {e : Expr} {t : TE} (h : PE X.nox e t) : PE X e t := fun pins s σ H Q I hw =>
  wpAny_mono (h pins s σ H Q (I.wish _) hw) (fun _ _ ⟨v, H', I', r, q⟩ => ⟨v, H', I'.unwish, r, q⟩) fun _ _ z => False.elim z
theorem PT.nox {e : Expr} {t : TT} (h : PT X.nox e t) : PT X e t := fun pins s σ H Q I hw =>
  wpAny_mono (h pins s σ H Q (I.wish _) hw) (fun _ _ ⟨H', I', q⟩ => ⟨H', I'.unwish, q⟩) fun _ _ z => False.elim z
theorem PSs.nox {st : List Stmt} {t : TS} (h : PSs X.nox st t) : PSs X st t := fun pins s σ H D I hw =>
  wpAny_mono (h pins s σ H D (I.wish _) hw) (fun _ _ q => q.unwish) fun _ _ z => False.elim z
end

/-! ### blocks and small statements -/
section
variable {X : Cx} {st : Stmt} {rest : List Stmt} {t u : TS} {e : Expr} {te : TE} {pos : Pos}
def tNext : TS := fun D σ H => D.nx σ H
def tSeq (t u : TS) : TS := fun D σ H => t { D with nx := u D } σ H
theorem pss_nil : PSs X [] tNext := fun _ _ σ H _ I h => wpAny_execs_nil ⟨σ, H, I, h⟩
theorem pss_cons (h1 : PS X st t) (h2 : PSs X rest u) : PSs X (st :: rest) (tSeq t u) := by
  intro pins s σ H D I h
  refine wpAny_execs_cons (thn (h1 pins s σ H { D with nx := u D } I h) fun f s1 q => ?_)
  cases f with
  | next =>
    obtain ⟨σ', H', I', q⟩ := q
    exact h2 pins s1 σ' H' D I' q
  | ret v => exact q
  | brk => exact q
  | cont => exact q
theorem pss_one (h1 : PS X st t) : PSs X [st] t := by
  intro pins s σ H D I h
  refine wpAny_execs_cons (thn (h1 pins s σ H D I h) fun f s1 q => ?_)
  cases f with
  | next => exact wpAny_execs_nil q
  | ret v => exact q
  | brk => exact q
  | cont => exact q
def tBreak : TS := fun D σ H => D.bk σ H
def tCont : TS := fun D σ H => D.ct σ H
theorem ps_pass : PS X (.Pass pos) tNext := fun _ _ σ H _ I h => wpAny_Pass ⟨σ, H, I, h⟩
theorem ps_break : PS X (.Break pos) tBreak := fun _ _ σ H _ I h => wpAny_Break ⟨σ, H, I, h⟩
theorem ps_continue : PS X (.Continue pos) tCont := fun _ _ σ H _ I h => wpAny_Continue ⟨σ, H, I, h⟩
/-- in a def's body nothing is shown -/
theorem Inv.quiet {pins : List (Addr × Obj)} {σ : St} {H : Hp} {s : Shared} (I : Inv X pins σ H s) : interactive X.env = false := by simp [interactive, I.ok.kind]
/-- a docstring -/
theorem ps_doc {x j pos pos'} : PS X (.Expr (.Constant (.str x) j pos) pos') tNext := fun _ s σ H _ I h => wpAny_Expr (Calls.Constant_str (show SP X _ _ .next { s with toks := s.toks + 1 } from ⟨σ, H, I.tok _, h⟩)) I.quiet
/-- an expression whose value is dropped -/
def tDrop (te : TE) : TS := fun D σ H => te σ H fun _ H1 => D.nx σ H1
theorem ps_expr (he : PE X e te) (hs : swapsWith e none pos.line X.env = pure false := by rfl) : PS X (.Expr e pos) (tDrop te) := by
  intro pins s σ H D I h
  exact wpAny_Expr_any (thn (he pins s σ H _ I h) fun v s1 ⟨x, H1, I1, r1, q1⟩ => ⟨σ, H1, I1, q1⟩) I.quiet hs
def tRet (te : TE) : TS := fun D σ H => te σ H D.rt
theorem ps_ret (he : PE X e te) : PS X (.Return (some e) pos) (tRet te) := by
  intro pins s σ H D I h
  exact wpAny_Return_some (thn (he pins s σ H _ I h) fun v s1 ⟨x, H1, I1, r1, q1⟩ => ⟨x, σ, H1, I1, r1, q1⟩)
def tRetN : TS := fun D _ H => D.rt .non H
theorem ps_retN : PS X (.Return none pos) tRetN := fun _ _ σ H _ I h => wpAny_Return_none ⟨.non, σ, H, I, rfl, h⟩
def tIfS (c : TT) (t u : TS) : TS := fun D σ H => c σ H fun b H1 => if b = true then t D σ H1 else u D σ H1
theorem ps_if {c : Expr} {a b : List Stmt} {tc : TT} (hc : PT X c tc) (ha : PSs X a t) (hb : PSs X b u) : PS X (.If c a b pos) (tIfS tc t u) := by
  intro pins s σ H D I h
  refine wpAny_If (thn (hc pins s σ H _ I h) fun d s1 ⟨H1, I1, q1⟩ => ?_)
  cases d with
  | true => exact ha pins s1 σ H1 D I1 q1
  | false => exact hb pins s1 σ H1 D I1 q1
/-- code that the proof never comes to -/
def tNever : TS := fun _ _ _ => False
theorem ps_never : PS X st tNever := fun _ _ _ _ _ _ h => h.elim
theorem pss_never {sts : List Stmt} : PSs X sts tNever := fun _ _ _ _ _ _ h => h.elim
end

/-! ### targets -/
abbrev TG := V → St → Hp → (St → Hp → Prop) → Prop
abbrev TGs := List V → St → Hp → (St → Hp → Prop) → Prop
def PG (X : Cx) (target : Expr) (t : TG) : Prop :=
  ∀ (pins : List (Addr × Obj)) (s : Shared) (σ : St) (H : Hp) (v : V) (u : Value) (Q : St → Hp → Prop), Inv X pins σ H s → RelV v u → t v σ H Q →
    wpAny (model X.prog X.w) X.A (assign target X.env u) (fun _ s' => ∃ σ' H', Inv X pins σ' H' s' ∧ Q σ' H') X.xe s
/-- several targets, one after another -/
def PGs (X : Cx) (ts : List Expr) (t : TGs) : Prop :=
  ∀ (pins : List (Addr × Obj)) (s : Shared) (σ : St) (H : Hp) (vs : List V) (us : List Value) (Q : St → Hp → Prop), Inv X pins σ H s → Vals vs us → t vs σ H Q →
    wpAny (model X.prog X.w) X.A (assignInOrder ((assignEach ts X.env).map (·.2)) us) (fun _ s' => ∃ σ' H', Inv X pins σ' H' s' ∧ Q σ' H') X.xe s
/-- o[i] = v, by values -/
abbrev TSet := V → V → V → Hp → (Hp → Prop) → Prop
def PSet (X : Cx) (t : TSet) : Prop :=
  ∀ (pins : List (Addr × Obj)) (s : Shared) (σ : St) (H : Hp) (o i v : V) (ov iv u : Value) (Q : Hp → Prop), Inv X pins σ H s → RelV o ov → RelV i iv → RelV v u → t o i v H Q →
    wpAny (model X.prog X.w) X.A (setItem ov iv u) (fun _ s' => ∃ H', Inv X pins σ H' s' ∧ Q H') X.xe s
/-- a op= b, by values -/
abbrev TIp := V → V → Hp → VK → Prop
def PIp (X : Cx) (op : Operator) (t : TIp) : Prop :=
  ∀ (pins : List (Addr × Obj)) (s : Shared) (σ : St) (H : Hp) (x y : V) (v u : Value) (Q : VK), Inv X pins σ H s → RelV x v → RelV y u → t x y H Q →
    wpAny (model X.prog X.w) X.A (inplaceOp op v u) (EP X pins σ Q) X.xe s
section
variable {X : Cx} {pos : Pos}
def gName (i : Nat) : TG := fun v σ H Q => Q (σ.set i (some v)) H
theorem pg_name {i : Nat} {x : Str} (hN : X.N.Nodup) (hi : X.N[i]? = some x) (hx : Loc X.env.scope x) (hf : X.fn x = true ∨ X.env.scope.names.lookup x = some .local := by first | exact .inl rfl | exact .inr rfl | assumption) : PG X (.Name x pos) (gName i) := by
  intro pins s σ H v u Q I r h
  exact wpAny_assign_Name (store_ok I hN hi hx r (fun s' I' => ⟨_, H, I', h⟩) hf)
def gNil : TGs := fun vs σ H Q => vs = [] ∧ Q σ H
def gCons (t : TG) (u : TGs) : TGs := fun vs σ H Q => ∃ v r, vs = v :: r ∧ t v σ H fun σ' H' => u r σ' H' Q
theorem pgs_nil : PGs X [] gNil := by
  intro pins s σ H vs us Q I r h
  obtain ⟨e, h⟩ := h
  subst e
  cases r
  exact assignInOrder_nil ⟨σ, H, I, h⟩
theorem pgs_cons {e : Expr} {es : List Expr} {t : TG} {u : TGs} (h1 : PG X e t) (h2 : PGs X es u)
    (hs : (assignEach (e :: es) X.env).map (·.2) = assign e X.env :: (assignEach es X.env).map (·.2) := by rfl) : PGs X (e :: es) (gCons t u) := by
  intro pins s σ H vs us Q I r h
  obtain ⟨v, vr, e1, h⟩ := h
  subst e1
  cases r with
  | cons r rr =>
    rw [hs]
    refine assignInOrder_cons (thn (h1 pins s σ H _ _ _ I r h) fun _ s1 ⟨σ1, H1, I1, q1⟩ => ?_)
    exact h2 pins s1 σ1 H1 _ _ Q I1 rr q1
/-- (a, b, ..) = a tuple of that length -/
def gTup (K : PySem.W.Frag) (n : Nat) (t : TGs) : TG := fun v σ H Q => ∃ a xs, v = .ref a ∧ SqT K H a xs ∧ xs.length = n ∧ t xs σ H Q
theorem pg_tup {es : List Expr} {k : Nat} {t : TGs} {n : Nat} (hc : X.calm = true) (h : PGs X es t)
    (hn : (assignEach es X.env).length = n := by rfl) (hst : (assignEach es X.env).findIdx? (·.1) = none := by rfl) : PG X (.Tuple es k pos) (gTup X.K n t) := by
  intro pins s σ H v u Q I r hw
  obtain ⟨a, xs, e1, hq, hl, hw⟩ := hw
  subst e1
  cases r
  obtain ⟨its, rv, ht, hz⟩ := I.tuple hq
  refine assign_Tuple_tuple (I.ok.hd hc) ht (by simp [hn, ← hl, rv.length]) hst fun h' hx => ?_
  have I1 : Inv X pins σ H { s with heap := h' } := I.kept (t' := s.toks) fun b o e => hx b o (Nat.ne_of_lt (Heap.lt_size e)) e
  exact h pins _ σ H xs _ Q I1 (by simpa using rv) hw
/-- o[i] = .. -/
def gSub (to ti : TE) (t : TSet) : TG := fun v σ H Q => to σ H fun o H1 => ti σ H1 fun i H2 => t o i v H2 fun H3 => Q σ H3
theorem pg_sub {o i : Expr} {to ti : TE} {t : TSet} (ho : PE X o to) (hi : PE X i ti) (hs : PSet X t)
    (ha : ∀ v, assign (.Subscript o i pos) X.env v = (do
      let ov ← holding [v] (eval o X.env)
      let iv ← holding [v, ov] (eval i X.env)
      standAt pos
      holding [v, ov, iv] (setItem ov iv v)
      release [v, ov, iv] []) := by intro _; rfl) : PG X (.Subscript o i pos) (gSub to ti t) := by
  intro pins s σ H v u Q I r h
  rw [ha]
  refine wpAny_bind (wpAny_holding (thn (ho pins s σ H _ I h) fun ov s1 ⟨x, H1, I1, r1, q1⟩ => ?_))
  refine wpAny_bind (wpAny_holding (thn (hi pins s1 σ H1 _ I1 q1) fun iv s2 ⟨y, H2, I2, r2, q2⟩ => ?_))
  refine wpAny_bind (wpAny_standAt (wpAny_bind (wpAny_holding (thn (hs pins s2 σ H2 x y v ov iv u _ I2 r1 r2 r q2) fun _ s3 ⟨H3, I3, q3⟩ => ?_))))
  exact wpAny_release ⟨σ, H3, I3, q3⟩
/-- target = value -/
def tAsg (te : TE) (g : TG) : TS := fun D σ H => te σ H fun x H1 => g x σ H1 D.nx
theorem ps_asg {tg e : Expr} {te : TE} {g : TG} (he : PE X e te) (hg : PG X tg g) (hs : swapsWithSole [tg] e pos.line X.env = pure false := by rfl) (hw : swappedStores [tg] e X.env = pure none := by rfl)
    (h1 : (assignEach [tg] X.env).map (·.2) = [assign tg X.env] := by rfl) : PS X (.Assign [tg] e pos) (tAsg te g) := by
  intro pins s σ H D I h
  refine wpAny_Assign_stores (thn (he pins s σ H _ I h) fun v s1 ⟨x, H1, I1, r1, q1⟩ => ?_) hs hw
  rw [h1]
  exact thn (hg pins s1 σ H1 x v _ I1 r1 q1) fun _ s2 q => q
/-- name = value -/
theorem ps_set {i : Nat} {x : Str} {e : Expr} {te : TE} {pos' : Pos} (hN : X.N.Nodup) (hi : X.N[i]? = some x) (hx : Loc X.env.scope x) (he : PE X e te) (hs : swapsWith e (some (.Name x pos')) pos.line X.env = pure false := by rfl) (hf : X.fn x = true ∨ X.env.scope.names.lookup x = some .local := by first | exact .inl rfl | exact .inr rfl | assumption) :
    PS X (.Assign [.Name x pos'] e pos) (tAsg te (gName i)) := by
  intro pins s σ H D I h
  refine wpAny_Assign_Name (thn (he pins s σ H _ I h) fun v s1 ⟨y, H1, I1, r1, q1⟩ => ?_) hs
  exact store_ok I1 hN hi hx r1 (fun s2 I2 => ⟨_, H1, I2, q1⟩) hf
/-- a, b = x, y with plain local names: stored from the right; the pair itself is not tracked (the opening rows as in PyProof/Rows/TupAssign.lean:23) -/
def tPar (i j : Nat) (ta : TA) : TS := fun D σ H => ta σ H fun vs H1 => ∃ v w, vs = [v, w] ∧ D.nx ((σ.set i (some v)).set j (some w)) H1
theorem ps_par {i j : Nat} {x y : Str} {a b : Expr} {ta : TA} {px py pt : Pos} {kt k2 pt2} (hc : X.calm = true) (hN : X.N.Nodup) (hi : X.N[i]? = some x) (hj : X.N[j]? = some y) (hij : i ≠ j)
    (hx : X.env.scope.names.lookup x = some .local) (hy : X.env.scope.names.lookup y = some .local) (ha : PA X [a, b] ta)
    (hw : swappedStores [.Tuple [.Name x px, .Name y py] kt pt] (.Tuple [a, b] k2 pt2) X.env = pure (some [x, y]))
    (hs : swapsWithSole [.Tuple [.Name x px, .Name y py] kt pt] (.Tuple [a, b] k2 pt2) pos.line X.env = pure false := by rfl) :
    PS X (.Assign [.Tuple [.Name x px, .Name y py] kt pt] (.Tuple [a, b] k2 pt2) pos) (tPar i j ta) := by
  intro pins s σ H D I h
  rw [exec_Assign_arm]
  refine wpAny_bind (wpAny_standAt ?_)
  rw [hs]
  refine wpAny_bind (wpAny_pure ?_)
  rw [if_neg (by decide)]
  refine wpAny_bind (Tuple_ (thn (ha _ pins s σ H _ I h) fun us s1 ⟨vs, H1, I1, r1, q1⟩ => ?_))
  obtain ⟨v, w, e1, q1⟩ := q1
  subst e1
  obtain ⟨u1, u2, rfl, rv, rw'⟩ : ∃ u1 u2, us = [u1, u2] ∧ RelV v u1 ∧ RelV w u2 := by
    cases r1 with
    | cons p q =>
      cases q with
      | cons p' q' =>
        cases q'
        exact ⟨_, _, rfl, p, p'⟩
  refine wpAny_newObj_type ?_ (by show 2 ≤ sizeLine; decide)
  have I2 : Inv X pins σ H1 { s1 with heap := s1.heap.push { cls := .type "tuple", data := .seq [u1, u2].toArray } } := I1.kept (t' := s1.toks) fun b o e => Heap.get?_push_of_some _ e
  rw [hw]
  refine wpAny_bind (wpAny_pure ?_)
  show wpAny (model X.prog X.w) X.A (do rule "assign.swapped-stores"; let items ← unpackItems (.ref s1.heap.objs.size) 2 none; assignInOrder [fun v => bindName X.env y v, fun v => bindName X.env x v] items.reverse; pure Flow.next) _ _ _
  refine wpAny_bind (wpAny_rule (wpAny_bind (unpackItems_tuple (items := #[u1, u2]) (I.ok.hd hc) (IsTup.new s1.heap _) fun h' hx' => ?_)))
  have I3 := I2.kept (h' := h') (t' := s1.toks) fun b o e => hx' b o (Nat.ne_of_lt (Heap.lt_size e)) e
  show wpAny _ _ (assignInOrder [fun v => bindName X.env y v, fun v => bindName X.env x v] [u2, u1] >>= fun _ => pure Flow.next) _ _ _
  refine wpAny_bind (assignInOrder_cons (wpAny_bindName (store_ok I3 hN hj (.inl hy) rw' (fun s2 I4 => ?_) (.inr hy))))
  refine assignInOrder_cons (wpAny_bindName (store_ok I4 hN hi (.inl hx) rv (fun s3 I5 => assignInOrder_nil (wpAny_pure ?_)) (.inr hx)))
  rw [List.set_comm _ _ (Ne.symm hij)] at I5
  exact ⟨_, H1, I5, q1⟩
/-- name op= e -/
def tAug (i : Nat) (te : TE) (ti : TIp) : TS := fun D σ H => ∃ x, σ[i]? = some (some x) ∧ te σ H fun y H1 => ti x y H1 fun z H2 => D.nx (σ.set i (some z)) H2
theorem ps_aug {i : Nat} {x : Str} {e : Expr} {te : TE} {op : Operator} {ti : TIp} {pos' : Pos} (hN : X.N.Nodup) (hi : X.N[i]? = some x) (hx : Loc X.env.scope x) (he : PE X e te) (ho : PIp X op ti) (hf : X.fn x = true ∨ X.env.scope.names.lookup x = some .local := by first | exact .inl rfl | exact .inr rfl | assumption) :
    PS X (.AugAssign (.Name x pos') op e pos) (tAug i te ti) := by
  intro pins s σ H D I h
  obtain ⟨v, e1, h⟩ := h
  obtain ⟨m, hn, hl⟩ := I.loc
  have vis : Vis X.env.scope x := by rcases hx with k | k; exact .inl k; exact .inr (.inl k)
  obtain ⟨u, r, l⟩ := hl i x v hi e1 vis
  refine wpAny_AugAssign_Name ?_
  have go : wpAny (model X.prog X.w) X.A (eval e X.env) (fun w s₂ => wpAny (model X.prog X.w) X.A (inplaceOp op u w) (fun r s₃ => wpAny (model X.prog X.w) X.A (storeName X.env x r) (fun _ => SP X pins D .next) X.xe s₃) X.xe s₂) X.xe s := by
    refine thn (he pins s σ H _ I h) fun w s1 ⟨y, H1, I1, r1, q1⟩ => ?_
    refine thn (ho pins s1 σ H1 v y u w _ I1 r r1 q1) fun z s2 ⟨zv, H2, I2, r2, q2⟩ => ?_
    exact store_ok I2 hN hi hx r2 (fun s3 I3 => ⟨_, H2, I3, q2⟩) hf
  rcases l with ⟨hk, hm⟩ | ⟨hk, c, hc, hcell⟩
  · exact wpAny_loadName_local I.ok.kind hk hn hm go
  · rcases hk with hk | hk
    · exact wpAny_loadName_cell I.ok.kind hk hc hcell go
    · rcases hx with k | k
      · have : X.env.scope.names.lookup x = some .free := hk
        rw [k] at this; cases this
      · have : X.env.scope.names.lookup x = some .free := hk
        rw [k] at this; cases this
/-- o[i] op= e -/
def tAugS (to ti te : TE) (tget : V → V → Hp → VK → Prop) (tip : TIp) (tset : TSet) : TS := fun D σ H => to σ H fun o H1 => ti σ H1 fun i H2 => tget o i H2 fun x H3 => te σ H3 fun y H4 => tip x y H4 fun z H5 => tset o i z H5 fun H6 => D.nx σ H6
/-- o[i], by values -/
def PGet (X : Cx) (t : V → V → Hp → VK → Prop) : Prop :=
  ∀ (pins : List (Addr × Obj)) (s : Shared) (σ : St) (H : Hp) (o i : V) (ov iv : Value) (Q : VK), Inv X pins σ H s → RelV o ov → RelV i iv → t o i H Q →
    wpAny (model X.prog X.w) X.A (getItem ov iv) (EP X pins σ Q) X.xe s
theorem ps_augS {o i e : Expr} {to ti te : TE} {tget : V → V → Hp → VK → Prop} {tip : TIp} {tset : TSet} {op : Operator} {tpos : Pos} (ho : PE X o to) (hi : PE X i ti) (hg : PGet X tget) (he : PE X e te) (hp : PIp X op tip) (hs : PSet X tset)
    (ha : ∀ ov iv new, augStore i ov iv new = (do holding [new, ov, iv] (setItem ov iv new); release [new, ov, iv] []; pure .next) := by intros; rfl) : PS X (.AugAssign (.Subscript o i tpos) op e pos) (tAugS to ti te tget tip tset) := by
  intro pins s σ H D I h
  refine wpAny_AugAssign_SubscriptAny (thn (ho pins s σ H _ I h) fun ov s1 ⟨x1, H1, I1, r1, q1⟩ => ?_) ha
  refine thn (hi pins s1 σ H1 _ I1 q1) fun iv s2 ⟨x2, H2, I2, r2, q2⟩ => ?_
  refine thn (hg pins s2 σ H2 x1 x2 ov iv _ I2 r1 r2 q2) fun old s3 ⟨x3, H3, I3, r3, q3⟩ => ?_
  refine thn (he pins s3 σ H3 _ I3 q3) fun v s4 ⟨x4, H4, I4, r4, q4⟩ => ?_
  refine thn (hp pins s4 σ H4 x3 x4 old v _ I4 r3 r4 q4) fun new s5 ⟨x5, H5, I5, r5, q5⟩ => ?_
  exact thn (hs pins s5 σ H5 x1 x2 x5 ov iv new _ I5 r1 r2 r5 q5) fun _ s6 ⟨H6, I6, q6⟩ => ⟨σ, H6, I6, q6⟩
/-- ints -/
def ipI (f : Int → Int → Int) : TIp := fun x y H Q => ∃ i j, x = .int i ∧ y = .int j ∧ Q (.int (f i j)) H
theorem ip_add : PIp X .Add (ipI fun i j => i + j) := by
  intro pins s σ H x y v u Q I r1 r2 h
  obtain ⟨i, j, e1, e2, q⟩ := h
  subst e1; subst e2
  obtain ⟨t, rfl⟩ := r1
  obtain ⟨t', rfl⟩ := r2
  exact iadd_int ⟨.int _, H, I.tok _, ⟨_, rfl⟩, q⟩
theorem ip_sub : PIp X .Sub (ipI fun i j => i - j) := by
  intro pins s σ H x y v u Q I r1 r2 h
  obtain ⟨i, j, e1, e2, q⟩ := h
  subst e1; subst e2
  obtain ⟨t, rfl⟩ := r1
  obtain ⟨t', rfl⟩ := r2
  exact isub_int ⟨.int _, H, I.tok _, ⟨_, rfl⟩, q⟩
end

/-! ### while -/
section
variable {X : Cx} {pos : Pos}
/-- the invariant W with its measure -/
def tWhile (c : TT) (tb : TS) : TS := fun D σ H => ∃ W : Nat → St → Hp → Prop, (∃ m, W m σ H) ∧ ∀ m σ H, W m σ H →
  c σ H fun b H1 => if b = true then ∃ N : St → Hp → Prop, (∀ σ' H', N σ' H' → ∃ m', m' < m ∧ W m' σ' H') ∧ tb { D with nx := N, ct := N, bk := D.nx } σ H1 else D.nx σ H1
theorem ps_while {c : Expr} {body : List Stmt} {tc : TT} {tb : TS} (hp : PassesOwn (model X.prog X.w) X.A X.env X.xe) (hc : PT X c tc) (hb : PSs X body tb) : PS X (.While c body [] pos) (tWhile tc tb) := by
  intro pins s σ H D I h
  obtain ⟨W, ⟨m0, w0⟩, turn⟩ := h
  refine wpAny_While (codeAny_whileLoop (fun n s' => ∃ σ' H', Inv X pins σ' H' s' ∧ W n σ' H') ?_ m0 ⟨σ, H, I, w0⟩)
  rintro n s1 ⟨σ1, H1, I1, w1⟩
  refine wpAny_passesOwn hp (thn (hc pins s1 σ1 H1 _ I1 (turn n σ1 H1 w1)) fun b s2 ⟨H2, I2, q2⟩ => ?_)
  cases b with
  | true =>
    obtain ⟨N, hN, q2⟩ := q2
    rw [if_pos rfl]
    refine wpAny_passesOwn hp (thn (hb pins s2 σ1 H2 _ I2 q2) fun f s3 q3 => ?_)
    cases f with
    | next =>
      obtain ⟨σ3, H3, I3, n3⟩ := q3
      obtain ⟨m', hm, w3⟩ := hN σ3 H3 n3
      exact ⟨m', hm, σ3, H3, I3, w3⟩
    | cont =>
      obtain ⟨σ3, H3, I3, n3⟩ := q3
      obtain ⟨m', hm, w3⟩ := hN σ3 H3 n3
      exact ⟨m', hm, σ3, H3, I3, w3⟩
    | brk => exact q3
    | ret v => exact q3
  | false =>
    rw [if_neg Bool.false_ne_true]
    exact wpAny_execs_nil ⟨σ1, H2, I2, q2⟩
end

/-! ### what a loop or a comprehension walks -/
/-- at turn i: it yields x (the heap may grow), or it stops -/
structure It where
  go : Nat → Hp → Prop
  yld : Nat → Hp → V → Hp → Prop
  stop : Nat → Hp → Prop
/-- the iterator's own objects may turn: they are not the frame's, not pinned, younger than the entry (or a comprehension's own) -/
def FpOk (X : Cx) (pins : List (Addr × Obj)) (H : Hp) (b : Addr) : Prop :=
  H b = none ∧ b ≠ X.env.locals ∧ b ∉ X.fs ∧ (b ∈ X.ex ∨ X.s₀.heap.objs.size ≤ b) ∧ (∀ x c, X.env.cells.lookup x = some c → c ≠ b) ∧ ∀ p ∈ X.pn ++ pins, p.1 ≠ b
theorem Inv.fpOk {X : Cx} {pins : List (Addr × Obj)} {σ : St} {H H' : Hp} {s : Shared} {b : Addr} (I : Inv X pins σ H s) (hb : s.heap.objs.size ≤ b) (hn : H' b = none) : FpOk X pins H' b := by
  refine ⟨hn, Nat.ne_of_gt (Nat.lt_of_lt_of_le I.lt hb), I.nofs hb, .inr (Nat.le_trans I.sz hb), fun x c e z => ?_, fun p hp z => ?_⟩
  · obtain ⟨v, q⟩ := I.cell x c e
    exact absurd (Nat.lt_of_lt_of_le q.lt (by rw [z]; exact hb)) (Nat.lt_irrefl _)
  · exact absurd (Nat.lt_of_lt_of_le (Heap.lt_size (I.pin p hp).1) (by rw [z]; exact hb)) (Nat.lt_irrefl _)
structure Turn (P : Program) (w : World) (K : PySem.W.Frag) (tg : Expr) (J : It) (fp : List Addr) (it : Addr) (tn : Nat → Heap → Prop) : Prop where
  mem : it ∈ fp
  obj : ∀ i h, tn i h → ∀ b ∈ fp, ∃ o, h.get? b = some o ∧ ∀ v, o.data ≠ .cell v
  keep : ∀ i h h', tn i h → (∀ b ∈ fp, ∀ o, h.get? b = some o → h'.get? b = some o) → tn i h'
  item : ∀ (X : Cx), X.prog = P → X.w = w → X.K = K → X.calm = true → ∀ (i : Nat) (pins : List (Addr × Obj)) (s : Shared) (σ : St) (H : Hp) (E : Value → Shared → Prop), Inv X pins σ H s → (∀ b ∈ fp, FpOk X pins H b) → tn i s.heap → J.go i H →
    wpAny (model P w) X.A (pyNext (.ref it)) (fun r s1 => ∃ u, r = some u ∧
      wpAny (model P w) X.A (letOwnedTupleGo tg (.ref it) u) (fun _ s2 => ∃ x H', Inv X pins σ H' s2 ∧ RelV x u ∧ J.yld i H x H' ∧ tn (i + 1) s2.heap ∧ ∀ b ∈ fp, H' b = none) E s1) E s
  done : ∀ (X : Cx), X.prog = P → X.w = w → X.K = K → X.calm = true → ∀ (i : Nat) (pins : List (Addr × Obj)) (s : Shared) (σ : St) (H : Hp) (E : Value → Shared → Prop), Inv X pins σ H s → (∀ b ∈ fp, FpOk X pins H b) → tn i s.heap → J.stop i H →
    wpAny (model P w) X.A (pyNext (.ref it)) (fun r s1 => r = none ∧ Inv X pins σ H s1) E s
  self : ∀ (A : Around) (i : Nat) (s : Shared) (Q : Value → Shared → Prop) (E : Value → Shared → Prop), tn i s.heap → Q (.ref it) s → wpAny (model P w) A (pyIter (.ref it)) Q E s
abbrev TI := St → Hp → (It → Hp → Prop) → Prop
/-- an iterator has come -/
def PIE (X : Cx) (pins : List (Addr × Obj)) (σ : St) (tg : Expr) (R : It → Hp → Prop) (itv : Value) (s2 : Shared) : Prop :=
  ∃ (it : Addr) (fp : List Addr) (tn : Nat → Heap → Prop) (J : It) (H' : Hp), itv = .ref it ∧ Inv X pins σ H' s2 ∧ Turn X.prog X.w X.K tg J fp it tn ∧ tn 0 s2.heap ∧ (∀ b ∈ fp, FpOk X pins H' b) ∧ R J H'
def PI (X : Cx) (tg iter : Expr) (wi : TI) : Prop :=
  ∀ (pins : List (Addr × Obj)) (s : Shared) (σ : St) (H : Hp) (R : It → Hp → Prop), Inv X pins σ H s → wi σ H R →
    wpAny (model X.prog X.w) X.A (eval iter X.env) (fun v s1 => wpAny (model X.prog X.w) X.A (pyIter v) (PIE X pins σ tg R) X.xe s1) X.xe s

/-- the step ahead of the store is nothing for an iterator that keeps no tuple -/
theorem go_of {M : Model} {A : Around} {E : Value → Shared → Prop} {s : Shared} {tg : Expr} {it : Addr} {u : Value} {o : Obj} {n : String} {vs : Array Value} {Q : Unit → Shared → Prop} (ho : s.heap.get? it = some o) (hc : o.cls = .type n) (hd : o.data = .fields vs)
    (hn : ["enumerate", "zip", "dict_itemiterator", "dict_reverseitemiterator", "odict_iterator", "itertools.zip_longest", "itertools.pairwise"].contains n = false) (hQ : Q () s) : wpAny M A (letOwnedTupleGo tg (.ref it) u) Q E s := by
  unfold letOwnedTupleGo
  cases tg <;> first
    | exact wpAny_pure hQ
    | (cases u <;> first
        | exact wpAny_pure hQ
        | (refine wpAny_bind (wpAny_load ho ?_)
           rw [hc, hd]
           show wpAny M A (if (["enumerate", "zip", "dict_itemiterator", "dict_reverseitemiterator", "odict_iterator", "itertools.zip_longest", "itertools.pairwise"].contains n && vs[0]? == some (rawInt _)) = true then _ else _) Q E s
           rw [if_neg (by intro h; rw [hn, Bool.false_and] at h; cases h)]
           exact wpAny_pure hQ))

/-- the list at a, as it stands at each turn (a loop may append to it) -/
def Itl (K : PySem.W.Frag) (a : Addr) : It :=
  ⟨fun i H => ∃ xs x, SqL K H a xs ∧ xs[i]? = some x, fun i H x H' => H' = H ∧ ∀ xs, SqL K H a xs → xs[i]? = some x, fun i H => ∃ xs, SqL K H a xs ∧ xs.length ≤ i⟩
def Itt (K : PySem.W.Frag) (a : Addr) : It :=
  ⟨fun i H => ∃ xs x, SqT K H a xs ∧ xs[i]? = some x, fun i H x H' => H' = H ∧ ∀ xs, SqT K H a xs → xs[i]? = some x, fun i H => ∃ xs, SqT K H a xs ∧ xs.length ≤ i⟩
/-- lo, lo + 1, .. (n of them) -/
def Itr (lo : Int) (n : Nat) : It := ⟨fun i _ => i < n, fun i H x H' => H' = H ∧ x = .int (lo + i), fun i _ => n ≤ i⟩
theorem turn_list {P : Program} {w : World} {K : PySem.W.Frag} {tg : Expr} (a it : Addr) : Turn P w K tg (Itl K a) [it] it (fun i h => h.IsListIter it a i) where
  mem := by simp
  obj := fun i h st b hb => by
    have e : b = it := by simpa using hb
    subst e
    obtain ⟨o, e, c, d⟩ := st
    exact ⟨o, e, fun v z => by rw [d] at z; cases z⟩
  keep := fun i h h' st k => st.at fun o e => k it (by simp) o e
  item := by
    intro X hP hw hK hc i pins s σ H E I hf st hg
    subst hP hw hK
    obtain ⟨xs, x, hq, hx⟩ := hg
    obtain ⟨its, rv, p, hz⟩ := I.list hq
    obtain ⟨u, hu, ru⟩ := rv.get hx
    obtain ⟨f0, f1, f2, f3, f4, f5⟩ := hf it (by simp)
    refine wpAny_pyNext_list_item st p.isList (x := u) (by simpa using hu) fun h' st' sb => ?_
    have I1 : Inv X pins σ H { s with heap := h' } := I.turned (t' := s.toks) (fun b o hb e => (sb.2 b hb).trans e) f0 f1 f3 f4 f5
    obtain ⟨o, e, c, d⟩ := id st'
    exact ⟨u, rfl, go_of (s := { s with heap := h' }) e c d (by decide) ⟨x, H, I1, ru, ⟨rfl, fun ys hy => by rw [I.list_inj hy hq]; exact hx⟩, st', fun b hb => (hf b hb).1⟩⟩
  done := by
    intro X hP hw hK hc i pins s σ H E I hf st hg
    subst hP hw hK
    obtain ⟨xs, hq, hx⟩ := hg
    obtain ⟨its, rv, p, hz⟩ := I.list hq
    obtain ⟨f0, f1, f2, f3, f4, f5⟩ := hf it (by simp)
    have hl := rv.length
    exact wpAny_pyNext_list_end (I.ok.hd hc) st p.isList (by simp; omega) fun h' eb => ⟨rfl, I.turned (t' := s.toks) (fun b o hb e => eb b o hb e) f0 f1 f3 f4 f5⟩
  self := fun _ _ _ _ _ st h => wpAny_pyIter_listiter st h
theorem turn_tuple {P : Program} {w : World} {K : PySem.W.Frag} {tg : Expr} (a it : Addr) : Turn P w K tg (Itt K a) [it] it (fun i h => h.IsTupleIter it a i) where
  mem := by simp
  obj := fun i h st b hb => by
    have e : b = it := by simpa using hb
    subst e
    obtain ⟨o, e, c, d⟩ := st
    exact ⟨o, e, fun v z => by rw [d] at z; cases z⟩
  keep := fun i h h' st k => st.at fun o e => k it (by simp) o e
  item := by
    intro X hP hw hK hc i pins s σ H E I hf st hg
    subst hP hw hK
    obtain ⟨xs, x, hq, hx⟩ := hg
    obtain ⟨its, rv, p, hz⟩ := I.tuple hq
    obtain ⟨u, hu, ru⟩ := rv.get hx
    obtain ⟨f0, f1, f2, f3, f4, f5⟩ := hf it (by simp)
    refine wpAny_pyNext_tuple_item st (show s.heap.IsTuple a its.toArray from p) (x := u) (by simpa using hu) fun h' st' sb => ?_
    have I1 : Inv X pins σ H { s with heap := h' } := I.turned (t' := s.toks) (fun b o hb e => (sb.2 b hb).trans e) f0 f1 f3 f4 f5
    obtain ⟨o, e, c, d⟩ := id st'
    exact ⟨u, rfl, go_of (s := { s with heap := h' }) e c d (by decide) ⟨x, H, I1, ru, ⟨rfl, fun ys hy => by rw [I.tuple_inj hy hq]; exact hx⟩, st', fun b hb => (hf b hb).1⟩⟩
  done := by
    intro X hP hw hK hc i pins s σ H E I hf st hg
    subst hP hw hK
    obtain ⟨xs, hq, hx⟩ := hg
    obtain ⟨its, rv, p, hz⟩ := I.tuple hq
    obtain ⟨f0, f1, f2, f3, f4, f5⟩ := hf it (by simp)
    have hl := rv.length
    exact wpAny_pyNext_tuple_end (I.ok.hd hc) st (show s.heap.IsTuple a its.toArray from p) (by simp; omega) fun h' eb => ⟨rfl, I.turned (t' := s.toks) (fun b o hb e => eb b o hb e) f0 f1 f3 f4 f5⟩
  self := fun _ _ _ _ _ st h => wpAny_pyIter_tupleiter st h
theorem turn_range {P : Program} {w : World} {K : PySem.W.Frag} {tg : Expr} (it : Addr) (lo : Int) (n : Nat) : Turn P w K tg (Itr lo n) [it] it (fun i h => IsRangeIter h it (lo + (i : Nat) * 1) ((n : Int) - (i : Nat)) 1) where
  mem := by simp
  obj := fun i h st b hb => by
    have e : b = it := by simpa using hb
    subst e
    exact ⟨_, st, fun v z => by
      have z' : Data.fields _ = Data.cell v := z
      cases z'⟩
  keep := fun i h h' st k => k it (by simp) _ st
  item := by
    intro X hP hw hK hc i pins s σ H E I hf st hg
    subst hP hw hK
    obtain ⟨f0, f1, f2, f3, f4, f5⟩ := hf it (by simp)
    have W := Walks.range (prog := X.prog) (w := X.w) (I.ok.hd hc) it lo 1 n
    refine W.item i s _ _ hg st fun v h' tk hv st' kk => ?_
    obtain ⟨t, rfl⟩ := hv
    have I1 : Inv X pins σ H { s with heap := h', toks := tk } := I.turned (fun b o hb e => kk b o (by simpa using hb) e) f0 f1 f3 f4 f5
    refine ⟨_, rfl, go_of (s := { s with heap := h', toks := tk }) (n := "range_iterator") st' rfl rfl (by decide) ⟨.int (lo + i), H, I1, ⟨t, ?_⟩, ⟨rfl, rfl⟩, st', fun b hb => (hf b hb).1⟩⟩
    rw [Int.mul_one]
  done := by
    intro X hP hw hK hc i pins s σ H E I hf st hg
    subst hP hw hK
    obtain ⟨f0, f1, f2, f3, f4, f5⟩ := hf it (by simp)
    exact wpAny_pyNext_range_end (I.ok.hd hc) st (by have : n ≤ i := hg; omega) fun h' eb => ⟨rfl, I.turned (t' := s.toks) (fun b o hb e => eb b o hb e) f0 f1 f3 f4 f5⟩
  self := fun _ _ _ _ _ st h => wpAny_pyIter_rangeiter st h
end L2

namespace L2
open PySem PySem.Spec PyProof.Rows
section
variable {X : Cx} {tg : Expr}
def iList (K : PySem.W.Frag) (tl : TE) : TI := fun σ H R => tl σ H fun x H1 => ∃ a, x = .ref a ∧ (∃ xs, SqL K H1 a xs) ∧ R (Itl K a) H1
def iTup (K : PySem.W.Frag) (tl : TE) : TI := fun σ H R => tl σ H fun x H1 => ∃ a, x = .ref a ∧ (∃ xs, SqT K H1 a xs) ∧ R (Itt K a) H1
theorem pi_list {l : Expr} {tl : TE} (hl : PE X l tl) : PI X tg l (iList X.K tl) := by
  intro pins s σ H R I h
  refine thn (hl pins s σ H _ I h) fun v s1 ⟨x, H1, I1, r1, q1⟩ => ?_
  obtain ⟨a, e, ⟨xs, hq⟩, q⟩ := q1
  subst e
  cases r1
  obtain ⟨its, rv, p, hz⟩ := I1.list hq
  refine wpAny_pyIter_list p.isList ?_
  refine ⟨s1.heap.objs.size, [s1.heap.objs.size], _, _, H1, rfl, I1.kept (t' := s1.toks) fun b o e => Heap.get?_push_of_some _ e, turn_list a _, ⟨_, Heap.get?_push_size _ rfl, rfl, rfl⟩, fun b hb => ?_, q⟩
  have e : b = s1.heap.objs.size := by simpa using hb
  subst e
  exact I1.fpOk (Nat.le_refl _) (I1.hok.fresh (Nat.le_refl _))
theorem pi_tup {l : Expr} {tl : TE} (hl : PE X l tl) : PI X tg l (iTup X.K tl) := by
  intro pins s σ H R I h
  refine thn (hl pins s σ H _ I h) fun v s1 ⟨x, H1, I1, r1, q1⟩ => ?_
  obtain ⟨a, e, ⟨xs, hq⟩, q⟩ := q1
  subst e
  cases r1
  obtain ⟨its, rv, p, hz⟩ := I1.tuple hq
  refine wpAny_pyIter_tuple (show s1.heap.IsTuple a its.toArray from p) ?_
  refine ⟨s1.heap.objs.size, [s1.heap.objs.size], _, _, H1, rfl, I1.kept (t' := s1.toks) fun b o e => Heap.get?_push_of_some _ e, turn_tuple a _, ⟨_, Heap.get?_push_size _ rfl, rfl, rfl⟩, fun b hb => ?_, q⟩
  have e : b = s1.heap.objs.size := by simpa using hb
  subst e
  exact I1.fpOk (Nat.le_refl _) (I1.hok.fresh (Nat.le_refl _))
/-- a range object just made, walked -/
theorem range_it {pins : List (Addr × Obj)} {σ : St} {H : Hp} {s : Shared} {R : It → Hp → Prop} {E : Value → Shared → Prop} {lo hi : Int} {t u v : Tok} {tk : Nat} (I : Inv X pins σ H s) (h1 : -(2 ^ 62) ≤ lo) (h2 : lo < 2 ^ 62) (h3 : -(2 ^ 62) ≤ hi) (h4 : hi < 2 ^ 62)
    (q : R (Itr lo (hi - lo).toNat) H) : wpAny (model X.prog X.w) X.A (pyIter (.ref s.heap.objs.size)) (PIE X pins σ tg R) E { s with heap := s.heap.push { cls := .type "range", data := .fields #[.int lo t, .int hi u, .int 1 v] }, toks := tk } := by
  refine wpAny_pyIter_range (IsRange.new ..) (small_one h1 h2 h3 h4) ?_
  have I1 : Inv X pins σ H { s with heap := s.heap.push { cls := .type "range", data := .fields #[.int lo t, .int hi u, .int 1 v] }, toks := tk } := I.kept fun b o e => Heap.get?_push_of_some _ e
  refine ⟨(s.heap.push { cls := .type "range", data := .fields #[.int lo t, .int hi u, .int 1 v] }).objs.size, [(s.heap.push { cls := .type "range", data := .fields #[.int lo t, .int hi u, .int 1 v] }).objs.size], _, _, H, rfl,
    I1.kept (t' := tk) fun b o e => Heap.get?_push_of_some _ e, turn_range _ lo (hi - lo).toNat, ?_, fun b hb => ?_, q⟩
  · have e1 : lo + ((0 : Nat) : Int) * 1 = lo := by simp
    have e2 : (((hi - lo).toNat : Nat) : Int) - ((0 : Nat) : Int) = Builtin.Range.rangeSize lo hi 1 := by rw [rangeSize_one]; split <;> omega
    show IsRangeIter _ _ (lo + ((0 : Nat) : Int) * 1) ((((hi - lo).toNat : Nat) : Int) - ((0 : Nat) : Int)) 1
    rw [e1, e2]
    exact Heap.get?_push_size _ rfl
  · have e : b = (s.heap.push { cls := .type "range", data := .fields #[.int lo t, .int hi u, .int 1 v] }).objs.size := by simpa using hb
    subst e
    exact I1.fpOk (Nat.le_refl _) (I1.hok.fresh (Nat.le_refl _))
def iRng1 (ta : TA) : TI := fun σ H R => ta σ H fun vs H1 => ∃ j : Int, vs = [.int j] ∧ -(2 ^ 62) ≤ j ∧ j < 2 ^ 62 ∧ R (Itr 0 j.toNat) H1
def iRng2 (ta : TA) : TI := fun σ H R => ta σ H fun vs H1 => ∃ i j : Int, vs = [.int i, .int j] ∧ (-(2 ^ 62) ≤ i ∧ i < 2 ^ 62 ∧ -(2 ^ 62) ≤ j ∧ j < 2 ^ 62) ∧ R (Itr i (j - i).toNat) H1
theorem pi_range1 {a : Expr} {ta : TA} {p pos : Pos} (hg : Gl X "range") (hm : X.mg "range" = none) (ha : PA X [a] ta) (hs : starEach [a] X.env = [(false, eval a X.env)] := by rfl) : PI X tg (.Call (.Name "range" p) [a] [] pos) (iRng1 ta) := by
  intro pins s σ H R I h
  refine Call_ (ld_blt I hg hm boot_range (PyProof.Rows.callWith_type1 (thn (ha pos pins s σ H _ I h) fun us s1 ⟨vs, H1, I1, r1, q1⟩ => ?_) hs rfl))
  obtain ⟨j, e, q1, q2, q⟩ := q1
  subst e
  cases r1 with
  | cons r rr =>
    cases rr
    obtain ⟨t, rfl⟩ := r
    exact call_range_1 (range_it I1 (by omega) (by omega) q1 q2 (by simpa using q))
theorem pi_range2 {a b : Expr} {ta : TA} {p pos : Pos} (hg : Gl X "range") (hm : X.mg "range" = none) (ha : PA X [a, b] ta) (hs : starEach [a, b] X.env = [(false, eval a X.env), (false, eval b X.env)] := by rfl) (hs2 : starEach [b] X.env = [(false, eval b X.env)] := by rfl) :
    PI X tg (.Call (.Name "range" p) [a, b] [] pos) (iRng2 ta) := by
  intro pins s σ H R I h
  refine Call_ (ld_blt I hg hm boot_range (PyProof.Rows.callWith_type1 (thn (ha pos pins s σ H _ I h) fun us s1 ⟨vs, H1, I1, r1, q1⟩ => ?_) (by rw [hs, hs2]) (by rw [hs2]; rfl)))
  obtain ⟨i, j, e, ⟨q1, q2, q3, q4⟩, q⟩ := q1
  subst e
  cases r1 with
  | cons r rr =>
    cases rr with
    | cons r' rr =>
      cases rr
      obtain ⟨t, rfl⟩ := r
      obtain ⟨t', rfl⟩ := r'
      exact call_range_2 (range_it I1 q1 q2 q3 q4 q)

/-! ### for -/
/-- W: the invariant by the turn and a measure; N: what the body is to reach -/
def tFor (wi : TI) (g : TG) (tb : TS) : TS := fun D σ H => wi σ H fun J H1 => ∃ W : Nat → Nat → St → Hp → Prop, (∃ m, W 0 m σ H1) ∧ ∀ i m σ H, W i m σ H →
  (J.stop i H ∧ D.nx σ H) ∨ (J.go i H ∧ ∃ N : St → Hp → Prop, (∀ σ' H', N σ' H' → ∃ m', m' < m ∧ W (i + 1) m' σ' H') ∧ ∀ x H', J.yld i H x H' → g x σ H' fun σ2 H2 => tb { D with nx := N, ct := N, bk := D.nx } σ2 H2)
/-- the records at fp as they stand -/
def pinsAt (fp : List Addr) (h : Heap) : List (Addr × Obj) := fp.filterMap fun b => (h.get? b).map fun o => (b, o)
theorem mem_pinsAt {fp : List Addr} {h : Heap} {b : Addr} {o : Obj} (hb : b ∈ fp) (e : h.get? b = some o) : (b, o) ∈ pinsAt fp h := List.mem_filterMap.mpr ⟨b, hb, by rw [e]; rfl⟩
theorem of_pinsAt {fp : List Addr} {h : Heap} {p : Addr × Obj} (hp : p ∈ pinsAt fp h) : p.1 ∈ fp ∧ h.get? p.1 = some p.2 := by
  obtain ⟨b, hb, e⟩ := List.mem_filterMap.mp hp
  cases q : h.get? b with
  | none => rw [q] at e; cases e
  | some o =>
    rw [q] at e
    have e' : (b, o) = p := Option.some.inj e
    subst e'
    exact ⟨hb, q⟩
theorem Inv.pinned {pins : List (Addr × Obj)} {σ : St} {H : Hp} {s : Shared} {fp : List Addr} (I : Inv X pins σ H s) (hf : ∀ b ∈ fp, FpOk X pins H b) (ho : ∀ b ∈ fp, ∃ o, s.heap.get? b = some o ∧ ∀ v, o.data ≠ .cell v) : Inv X (pins ++ pinsAt fp s.heap) σ H s :=
  I.pins_of fun p hp => (List.mem_append.mp hp).elim (fun z => I.pin p (List.mem_append_right _ z)) fun z => by
    obtain ⟨hb, e⟩ := of_pinsAt z
    obtain ⟨f0, f1, f2, _⟩ := hf p.1 hb
    obtain ⟨o, e', d⟩ := ho p.1 hb
    rw [e] at e'; cases e'
    exact ⟨e, f0, f1, f2, d⟩
theorem Inv.unpinned {pins pl : List (Addr × Obj)} {σ : St} {H : Hp} {s : Shared} (I : Inv X (pins ++ pl) σ H s) : Inv X pins σ H s := I.pins_of fun p hp => I.pin p (List.mem_append_right _ (List.mem_append_left _ hp))
theorem ps_for {iter : Expr} {body : List Stmt} {wi : TI} {g : TG} {tb : TS} {pos : Pos} (hp : PassesOwn (model X.prog X.w) X.A X.env X.xe) (hc : X.calm = true) (hi : PI X tg iter wi) (hg : PG X tg g) (hb : PSs X body tb)
    (hs : ∀ x, foldedSetIterable iter X.env x = pure x := by intro _; rfl) : PS X (.For tg iter body [] pos) (tFor wi g tb) := by
  intro pins s σ H D I h
  refine wpAny_For (thn (hi pins s σ H _ I h) fun v s1 h1 => thn h1 fun itv s2 h2 => ?_) hs
  obtain ⟨it, fp, tn, J, H2, e, I2, T, st2, f2, W, ⟨m0, w0⟩, turn⟩ := h2
  subst e
  -- what stays true of the iterator's objects through the loop
  have stat : ∀ {H' : Hp}, (∀ b ∈ fp, H' b = none) → ∀ b ∈ fp, FpOk X pins H' b := fun hn b hb => ⟨hn b hb, (f2 b hb).2⟩
  refine codeAny_forLoop_any (fun n s' => ∃ i σ' H', Inv X pins σ' H' s' ∧ tn i s'.heap ∧ (∀ b ∈ fp, H' b = none) ∧ W i n σ' H') ?_ m0 ⟨0, σ, H2, I2, st2, fun b hb => (f2 b hb).1, w0⟩
  rintro n s3 ⟨i, σ3, H3, I3, st3, fr3, w3⟩
  rcases turn i n σ3 H3 w3 with ⟨stop, qn⟩ | ⟨go, N, hN, step⟩
  · refine wpAny_passesOwn hp (thn (T.done X rfl rfl rfl hc i pins s3 σ3 H3 X.xe I3 (stat fr3) st3 stop) fun r s4 ⟨hr, I4⟩ => ?_)
    subst hr
    exact wpAny_execs_nil ⟨σ3, H3, I4, qn⟩
  · refine wpAny_passesOwn hp (thn (T.item X rfl rfl rfl hc i pins s3 σ3 H3 X.xe I3 (stat fr3) st3 go) fun r s4 ⟨u, hr, h4⟩ => ?_)
    subst hr
    refine wpAny_passesOwn hp (thn h4 fun _ s5 ⟨x, H5, I5, r5, y5, st5, fr5⟩ => ?_)
    have I5' := I5.pinned (stat fr5) (T.obj _ _ st5)
    refine wpAny_passesOwn hp (thn (hg _ s5 σ3 H5 x u _ I5' r5 (step x H5 y5)) fun _ s6 ⟨σ6, H6, I6, q6⟩ => ?_)
    refine wpAny_passesOwn hp (thn (hb _ s6 σ6 H6 _ I6 q6) fun f s7 q7 => ?_)
    have again : ∀ {σ7 : St} {H7 : Hp}, Inv X (pins ++ pinsAt fp s5.heap) σ7 H7 s7 → N σ7 H7 → ∃ m, m < n ∧ ∃ i σ' H', Inv X pins σ' H' s7 ∧ tn i s7.heap ∧ (∀ b ∈ fp, H' b = none) ∧ W i m σ' H' := fun {σ7 H7} I7 n7 => by
      obtain ⟨m', hm, w7⟩ := hN σ7 H7 n7
      refine ⟨m', hm, i + 1, σ7, H7, I7.unpinned, T.keep _ _ _ st5 fun b hb o e => (I7.pin (b, o) (List.mem_append_right _ (List.mem_append_right _ (mem_pinsAt hb e)))).1, fun b hb => ?_, w7⟩
      obtain ⟨o, e, d⟩ := T.obj _ _ st5 b hb
      exact (I7.pin (b, o) (List.mem_append_right _ (List.mem_append_right _ (mem_pinsAt hb e)))).2.1
    cases f with
    | next => obtain ⟨σ7, H7, I7, n7⟩ := q7; exact again I7 n7
    | cont => obtain ⟨σ7, H7, I7, n7⟩ := q7; exact again I7 n7
    | brk => obtain ⟨σ7, H7, I7, q7⟩ := q7; exact ⟨σ7, H7, I7.unpinned, q7⟩
    | ret v => obtain ⟨x7, σ7, H7, I7, r7, q7⟩ := q7; exact ⟨x7, σ7, H7, I7.unpinned, r7, q7⟩
end

/-! ### the forms one uses -/
/-- over a list that the body leaves as it is -/
theorem for_list {K : PySem.W.Frag} {a : Addr} {xs : List V} {g : TG} {tb : TS} {D : Ends} {σ : St} {H : Hp} (Pv : Nat → St → Hp → Prop) (h0 : Pv 0 σ H) (hl : ∀ i σ H, i ≤ xs.length → Pv i σ H → SqL K H a xs)
    (hs : ∀ i x σ H, xs[i]? = some x → Pv i σ H → g x σ H fun σ2 H2 => tb { D with nx := Pv (i + 1), ct := Pv (i + 1), bk := D.nx } σ2 H2) (hd : ∀ σ H, Pv xs.length σ H → D.nx σ H) :
    ∃ W : Nat → Nat → St → Hp → Prop, (∃ m, W 0 m σ H) ∧ ∀ i m σ H, W i m σ H →
      ((Itl K a).stop i H ∧ D.nx σ H) ∨ ((Itl K a).go i H ∧ ∃ N : St → Hp → Prop, (∀ σ' H', N σ' H' → ∃ m', m' < m ∧ W (i + 1) m' σ' H') ∧ ∀ x H', (Itl K a).yld i H x H' → g x σ H' fun σ2 H2 => tb { D with nx := N, ct := N, bk := D.nx } σ2 H2) := by
  refine ⟨fun i m σ H => m = xs.length - i ∧ i ≤ xs.length ∧ Pv i σ H, ⟨xs.length, by simp, Nat.zero_le _, h0⟩, ?_⟩
  rintro i m σ H ⟨rfl, hi, p⟩
  have q := hl i σ H hi p
  by_cases hlt : i < xs.length
  · refine .inr ⟨⟨xs, xs[i], q, by simp [hlt]⟩, Pv (i + 1), fun σ' H' p' => ⟨xs.length - (i + 1), by omega, rfl, hlt, p'⟩, fun x H' y => ?_⟩
    obtain ⟨e, y⟩ := y
    subst e
    exact hs i x σ _ (y xs q) p
  · have e : i = xs.length := by omega
    subst e
    exact .inl ⟨⟨xs, q, Nat.le_refl _⟩, hd σ H p⟩
theorem for_tup {K : PySem.W.Frag} {a : Addr} {xs : List V} {g : TG} {tb : TS} {D : Ends} {σ : St} {H : Hp} (Pv : Nat → St → Hp → Prop) (h0 : Pv 0 σ H) (hl : ∀ i σ H, i ≤ xs.length → Pv i σ H → SqT K H a xs)
    (hs : ∀ i x σ H, xs[i]? = some x → Pv i σ H → g x σ H fun σ2 H2 => tb { D with nx := Pv (i + 1), ct := Pv (i + 1), bk := D.nx } σ2 H2) (hd : ∀ σ H, Pv xs.length σ H → D.nx σ H) :
    ∃ W : Nat → Nat → St → Hp → Prop, (∃ m, W 0 m σ H) ∧ ∀ i m σ H, W i m σ H →
      ((Itt K a).stop i H ∧ D.nx σ H) ∨ ((Itt K a).go i H ∧ ∃ N : St → Hp → Prop, (∀ σ' H', N σ' H' → ∃ m', m' < m ∧ W (i + 1) m' σ' H') ∧ ∀ x H', (Itt K a).yld i H x H' → g x σ H' fun σ2 H2 => tb { D with nx := N, ct := N, bk := D.nx } σ2 H2) := by
  refine ⟨fun i m σ H => m = xs.length - i ∧ i ≤ xs.length ∧ Pv i σ H, ⟨xs.length, by simp, Nat.zero_le _, h0⟩, ?_⟩
  rintro i m σ H ⟨rfl, hi, p⟩
  have q := hl i σ H hi p
  by_cases hlt : i < xs.length
  · refine .inr ⟨⟨xs, xs[i], q, by simp [hlt]⟩, Pv (i + 1), fun σ' H' p' => ⟨xs.length - (i + 1), by omega, rfl, hlt, p'⟩, fun x H' y => ?_⟩
    obtain ⟨e, y⟩ := y
    subst e
    exact hs i x σ _ (y xs q) p
  · have e : i = xs.length := by omega
    subst e
    exact .inl ⟨⟨xs, q, Nat.le_refl _⟩, hd σ H p⟩
theorem for_range {lo : Int} {n : Nat} {g : TG} {tb : TS} {D : Ends} {σ : St} {H : Hp} (Pv : Nat → St → Hp → Prop) (h0 : Pv 0 σ H)
    (hs : ∀ i σ H, i < n → Pv i σ H → g (.int (lo + i)) σ H fun σ2 H2 => tb { D with nx := Pv (i + 1), ct := Pv (i + 1), bk := D.nx } σ2 H2) (hd : ∀ σ H, Pv n σ H → D.nx σ H) :
    ∃ W : Nat → Nat → St → Hp → Prop, (∃ m, W 0 m σ H) ∧ ∀ i m σ H, W i m σ H →
      ((Itr lo n).stop i H ∧ D.nx σ H) ∨ ((Itr lo n).go i H ∧ ∃ N : St → Hp → Prop, (∀ σ' H', N σ' H' → ∃ m', m' < m ∧ W (i + 1) m' σ' H') ∧ ∀ x H', (Itr lo n).yld i H x H' → g x σ H' fun σ2 H2 => tb { D with nx := N, ct := N, bk := D.nx } σ2 H2) := by
  refine ⟨fun i m σ H => m = n - i ∧ i ≤ n ∧ Pv i σ H, ⟨n, by simp, Nat.zero_le _, h0⟩, ?_⟩
  rintro i m σ H ⟨rfl, hi, p⟩
  by_cases hlt : i < n
  · refine .inr ⟨hlt, Pv (i + 1), fun σ' H' p' => ⟨n - (i + 1), by omega, rfl, hlt, p'⟩, fun x H' y => ?_⟩
    obtain ⟨e, y⟩ := y
    subst e y
    exact hs i σ _ hlt p
  · have e : i = n := by omega
    subst e
    exact .inl ⟨Nat.le_refl _, hd σ H p⟩
/-- while, by a word and a measure of the state -/
theorem while_by {c : TT} {tb : TS} {D : Ends} {σ : St} {H : Hp} (Pv : St → Hp → Prop) (μ : St → Hp → Nat) (h0 : Pv σ H)
    (hs : ∀ σ H, Pv σ H → c σ H fun b H1 => if b = true then tb { D with nx := fun σ' H' => Pv σ' H' ∧ μ σ' H' < μ σ H, ct := fun σ' H' => Pv σ' H' ∧ μ σ' H' < μ σ H, bk := D.nx } σ H1 else D.nx σ H1)
    (mono : ∀ σ H Q Q', (∀ b H1, Q b H1 → Q' b H1) → c σ H Q → c σ H Q') : tWhile c tb D σ H := by
  refine ⟨fun m σ H => m = μ σ H ∧ Pv σ H, ⟨_, rfl, h0⟩, ?_⟩
  rintro m σ H ⟨rfl, p⟩
  refine mono σ H _ _ (fun b H1 q => ?_) (hs σ H p)
  cases b with
  | true => exact ⟨_, fun σ' H' ⟨p', l⟩ => ⟨_, l, rfl, p'⟩, q⟩
  | false => exact q
end L2

namespace L2
open PySem PySem.Spec PyProof.Rows

abbrev R2 := V → V → Hp → VK → Prop
/-- a two-place operation on values: f is binaryOp op, inplaceOp op or compareOp op -/
def OpR (X : Cx) (f : Value → Value → Sem Value) (r : R2) : Prop :=
  ∀ (pins : List (Addr × Obj)) (s : Shared) (σ : St) (H : Hp) (x y : V) (v u : Value) (Q : VK), Inv X pins σ H s → RelV x v → RelV y u → r x y H Q →
    wpAny (model X.prog X.w) X.A (f v u) (EP X pins σ Q) X.xe s
/-- a one-place operation -/
def UnR (X : Cx) (f : Value → Sem Value) (r : V → Hp → VK → Prop) : Prop :=
  ∀ (pins : List (Addr × Obj)) (s : Shared) (σ : St) (H : Hp) (x : V) (v : Value) (Q : VK), Inv X pins σ H s → RelV x v → r x H Q →
    wpAny (model X.prog X.w) X.A (f v) (EP X pins σ Q) X.xe s
/-- a call of a value that is known (a builtin, a type) with values -/
def CallR (X : Cx) (f : Value) (r : List V → Hp → VK → Prop) : Prop :=
  ∀ (pins : List (Addr × Obj)) (s : Shared) (σ : St) (H : Hp) (xs : List V) (us : List Value) (Q : VK), Inv X pins σ H s → Vals xs us → r xs H Q →
    wpAny (model X.prog X.w) X.A (call f us) (EP X pins σ Q) X.xe s
/-- a value's truth -/
def TruR (X : Cx) (r : V → Hp → (Bool → Hp → Prop) → Prop) : Prop :=
  ∀ (pins : List (Addr × Obj)) (s : Shared) (σ : St) (H : Hp) (x : V) (v : Value) (Q : Bool → Hp → Prop), Inv X pins σ H s → RelV x v → r x H Q →
    wpAny (model X.prog X.w) X.A (truthy v) (TP X pins σ Q) X.xe s

def tOp (r : R2) (ta tb : TE) : TE := fun σ H Q => ta σ H fun x H1 => tb σ H1 fun y H2 => r x y H2 Q
def tUn (r : V → Hp → VK → Prop) (ta : TE) : TE := fun σ H Q => ta σ H fun x H1 => r x H1 Q
/-- ints in, under C, and a value out -/
def rI (C : Int → Int → Prop) (g : Int → Int → V) : R2 := fun x y H Q => ∃ i j, x = .int i ∧ y = .int j ∧ C i j ∧ Q (g i j) H
def rI0 (g : Int → Int → V) : R2 := fun x y H Q => ∃ i j, x = .int i ∧ y = .int j ∧ Q (g i j) H
def rU (g : Int → V) : V → Hp → VK → Prop := fun x H Q => ∃ i, x = .int i ∧ Q (g i) H

section
variable {X : Cx} {a b c : Expr} {ta tb tc : TE} {pos : Pos}

theorem binT (ha : PE X a ta) (hb : PE X b tb) {pins : List (Addr × Obj)} {s : Shared} {σ : St} {H : Hp} {R : V → V → Hp → Prop} (I : Inv X pins σ H s)
    (h : ta σ H fun x H1 => tb σ H1 fun y H2 => R x y H2) {Q : Value → Shared → Prop} {f : Value → Value → Sem Value}
    (hf : ∀ v u s2 x y H2, Inv X pins σ H2 s2 → RelV x v → RelV y u → R x y H2 → wpAny (model X.prog X.w) X.A (f v u) Q X.xe s2) :
    wpAny (model X.prog X.w) X.A (eval a X.env) (fun v s₁ => wpAny (model X.prog X.w) X.A (eval b X.env) (fun u s₂ => wpAny (model X.prog X.w) X.A (f v u) Q X.xe s₂) X.xe s₁) X.xe s := by
  refine thn (ha pins s σ H _ I h) fun v s1 ⟨x, H1, I1, r1, q1⟩ => ?_
  refine thn (hb pins s1 σ H1 _ I1 q1) fun u s2 ⟨y, H2, I2, r2, q2⟩ => ?_
  exact hf v u s2 x y H2 I2 r1 r2 q2

theorem pe_op {op : Operator} {r : R2} (ho : OpR X (binaryOp op) r) (ha : PE X a ta) (hb : PE X b tb) : PE X (.BinOp a op b pos) (tOp r ta tb) := by
  intro pins s σ H Q I h
  exact wpAny_BinOp (binT ha hb I h fun v u s2 x y H2 I2 rx ry q => ho pins s2 σ H2 x y v u Q I2 rx ry q)
theorem pe_un {op : UnaryOp} {r : V → Hp → VK → Prop} (ho : UnR X (unaryOp op) r) (ha : PE X a ta) : PE X (.UnaryOp op a pos) (tUn r ta) := by
  intro pins s σ H Q I h
  exact UnaryOp_ (thn (ha pins s σ H _ I h) fun v s1 ⟨x, H1, I1, r1, q1⟩ => ho pins s1 σ H1 x v Q I1 r1 q1)
/-- a op= e at a name: the name's slot i -/
theorem augR {op : Operator} {r : R2} (ho : OpR X (inplaceOp op) r) {pins : List (Addr × Obj)} {s : Shared} {σ : St} {H : Hp} {x y : V} {v u : Value} {Q : VK} (I : Inv X pins σ H s)
    (rx : RelV x v) (ry : RelV y u) (q : r x y H Q) : wpAny (model X.prog X.w) X.A (inplaceOp op v u) (EP X pins σ Q) X.xe s := ho pins s σ H x y v u Q I rx ry q

/-! ### ints -/
theorem opI {f : Value → Value → Sem Value} {C : Int → Int → Prop} {g : Int → Int → Int}
    (rule : ∀ (i j : Int) (t u : Tok) (s : Shared) (Q : Value → Shared → Prop) (E : Value → Shared → Prop), C i j → Q (.int (g i j) s.toks) { s with toks := s.toks + 1 } → wpAny (model X.prog X.w) X.A (f (.int i t) (.int j u)) Q E s) :
    OpR X f (rI C fun i j => .int (g i j)) := by
  intro pins s σ H x y v u Q I rx ry h
  obtain ⟨i, j, rfl, rfl, hc, q⟩ := h
  obtain ⟨t, rfl⟩ := rx
  obtain ⟨t', rfl⟩ := ry
  exact rule i j t t' s _ _ hc ⟨.int (g i j), H, I.tok _, ⟨_, rfl⟩, q⟩
theorem opI0 {f : Value → Value → Sem Value} {g : Int → Int → Int}
    (rule : ∀ (i j : Int) (t u : Tok) (s : Shared) (Q : Value → Shared → Prop) (E : Value → Shared → Prop), Q (.int (g i j) s.toks) { s with toks := s.toks + 1 } → wpAny (model X.prog X.w) X.A (f (.int i t) (.int j u)) Q E s) :
    OpR X f (rI0 fun i j => .int (g i j)) := by
  intro pins s σ H x y v u Q I rx ry h
  obtain ⟨i, j, rfl, rfl, q⟩ := h
  obtain ⟨t, rfl⟩ := rx
  obtain ⟨t', rfl⟩ := ry
  exact rule i j t t' s _ _ ⟨.int (g i j), H, I.tok _, ⟨_, rfl⟩, q⟩
theorem opB0 {f : Value → Value → Sem Value} {g : Int → Int → Bool}
    (rule : ∀ (i j : Int) (t u : Tok) (s : Shared) (Q : Value → Shared → Prop) (E : Value → Shared → Prop), Q (.bool (g i j)) s → wpAny (model X.prog X.w) X.A (f (.int i t) (.int j u)) Q E s) :
    OpR X f (rI0 fun i j => .bl (g i j)) := by
  intro pins s σ H x y v u Q I rx ry h
  obtain ⟨i, j, rfl, rfl, q⟩ := h
  obtain ⟨t, rfl⟩ := rx
  obtain ⟨t', rfl⟩ := ry
  exact rule i j t t' s _ _ ⟨.bl (g i j), H, I, rfl, q⟩

def CDiv (i j : Int) : Prop := 0 < j ∧ j < 1073741824
def CDivN (i j : Int) : Prop := j ≠ 0 ∧ j.natAbs < 1073741824
def CPow (i j : Int) : Prop := 0 ≤ j ∧ j ≤ 1000000 ∧ i.natAbs < 2 ^ 64
def CMul (i j : Int) : Prop := (-(2 ^ 64) < i ∧ i < 2 ^ 64) ∨ (-(2 ^ 64) < j ∧ j < 2 ^ 64)
theorem CMul.ok {i j : Int} (h : CMul i j) : IntMulOk i j := by
  rcases h with ⟨h1, h2⟩ | ⟨h1, h2⟩
  · exact .of_left (intBits_le_64 h1 h2)
  · exact .of_right (intBits_le_64 h1 h2)
theorem two_pow_nn (k : Nat) : (0 : Int) ≤ 2 ^ k := by
  rw [two_pow_cast]
  exact Int.natCast_nonneg _

theorem op_add : OpR X (binaryOp .Add) (rI0 fun i j => .int (i + j)) := opI0 fun _ _ _ _ _ _ _ q => add_int q
theorem op_sub : OpR X (binaryOp .Sub) (rI0 fun i j => .int (i - j)) := opI0 fun _ _ _ _ _ _ _ q => sub_int q
theorem op_mul : OpR X (binaryOp .Mult) (rI CMul fun i j => .int (i * j)) := opI fun _ _ _ _ _ _ _ hc q => mul_int q hc.ok
/-- // by a positive divisor -/
theorem op_fdiv : OpR X (binaryOp .FloorDiv) (rI CDiv fun i j => .int (i / j)) := opI fun i j _ _ _ _ _ hc q => by
  have h1 : (0 : Int) < j := hc.1
  have h2 : j < 1073741824 := hc.2
  exact floordiv_int (by omega) (by rw [Int.fdiv_eq_ediv_of_nonneg i (by omega)]; exact q) (.inl (PyProof.noPylong_small (by omega)))
theorem op_fdivN : OpR X (binaryOp .FloorDiv) (rI CDivN fun i j => .int (i.fdiv j)) := opI fun _ _ _ _ _ _ _ hc q => floordiv_int hc.1 q (.inl (PyProof.noPylong_small hc.2))
/-- % by a positive divisor of any size -/
theorem op_mod : OpR X (binaryOp .Mod) (rI (fun _ j => 0 < j) fun i j => .int (i % j)) := opI fun i j _ _ _ _ _ hc q => by
  have h1 : (0 : Int) < j := hc
  exact mod_int' (by omega) (by rw [Int.fmod_eq_emod_of_nonneg i (by omega)]; exact q)
theorem op_modN : OpR X (binaryOp .Mod) (rI (fun _ j => j ≠ 0) fun i j => .int (i.fmod j)) := opI fun _ _ _ _ _ _ _ hc q => mod_int' hc q
theorem op_pow : OpR X (binaryOp .Pow) (rI CPow fun i j => .int (i ^ j.toNat)) := opI fun _ _ _ _ _ _ _ hc q => pow_int_small hc.1 hc.2.1 hc.2.2 q
theorem op_shl : OpR X (binaryOp .LShift) (rI CPow fun i j => .int (i * 2 ^ j.toNat)) := opI fun _ _ _ _ _ _ _ hc q => lshift_int_small hc.1 hc.2.1 hc.2.2 q
theorem op_shr : OpR X (binaryOp .RShift) (rI (fun _ j => 0 ≤ j) fun i j => .int (i / 2 ^ j.toNat)) := opI fun i j _ _ _ _ _ hc q =>
  rshift_int hc (by rw [Int.fdiv_eq_ediv_of_nonneg i (two_pow_nn _)]; exact q)
theorem op_and : OpR X (binaryOp .BitAnd) (rI0 fun i j => .int (Builtin.bitAnd i j)) := opI0 fun _ _ _ _ _ _ _ q => and_int q
theorem op_or : OpR X (binaryOp .BitOr) (rI0 fun i j => .int (Builtin.bitOr i j)) := opI0 fun _ _ _ _ _ _ _ q => or_int q
theorem op_xor : OpR X (binaryOp .BitXor) (rI0 fun i j => .int (Builtin.bitXor i j)) := opI0 fun _ _ _ _ _ _ _ q => xor_int q

theorem iop_add : OpR X (inplaceOp .Add) (rI0 fun i j => .int (i + j)) := opI0 fun _ _ _ _ _ _ _ q => iadd_int q
theorem iop_sub : OpR X (inplaceOp .Sub) (rI0 fun i j => .int (i - j)) := opI0 fun _ _ _ _ _ _ _ q => isub_int q
theorem iop_mul : OpR X (inplaceOp .Mult) (rI CMul fun i j => .int (i * j)) := opI fun _ _ _ _ _ _ _ hc q => imul_int q hc.ok
theorem iop_fdiv : OpR X (inplaceOp .FloorDiv) (rI CDiv fun i j => .int (i / j)) := opI fun i j _ _ _ _ _ hc q => by
  have h1 : (0 : Int) < j := hc.1
  have h2 : j < 1073741824 := hc.2
  exact ifloordiv_int (by omega) (by rw [Int.fdiv_eq_ediv_of_nonneg i (by omega)]; exact q) (.inl (PyProof.noPylong_small (by omega)))
theorem iop_mod : OpR X (inplaceOp .Mod) (rI (fun _ j => 0 < j) fun i j => .int (i % j)) := opI fun i j _ _ _ _ _ hc q => by
  have h1 : (0 : Int) < j := hc
  exact imod_int (by omega) (by rw [Int.fmod_eq_emod_of_nonneg i (by omega)]; exact q)
theorem iop_shl : OpR X (inplaceOp .LShift) (rI CPow fun i j => .int (i * 2 ^ j.toNat)) := opI fun _ _ _ _ _ _ _ hc q => ilshift_int_small hc.1 hc.2.1 hc.2.2 q
theorem iop_shr : OpR X (inplaceOp .RShift) (rI (fun _ j => 0 ≤ j) fun i j => .int (i / 2 ^ j.toNat)) := opI fun i j _ _ _ _ _ hc q =>
  irshift_int hc (by rw [Int.fdiv_eq_ediv_of_nonneg i (two_pow_nn _)]; exact q)
theorem iop_and : OpR X (inplaceOp .BitAnd) (rI0 fun i j => .int (Builtin.bitAnd i j)) := opI0 fun _ _ _ _ _ _ _ q => iand_int q
theorem iop_or : OpR X (inplaceOp .BitOr) (rI0 fun i j => .int (Builtin.bitOr i j)) := opI0 fun _ _ _ _ _ _ _ q => ior_int q
theorem iop_xor : OpR X (inplaceOp .BitXor) (rI0 fun i j => .int (Builtin.bitXor i j)) := opI0 fun _ _ _ _ _ _ _ q => ixor_int q

theorem unI {f : Value → Sem Value} {g : Int → Int}
    (rule : ∀ (i : Int) (t : Tok) (s : Shared) (Q : Value → Shared → Prop) (E : Value → Shared → Prop), Q (.int (g i) s.toks) { s with toks := s.toks + 1 } → wpAny (model X.prog X.w) X.A (f (.int i t)) Q E s) :
    UnR X f (rU fun i => .int (g i)) := by
  intro pins s σ H x v Q I rx h
  obtain ⟨i, rfl, q⟩ := h
  obtain ⟨t, rfl⟩ := rx
  exact rule i t s _ _ ⟨.int (g i), H, I.tok _, ⟨_, rfl⟩, q⟩
theorem un_neg : UnR X (unaryOp .USub) (rU fun i => .int (-i)) := unI fun _ _ _ _ _ q => neg_int q
theorem un_inv : UnR X (unaryOp .Invert) (rU fun i => .int (Builtin.bitNot i)) := unI fun _ _ _ _ _ q => invert_int q

/-! ### bools among ints: n += (a < b) -/
theorem op_add_ib : OpR X (binaryOp .Add) (fun x y H Q => ∃ i k, x = .int i ∧ y = .bl k ∧ Q (.int (i + b2i k)) H) := by
  intro pins s σ H x y v u Q I rx ry h
  obtain ⟨i, k, rfl, rfl, q⟩ := h
  obtain ⟨t, rfl⟩ := rx
  cases ry
  exact add_int_bool ⟨.int (i + b2i k), H, I.tok _, ⟨_, rfl⟩, q⟩
end

/-! ### comparisons -/
/-- the scalars that == tells apart as data does -/
def scal : V → V → Bool
  | .non, .non => true | .non, .int _ => true | .int _, .non => true | .non, .bl _ => true | .bl _, .non => true | .non, .str _ => true | .str _, .non => true
  | .int _, .int _ => true | .bl _, .bl _ => true | .str _, .str _ => true | .byt _, .byt _ => true
  | .int _, .str _ => true | .str _, .int _ => true | .bl _, .str _ => true | .str _, .bl _ => true
  | _, _ => false
def rEq : R2 := fun x y H Q => scal x y = true ∧ Q (.bl (decide (x = y))) H
def rNe : R2 := fun x y H Q => scal x y = true ∧ Q (.bl (!decide (x = y))) H

theorem dec_int {i j : Int} : decide (V.int i = V.int j) = (i == j) := by
  rw [Bool.eq_iff_iff]
  simp
theorem dec_bl {i j : Bool} : decide (V.bl i = V.bl j) = (i == j) := by
  rw [Bool.eq_iff_iff]
  simp
theorem dec_str {i j : Str} : decide (V.str i = V.str j) = (i == j) := by
  rw [Bool.eq_iff_iff]
  simp
theorem dec_byt {i j : Array UInt8} : decide (V.byt i = V.byt j) = (i.toList == j.toList) := by
  rw [Bool.eq_iff_iff]
  cases i
  cases j
  simp

section
variable {X : Cx} {a b c : Expr} {ta tb tc : TE} {pos : Pos}
theorem fin_bl {pins : List (Addr × Obj)} {σ : St} {H : Hp} {s : Shared} {Q : VK} {k k' : Bool} (I : Inv X pins σ H s) (q : Q (.bl k) H) (e : k = k') : EP X pins σ Q (.bool k') s := by
  subst e
  exact ⟨.bl k, H, I, rfl, q⟩
theorem op_eq : OpR X (compareOp .Eq) rEq := by
  intro pins s σ H x y v u Q I rx ry h
  obtain ⟨hs, q⟩ := h
  cases x with
  | non =>
    cases rx
    cases y with
    | non => cases ry; exact PySem.EqNone.eq_none_none (fin_bl I q (by simp))
    | bl j => cases ry; exact PySem.EqNone.eq_none_bool (fin_bl I q (by simp))
    | int j => obtain ⟨t', rfl⟩ := ry; exact PySem.EqNone.eq_none_int (fin_bl I q (by simp))
    | str j => obtain ⟨t', rfl⟩ := ry; exact PySem.EqNone.eq_none_str (fin_bl I q (by simp))
    | _ => exact absurd (show false = true from hs) Bool.false_ne_true
  | bl i =>
    cases rx
    cases y with
    | non => cases ry; exact PySem.EqNone.eq_bool_none (fin_bl I q (by simp))
    | bl j => cases ry; exact eq_bool (fin_bl I q dec_bl)
    | str j => obtain ⟨t', rfl⟩ := ry; exact PySem.EqMixed.eq_bool_str (fin_bl I q (by simp))
    | _ => exact absurd (show false = true from hs) Bool.false_ne_true
  | int i =>
    obtain ⟨t, rfl⟩ := rx
    cases y with
    | non => cases ry; exact PySem.EqNone.eq_int_none (fin_bl I q (by simp))
    | int j => obtain ⟨t', rfl⟩ := ry; exact eq_int (fin_bl I q dec_int)
    | str j => obtain ⟨t', rfl⟩ := ry; exact PySem.EqMixed.eq_int_str (fin_bl I q (by simp))
    | _ => exact absurd (show false = true from hs) Bool.false_ne_true
  | str i =>
    obtain ⟨t, rfl⟩ := rx
    cases y with
    | non => cases ry; exact PySem.EqNone.eq_str_none (fin_bl I q (by simp))
    | bl j => cases ry; exact PySem.EqMixed.eq_str_bool (fin_bl I q (by simp))
    | int j => obtain ⟨t', rfl⟩ := ry; exact PySem.EqMixed.eq_str_int (fin_bl I q (by simp))
    | str j => obtain ⟨t', rfl⟩ := ry; exact eq_str (fin_bl I q dec_str)
    | _ => exact absurd (show false = true from hs) Bool.false_ne_true
  | byt i =>
    obtain ⟨t, rfl⟩ := rx
    cases y with
    | byt j => obtain ⟨t', rfl⟩ := ry; exact PySem.W.eq_bytes (fin_bl I q dec_byt)
    | _ => exact absurd (show false = true from hs) Bool.false_ne_true
  | _ => cases y <;> exact absurd (show false = true from hs) Bool.false_ne_true
theorem op_ne : OpR X (compareOp .NotEq) rNe := by
  intro pins s σ H x y v u Q I rx ry h
  obtain ⟨hs, q⟩ := h
  cases x with
  | non =>
    cases rx
    cases y with
    | non => cases ry; exact PySem.EqNone.ne_none_none (fin_bl I q (by simp))
    | bl j => cases ry; exact PySem.EqNone.ne_none_bool (fin_bl I q (by simp))
    | int j => obtain ⟨t', rfl⟩ := ry; exact PySem.EqNone.ne_none_int (fin_bl I q (by simp))
    | str j => obtain ⟨t', rfl⟩ := ry; exact PySem.EqNone.ne_none_str (fin_bl I q (by simp))
    | _ => exact absurd (show false = true from hs) Bool.false_ne_true
  | bl i =>
    cases rx
    cases y with
    | non => cases ry; exact PySem.EqNone.ne_bool_none (fin_bl I q (by simp))
    | bl j => cases ry; exact ne_bool (fin_bl I q (congrArg not dec_bl))
    | str j => obtain ⟨t', rfl⟩ := ry; exact PySem.EqMixed.ne_bool_str (fin_bl I q (by simp))
    | _ => exact absurd (show false = true from hs) Bool.false_ne_true
  | int i =>
    obtain ⟨t, rfl⟩ := rx
    cases y with
    | non => cases ry; exact PySem.EqNone.ne_int_none (fin_bl I q (by simp))
    | int j => obtain ⟨t', rfl⟩ := ry; exact ne_int (fin_bl I q (congrArg not dec_int))
    | str j => obtain ⟨t', rfl⟩ := ry; exact PySem.EqMixed.ne_int_str (fin_bl I q (by simp))
    | _ => exact absurd (show false = true from hs) Bool.false_ne_true
  | str i =>
    obtain ⟨t, rfl⟩ := rx
    cases y with
    | non => cases ry; exact PySem.EqNone.ne_str_none (fin_bl I q (by simp))
    | bl j => cases ry; exact PySem.EqMixed.ne_str_bool (fin_bl I q (by simp))
    | int j => obtain ⟨t', rfl⟩ := ry; exact PySem.EqMixed.ne_str_int (fin_bl I q (by simp))
    | str j => obtain ⟨t', rfl⟩ := ry; exact ne_str (fin_bl I q (congrArg not dec_str))
    | _ => exact absurd (show false = true from hs) Bool.false_ne_true
  | byt i =>
    obtain ⟨t, rfl⟩ := rx
    cases y with
    | byt j => obtain ⟨t', rfl⟩ := ry; exact PySem.W.ne_bytes (fin_bl I q (congrArg not dec_byt))
    | _ => exact absurd (show false = true from hs) Bool.false_ne_true
  | _ => cases y <;> exact absurd (show false = true from hs) Bool.false_ne_true

theorem op_lt : OpR X (compareOp .Lt) (rI0 fun i j => .bl (decide (i < j))) := opB0 fun _ _ _ _ _ _ _ q => lt_int q
theorem op_le : OpR X (compareOp .LtE) (rI0 fun i j => .bl (decide (i ≤ j))) := opB0 fun _ _ _ _ _ _ _ q => le_int q
theorem op_gt : OpR X (compareOp .Gt) (rI0 fun i j => .bl (decide (j < i))) := opB0 fun _ _ _ _ _ _ _ q => gt_int q
theorem op_ge : OpR X (compareOp .GtE) (rI0 fun i j => .bl (decide (j ≤ i))) := opB0 fun _ _ _ _ _ _ _ q => ge_int q
theorem op_lt_str : OpR X (compareOp .Lt) (fun x y H Q => ∃ i j, x = .str i ∧ y = .str j ∧ Q (.bl (decide (i.cps.toList < j.cps.toList))) H) := by
  intro pins s σ H x y v u Q I rx ry h
  obtain ⟨i, j, rfl, rfl, q⟩ := h
  obtain ⟨t, rfl⟩ := rx
  obtain ⟨t', rfl⟩ := ry
  exact lt_str (fin_bl I q rfl)
/-- the one string within the other -/
theorem op_in_str : OpR X (compareOp .In) (fun x y H Q => ∃ i j, x = .str i ∧ y = .str j ∧ Q (.bl (!(Builtin.Str.occurrences j i 0 j.length 1).isEmpty)) H) := by
  intro pins s σ H x y v u Q I rx ry h
  obtain ⟨i, j, rfl, rfl, q⟩ := h
  obtain ⟨t, rfl⟩ := rx
  obtain ⟨t', rfl⟩ := ry
  exact in_str (fin_bl I q rfl)

/-- is None, is not None: the right side a value none -/
theorem op_isN : OpR X (compareOp .Is) (fun x y H Q => y = .non ∧ Q (.bl (decide (x = .non))) H) := by
  intro pins s σ H x y v u Q I rx ry h
  obtain ⟨rfl, q⟩ := h
  cases ry
  refine is_none_gen (fin_bl I q ?_)
  cases x <;> first
    | (cases rx; rfl)
    | (obtain ⟨t, rfl⟩ := rx; rfl)
theorem op_notN : OpR X (compareOp .IsNot) (fun x y H Q => y = .non ∧ Q (.bl (!decide (x = .non))) H) := by
  intro pins s σ H x y v u Q I rx ry h
  obtain ⟨rfl, q⟩ := h
  cases ry
  refine isnot_none_gen (fin_bl I q ?_)
  cases x <;> first
    | (cases rx; rfl)
    | (obtain ⟨t, rfl⟩ := rx; rfl)

theorem op_notin_str : OpR X (compareOp .NotIn) (fun x y H Q => ∃ i j, x = .str i ∧ y = .str j ∧ Q (.bl (!(!(Builtin.Str.occurrences j i 0 j.length 1).isEmpty))) H) := by
  intro pins s σ H x y v u Q I rx ry h
  obtain ⟨i, j, rfl, rfl, q⟩ := h
  obtain ⟨t, rfl⟩ := rx
  obtain ⟨t', rfl⟩ := ry
  exact notIn_str (fin_bl I q rfl)
/-- is, is not of two objects that are tracked lists or instances -/
def isObj : HO → Bool
  | .lst _ => true
  | .ins _ _ _ => true
  | _ => false
theorem obj_there {pins : List (Addr × Obj)} {s : Shared} {σ : St} {H : Hp} {a : Addr} {o : HO} (I : Inv X pins σ H s) (h : H a = some o) (p : isObj o = true) : ∃ ob, s.heap.get? a = some ob ∧ ob.cls ≠ .type "tuple" := by
  cases o with
  | lst xs =>
    obtain ⟨_, its, n, _, e⟩ : xs.length ≤ sizeLine ∧ ∃ (its : List Value) (n : Nat), Vals xs its ∧ s.heap.get? a = some { cls := .type "list", data := .seq its.toArray n } := I.hok a _ h
    exact ⟨_, e, (by show Value.type "list" ≠ .type "tuple"; decide +kernel)⟩
  | ins C dx fs =>
    have x := I.hok a _ h
    obtain ⟨_, _, _, e, _⟩ := x
    exact ⟨_, e, (by show Value.ref C ≠ .type "tuple"; exact fun z => by cases z)⟩
  | _ => exact absurd (show false = true from p) Bool.false_ne_true
theorem op_is_ref : OpR X (compareOp .Is) (fun x y H Q => ∃ a b oa ob, x = .ref a ∧ y = .ref b ∧ H a = some oa ∧ isObj oa = true ∧ H b = some ob ∧ isObj ob = true ∧ Q (.bl (decide (a = b))) H) := by
  intro pins s σ H x y v u Q I rx ry h
  obtain ⟨a, b, oa, ob, rfl, rfl, ha, pa, hb, pb, q⟩ := h
  cases rx
  cases ry
  obtain ⟨o1, e1, n1⟩ := obj_there I ha pa
  obtain ⟨o2, e2, _⟩ := obj_there I hb pb
  by_cases z : a = b
  · subst z
    exact wpAny_is_ref_self (fin_bl I q (by simp))
  · exact wpAny_is_ref_other z e1 e2 n1 (fin_bl I q (by simp [z]))
theorem op_isnot_ref : OpR X (compareOp .IsNot) (fun x y H Q => ∃ a b oa ob, x = .ref a ∧ y = .ref b ∧ H a = some oa ∧ isObj oa = true ∧ H b = some ob ∧ isObj ob = true ∧ Q (.bl (!decide (a = b))) H) := by
  intro pins s σ H x y v u Q I rx ry h
  obtain ⟨a, b, oa, ob, rfl, rfl, ha, pa, hb, pb, q⟩ := h
  cases rx
  cases ry
  obtain ⟨o1, e1, n1⟩ := obj_there I ha pa
  obtain ⟨o2, e2, _⟩ := obj_there I hb pb
  by_cases z : a = b
  · subst z
    exact wpAny_isNot_ref_self (fin_bl I q (by simp))
  · exact wpAny_isNot_ref_other z e1 e2 n1 (fin_bl I q (by simp [z]))

/-- two rules for one operation: by cases -/
theorem OpR.or {f : Value → Value → Sem Value} {r r' : R2} (h : OpR X f r) (h' : OpR X f r') : OpR X f (fun x y H Q => r x y H Q ∨ r' x y H Q) := by
  intro pins s σ H x y v u Q I rx ry q
  rcases q with q | q
  · exact h pins s σ H x y v u Q I rx ry q
  · exact h' pins s σ H x y v u Q I rx ry q

theorem nomark (b : Expr) {op : CmpOp} (h : op ≠ .In := by decide) (h2 : op ≠ .NotIn := by decide) : behindInMarks op b = false := by
  have e1 : (op == CmpOp.In) = false := by cases op <;> first | rfl | exact absurd rfl h
  have e2 : (op == CmpOp.NotIn) = false := by cases op <;> first | rfl | exact absurd rfl h2
  cases b <;> simp [behindInMarks, e1, e2]
/-- a comparison as a value; hm: nomark b, or (for in, not in) by with_unfolding_all rfl -/
theorem pe_cmpR {op : CmpOp} {r : R2} (ho : OpR X (compareOp op) r) (ha : PE X a ta) (hb : PE X b tb) (hm : behindInMarks op b = false) : PE X (.Compare a [op] [b] pos) (tOp r ta tb) := by
  intro pins s σ H Q I h
  exact wpAny_Compare1 (binT ha hb I h fun v u s2 x y H2 I2 rx ry q => ho pins s2 σ H2 x y v u Q I2 rx ry q) hm
/-- a reading of a value as a test -/
def tTest (t : TE) : TT := fun σ H Q => t σ H fun x H' => ∃ k, x = .bl k ∧ Q k H'
theorem pt_cmpR {op : CmpOp} {r : R2} (ho : OpR X (compareOp op) r) (ha : PE X a ta) (hb : PE X b tb) (hm : behindInMarks op b = false) : PT X (.Compare a [op] [b] pos) (tTest (tOp r ta tb)) := by
  intro pins s σ H Q I h
  refine wpAny_isTrue_Compare1 (thn (ha pins s σ H _ I h) fun v s1 ⟨x, H1, I1, r1, q1⟩ => thn (hb pins s1 σ H1 _ I1 q1) fun u s2 ⟨y, H2, I2, r2, q2⟩ =>
    thn (ho pins s2 σ H2 x y v u _ I2 r1 r2 q2) fun c s3 ⟨z, H3, I3, r3, k, e, q3⟩ => ?_) hm
  subst e
  cases r3
  exact wpAny_truthy_bool ⟨H3, I3, q3⟩
/-- a op1 b op2 c -/
def tChain (r r' : R2) (ta tb tc : TE) : TE := fun σ H Q => ta σ H fun x H1 => tb σ H1 fun y H2 => r x y H2 fun z H3 => ∃ k, z = .bl k ∧
  (if k = true then tc σ H3 fun w' H4 => r' y w' H4 Q else Q (.bl false) H3)
theorem pe_chain {op op' : CmpOp} {r r' : R2} (ho : OpR X (compareOp op) r) (ho' : OpR X (compareOp op') r') (ha : PE X a ta) (hb : PE X b tb) (hc : PE X c tc)
    (hm : lastMarks [op, op'] [b, c] = false := by with_unfolding_all rfl) : PE X (.Compare a [op, op'] [b, c] pos) (tChain r r' ta tb tc) := by
  intro pins s σ H Q I h
  refine Compare_chain (thn (ha pins s σ H _ I h) fun v s1 ⟨x, H1, I1, r1, q1⟩ => chain_link (thn (hb pins s1 σ H1 _ I1 q1) fun u s2 ⟨y, H2, I2, r2, q2⟩ =>
    thn (ho pins s2 σ H2 x y v u _ I2 r1 r2 q2) fun d s3 ⟨z, H3, I3, r3, k, e, q3⟩ => ?_)) hm
  subst e
  cases r3
  refine wpAny_truthy_bool ?_
  cases k with
  | false => exact ite_ff ⟨.bl false, H3, I3, rfl, q3⟩
  | true => exact ite_tt (chain_last (thn (hc pins s3 σ H3 _ I3 q3) fun w' s4 ⟨z', H4, I4, r4, q4⟩ => ho' pins s4 σ H4 y z' u w' Q I4 r2 r4 q4))
theorem pt_chain {op op' : CmpOp} {r r' : R2} (ho : OpR X (compareOp op) r) (ho' : OpR X (compareOp op') r') (ha : PE X a ta) (hb : PE X b tb) (hc : PE X c tc)
    (hm : lastMarks [op, op'] [b, c] = false := by with_unfolding_all rfl) : PT X (.Compare a [op, op'] [b, c] pos) (tTest (tChain r r' ta tb tc)) := by
  intro pins s σ H Q I h
  refine isTrue_chain (thn (ha pins s σ H _ I h) fun v s1 ⟨x, H1, I1, r1, q1⟩ => test_link (thn (hb pins s1 σ H1 _ I1 q1) fun u s2 ⟨y, H2, I2, r2, q2⟩ =>
    thn (ho pins s2 σ H2 x y v u _ I2 r1 r2 q2) fun d s3 ⟨z, H3, I3, r3, k, e, q3⟩ => ?_)) hm
  subst e
  cases r3
  refine wpAny_truthy_bool ?_
  cases k with
  | false =>
    obtain ⟨k', e', q'⟩ := q3
    cases e'
    exact ite_ff ⟨H3, I3, q'⟩
  | true =>
    refine ite_tt (test_last (thn (hc pins s3 σ H3 _ I3 q3) fun w' s4 ⟨z', H4, I4, r4, q4⟩ => thn (ho' pins s4 σ H4 y z' u w' _ I4 r2 r4 q4) fun d' s5 ⟨z2, H5, I5, r5, k2, e2, q5⟩ => ?_))
    subst e2
    cases r5
    exact wpAny_truthy_bool ⟨H5, I5, q5⟩

/-! ### truth -/
/-- a value's truth by the abstract heap -/
def TruV (K : PySem.W.Frag) (x : V) (H : Hp) (k : Bool) : Prop :=
  match x with
  | .non => k = false
  | .bl b => k = b
  | .int i => k = (i != 0)
  | .str y => y.length ≤ sizeLine ∧ k = ((y.length : Int) != 0)
  | .byt y => y.size ≤ sizeLine ∧ k = ((y.size : Int) != 0)
  | .ref p => (∃ xs, SqL K H p xs ∧ k = !xs.isEmpty) ∨ (∃ xs, SqT K H p xs ∧ k = !xs.isEmpty) ∨ ∃ kvs, H p = some (.dK kvs) ∧ k = !kvs.isEmpty
  | _ => False
theorem isEmpty_kv {κ : Type} {kvs : List (κ × V)} {vs : List (κ × Value)} (r : KV kvs vs) : (!vs.isEmpty) = !kvs.isEmpty := by
  cases r <;> rfl
theorem isEmpty_of {xs : List V} {its : List Value} (r : Vals xs its) : (!its.toArray.isEmpty) = !xs.isEmpty := by
  cases r <;> simp
theorem line63 : (sizeLine : Nat) < 2 ^ 63 := by rw [sizeLine_eq]; decide
theorem tru_ok : TruR X (fun x H Q => ∃ k, TruV X.K x H k ∧ Q k H) := by
  intro pins s σ H x v Q I rx h
  obtain ⟨k, e, q⟩ := h
  have hl := line63
  have hs : sizeLine = 16777216 := sizeLine_eq
  cases x with
  | non =>
    cases rx
    have e' : k = false := e
    subst e'
    exact truthy_none ⟨H, I, q⟩
  | bl b =>
    cases rx
    have e' : k = b := e
    subst e'
    exact wpAny_truthy_bool ⟨H, I, q⟩
  | int i =>
    obtain ⟨t, rfl⟩ := rx
    have e' : k = (i != 0) := e
    subst e'
    exact PySem.P.truthy_int ⟨H, I, q⟩
  | str y =>
    obtain ⟨t, rfl⟩ := rx
    obtain ⟨hy, e'⟩ : y.length ≤ sizeLine ∧ k = ((y.length : Int) != 0) := e
    subst e'
    exact PySem.P.truthy_str (by omega) ⟨H, I.tok _, q⟩
  | byt y =>
    obtain ⟨t, rfl⟩ := rx
    obtain ⟨hy, e'⟩ : y.size ≤ sizeLine ∧ k = ((y.size : Int) != 0) := e
    subst e'
    exact PySem.W.truthy_bytes (by omega) ⟨H, I.tok _, q⟩
  | ref p =>
    cases rx
    have e' : (∃ xs, SqL X.K H p xs ∧ k = !xs.isEmpty) ∨ (∃ xs, SqT X.K H p xs ∧ k = !xs.isEmpty) ∨ ∃ kvs, H p = some (.dK kvs) ∧ k = !kvs.isEmpty := e
    rcases e' with ⟨xs, hx, e'⟩ | ⟨xs, hx, e'⟩ | ⟨kvs, hx, e'⟩
    · subst e'
      obtain ⟨its, r, pl, hz⟩ := I.list hx
      have hlen := r.length
      exact wpAny_truthy_list pl.isList (by simp only [List.size_toArray]; omega) ⟨H, I.tok _, by rw [isEmpty_of r]; exact q⟩
    · subst e'
      obtain ⟨its, r, pl, hz⟩ := I.tuple hx
      have hlen := r.length
      exact truthy_tuple pl (by simp only [List.size_toArray]; omega) ⟨H, I.tok _, by rw [isEmpty_of r]; exact q⟩
    · subst e'
      obtain ⟨hz, hS, vs, r, m⟩ : kvs.length ≤ sizeLine ∧ (p == sysModules) = false ∧ ∃ vs, KV kvs vs ∧ s.heap.DictOf (mixKind X.prog X.w) p vs := I.hok p _ hx
      have hlen : kvs.length = vs.length := Paired.length r
      exact wpAny_truthy_dict hS m (by omega) ⟨H, I.tok _, by rw [isEmpty_kv r]; exact q⟩
  | _ => exact (show False from e).elim
/-- any expression whose test is its value's truth (a name, a call, a subscript, a field ..: he by fun _ => rfl) -/
theorem pt_truth (ha : PE X a ta) (he : ∀ whole, isTrue a X.env whole = (do let v ← whole; standAt a.pos; holding [v] (truthy v))) :
    PT X a (fun σ H Q => ta σ H fun x H' => ∃ k, TruV X.K x H' k ∧ Q k H') := by
  intro pins s σ H Q I h
  exact isTrue_plain (thn (ha pins s σ H _ I h) fun v s1 ⟨x, H1, I1, r1, q1⟩ => tru_ok pins s1 σ H1 x v Q I1 r1 q1) (he _)

/-! ### strs and bytes -/
theorem pe_byt {x : List UInt8} {k : Nat} : PE X (.Constant (.bytes x) k pos) (fun _ H Q => Q (.byt x.toArray) H) := fun _ _ _ H _ I h => PySem.W.Constant_bytes ⟨.byt x.toArray, H, I.tok _, ⟨_, rfl⟩, h⟩
theorem op_add_str : OpR X (binaryOp .Add) (fun x y H Q => ∃ i j, x = .str i ∧ y = .str j ∧ i.length + j.length ≤ sizeLine ∧ Q (.str (i ++ j)) H) := by
  intro pins s σ H x y v u Q I rx ry h
  obtain ⟨i, j, rfl, rfl, hz, q⟩ := h
  obtain ⟨t, rfl⟩ := rx
  obtain ⟨t', rfl⟩ := ry
  exact add_str (fun t' tk => ⟨.str (i ++ j), H, I.tok _, ⟨_, rfl⟩, q⟩) hz
theorem iop_add_str : OpR X (inplaceOp .Add) (fun x y H Q => ∃ i j, x = .str i ∧ y = .str j ∧ i.length + j.length ≤ sizeLine ∧ Q (.str (i ++ j)) H) := by
  intro pins s σ H x y v u Q I rx ry h
  obtain ⟨i, j, rfl, rfl, hz, q⟩ := h
  obtain ⟨t, rfl⟩ := rx
  obtain ⟨t', rfl⟩ := ry
  exact iadd_str (fun t' tk => ⟨.str (i ++ j), H, I.tok _, ⟨_, rfl⟩, q⟩) hz
theorem op_add_byt : OpR X (binaryOp .Add) (fun x y H Q => ∃ i j, x = .byt i ∧ y = .byt j ∧ i.size + j.size ≤ 16777216 ∧ Q (.byt (i ++ j)) H) := by
  intro pins s σ H x y v u Q I rx ry h
  obtain ⟨i, j, rfl, rfl, hz, q⟩ := h
  obtain ⟨t, rfl⟩ := rx
  obtain ⟨t', rfl⟩ := ry
  exact PySem.W.KBy.add_bytes hz (fun t' tk => ⟨.byt (i ++ j), H, I.tok _, ⟨_, rfl⟩, q⟩)

def PlainIxT (b : Expr) : Prop := ∀ o i, subscripted b false o i = operate [o, i] (getItem o i)
/-- s[i], 0 ≤ i < len -/
theorem pe_item_str (ha : PE X a ta) (hb : PE X b tb) (hs : PlainIxT b) :
    PE X (.Subscript a b pos) (tOp (fun x y H Q => ∃ z i c, x = .str z ∧ y = .int i ∧ 0 ≤ i ∧ i < 2 ^ 63 ∧ i < z.length ∧ z.cps[i.toNat]? = some c ∧ Q (.str ⟨#[c]⟩) H) ta tb) := by
  intro pins s σ H Q I h
  refine Subscript_ (binT ha hb I h fun v u s2 x y H2 I2 rx ry q => ?_)
  obtain ⟨z, i, c, rfl, rfl, h0, h63, h1, hc, q⟩ := q
  obtain ⟨t, rfl⟩ := rx
  obtain ⟨t', rfl⟩ := ry
  have e : seqIndex? i z.length = some i.toNat := PySem.StrLaws.seqIndex_nonneg h0 h1
  exact tail_any (typeIs_str s2 z t) slot_str_getitem.lookup (getItem_str (c := c) (by
    have e1 : decide (i < -(2 ^ 63 : Int)) = false := decide_eq_false (by omega)
    have e2 : decide (i ≥ 2 ^ 63) = false := decide_eq_false (by omega)
    rw [e1, e2] <;> rfl) (by rw [e]; exact hc) ⟨.str ⟨#[c]⟩, H2, I2.tok _, ⟨_, rfl⟩, q⟩) (hs _ _)
/-- b[i], 0 ≤ i < len -/
theorem pe_item_byt (ha : PE X a ta) (hb : PE X b tb) (hs : PlainIxT b) :
    PE X (.Subscript a b pos) (tOp (fun x y H Q => ∃ (z : List UInt8) (i : Int), x = .byt z.toArray ∧ y = .int i ∧ z.length ≤ sizeLine ∧ 0 ≤ i ∧ i < z.length ∧ Q (.int ((z.getD i.toNat 0).toNat : Nat)) H) ta tb) := by
  intro pins s σ H Q I h
  refine Subscript_ (binT ha hb I h fun v u s2 x y H2 I2 rx ry q => ?_)
  obtain ⟨z, i, rfl, rfl, hz, h0, h1, q⟩ := q
  obtain ⟨t, rfl⟩ := rx
  obtain ⟨t', rfl⟩ := ry
  have hl : sizeLine = 16777216 := sizeLine_eq
  exact tail_any (PySem.W.typeIs_bytes s2 z.toArray t) PySem.W.FB.slot_bytes_getitem.lookup (PySem.W.getItem_bytes (by omega) h0 h1 ⟨.int ((z.getD i.toNat 0).toNat : Nat), H2, I2.tok _, ⟨_, rfl⟩, q⟩) (hs _ _)

/-! ### scalar builtins, by CallR -/
theorem vals1 {x : V} {us : List Value} (r : Vals [x] us) : ∃ u, us = [u] ∧ RelV x u := by
  cases r with
  | cons r1 r2 => cases r2; exact ⟨_, rfl, r1⟩
theorem vals2 {x y : V} {us : List Value} (r : Vals [x, y] us) : ∃ u w', us = [u, w'] ∧ RelV x u ∧ RelV y w' := by
  cases r with
  | cons r1 r2 =>
    cases r2 with
    | cons r3 r4 => cases r4; exact ⟨_, _, rfl, r1, r3⟩
theorem call_abs : CallR X (.builtin "abs") (fun xs H Q => ∃ i, xs = [.int i] ∧ Q (.int (if i < 0 then -i else i)) H) := by
  intro pins s σ H xs us Q I r h
  obtain ⟨i, rfl, q⟩ := h
  obtain ⟨u, rfl, t, rfl⟩ := vals1 r
  exact call_abs_int fun u tk => ⟨.int (if i < 0 then -i else i), H, I.tok _, ⟨_, rfl⟩, q⟩
theorem call_max2 (hc : X.calm = true) : CallR X (.builtin "max") (fun xs H Q => ∃ i j, xs = [.int i, .int j] ∧ Q (.int (if j > i then j else i)) H) := by
  intro pins s σ H xs us Q I r h
  obtain ⟨i, j, rfl, q⟩ := h
  obtain ⟨u, w', rfl, ⟨t, rfl⟩, ⟨t', rfl⟩⟩ := vals2 r
  refine max_two_ints (I.ok.hd hc) fun h' tk k => ⟨_, H, I.kept k, ?_, q⟩
  by_cases hj : j > i
  · rw [if_pos hj, if_pos hj]; exact ⟨_, rfl⟩
  · rw [if_neg hj, if_neg hj]; exact ⟨_, rfl⟩
theorem call_min2 (hc : X.calm = true) : CallR X (.builtin "min") (fun xs H Q => ∃ i j, xs = [.int i, .int j] ∧ Q (.int (if j < i then j else i)) H) := by
  intro pins s σ H xs us Q I r h
  obtain ⟨i, j, rfl, q⟩ := h
  obtain ⟨u, w', rfl, ⟨t, rfl⟩, ⟨t', rfl⟩⟩ := vals2 r
  refine min_two_ints (I.ok.hd hc) fun h' tk k => ⟨_, H, I.kept k, ?_, q⟩
  by_cases hj : j < i
  · rw [if_pos hj, if_pos hj]; exact ⟨_, rfl⟩
  · rw [if_neg hj, if_neg hj]; exact ⟨_, rfl⟩
theorem call_int1 : CallR X (.type "int") (fun xs H Q => (∃ i, xs = [.int i] ∧ Q (.int i) H) ∨ ∃ k, xs = [.bl k] ∧ Q (.int (if k then 1 else 0)) H) := by
  intro pins s σ H xs us Q I r h
  rcases h with ⟨i, rfl, q⟩ | ⟨k, rfl, q⟩
  · obtain ⟨u, rfl, t, rfl⟩ := vals1 r
    exact call_int_int ⟨.int i, H, I, ⟨_, rfl⟩, q⟩
  · obtain ⟨u, rfl, r1⟩ := vals1 r
    cases r1
    exact call_int_bool ⟨.int (if k then 1 else 0), H, I.tok _, ⟨_, rfl⟩, q⟩
theorem call_bool1 : CallR X (.type "bool") (fun xs H Q => (∃ i, xs = [.int i] ∧ Q (.bl (i != 0)) H) ∨ ∃ k, xs = [.bl k] ∧ Q (.bl k) H) := by
  intro pins s σ H xs us Q I r h
  rcases h with ⟨i, rfl, q⟩ | ⟨k, rfl, q⟩
  · obtain ⟨u, rfl, t, rfl⟩ := vals1 r
    exact call_bool_int ⟨.bl (i != 0), H, I, rfl, q⟩
  · obtain ⟨u, rfl, r1⟩ := vals1 r
    cases r1
    exact call_bool_bool ⟨.bl k, H, I, rfl, q⟩
theorem call_str_int : CallR X (.type "str") (fun xs H Q => ∃ i, xs = [.int i] ∧ i.natAbs.log2 < 1920 ∧ Q (.str (toString i)) H) := by
  intro pins s σ H xs us Q I r h
  obtain ⟨i, rfl, hz, q⟩ := h
  obtain ⟨u, rfl, t, rfl⟩ := vals1 r
  exact PySem.P.str_of_int hz ⟨.str _, H, I.tok _, ⟨_, rfl⟩, q⟩
theorem call_ord : CallR X (.builtin "ord") (fun xs H Q => ∃ x, xs = [.str x] ∧ x.length = 1 ∧ Q (.int (x.cps.getD 0 0 : Nat)) H) := by
  intro pins s σ H xs us Q I r h
  obtain ⟨x, rfl, hz, q⟩ := h
  obtain ⟨u, rfl, t, rfl⟩ := vals1 r
  exact ord_of_one hz ⟨.int _, H, I.tok _, ⟨_, rfl⟩, q⟩
theorem call_chr : CallR X (.builtin "chr") (fun xs H Q => ∃ i, xs = [.int i] ∧ 0 ≤ i ∧ i ≤ 1114111 ∧ Q (.str ⟨#[i.toNat]⟩) H) := by
  intro pins s σ H xs us Q I r h
  obtain ⟨i, rfl, h0, h1, q⟩ := h
  obtain ⟨u, rfl, t, rfl⟩ := vals1 r
  exact chr_of_range h0 h1 ⟨.str _, H, I.tok _, ⟨_, rfl⟩, q⟩
/-- len of a str, a bytes, a list, a tuple -/
def LenV (K : PySem.W.Frag) (x : V) (H : Hp) (n : Nat) : Prop :=
  match x with
  | .str y => y.length ≤ sizeLine ∧ n = y.length
  | .byt y => y.size ≤ sizeLine ∧ n = y.size
  | .ref p => (∃ xs, SqL K H p xs ∧ n = xs.length) ∨ ∃ xs, SqT K H p xs ∧ n = xs.length
  | _ => False
theorem call_len : CallR X (.builtin "len") (fun xs H Q => ∃ x n, xs = [x] ∧ LenV X.K x H n ∧ Q (.int n) H) := by
  intro pins s σ H xs us Q I r h
  obtain ⟨x, n, rfl, e, q⟩ := h
  obtain ⟨u, rfl, rx⟩ := vals1 r
  have hl := line63
  have hs : sizeLine = 16777216 := sizeLine_eq
  cases x with
  | str y =>
    obtain ⟨t, rfl⟩ := rx
    obtain ⟨hy, e'⟩ : y.length ≤ sizeLine ∧ n = y.length := e
    subst e'
    exact len_str (by omega) ⟨.int _, H, I.tok _, ⟨_, rfl⟩, q⟩
  | byt y =>
    obtain ⟨t, rfl⟩ := rx
    obtain ⟨hy, e'⟩ : y.size ≤ sizeLine ∧ n = y.size := e
    subst e'
    exact PySem.W.len_bytes (by omega) ⟨.int _, H, I.tok _, ⟨_, rfl⟩, q⟩
  | ref p =>
    cases rx
    have e' : (∃ xs, SqL X.K H p xs ∧ n = xs.length) ∨ ∃ xs, SqT X.K H p xs ∧ n = xs.length := e
    rcases e' with ⟨xs, hx, e'⟩ | ⟨xs, hx, e'⟩
    · subst e'
      obtain ⟨its, r', pl, hz⟩ := I.list hx
      have hlen := r'.length
      exact Calls.call_len_list pl.isList (by simp only [List.size_toArray]; omega) ⟨.int xs.length, H, I.tok _, ⟨_, by simp only [List.size_toArray]; rw [hlen]⟩, q⟩
    · subst e'
      obtain ⟨its, r', pl, hz⟩ := I.tuple hx
      have hlen := r'.length
      exact len_tuple pl (by simp only [List.size_toArray]; omega) ⟨.int xs.length, H, I.tok _, ⟨_, by simp only [List.size_toArray]; rw [hlen]⟩, q⟩
  | _ => exact (show False from e).elim
/-- divmod: a new tuple -/
theorem call_divmod : CallR X (.builtin "divmod") (fun xs H Q => ∃ i j, xs = [.int i, .int j] ∧ CDiv i j ∧ ∀ p, H p = none → Q (.ref p) (upd H p (.tup [.int (i / j), .int (i % j)]))) := by
  intro pins s σ H xs us Q I r h
  obtain ⟨i, j, rfl, ⟨h1, h2⟩, q⟩ := h
  obtain ⟨u, w', rfl, ⟨t, rfl⟩, ⟨t', rfl⟩⟩ := vals2 r
  refine divmod_int (by omega) ?_ (.inl (PyProof.noPylong_small (by omega)))
  rw [Int.fdiv_eq_ediv_of_nonneg i (by omega), Int.fmod_eq_emod_of_nonneg i (by omega)]
  have hn : H s.heap.objs.size = none := I.hok.fresh (Nat.le_refl _)
  refine ⟨.ref s.heap.objs.size, _, ?_, rfl, q _ hn⟩
  refine I.laid (fun b o e => Heap.get?_push_of_some _ e) (Nat.le_refl _) ⟨by simp only [List.length_cons, List.length_nil]; rw [sizeLine_eq]; decide, [.int (i / j) s.toks, .int (i % j) (s.toks + 1)], .cons ⟨_, rfl⟩ (.cons ⟨_, rfl⟩ .nil), ?_⟩
  exact ⟨_, Heap.get?_push_size s.heap rfl, rfl, 0, rfl⟩
end
end L2

namespace L2
open PySem PySem.Spec PyProof.Rows

/-! ### an instance, its attributes a map -/
structure ObjM (h : Heap) (x dx C : Addr) (mA : Str → Option Value) : Prop where
  obj : h.get? x = some (PySem.W.instObj C dx)
  ns : h.Ns1 dx mA
  ne : dx ≠ x

theorem lookIn_ns {h : Heap} {dx : Addr} {mA : Str → Option Value} (n : h.Ns1 dx mA) : ∃ od, h.get? dx = some od ∧ ∀ name, PySem.W.lookIn name od = some (mA name) := by
  obtain ⟨o, es, ep, ho, hd, hk, _, hm⟩ := n
  refine ⟨o, ho, fun name => ?_⟩
  have e := hm name
  unfold nsFind findBy at e
  rw [← Array.find?_toList] at e
  unfold PySem.W.lookIn
  rw [hd]
  dsimp only
  split
  · rename_i y q
    rw [q] at e
    exact congrArg some e
  · rename_i q
    rw [q] at e
    have a : es.toList.any (·.refKey) = false := by
      rw [List.any_eq_false]
      intro y hy
      obtain ⟨z, t, hkey⟩ := hk y (Array.mem_toList_iff.mp hy)
      simp [DictEntry.refKey, hkey]
    have a' : ¬ es.toList.any (·.refKey) = true := by rw [a]; exact Bool.false_ne_true
    rw [if_neg a']
    exact congrArg some e

theorem ObjM.look {h : Heap} {x dx C : Addr} {mA : Str → Option Value} (I : ObjM h x dx C mA) : ∃ od, PySem.W.InstAt h x (PySem.W.instObj C dx) C (some od) ∧ ∀ name, PySem.W.lookIn name od = some (mA name) :=
  let ⟨od, ho, hl⟩ := lookIn_ns I.ns
  ⟨od, ⟨I.obj, rfl, rfl, ho⟩, hl⟩

section
variable {prog : Program} {w : World} {A : Around} {E : Value → Shared → Prop} {s : Shared} {K : PySem.W.Frag} {x dx C f : Addr} {mA : Str → Option Value} {name : Str} {v : Value}

theorem get_map {expr : Bool} {Q : Value → Shared → Prop} (X : K.In s.heap) (I : ObjM s.heap x dx C mA) (hg : PySem.W.plainGet K C name = true) (hh : PySem.W.hasDictIn K C = true)
    (ha : PySem.W.findIn K (.ref C) name = some none) (hv : mA name = some v) (hv' : PySem.W.handedIn v = true) (h : Q v { s with toks := s.toks + 1 }) :
    wpAny (model prog w) A (getAttr (.ref x) name expr) Q E s := by
  obtain ⟨od, J, hl⟩ := I.look
  exact PySem.W.get_value X J (PySem.W.plainGet_of hg).1 (PySem.W.findObj_own hh ha rfl (by rw [hl, hv])) hv' h

theorem get_const {expr : Bool} {a : Value} {Q : Value → Shared → Prop} (X : K.In s.heap) (I : ObjM s.heap x dx C mA) (hg : PySem.W.plainGet K C name = true) (hh : PySem.W.hasDictIn K C = true)
    (ha : PySem.W.findIn K (.ref C) name = some (some a)) (hn : PySem.W.specialIn K a "__get__" = some none) (hc : PySem.W.copiedNames.contains name = false) (hv : mA name = none) (hv' : PySem.W.handedIn a = true)
    (h : Q a { s with toks := s.toks + 1 }) : wpAny (model prog w) A (getAttr (.ref x) name expr) Q E s := by
  obtain ⟨od, J, hl⟩ := I.look
  exact PySem.W.get_value X J (PySem.W.plainGet_of hg).1 (PySem.W.findObj_cls hh ha hn hv' hc (by rw [hl, hv])) hv' h

theorem get_meth {pl : Sem Bool} {Q : Value × List Value → Shared → Prop} (X : K.In s.heap) (I : ObjM s.heap x dx C mA) (hg : PySem.W.plainGet K C name = true)
    (hf : PySem.W.findIn K (.ref C) name = some (some (.ref f))) (ht : PySem.W.isFn K (.ref f) = true) (hv : mA name = none) (h : Q (.ref f, [.ref x]) s) :
    wpAny (model prog w) A (getMethod (.ref x) name pl) Q E s := by
  obtain ⟨od, J, hl⟩ := I.look
  exact PySem.W.method_fn X J (PySem.W.plainGet_of hg).1 (PySem.W.plainGet_of hg).2 hf (beq_iff_eq.mp ht) (by show (PySem.W.lookIn name od).map (·.isSome) = some false; rw [hl, hv]; rfl) h

theorem set_map {ns : List Str} {Q : Unit → Shared → Prop} (X : K.In s.heap) (I : ObjM s.heap x dx C mA)
    (hs : PySem.W.findIn K (.ref C) "__setattr__" = some (some (.builtin "object.__setattr__"))) (hp : PySem.W.plainOver K C = true) (ht : PySem.W.takerIn K C name = some none) (hh : PySem.W.hasDictIn K C = true)
    (hw : PySem.Within mA ns) (hsz : ns.length ≤ sizeLine)
    (h : ∀ h', ObjM h' x dx C (fun y => if y = name then some v else mA y) → Heap.SameBut dx s.heap h' → Q () { s with heap := h', toks := s.toks + 2 }) :
    wpAny (model prog w) A (setAttr (.ref x) name v) Q E s := by
  obtain ⟨od, J, hl⟩ := I.look
  refine PySem.W.set_plain X J hs (PySem.W.osa_open (s := { s with toks := s.toks + 1 }) (r := none) X J hp ht fun b => ?_)
  obtain ⟨cd, hc, hd'⟩ := PySem.W.any_some hh
  have hx : s.heap.get? x = some ⟨.ref C, some dx, .plain, #[]⟩ := I.obj
  refine wpAny_bind (wpAny_pure (wpAny_bind (wpAny_bind (wpAny_loadPart hx (wpAny_bind (PySem.W.Looks.here (s := { s with toks := s.toks + 1 }) (PySem.W.looks_clsIn X hc) ?_))))))
  rw [hd']
  refine wpAny_pure (a := some dx) (wpAny_bind (wpAny_pure (wpAny_bind ?_)))
  refine wpAny_nsSet1 (s := { s with toks := s.toks + 1 }) I.ns fun h' hn2 hs2 => ?_
  obtain ⟨oD, esD, epD, hoD, hdD, hcD⟩ := hn2.count (PySem.Within.cons name v hw)
  refine wpAny_bind (wpAny_lookBehind hoD (by rw [hdD]; exact pastItsLine_dict (Nat.le_trans hcD (by rw [List.length_cons]; omega))) ?_)
  exact wpAny_pure (h _ ⟨(hs2.2 _ (Ne.symm I.ne)).trans I.obj, hn2, I.ne⟩ hs2)

/-- C(..): the dict at the heap's end, the instance behind it; then its __init__ -/
theorem make_map {R : Result → Shared → Prop} {vs : List Value} {kw : List (Str × Value)} (X : K.In s.heap) (hm : PySem.W.makesIn K C = true)
    (hi : PySem.W.findIn K (.ref C) "__init__" = some (some (.ref f))) (hf : PySem.W.typeIn K (.ref f) = some (.type "function"))
    (h : codeAny (model prog w) (A.under (.builtin "type.__call__" ⟨.ref C :: vs, kw⟩)) (.call (.ref f) ⟨.ref (s.heap.objs.size + 1) :: vs, kw⟩) (PySem.W.InitBack (s.heap.objs.size + 1) R)
      { s with heap := (s.heap.push PySem.W.emptyDict).push (PySem.W.instObj C s.heap.objs.size) }) :
    codeAny (model prog w) A (.call (.ref C) ⟨vs, kw⟩) R s := by
  obtain ⟨hh, g, d, t, os⟩ := s
  exact PySem.W.make_core (PySem.W.makes_of X hm) (PySem.W.looks_findIn X hi) (fun self => PySem.W.bind_fn X self hf) (.inl rfl) h
/-- C() where there is no __init__ but object's -/
theorem make_map0 {R : Result → Shared → Prop} (X : K.In s.heap) (hm : PySem.W.makesIn K C = true)
    (hi : PySem.W.findIn K (.ref C) "__init__" = some (some (.builtin "object.__init__")))
    (hb : ∀ self, PySem.W.Looks (model prog w) s.heap (bindSpecial (.builtin "object.__init__") self) (.builtin "object.__init__", [self]))
    (h : codeAny (model prog w) (A.under (.builtin "type.__call__" ⟨[.ref C], []⟩)) (.call (.builtin "object.__init__") ⟨[.ref (s.heap.objs.size + 1)], []⟩) (PySem.W.InitBack (s.heap.objs.size + 1) R)
      { s with heap := (s.heap.push PySem.W.emptyDict).push (PySem.W.instObj C s.heap.objs.size) }) :
    codeAny (model prog w) A (.call (.ref C) ⟨[], []⟩) R s := by
  obtain ⟨hh, g, d, t, os⟩ := s
  exact PySem.W.make_core (PySem.W.makes_of X hm) (PySem.W.looks_findIn X hi) hb (.inr ⟨rfl, rfl⟩) h
end

/-! ### the attributes as a list of pairs -/
def putF (f : Str) (v : V) : List (Str × V) → List (Str × V)
  | [] => [(f, v)]
  | (g, x) :: r => if g = f then (g, v) :: r else (g, x) :: putF f v r
theorem lookup_putF (f g : Str) (v : V) : ∀ fs : List (Str × V), (putF f v fs).lookup g = if g = f then some v else fs.lookup g
  | [] => by
    show List.lookup g [(f, v)] = _
    by_cases h : g = f
    · have hb : (g == f) = true := beq_iff_eq.mpr h
      simp only [List.lookup, hb, if_pos h]
    · have hb : (g == f) = false := beq_eq_false_iff_ne.mpr h
      simp only [List.lookup, hb, if_neg h]
  | (k, x) :: r => by
    have ih := lookup_putF f g v r
    rw [show putF f v ((k, x) :: r) = (if k = f then (k, v) :: r else (k, x) :: putF f v r) from rfl]
    by_cases hk : k = f
    · rw [if_pos hk]
      by_cases h : g = k
      · have hb : (g == k) = true := beq_iff_eq.mpr h
        simp only [List.lookup, hb, if_pos (h.trans hk)]
      · have hb : (g == k) = false := beq_eq_false_iff_ne.mpr h
        simp only [List.lookup, hb, if_neg (fun e : g = f => h (e.trans hk.symm))]
    · rw [if_neg hk]
      by_cases h : g = k
      · have hb : (g == k) = true := beq_iff_eq.mpr h
        simp only [List.lookup, hb, if_neg (fun e : g = f => hk (h.symm.trans e))]
      · have hb : (g == k) = false := beq_eq_false_iff_ne.mpr h
        simp only [List.lookup, hb]
        exact ih
theorem keys_putF (f : Str) (v : V) : ∀ fs : List (Str × V), f ∈ (putF f v fs).map (·.1) ∧ ∀ g, g ∈ fs.map (·.1) → g ∈ (putF f v fs).map (·.1)
  | [] => ⟨by simp [putF], fun g h => by simp at h⟩
  | (k, x) :: r => by
    obtain ⟨i1, i2⟩ := keys_putF f v r
    rw [show putF f v ((k, x) :: r) = (if k = f then (k, v) :: r else (k, x) :: putF f v r) from rfl]
    by_cases hk : k = f
    · rw [if_pos hk]
      subst hk
      exact ⟨by simp, fun g h => by simpa using h⟩
    · rw [if_neg hk]
      refine ⟨?_, fun g h => ?_⟩
      · rw [List.map_cons]
        exact List.mem_cons_of_mem _ i1
      · rw [List.map_cons] at h ⊢
        rcases List.mem_cons.mp h with e | e
        · exact List.mem_cons.mpr (.inl e)
        · exact List.mem_cons_of_mem _ (i2 g e)
theorem length_putF (f : Str) (v : V) : ∀ fs : List (Str × V), (putF f v fs).length ≤ fs.length + 1
  | [] => by simp [putF]
  | (k, x) :: r => by
    have ih := length_putF f v r
    rw [show putF f v ((k, x) :: r) = (if k = f then (k, v) :: r else (k, x) :: putF f v r) from rfl]
    by_cases hk : k = f
    · rw [if_pos hk, List.length_cons, List.length_cons]; omega
    · rw [if_neg hk, List.length_cons, List.length_cons]; omega

theorem RelO.some_of {v : V} {o : Option Value} (r : RelO (some v) o) : ∃ u, o = some u ∧ RelV v u := by
  cases o with
  | none => exact (show False from r).elim
  | some u => exact ⟨u, rfl, r⟩
theorem RelO.none_of {o : Option Value} (r : RelO none o) : o = none := by
  cases o with
  | none => rfl
  | some u => exact (show False from r).elim
theorem handed_of {v : V} {u : Value} (r : RelV v u) : PySem.W.handedIn u = true := by
  cases v with
  | non => cases (show u = Value.none from r); rfl
  | bl b => cases (show u = Value.bool b from r); rfl
  | int i => obtain ⟨t, e⟩ := (show ∃ t, u = Value.int i t from r); cases e; rfl
  | str x => obtain ⟨t, e⟩ := (show ∃ t, u = Value.str x t from r); cases e; rfl
  | byt b => obtain ⟨t, e⟩ := (show ∃ t, u = Value.bytes b t from r); cases e; rfl
  | flt b => obtain ⟨t, e⟩ := (show ∃ t, u = Value.float b t from r); cases e; rfl
  | ref a => cases (show u = Value.ref a from r); rfl
  | ty n => cases (show u = Value.type n from r); rfl

section
variable {P : Program} {w : World} {H H' : Hp} {h h' : Heap} {a C dx : Addr} {fs fs' : List (Str × V)}
theorem ins_get (hok : HOk P w H h) (e : H a = some (.ins C dx fs)) : ∃ mA, ObjM h a dx C mA ∧ (∀ f, RelO (fs.lookup f) (mA f)) ∧ PySem.Within mA (fs.map (·.1)) ∧ fs.length ≤ 1000 ∧ H dx = some (.own a) := by
  obtain ⟨d, z, ne, ob, mA, n, r, q⟩ := (show ObjOk P w H h a (.ins C dx fs) from hok a _ e)
  exact ⟨mA, ⟨ob, n, ne⟩, r, q, z, d⟩
end

/-! ### what of the text a class must have -/
structure Cls (K : PySem.W.Frag) (C : Addr) : Prop where
  pg : PySem.W.plainGet K C Str.empty = true
  hd : PySem.W.hasDictIn K C = true
  po : PySem.W.plainOver K C = true
  sa : PySem.W.findIn K (.ref C) "__setattr__" = some (some (.builtin "object.__setattr__"))
theorem Cls.get {K : PySem.W.Frag} {C : Addr} (c : Cls K C) (f : Str) : PySem.W.plainGet K C f = true := c.pg
/-- no class of it has the name -/
def NoAttr (K : PySem.W.Frag) (C : Addr) (f : Str) : Prop := PySem.W.findIn K (.ref C) f = some none
theorem NoAttr.taker {K : PySem.W.Frag} {C : Addr} {f : Str} (n : NoAttr K C f) : PySem.W.takerIn K C f = some none := by
  unfold PySem.W.takerIn
  rw [show PySem.W.findIn K (.ref C) f = some none from n]
  rfl
/-- a constant of the class -/
structure Con (K : PySem.W.Frag) (C : Addr) (f : Str) (v : V) (u : Value) : Prop where
  at_ : PySem.W.findIn K (.ref C) f = some (some u)
  rel : RelV v u
  get : PySem.W.specialIn K u "__get__" = some none
  cp : PySem.W.copiedNames.contains f = false
/-- a method: a plain def of the class or of one above it -/
structure Meth (K : PySem.W.Frag) (C : Addr) (m : Str) (f : Addr) : Prop where
  at_ : PySem.W.findIn K (.ref C) m = some (some (.ref f))
  fn : PySem.W.isFn K (.ref f) = true
  kp : PySem.W.keepIn K (.ref f) = true

section
variable {X : Cx} {pins : List (Addr × Obj)} {σ : St} {H : Hp} {s : Shared} {a C dx : Addr} {fs : List (Str × V)} {f : Str} {v : V} {A : Around} {E : Value → Shared → Prop}

theorem getattr_ok {b : Bool} {Q : Value → Shared → Prop} (I : Inv X pins σ H s) (e : H a = some (.ins C dx fs)) (c : Cls X.K C) (n : NoAttr X.K C f) (l : fs.lookup f = some v)
    (h : ∀ u s', Inv X pins σ H s' → RelV v u → Q u s') : wpAny (model X.prog X.w) A (getAttr (.ref a) f b) Q E s := by
  obtain ⟨mA, O, r, _, _, _⟩ := ins_get I.hok e
  obtain ⟨u, hu, ru⟩ := RelO.some_of (v := v) (o := mA f) (by rw [← l]; exact r f)
  exact get_map I.kIn O (c.get f) c.hd n hu (handed_of ru) (h u _ (I.tok _) ru)

theorem getcon_ok {b : Bool} {u : Value} {Q : Value → Shared → Prop} (I : Inv X pins σ H s) (e : H a = some (.ins C dx fs)) (c : Cls X.K C) (k : Con X.K C f v u) (l : fs.lookup f = none)
    (h : ∀ s', Inv X pins σ H s' → Q u s') : wpAny (model X.prog X.w) A (getAttr (.ref a) f b) Q E s := by
  obtain ⟨mA, O, r, _, _, _⟩ := ins_get I.hok e
  have hn : mA f = none := RelO.none_of (by rw [← l]; exact r f)
  exact get_const I.kIn O (c.get f) c.hd k.at_ k.get k.cp hn (handed_of k.rel) (h _ (I.tok _))

theorem getmeth_ok {m : Str} {g : Addr} {pl : Sem Bool} {Q : Value × List Value → Shared → Prop} (I : Inv X pins σ H s) (e : H a = some (.ins C dx fs)) (c : Cls X.K C) (k : Meth X.K C m g) (l : fs.lookup m = none)
    (h : Q (.ref g, [.ref a]) s) : wpAny (model X.prog X.w) A (getMethod (.ref a) m pl) Q E s := by
  obtain ⟨mA, O, r, _, _, _⟩ := ins_get I.hok e
  have hn : mA m = none := RelO.none_of (by rw [← l]; exact r m)
  exact get_meth I.kIn O (c.get m) k.at_ k.fn hn h

theorem setattr_ok {y : V} {u : Value} {Q : Unit → Shared → Prop} (I : Inv X pins σ H s) (e : H a = some (.ins C dx fs)) (c : Cls X.K C) (n : NoAttr X.K C f) (hl : fs.length < 1000) (ry : RelV y u)
    (h : ∀ s', Inv X pins σ (upd H a (.ins C dx (putF f y fs))) s' → Q () s') : wpAny (model X.prog X.w) A (setAttr (.ref a) f u) Q E s := by
  obtain ⟨mA, O, r, wi, _, ho⟩ := ins_get I.hok e
  have hz : (fs.map (·.1)).length ≤ sizeLine := by rw [List.length_map, sizeLine_eq]; omega
  refine set_map I.kIn O c.sa c.po n.taker c.hd wi hz fun h' O' sb => h _ ?_
  have hd : ∃ o, h'.get? dx = some o := let ⟨o, _, _, e', _⟩ := O'.ns; ⟨o, e'⟩
  refine I.write (x := a) (e := dx) (by rw [e]; exact True.intro) (.inr ho) (fun b q hb z => (sb.2 b hb).trans z) hd ?_
  refine ⟨by rw [upd_ne O.ne]; exact ho, ?_, O.ne, O'.obj, _, O'.ns, fun g => ?_, fun g hg => ?_⟩
  · have := length_putF f y fs; omega
  · show RelO ((putF f y fs).lookup g) (if g = f then some u else mA g)
    rw [lookup_putF]
    by_cases q : g = f
    · rw [if_pos q, if_pos q]; exact ry
    · rw [if_neg q, if_neg q]; exact r g
  · by_cases q : g = f
    · rw [q]; exact (keys_putF f y fs).1
    · refine (keys_putF f y fs).2 g (wi g fun z => hg ?_)
      show (if g = f then some u else mA g) = none
      rw [if_neg q]; exact z

/-- a new instance, tracked, without attributes -/
theorem Inv.made (I : Inv X pins σ H s) : Inv X pins σ (upd (upd H s.heap.objs.size (.own (s.heap.objs.size + 1))) (s.heap.objs.size + 1) (.ins C s.heap.objs.size []))
    { s with heap := (s.heap.push PySem.W.emptyDict).push (PySem.W.instObj C s.heap.objs.size) } := by
  have e1 : (s.heap.push PySem.W.emptyDict).get? s.heap.objs.size = some PySem.W.emptyDict := Heap.get?_push_size s.heap rfl
  have e2 : ((s.heap.push PySem.W.emptyDict).push (PySem.W.instObj C s.heap.objs.size)).get? (s.heap.objs.size + 1) = some (PySem.W.instObj C s.heap.objs.size) := by
    have := Heap.get?_push_size (s.heap.push PySem.W.emptyDict) (o := PySem.W.instObj C s.heap.objs.size) rfl
    rwa [Heap.size_push] at this
  have e3 : (s.heap.push PySem.W.emptyDict).Ns s.heap.objs.size (fun _ => none) := ⟨PySem.W.emptyDict, #[], _, e1, rfl, (fun e he => absurd he (by simp)), fun _ => rfl⟩
  have I1 := I.laid (a := s.heap.objs.size) (o := .own (s.heap.objs.size + 1)) (h' := s.heap.push PySem.W.emptyDict) (t' := s.toks) (fun b u q => Heap.get?_push_of_some _ q) (Nat.le_refl _) ⟨_, e1⟩
  refine I1.laid (a := s.heap.objs.size + 1) (o := .ins C s.heap.objs.size []) (t' := s.toks) (fun b u q => Heap.get?_push_of_some _ q) (Nat.le_of_eq (Heap.size_push _ _)) ?_
  have ne : s.heap.objs.size ≠ s.heap.objs.size + 1 := Nat.ne_of_lt (Nat.lt_succ_self _)
  refine ⟨by rw [upd_ne ne, upd_same], Nat.zero_le _, ne, e2, fun _ => none, (Heap.Ns1.of_empty e3).at fun o q => Heap.get?_push_of_some _ q, fun _ => True.intro, fun y hy => absurd rfl hy⟩

/-- e.f where nothing but the object is asked: through attributeBase (super) and the last hold -/
theorem attr_of {prog : Program} {w : World} {env : Env} {e : Expr} {f : Str} {pos : Pos} {s : Shared} {Q : Value → Shared → Prop} (hb : attributeBase e f env (eval e env) = eval e env)
    (h : wpAny (model prog w) A (eval e env) (fun o s₁ => wpAny (model prog w) A (getAttr o f true) Q E s₁) E s) : wpAny (model prog w) A (eval (.Attribute e f pos) env) Q E s :=
  Attribute_any_ h (by rw [arm_eval_Attribute, hb])
end

/-! ### readings and rules -/
/-- e.f, an attribute of the instance -/
def tFld (K : PySem.W.Frag) (ta : TE) (f : Str) : TE := fun σ H Q => ta σ H fun x H1 => ∃ a C dx fs v, x = .ref a ∧ H1 a = some (.ins C dx fs) ∧ Cls K C ∧ NoAttr K C f ∧ fs.lookup f = some v ∧ Q v H1
/-- e.f, a constant of the class -/
def tCon (K : PySem.W.Frag) (ta : TE) (f : Str) : TE := fun σ H Q => ta σ H fun x H1 => ∃ a C dx fs v u, x = .ref a ∧ H1 a = some (.ins C dx fs) ∧ Cls K C ∧ Con K C f v u ∧ fs.lookup f = none ∧ Q v H1
/-- e.f = value -/
def sFld (K : PySem.W.Frag) (ta tv : TE) (f : Str) : TS := fun D σ H => tv σ H fun y H1 => ta σ H1 fun x H2 => ∃ a C dx fs, x = .ref a ∧ H2 a = some (.ins C dx fs) ∧ Cls K C ∧ NoAttr K C f ∧ fs.length < 1000 ∧
  D.nx σ (upd H2 a (.ins C dx (putF f y fs)))
/-- an augmented operator on two values -/
def InOp (X : Cx) (op : Operator) (rd : V → V → Hp → VK → Prop) : Prop :=
  ∀ (pins : List (Addr × Obj)) (s : Shared) (σ : St) (H : Hp) (x y : V) (u v : Value) (Q : VK), Inv X pins σ H s → RelV x u → RelV y v → rd x y H Q → wpAny (model X.prog X.w) X.A (inplaceOp op u v) (EP X pins σ Q) X.xe s
/-- e.f op= value -/
def sFldAug (K : PySem.W.Frag) (ta tv : TE) (rd : V → V → Hp → VK → Prop) (f : Str) : TS := fun D σ H => ta σ H fun x H1 => ∃ a C dx fs v, x = .ref a ∧ H1 a = some (.ins C dx fs) ∧ Cls K C ∧ NoAttr K C f ∧ fs.lookup f = some v ∧
  tv σ H1 fun y H2 => rd v y H2 fun z H3 => ∃ dx' fs', H3 a = some (.ins C dx' fs') ∧ fs'.length < 1000 ∧ D.nx σ (upd H3 a (.ins C dx' (putF f z fs')))

section
variable {X : Cx} {o e value : Expr} {f : Str} {pos pos' tpos : Pos} {ta tv : TE}
theorem pe_fld (he : PE X e ta) (hb : attributeBase e f X.env (eval e X.env) = eval e X.env) : PE X (.Attribute e f pos) (tFld X.K ta f) := by
  intro pins s σ H Q I h
  refine attr_of hb (thn (he pins s σ H _ I h) fun u s1 ⟨x, H1, I1, rx, a, C, dx, fs, v, ex, ea, c, n, l, q⟩ => ?_)
  subst ex
  obtain rfl : u = Value.ref a := rx
  exact getattr_ok I1 ea c n l fun u' s2 I2 ru => ⟨v, H1, I2, ru, q⟩
theorem pe_con (he : PE X e ta) (hb : attributeBase e f X.env (eval e X.env) = eval e X.env) : PE X (.Attribute e f pos) (tCon X.K ta f) := by
  intro pins s σ H Q I h
  refine attr_of hb (thn (he pins s σ H _ I h) fun u s1 ⟨x, H1, I1, rx, a, C, dx, fs, v, u0, ex, ea, c, k, l, q⟩ => ?_)
  subst ex
  obtain rfl : u = Value.ref a := rx
  exact getcon_ok I1 ea c k l fun s2 I2 => ⟨v, H1, I2, k.rel, q⟩
theorem ps_fld (ha : PE X o ta) (hv : PE X value tv) (hs : swapsWith value (some (.Attribute o f pos')) pos.line X.env = pure false) : PS X (.Assign [.Attribute o f pos'] value pos) (sFld X.K ta tv f) := by
  intro pins s σ H D I h
  refine plainObj_wpAny_Assign_Attribute (thn (hv pins s σ H _ I h) fun u s1 ⟨y, H1, I1, ry, q⟩ => thn (ha pins s1 σ H1 _ I1 q) fun ov s2 ⟨x, H2, I2, rx, a, C, dx, fs, ex, ea, c, n, l, q2⟩ => ?_) hs
  subst ex
  obtain rfl : ov = Value.ref a := rx
  exact setattr_ok I2 ea c n l ry fun s3 I3 => ⟨σ, _, I3, q2⟩
theorem ps_fldaug {op : Operator} {rd : V → V → Hp → VK → Prop} (ha : PE X o ta) (hv : PE X value tv) (hop : InOp X op rd) : PS X (.AugAssign (.Attribute o f tpos) op value pos) (sFldAug X.K ta tv rd f) := by
  intro pins s σ H D I h
  refine wpAny_AugAssign_AttributeAny (thn (ha pins s σ H _ I h) fun ov s1 ⟨x, H1, I1, rx, a, C, dx, fs, v, ex, ea, c, n, l, q⟩ => ?_)
  subst ex
  obtain rfl : ov = Value.ref a := rx
  refine getattr_ok I1 ea c n l fun u s2 I2 ru => thn (hv pins s2 σ H1 _ I2 q) fun w3 s3 ⟨y, H2, I3, ry, q3⟩ => thn (hop pins s3 σ H2 v y u w3 _ I3 ru ry q3) fun w4 s4 ⟨z, H3, I4, rz, dx', fs', ea', l', q4⟩ => ?_
  exact setattr_ok I4 ea' c n l' rz fun s5 I5 => ⟨σ, _, I5, q4⟩
def rAdd : V → V → Hp → VK → Prop := fun x y H Q => ∃ i j, x = .int i ∧ y = .int j ∧ Q (.int (i + j)) H
def rSub : V → V → Hp → VK → Prop := fun x y H Q => ∃ i j, x = .int i ∧ y = .int j ∧ Q (.int (i - j)) H
theorem in_add : InOp X .Add rAdd := by
  rintro pins s σ H x y u v Q I rx ry ⟨i, j, rfl, rfl, q⟩
  obtain ⟨t, rfl⟩ := (show ∃ t, u = Value.int i t from rx)
  obtain ⟨t', rfl⟩ := (show ∃ t', v = Value.int j t' from ry)
  exact PyProof.Rows.iadd_int ⟨.int (i + j), H, I.tok _, ⟨_, rfl⟩, q⟩
theorem in_sub : InOp X .Sub rSub := by
  rintro pins s σ H x y u v Q I rx ry ⟨i, j, rfl, rfl, q⟩
  obtain ⟨t, rfl⟩ := (show ∃ t, u = Value.int i t from rx)
  obtain ⟨t', rfl⟩ := (show ∃ t', v = Value.int j t' from ry)
  exact PyProof.Rows.isub_int ⟨.int (i - j), H, I.tok _, ⟨_, rfl⟩, q⟩

/-- what is between an instance and its method: the tree of a method call -/
theorem methcall_of {pl : Sem Bool} {m : Str} {apos : Pos} {args : List Expr} {pins : List (Addr × Obj)} {s : Shared} {σ : St} {H : Hp} {Q : Value → Shared → Prop} {te : TE} (he : PE X e te) (I : Inv X pins σ H s)
    (h : te σ H fun x H1 => ∃ a C dx fs g, x = .ref a ∧ H1 a = some (.ins C dx fs) ∧ Cls X.K C ∧ Meth X.K C m g ∧ fs.lookup m = none ∧
      ∀ s1, Inv X pins σ H1 s1 → wpAny (model X.prog X.w) X.A (callWith pos (.ref g) [.ref a] (backTo pos (starEach args X.env)) (backToKw pos (keywordEach [] X.env))) Q X.xe s1)
    (ht : eval (.Call (.Attribute e m apos) args [] pos) X.env = (do
      let ov ← eval e X.env
      standAt apos.atName
      let (f, first) ← holding [ov] (getMethod ov m pl)
      callWith pos f first (backTo pos (starEach args X.env)) (backToKw pos (keywordEach [] X.env)))) :
    wpAny (model X.prog X.w) X.A (eval (.Call (.Attribute e m apos) args [] pos) X.env) Q X.xe s := by
  refine PySem.W.methodCall_KW (pl := pl) (thn (he pins s σ H _ I h) fun u s1 ⟨x, H1, I1, rx, a, C, dx, fs, g, ex, ea, c, k, l, q⟩ => ?_) ht
  subst ex
  obtain rfl : u = Value.ref a := rx
  exact getmeth_ok I1 ea c k l (q s1 I1)
end

/-! ### isinstance -/
section
variable {X : Cx} {pins : List (Addr × Obj)} {σ : St} {H : Hp} {s : Shared} {A : Around} {E : Value → Shared → Prop} {Q : Value → Shared → Prop} {c : Value} {b : Bool}
/-- the type of a value, as the fragment's deciders take it; for an instance its class -/
inductive TyOf (K : PySem.W.Frag) (H : Hp) : V → Value → Prop where
  | non : TyOf K H .non (.type "NoneType")
  | bl (x : Bool) : TyOf K H (.bl x) (.type "bool")
  | int (i : Int) : TyOf K H (.int i) (.type "int")
  | str (x : Str) : TyOf K H (.str x) (.type "str")
  | flt (x : UInt64) : TyOf K H (.flt x) (.type "float")
  | lst {a : Addr} {xs : List V} (e : H a = some (.lst xs)) : TyOf K H (.ref a) (.type "list")
  | frz {a : Addr} {o : Obj} {xs : List V} (e : H a = some (.frz o (.lst xs))) : TyOf K H (.ref a) (.type "list")
  | tup {a : Addr} {xs : List V} (e : H a = some (.tup xs)) : TyOf K H (.ref a) (.type "tuple")
  | dK {a : Addr} {kvs : List (Key × V)} (e : H a = some (.dK kvs)) : TyOf K H (.ref a) (.type "dict")
  | dT {a : Addr} {kvs : List (List Key × V)} (e : H a = some (.dT kvs)) : TyOf K H (.ref a) (.type "dict")
  | ins {a C dx : Addr} {fs : List (Str × V)} (e : H a = some (.ins C dx fs)) (cl : Cls K C) (ha : PySem.W.findIn K (.ref C) "__class__" = some (some (.builtin "object.__class__")))
      (hn : PySem.W.specialIn K (.builtin "object.__class__") "__get__" = some (some (.builtin "getset_descriptor.__get__"))) (htk : PySem.W.takesIn K (.builtin "object.__class__") = some true)
      (hm : PySem.W.mroIn K C (.type "object") = some true) : TyOf K H (.ref a) (.ref C)
/-- isinstance(x, c) for one class c, a built-in or an own one: kitOne's answer -/
theorem isinst_ok {x : V} {u t : Value} (I : Inv X pins σ H s) (rx : RelV x u) (ty : TyOf X.K H x t) (e : PySem.W.kitOne X.K t c = some b) (h : ∀ tk, Q (.bool b) { s with toks := tk }) :
    wpAny (model X.prog X.w) A (call (.builtin "isinstance") [u, c]) Q E s := by
  cases ty with
  | non => cases (show u = Value.none from rx); exact PySem.W.kia_one PySem.W.kitx_none I.kIn True.intro e (fun z => nomatch z) h
  | bl y => cases (show u = Value.bool y from rx); exact PySem.W.kia_one PySem.W.kitx_bool I.kIn True.intro e (fun z => nomatch z) h
  | int i => obtain ⟨t, q⟩ := (show ∃ t, u = Value.int i t from rx); cases q; exact PySem.W.kia_one PySem.W.kitx_int I.kIn True.intro e (fun z => nomatch z) h
  | str y => obtain ⟨t, q⟩ := (show ∃ t, u = Value.str y t from rx); cases q; exact PySem.W.kia_one PySem.W.kitx_str I.kIn True.intro e (fun z => nomatch z) h
  | flt y => obtain ⟨t, q⟩ := (show ∃ t, u = Value.float y t from rx); cases q; exact PySem.W.kia_one PySem.W.kitx_float I.kIn True.intro e (fun z => nomatch z) h
  | @lst a xs ea =>
    cases (show u = Value.ref a from rx)
    obtain ⟨_, _, n, _, h1⟩ := (show ObjOk X.prog X.w H s.heap a (.lst xs) from I.hok a _ ea)
    exact PySem.W.kia_one PySem.W.kitx_list I.kIn ⟨_, h1, rfl⟩ e (fun z => nomatch z) h
  | @frz a ob xs ea =>
    cases (show u = Value.ref a from rx)
    obtain ⟨_, _, _, n, _, h1⟩ := (show ObjOk X.prog X.w H s.heap a (.frz ob (.lst xs)) from I.hok a _ ea)
    exact PySem.W.kia_one PySem.W.kitx_list I.kIn ⟨_, h1, rfl⟩ e (fun z => nomatch z) h
  | @tup a xs ea =>
    cases (show u = Value.ref a from rx)
    obtain ⟨_, _, _, p⟩ := (show ObjOk X.prog X.w H s.heap a (.tup xs) from I.hok a _ ea)
    obtain ⟨o, h1, h2, _⟩ := p
    exact PySem.W.kia_one PySem.W.kitx_tuple I.kIn ⟨o, h1, h2⟩ e (fun z => nomatch z) h
  | @dK a kvs ea =>
    cases (show u = Value.ref a from rx)
    obtain ⟨_, _, vs, _, p⟩ := (show ObjOk X.prog X.w H s.heap a (.dK kvs) from I.hok a _ ea)
    obtain ⟨o, es, ep, h1, h2, _⟩ := p
    exact PySem.W.kia_one PySem.W.kitx_dict I.kIn ⟨o, h1, h2.1⟩ e (fun z => nomatch z) h
  | @dT a kvs ea =>
    cases (show u = Value.ref a from rx)
    obtain ⟨_, _, xs, _, o, es, ep, h1, h2, _⟩ := (show ObjOk X.prog X.w H s.heap a (.dT kvs) from I.hok a _ ea)
    exact PySem.W.kia_one PySem.W.kitx_dict I.kIn ⟨o, h1, h2.1⟩ e (fun z => nomatch z) h
  | @ins a C dx fs ea cl ha hn htk hm =>
    cases (show u = Value.ref a from rx)
    obtain ⟨mA, O, _⟩ := ins_get I.hok ea
    obtain ⟨od, J, _⟩ := O.look
    exact PySem.W.kia_one (PySem.W.kitx_own (cl.get _) cl.hd ha hn htk hm) I.kIn J e (fun z => nomatch z) h
end
end L2

namespace L2
open PySem PySem.Spec PyProof.Rows

/-! ### room -/
structure Room (k : Nat) (A : Around) : Prop where
  hd : A.handled = none
  dp : A.depth + 3 * k + 5 < recursionLimit
  un : A.units + 16 * k + 200 < cLine
theorem Room.mono {j k : Nat} {A : Around} (r : Room k A) (h : j ≤ k) : Room j A := ⟨r.hd, by have := r.dp; omega, by have := r.un; omega⟩
theorem Room.deeper {k : Nat} {A : Around} (r : Room (k + 1) A) (env : Env) : Room k (A.deeper env) :=
  ⟨r.hd, by have := r.dp; show A.depth + 1 + 3 * k + 5 < _; omega, by have := r.un; show A.units + 3 + 16 * k + 200 < _; omega⟩
theorem Room.in1 {k : Nat} {A : Around} (r : Room (k + 1) A) : Room k A.in1 :=
  ⟨r.hd, by have := r.dp; show A.depth + 3 * k + 5 < _; omega, by have := r.un; show A.units + 1 + 16 * k + 200 < _; omega⟩
theorem make_depth {A : Around} {C : Addr} {us : List Value} {kw : List (Str × Value)} : (A.under (.builtin "type.__call__" ⟨.ref C :: us, kw⟩)).depth = A.depth + 1 := by
  first | rfl | simp [Around.under, Code.weight, Code.isCreation, Code.isGuard, Code.isCaller, Code.frames, Code.isFrame, guardIds]
theorem make_units {A : Around} {C : Addr} {us : List Value} {kw : List (Str × Value)} : (A.under (.builtin "type.__call__" ⟨.ref C :: us, kw⟩)).units = A.units + 1 := by
  first | rfl | simp [Around.under, Code.cUnits, Code.frames, Code.isFrame]
theorem Room.make {k : Nat} {A : Around} (r : Room (k + 1) A) (C : Addr) (us : List Value) (kw : List (Str × Value)) : Room k (A.under (.builtin "type.__call__" ⟨.ref C :: us, kw⟩)) :=
  ⟨r.hd, by have := r.dp; rw [make_depth]; omega, by have := r.un; rw [make_units]; omega⟩
theorem Room.depth {k : Nat} {A : Around} (r : Room k A) : A.depth < recursionLimit := by have := r.dp; omega
theorem Room.units {k : Nat} {A : Around} (r : Room k A) : A.units + 64 < cLine := by have := r.un; omega
theorem Room.units0 {k : Nat} {A : Around} (r : Room k A) : A.units < cLine := by have := r.un; omega

/-! ### argument lists and displays -/
def tNil : TA := fun _ H Q => Q [] H
def tCons (ta : TE) (tr : TA) : TA := fun σ H Q => ta σ H fun x H1 => tr σ H1 fun xs H2 => Q (x :: xs) H2
section
variable {X : Cx} {e : Expr} {es : List Expr} {te : TE} {t : TA} {pos : Pos}
theorem pa_nil : PA X [] tNil := fun _ _ _ _ H Q I h => Calls.spliced_nil ⟨[], H, I, .nil, h⟩
theorem pa_cons (ha : PE X e te) (hr : PA X es t) (hs : starEach (e :: es) X.env = (false, eval e X.env) :: starEach es X.env := by rfl) : PA X (e :: es) (tCons te t) := by
  intro pos pins s σ H Q I h
  rw [hs]
  show wpAny _ _ (spliced ((false, eval e X.env) :: backTo pos (starEach es X.env))) _ _ s
  refine Calls.spliced_cons (thn (ha pins s σ H _ I h) fun u s1 ⟨x, H1, I1, r1, q1⟩ => ?_)
  exact thn (hr pos pins s1 σ H1 _ I1 q1) fun us s2 ⟨xs, H2, I2, r2, q2⟩ => ⟨x :: xs, H2, I2, .cons r1 r2, q2⟩

/-- a tuple, a list of written items -/
def tTup (t : TA) : TE := fun σ H Q => t σ H fun xs H1 => xs.length ≤ sizeLine ∧ ∀ p, H1 p = none → Q (.ref p) (upd H1 p (.tup xs))
def tLst (t : TA) : TE := fun σ H Q => t σ H fun xs H1 => xs.length ≤ sizeLine ∧ ∀ p, H1 p = none → Q (.ref p) (upd H1 p (.lst xs))
theorem pe_tup {x1} (h : PA X es t) : PE X (.Tuple es x1 pos) (tTup t) := by
  intro pins s σ H Q I hq
  refine wpAny_Tuple_spliced (thn (h pos pins s σ H _ I hq) fun us s1 ⟨xs, H1, I1, r, z, q⟩ => ⟨by rw [← r.length]; exact z, ?_⟩)
  have hf : H1 s1.heap.objs.size = none := I1.hok.fresh (Nat.le_refl _)
  refine ⟨.ref s1.heap.objs.size, upd H1 s1.heap.objs.size (.tup xs), I1.laid (t' := s1.toks) (fun b u e => Heap.get?_push_of_some _ e) (Nat.le_refl _) ?_, rfl, q _ hf⟩
  exact ⟨z, us, r, ⟨_, Heap.get?_push_size _ rfl, rfl, _, rfl⟩⟩
theorem pe_lst (h : PA X es t) : PE X (.List es pos) (tLst t) := by
  intro pins s σ H Q I hq
  refine wpAny_List_spliced (thn (h pos pins s σ H _ I hq) fun us s1 ⟨xs, H1, I1, r, z, q⟩ => ⟨by rw [← r.length]; exact z, ?_⟩)
  have hf : H1 s1.heap.objs.size = none := I1.hok.fresh (Nat.le_refl _)
  refine ⟨.ref s1.heap.objs.size, upd H1 s1.heap.objs.size (.lst xs), I1.laid (t' := s1.toks) (fun b u e => Heap.get?_push_of_some _ e) (Nat.le_refl _) ?_, rfl, q _ hf⟩
  exact ⟨z, us, 0, r, Heap.get?_push_size _ rfl⟩
end

/-! ### what a def promises -/
/-- a def's promise: the bound arguments in the parameters' order, the heap, the wanted end, the wanted exception -/
abbrev Sp := List V → Hp → VK → XK → Prop
/-- how an exception lies behind a call (file 08 gives it): the callers' frames, abstract heap and state ahead of the call, the wish, the exception, the state -/
abbrev CXT := List Env → Hp → Shared → XK → Value → Shared → Prop

/-- the state at a call -/
structure Env0 (P : Program) (w : World) (K : PySem.W.Frag) (mg : Str → Option Value) (base : Heap) (A : Around) (outer : List Env) (s : Shared) (H : Hp) : Prop where
  frames : A.frames = some outer
  mod : Mod K mg base
  bs : ∀ b o, base.get? b = some o → s.heap.get? b = some o ∧ H b = none
  bsz : base.objs.size ≤ s.heap.objs.size
  funs : s.heap.FunFrames base outer
  frf : ∀ b ∈ frs outer, H b = none
  hok : HOk P w H s.heap
  bare : AllBare s.gens
/-- a call's end -/
def CE (outer : List Env) (P : Program) (w : World) (H : Hp) (s : Shared) (Q : VK) (u : Value) (s' : Shared) : Prop :=
  ∃ v H', s'.os = s.os ∧ AllBare s'.gens ∧ Un (frs outer) [] H H' s.heap s'.heap ∧ HOk P w H' s'.heap ∧ RelV v u ∧ Q v H'
def CR (CX : CXT) (outer : List Env) (P : Program) (w : World) (H : Hp) (s : Shared) (Q : VK) (E : XK) (r : Result) (s' : Shared) : Prop :=
  match r with
  | .ok (.ret u) => CE outer P w H s Q u s'
  | .ok _ => False
  | .error e => CX outer H s E e s'
structure FnOk (P : Program) (w : World) (K : PySem.W.Frag) (mg : Str → Option Value) (base : Heap) (CX : CXT) (k : Nat) (f : Addr) (fd : FuncData) (ps : List Str) (sp : Sp) : Prop where
  len : ∀ vs H Q E, sp vs H Q E → vs.length = ps.length
  run : ∀ (A : Around) (outer : List Env) (s : Shared) (H : Hp) (args : Args) (us : List Value) (vs : List V) (Q : VK) (E : XK), Room k A → Env0 P w K mg base A outer s H → BindsTo s fd args (ps.zip us) → Vals vs us → sp vs H Q E →
    codeAny (model P w) A (.call (.ref f) args) (CR CX outer P w H s Q E) s
theorem FnOk.mono {P : Program} {w : World} {K : PySem.W.Frag} {mg : Str → Option Value} {base : Heap} {CX : CXT} {j k : Nat} {f : Addr} {fd : FuncData} {ps : List Str} {sp : Sp} (F : FnOk P w K mg base CX j f fd ps sp) (h : j ≤ k) :
    FnOk P w K mg base CX k f fd ps sp := ⟨F.len, fun A outer s H args us vs Q E hr => F.run A outer s H args us vs Q E (hr.mono h)⟩
/-- a weaker promise -/
theorem FnOk.imp {P : Program} {w : World} {K : PySem.W.Frag} {mg : Str → Option Value} {base : Heap} {CX : CXT} {k : Nat} {f : Addr} {fd : FuncData} {ps : List Str} {sp sp' : Sp} (F : FnOk P w K mg base CX k f fd ps sp)
    (h : ∀ vs H Q E, sp' vs H Q E → sp vs H Q E) : FnOk P w K mg base CX k f fd ps sp' :=
  ⟨fun vs H Q E q => F.len vs H Q E (h _ _ _ _ q), fun A outer s H args us vs Q E hr he hb hv hs => F.run A outer s H args us vs Q E hr he hb hv (h _ _ _ _ hs)⟩

theorem Env0.make {P : Program} {w : World} {K : PySem.W.Frag} {mg : Str → Option Value} {base : Heap} {A : Around} {outer : List Env} {s : Shared} {H : Hp} (e : Env0 P w K mg base A outer s H) (C : Addr) (us : List Value) (kw : List (Str × Value)) :
    Env0 P w K mg base (A.under (.builtin "type.__call__" ⟨.ref C :: us, kw⟩)) outer s H := ⟨by first | exact e.frames | (simpa [Around.under, Code.envs, Code.isFrame, pushEnvs] using e.frames), e.mod, e.bs, e.bsz, e.funs, e.frf, e.hok, e.bare⟩
theorem Env0.in1 {P : Program} {w : World} {K : PySem.W.Frag} {mg : Str → Option Value} {base : Heap} {A : Around} {outer : List Env} {s : Shared} {H : Hp} (e : Env0 P w K mg base A outer s H) :
    Env0 P w K mg base A.in1 outer s H := ⟨e.frames, e.mod, e.bs, e.bsz, e.funs, e.frf, e.hok, e.bare⟩

section
variable {X : Cx} {pins : List (Addr × Obj)} {σ : St} {H : Hp} {s s' : Shared}
/-- from a body: what a callee wants -/
theorem Inv.env0 (I : Inv X pins σ H s) : Env0 X.prog X.w X.K X.mg X.base X.A X.stack s H :=
  ⟨I.ok.frames, I.ok.mod, I.bs, Nat.le_trans I.ok.bsz I.sz, I.stack, I.stkFree, I.hok, I.bare⟩
/-- behind a call -/
theorem Inv.after {Q : VK} {u : Value} (I : Inv X pins σ H s) (h : CE X.stack X.prog X.w H s Q u s') : EP X pins σ Q u s' := by
  obtain ⟨v, H', os, bare, un, hok, r, q⟩ := h
  obtain ⟨hh, g, d, t, os'⟩ := s'
  obtain rfl : os' = s.os := os
  exact ⟨v, H', I.call (h' := hh) (g' := g) (d' := d) (t' := t) (ch := []) un hok bare (fun b z => absurd z (by simp)), r, q⟩
end

/-! ### calls -/
/-- f(..): the written arguments, then the defaults dvs; E: what is wanted of an exception -/
def tCall (sp : Sp) (dvs : List V) (E : XK) (t : TA) : TE := fun σ H Q => t σ H fun vs H1 => sp (vs ++ dvs) H1 Q E
/-- o.m(..) of an instance of the class at C -/
def tMeth (C : Addr) (m : Str) (sp : Sp) (dvs : List V) (E : XK) (ta : TE) (t : TA) : TE := fun σ H Q => ta σ H fun x H1 => ∃ a dx fs, x = .ref a ∧ H1 a = some (.ins C dx fs) ∧ fs.lookup m = none ∧
  t σ H1 fun vs H2 => sp (x :: (vs ++ dvs)) H2 Q E
/-- C(..): a new instance and its dict, then __init__ -/
def tMake (C : Addr) (sp : Sp) (dvs : List V) (E : XK) (t : TA) : TE := fun σ H Q => t σ H fun vs H1 => ∀ x dx, H1 x = none → H1 dx = none → dx ≠ x →
  sp (.ref x :: (vs ++ dvs)) (upd (upd H1 dx (.own x)) x (.ins C dx [])) (fun v H2 => v = .non ∧ Q (.ref x) H2) E

/-- how the parameters are bound: us the positional arguments, kw the keywords' values by name, ds the defaults that fill up -/
def Binds (K : PySem.W.Frag) (fd : FuncData) (ps : List Str) (ds : List Value) : Prop :=
  ∀ (s : Shared) (us : List Value), K.In s.heap → (us ++ ds).length = ps.length → BindsTo s fd ⟨us, []⟩ (ps.zip (us ++ ds))
/-- every parameter is given -/
theorem Binds.all {K : PySem.W.Frag} {fd : FuncData} {ps : List Str} (h : ∀ us : List Value, us.length = ps.length → bindArgs fd ⟨us, []⟩ = pure (ps.zip us)) : Binds K fd ps [] := fun s us _ hl => by
  rw [List.append_nil] at hl ⊢
  exact .of_eq (h us hl)

/-- an exception of a callee reaches what this body wants of exceptions -/
def Passes (CX : CXT) (X : Cx) (E : XK) : Prop := ∀ (pins : List (Addr × Obj)) (σ : St) (H : Hp) (s : Shared) (e : Value) (s' : Shared), Inv X pins σ H s → CX X.stack H s E e s' → X.xe e s'

section
variable {X : Cx} {CX : CXT} {k : Nat} {f C : Addr} {fd : FuncData} {ps : List Str} {sp : Sp} {dvs : List V} {ds : List Value} {E : XK} {x m : Str} {p pos apos : Pos} {e o : Expr} {es : List Expr} {ta : TE} {t : TA}

/-- the callee runs -/
theorem run_fn {pins : List (Addr × Obj)} {σ : St} {H : Hp} {s : Shared} {Q : VK} {us : List Value} {vs : List V} (F : FnOk X.prog X.w X.K X.mg X.base CX k f fd ps sp) (hr : Room k X.A) (hb : Binds X.K fd ps ds) (hd : Vals dvs ds) (hx : Passes CX X E)
    (I : Inv X pins σ H s) (r : Vals vs us) (h : sp (vs ++ dvs) H Q E) : wpAny (model X.prog X.w) X.A (call (.ref f) us) (EP X pins σ Q) X.xe s := by
  have r2 : Vals (vs ++ dvs) (us ++ ds) := r.append hd
  have hl : (us ++ ds).length = ps.length := by rw [← r2.length]; exact F.len _ _ _ _ h
  refine wpAny_call (codeAny_mono (F.run X.A X.stack s H ⟨us, []⟩ (us ++ ds) (vs ++ dvs) Q E hr I.env0 (hb s us I.kIn hl) r2 h) fun r s' hq => ?_)
  cases r with
  | error e => exact hx pins σ H s e s' I hq
  | ok fl =>
    cases fl with
    | ret u => exact I.after hq
    | next => exact False.elim hq
    | brk => exact False.elim hq
    | cont => exact False.elim hq

theorem pe_call (F : FnOk X.prog X.w X.K X.mg X.base CX k f fd ps sp) (hr : Room k X.A) (hg : Gl X x) (hm : X.mg x = some (.ref f)) (hk : PySem.W.keepIn X.K (.ref f) = true) (hb : Binds X.K fd ps ds) (hd : Vals dvs ds) (hx : Passes CX X E)
    (ha : PA X (e :: es) t) (hdb : (x == ("__debug__" : Str)) = false := by decide) (he : starEach (e :: es) X.env = (false, eval e X.env) :: starEach es X.env := by rfl) (hpl : (backTo pos (starEach es X.env)).any (·.1) = false := by rfl) :
    PE X (.Call (.Name x p) (e :: es) [] pos) (tCall sp dvs E t) := by
  intro pins s σ H Q I h
  refine wpAny_Call_Name_kw (ld_glob I hg hm ?_ hdb)
  refine PySem.W.callWith_K (h₀ := X.base) I.ok.mod.kin hk (thn (ha pos pins s σ H _ I h) fun us s1 ⟨vs, H1, I1, r, q⟩ => ⟨I1.kIn, ?_⟩) he hpl
  exact run_fn F hr hb hd hx I1 r q
theorem pe_call0 (F : FnOk X.prog X.w X.K X.mg X.base CX k f fd ps sp) (hr : Room k X.A) (hg : Gl X x) (hm : X.mg x = some (.ref f)) (hk : PySem.W.keepIn X.K (.ref f) = true) (hb : Binds X.K fd ps ds) (hd : Vals dvs ds) (hx : Passes CX X E)
    (hdb : (x == ("__debug__" : Str)) = false := by decide) : PE X (.Call (.Name x p) [] [] pos) (tCall sp dvs E tNil) := by
  intro pins s σ H Q I h
  refine wpAny_Call_Name_kw (ld_glob I hg hm ?_ hdb)
  exact PySem.W.callWith_K0 I.kIn hk (run_fn (us := []) F hr hb hd hx I .nil h)

/-- o.m(e, ..) -/
theorem pe_meth {pl : Sem Bool} (he : PE X o ta) (c : Cls X.K C) (hm : Meth X.K C m f) (F : FnOk X.prog X.w X.K X.mg X.base CX k f fd ps sp) (hr : Room k X.A) (hb : Binds X.K fd ps ds) (hd : Vals dvs ds) (hx : Passes CX X E) (ha : PA X (e :: es) t)
    (hst : starEach (e :: es) X.env = (false, eval e X.env) :: starEach es X.env := by rfl) (hpl : (backTo pos (starEach es X.env)).any (·.1) = false := by rfl)
    (ht : eval (.Call (.Attribute o m apos) (e :: es) [] pos) X.env = (do
      let ov ← eval o X.env
      standAt apos.atName
      let (f, first) ← holding [ov] (getMethod ov m pl)
      callWith pos f first (backTo pos (starEach (e :: es) X.env)) (backToKw pos (keywordEach [] X.env))) := by rfl) :
    PE X (.Call (.Attribute o m apos) (e :: es) [] pos) (tMeth C m sp dvs E ta t) := by
  intro pins s σ H Q I h
  refine PySem.W.methodCall_KW (pl := pl) (thn (he pins s σ H _ I h) fun u s1 ⟨x, H1, I1, rx, a, dx, fs, ex, ea, l, q⟩ => ?_) ht
  subst ex
  obtain rfl : u = Value.ref a := rx
  refine getmeth_ok I1 ea c hm l ?_
  refine PySem.W.callWith_K (first := [.ref a]) (h₀ := X.base) I.ok.mod.kin hm.kp (thn (ha pos pins s1 σ H1 _ I1 q) fun us s2 ⟨vs, H2, I2, r, q2⟩ => ⟨I2.kIn, ?_⟩) hst hpl
  exact run_fn (us := .ref a :: us) (vs := .ref a :: vs) F hr hb hd hx I2 (.cons rfl r) q2
/-- o.m() -/
theorem pe_meth0 {pl : Sem Bool} (he : PE X o ta) (c : Cls X.K C) (hm : Meth X.K C m f) (F : FnOk X.prog X.w X.K X.mg X.base CX k f fd ps sp) (hr : Room k X.A) (hb : Binds X.K fd ps ds) (hd : Vals dvs ds) (hx : Passes CX X E)
    (ht : eval (.Call (.Attribute o m apos) [] [] pos) X.env = (do
      let ov ← eval o X.env
      standAt apos.atName
      let (f, first) ← holding [ov] (getMethod ov m pl)
      callWith pos f first (backTo pos (starEach [] X.env)) (backToKw pos (keywordEach [] X.env))) := by rfl) :
    PE X (.Call (.Attribute o m apos) [] [] pos) (tMeth C m sp dvs E ta tNil) := by
  intro pins s σ H Q I h
  refine PySem.W.methodCall_KW (pl := pl) (thn (he pins s σ H _ I h) fun u s1 ⟨x, H1, I1, rx, a, dx, fs, ex, ea, l, q⟩ => ?_) ht
  subst ex
  obtain rfl : u = Value.ref a := rx
  refine getmeth_ok I1 ea c hm l ?_
  exact PySem.W.callWith_K0 (first := [.ref a]) I1.kIn hm.kp (run_fn (us := [.ref a]) (vs := [.ref a]) F hr hb hd hx I1 (.cons rfl .nil) q)

/-- what a class must have to be made -/
structure Mk (K : PySem.W.Frag) (C f : Addr) : Prop where
  makes : PySem.W.makesIn K C = true
  init : PySem.W.findIn K (.ref C) "__init__" = some (some (.ref f))
  fn : PySem.W.isFn K (.ref f) = true
  kp : PySem.W.keepIn K (.ref C) = true

theorem run_make {pins : List (Addr × Obj)} {σ : St} {H : Hp} {s : Shared} {Q : VK} {us : List Value} {vs : List V} (M : Mk X.K C f) (F : FnOk X.prog X.w X.K X.mg X.base CX k f fd ps sp) (hr : Room (k + 1) X.A) (hb : Binds X.K fd ps ds) (hd : Vals dvs ds)
    (hx : Passes CX X E) (I : Inv X pins σ H s) (r : Vals vs us)
    (h : ∀ x dx, H x = none → H dx = none → dx ≠ x → sp (.ref x :: (vs ++ dvs)) (upd (upd H dx (.own x)) x (.ins C dx [])) (fun v H2 => v = .non ∧ Q (.ref x) H2) E) :
    wpAny (model X.prog X.w) X.A (call (.ref C) us) (EP X pins σ Q) X.xe s := by
  have hq := h (s.heap.objs.size + 1) s.heap.objs.size (I.hok.fresh (Nat.le_succ _)) (I.hok.fresh (Nat.le_refl _)) (Nat.ne_of_lt (Nat.lt_succ_self _))
  have I2 := Inv.made (C := C) I
  have r2 : Vals (V.ref (s.heap.objs.size + 1) :: (vs ++ dvs)) (Value.ref (s.heap.objs.size + 1) :: (us ++ ds)) := .cons rfl (r.append hd)
  have hl : (Value.ref (s.heap.objs.size + 1) :: us ++ ds).length = ps.length := by
    have e := r2.length
    rw [F.len _ _ _ _ hq] at e
    exact e.symm
  refine wpAny_call (make_map (f := f) I.kIn M.makes M.init (beq_iff_eq.mp M.fn) (codeAny_mono (F.run _ X.stack _ _ ⟨Value.ref (s.heap.objs.size + 1) :: us, []⟩ (Value.ref (s.heap.objs.size + 1) :: (us ++ ds)) _ _ E (hr.make C us [])
    (I2.env0.make C us []) (hb _ (Value.ref (s.heap.objs.size + 1) :: us) I2.kIn hl) r2 hq) fun r s' hq' => ?_))
  cases r with
  | error e => exact hx pins σ _ _ e s' I2 hq'
  | ok fl =>
    cases fl with
    | ret u =>
      obtain ⟨v, H', I3, rv, ev, q3⟩ := I2.after hq'
      subst ev
      exact ⟨rv, ⟨V.ref (s.heap.objs.size + 1), H', I3, rfl, q3⟩⟩
    | next => exact False.elim hq'
    | brk => exact False.elim hq'
    | cont => exact False.elim hq'
theorem pe_make (M : Mk X.K C f) (F : FnOk X.prog X.w X.K X.mg X.base CX k f fd ps sp) (hr : Room (k + 1) X.A) (hg : Gl X x) (hm : X.mg x = some (.ref C)) (hb : Binds X.K fd ps ds) (hd : Vals dvs ds) (hx : Passes CX X E)
    (ha : PA X (e :: es) t) (hdb : (x == ("__debug__" : Str)) = false := by decide) (he : starEach (e :: es) X.env = (false, eval e X.env) :: starEach es X.env := by rfl) (hpl : (backTo pos (starEach es X.env)).any (·.1) = false := by rfl) :
    PE X (.Call (.Name x p) (e :: es) [] pos) (tMake C sp dvs E t) := by
  intro pins s σ H Q I h
  refine wpAny_Call_Name_kw (ld_glob I hg hm ?_ hdb)
  refine PySem.W.callWith_K (h₀ := X.base) I.ok.mod.kin M.kp (thn (ha pos pins s σ H _ I h) fun us s1 ⟨vs, H1, I1, r, q⟩ => ⟨I1.kIn, ?_⟩) he hpl
  exact run_make M F hr hb hd hx I1 r q
theorem pe_make0 (M : Mk X.K C f) (F : FnOk X.prog X.w X.K X.mg X.base CX k f fd ps sp) (hr : Room (k + 1) X.A) (hg : Gl X x) (hm : X.mg x = some (.ref C)) (hb : Binds X.K fd ps ds) (hd : Vals dvs ds) (hx : Passes CX X E)
    (hdb : (x == ("__debug__" : Str)) = false := by decide) : PE X (.Call (.Name x p) [] [] pos) (tMake C sp dvs E tNil) := by
  intro pins s σ H Q I h
  refine wpAny_Call_Name_kw (ld_glob I hg hm ?_ hdb)
  exact PySem.W.callWith_K0 I.kIn M.kp (run_make (us := []) M F hr hb hd hx I .nil h)
end

/-! ### keywords -/
/-- the values of the keywords, from the left -/
def PK (X : Cx) (kws : List Keyword) (t : TA) : Prop :=
  ∀ (pos : Pos) (pins : List (Addr × Obj)) (s : Shared) (σ : St) (H : Hp) (Q : List V → Hp → Prop), Inv X pins σ H s → t σ H Q → wpAny (model X.prog X.w) X.A (evalAll ((backToKw pos (keywordEach kws X.env)).map (·.2))) (AP X pins σ Q) X.xe s
section
variable {X : Cx} {CX : CXT} {k : Nat} {f C : Addr} {fd : FuncData} {ps ks : List Str} {sp : Sp} {E : XK} {x m : Str} {p pos apos kpos : Pos} {e o : Expr} {es : List Expr} {kws : List Keyword} {te ta : TE} {t tk : TA} {nm : Option Str}
theorem pk_nil : PK X [] tNil := fun _ _ _ _ H Q I h => wpAny_evalAll_nil ⟨[], H, I, .nil, h⟩
theorem pk_cons (ha : PE X e te) (hr : PK X kws t) : PK X (⟨nm, e, kpos⟩ :: kws) (tCons te t) := by
  intro pos pins s σ H Q I h
  show wpAny _ _ (evalAll ((do let v ← eval e X.env; standAt pos; pure v) :: (backToKw pos (keywordEach kws X.env)).map (·.2))) _ _ s
  refine wpAny_evalAll_cons (wpAny_bind (thn (ha pins s σ H _ I h) fun u s1 ⟨x, H1, I1, r1, q1⟩ => wpAny_bind (wpAny_standAt (wpAny_pure ?_))))
  exact thn (hr pos pins s1 σ H1 _ I1 q1) fun us s2 ⟨xs, H2, I2, r2, q2⟩ => ⟨x :: xs, H2, I2, .cons r1 r2, q2⟩

/-- how a call with keywords binds: g puts the positional values us and the keywords' values ws (names ks) in the parameters' order, defaults among them -/
structure KBinds (K : PySem.W.Frag) (fd : FuncData) (ps ks : List Str) (g : List Value → List Value → List Value) (gV : List V → List V → List V) : Prop where
  to : ∀ (s : Shared) (us ws : List Value), K.In s.heap → (g us ws).length = ps.length → BindsTo s fd ⟨us, ks.zip ws⟩ (ps.zip (g us ws))
  rel : ∀ {vs : List V} {us : List Value} {zs : List V} {ws : List Value}, Vals vs us → Vals zs ws → Vals (gV vs zs) (g us ws)
def tCallK (sp : Sp) (gV : List V → List V → List V) (E : XK) (t tk : TA) : TE := fun σ H Q => t σ H fun vs H1 => tk σ H1 fun zs H2 => sp (gV vs zs) H2 Q E
variable {g : List Value → List Value → List Value} {gV : List V → List V → List V}
theorem run_fnk {pins : List (Addr × Obj)} {σ : St} {H : Hp} {s : Shared} {Q : VK} {us ws : List Value} {vs zs : List V} (F : FnOk X.prog X.w X.K X.mg X.base CX k f fd ps sp) (hr : Room k X.A) (hb : KBinds X.K fd ps ks g gV) (hx : Passes CX X E)
    (I : Inv X pins σ H s) (r : Vals vs us) (rz : Vals zs ws) (h : sp (gV vs zs) H Q E) : wpAny (model X.prog X.w) X.A (call (.ref f) us (ks.zip ws)) (EP X pins σ Q) X.xe s := by
  have r2 := hb.rel r rz
  have hl : (g us ws).length = ps.length := by rw [← r2.length]; exact F.len _ _ _ _ h
  refine wpAny_call (codeAny_mono (F.run X.A X.stack s H ⟨us, ks.zip ws⟩ (g us ws) (gV vs zs) Q E hr I.env0 (hb.to s us ws I.kIn hl) r2 h) fun r s' hq => ?_)
  cases r with
  | error e => exact hx pins σ H s e s' I hq
  | ok fl =>
    cases fl with
    | ret u => exact I.after hq
    | next => exact False.elim hq
    | brk => exact False.elim hq
    | cont => exact False.elim hq
/-- f(e, .., k = v, ..) -/
theorem pe_callK (F : FnOk X.prog X.w X.K X.mg X.base CX k f fd ps sp) (hr : Room k X.A) (hg : Gl X x) (hm : X.mg x = some (.ref f)) (hk : PySem.W.keepIn X.K (.ref f) = true) (hb : KBinds X.K fd ps ks g gV) (hx : Passes CX X E)
    (ha : PA X (e :: es) t) (hkw : PK X kws tk) (hall : (backToKw pos (keywordEach kws X.env)).all (·.1.isSome) = true := by rfl) (hks : (backToKw pos (keywordEach kws X.env)).filterMap (·.1) = ks := by rfl)
    (hdb : (x == ("__debug__" : Str)) = false := by decide) (he : starEach (e :: es) X.env = (false, eval e X.env) :: starEach es X.env := by rfl)
    (hpl : ((backTo pos (starEach (e :: es) X.env)).any (·.1) || (backToKw pos (keywordEach kws X.env)).any (·.1.isNone)) = false := by rfl) :
    PE X (.Call (.Name x p) (e :: es) kws pos) (tCallK sp gV E t tk) := by
  intro pins s σ H Q I h
  refine wpAny_Call_Name_kw (ld_glob I hg hm ?_ hdb)
  refine PySem.W.callWith_KW (h₀ := X.base) I.ok.mod.kin hk hall (thn (ha pos pins s σ H _ I h) fun us s1 ⟨vs, H1, I1, r, q⟩ => ?_) hpl he
  refine thn (hkw pos pins s1 σ H1 _ I1 q) fun ws s2 ⟨zs, H2, I2, rz, q2⟩ => ⟨I2.kIn, ?_⟩
  rw [hks]
  exact run_fnk F hr hb hx I2 r rz q2
end

/-! ### a def's body keeps its promise -/
/-- names: the parameters first -/
structure FnScope (N P : List Str) (sc : Scope) : Prop where
  kind : sc.kind = .function
  co : sc.isCoroutine = false
  gen : sc.isGenerator = false
  nd : N.Nodup
  pre : N.take P.length = P
  par : ∀ x ∈ P, sc.names.lookup x = some .local ∨ sc.names.lookup x = some .cell
  nofree : ∀ y ∈ sc.names, y.2 ≠ .free

theorem bindL_out {kindOf : Str → Option NameKind} {x : Str} : ∀ {binds : List (Str × Value)} {m : Str → Option Value}, (∀ v, (x, v) ∉ binds) → bindL kindOf binds m x = m x
  | [], _, _ => rfl
  | (n, v) :: r, m, h => by
    unfold bindL
    rw [bindL_out fun w hw => h w (List.mem_cons_of_mem _ hw)]
    split
    · have : x ≠ n := by rintro rfl; exact h v List.mem_cons_self
      simp [this]
    · rfl
theorem bindC_out {kindOf : Str → Option NameKind} {x : Str} : ∀ {binds : List (Str × Value)} {m : Str → Option Value}, (∀ v, (x, v) ∉ binds) → bindC kindOf binds m x = m x
  | [], _, _ => rfl
  | (n, v) :: r, m, h => by
    unfold bindC
    rw [bindC_out fun w hw => h w (List.mem_cons_of_mem _ hw)]
    split
    · rfl
    · have : x ≠ n := by rintro rfl; exact h v List.mem_cons_self
      simp [this]
theorem bindL_get {kindOf : Str → Option NameKind} {x : Str} {v : Value} : ∀ {P : List Str} {vs : List Value} {i : Nat} {m : Str → Option Value}, P.Nodup → P[i]? = some x → vs[i]? = some v → kindOf x = some .local →
    bindL kindOf (P.zip vs) m x = some v
  | [], _, _, _, _, h, _, _ => by simp at h
  | _ :: _, [], _, _, _, _, h, _ => by simp at h
  | p :: P, w :: vs, 0, m, nd, h1, h2, hk => by
    simp at h1 h2; subst h1; subst h2
    show bindL kindOf ((p, w) :: P.zip vs) m p = _
    unfold bindL
    rw [bindL_out fun v hv => (List.nodup_cons.mp nd).1 (List.of_mem_zip hv).1, if_pos hk]
    simp
  | p :: P, w :: vs, i + 1, m, nd, h1, h2, hk => by
    show bindL kindOf ((p, w) :: P.zip vs) m x = _
    unfold bindL
    exact bindL_get (i := i) (List.nodup_cons.mp nd).2 (by simpa using h1) (by simpa using h2) hk
theorem bindC_get {kindOf : Str → Option NameKind} {x : Str} {v : Value} : ∀ {P : List Str} {vs : List Value} {i : Nat} {m : Str → Option Value}, P.Nodup → P[i]? = some x → vs[i]? = some v → kindOf x ≠ some .local →
    bindC kindOf (P.zip vs) m x = some v
  | [], _, _, _, _, h, _, _ => by simp at h
  | _ :: _, [], _, _, _, _, h, _ => by simp at h
  | p :: P, w :: vs, 0, m, nd, h1, h2, hk => by
    simp at h1 h2; subst h1; subst h2
    show bindC kindOf ((p, w) :: P.zip vs) m p = _
    unfold bindC
    rw [bindC_out fun v hv => (List.nodup_cons.mp nd).1 (List.of_mem_zip hv).1, if_neg hk]
    simp
  | p :: P, w :: vs, i + 1, m, nd, h1, h2, hk => by
    show bindC kindOf ((p, w) :: P.zip vs) m x = _
    unfold bindC
    exact bindC_get (i := i) (List.nodup_cons.mp nd).2 (by simpa using h1) (by simpa using h2) hk

/-- the names' values at the entry -/
def start (N : List Str) (vs : List V) : St := vs.map some ++ List.replicate (N.length - vs.length) none

/-- the context of a def's body, at its entry; an exception leaves the frame, then lies as CX says -/
def cxOf (CX : CXT) (P : Program) (w : World) (K : PySem.W.Frag) (mg : Str → Option Value) (base : Heap) (N : List Str) (qual : Str) (scope : Scope) (f : Addr) (cd : Value) (A : Around) (outer : List Env) (s : Shared) (H : Hp) (E : XK) : Cx where
  prog := P
  w := w
  K := K
  mg := mg
  base := base
  A := A.deeper (envOfC qual scope s.heap.objs.size f cd)
  N := N
  s₀ := s
  H₀ := H
  env := envOfC qual scope s.heap.objs.size f cd
  outer := outer
  stack := envOfC qual scope s.heap.objs.size f cd :: outer
  ex := []
  calm := true
  fn := fun _ => true
  pn := []
  xe := fun e s' => wpAny (model P w) (A.deeper (envOfC qual scope s.heap.objs.size f cd)) (leaving (envOfC qual scope s.heap.objs.size f cd) e) (fun _ s'' => CX outer H s E e s'') (fun e' s'' => CX outer H s E e' s'') s'

theorem cell_has {sc : Scope} {n : Nat} {x : Str} (h : sc.names.lookup x = some .cell) : ∃ c, (cellsFrom n sc.names []).lookup x = some c := by
  have q := PySem.W.cellsFrom_some sc.names n [] (.inl h)
  exact Option.isSome_iff_exists.mp q

theorem inv_start {CX : CXT} {P : Program} {w : World} {K : PySem.W.Frag} {mg : Str → Option Value} {base : Heap} {N ps : List Str} {qual : Str} {scope : Scope} {f : Addr} {cd : Value} {A : Around} {outer : List Env} {s s1 : Shared} {H : Hp} {E : XK} {us : List Value} {vs : List V}
    (S : FnScope N ps scope) (hd : A.handled = none) (e0 : Env0 P w K mg base A outer s H) (hl : vs.length = ps.length) (r : Vals vs us)
    (x : InCallC s s.heap.objs.size (bindL (envOfC qual scope s.heap.objs.size f cd).kindOf (ps.zip us) fun _ => none) (cellsFrom (s.heap.objs.size + 1) scope.names []) (bindC (envOfC qual scope s.heap.objs.size f cd).kindOf (ps.zip us) fun _ => none) s1) :
    Inv (cxOf CX P w K mg base N qual scope f cd A outer s H E) [] (start N vs) H s1 := by
  have hpl : ps.length ≤ N.length := by have := congrArg List.length S.pre; rw [List.length_take] at this; omega
  obtain ⟨h1, tk, rfl, hk⟩ := x.done
  have noA : ∀ b : Addr, b ∉ (cxOf CX P w K mg base N qual scope f cd A outer s H E).ex := fun b z => absurd (show b ∈ ([] : List Addr) from z) (by simp)
  refine ⟨⟨e0.mod, S.kind, rfl, rfl, Nat.le_refl _, fun y z c h1 h2 => ?_, fun y hy => ?_, fun y c _ h => ?_, fun _ => hd, Around.frames_deeper e0.frames, .inr ⟨rfl, rfl⟩, fun b z => absurd z (noA b), e0.bs, e0.bsz, fun b _ _ => noA b, fun b z => absurd z (noA b), e0.funs, e0.frf⟩,
    rfl, e0.bare, Un.kept hk, ⟨_, x.toInCall.ns, fun i y v h1 h2 h3 => ?_⟩, fun y c h => ⟨_, x.cell y c h⟩, e0.hok.fresh (Nat.le_refl _), fun y c h => ?_, fun p hp => absurd (show p ∈ ([] : List (Addr × Obj)) from hp) (by simp), e0.hok.kept hk, ?_⟩
  · exact name_of_addr x.apart (PySem.mem_of_lookup h1) (PySem.mem_of_lookup h2)
  · have hy : scope.names.lookup y = some .cell ∨ scope.names.lookup y = some .free := hy
    rcases hy with hy | hy
    · exact cell_has hy
    · exact absurd rfl (S.nofree _ (PySem.mem_of_lookup hy))
  · exact Nat.le_of_lt (x.above y c (PySem.mem_of_lookup h))
  · have hi : i < vs.length := by
      unfold start at h2
      by_cases hi : i < vs.length
      · exact hi
      · rw [List.getElem?_append_right (by simpa using hi)] at h2
        rw [List.getElem?_replicate] at h2
        split at h2 <;> cases h2
    have ha : vs[i]? = some v := by
      unfold start at h2
      rw [List.getElem?_append_left (by simpa using hi), List.getElem?_map] at h2
      cases e : vs[i]? with
      | none => rw [e] at h2; cases h2
      | some a => rw [e] at h2; cases h2; rfl
    obtain ⟨u, hu, rv⟩ := r.get ha
    have hp : ps[i]? = some y := by
      rw [← S.pre, List.getElem?_take_of_lt (by omega)]; exact h1
    have ndP : ps.Nodup := by rw [← S.pre]; exact S.nd.sublist (List.take_sublist _ _)
    refine ⟨u, rv, ?_⟩
    rcases S.par y (List.mem_of_getElem? hp) with k | k
    · exact .inl ⟨k, bindL_get ndP hp hu k⟩
    · obtain ⟨c, e⟩ := cell_has (n := s.heap.objs.size + 1) k
      refine .inr ⟨.inl k, c, e, ?_⟩
      have q := x.cell y c e
      rw [bindC_get ndP hp hu (by show scope.names.lookup y ≠ _; rw [k]; decide)] at q
      exact q
  · exact e0.hok.fresh (Nat.le_of_lt (x.above y c (PySem.mem_of_lookup h)))
  · unfold start
    show _ = N.length
    rw [List.length_append, List.length_map, List.length_replicate]
    omega

/-- THE RULE: a def (or a method) of the text, by its body. The body's reading t is chosen for each entry; it is run at the parameters' values -/
theorem fn_of {CX : CXT} {P : Program} {w : World} {K : PySem.W.Frag} {mg : Str → Option Value} {base : Heap} {k : Nat} {f : Addr} {name qual : Str} {params : Arguments} {body : List Stmt} {scope : Scope} {dV kV doc pm cdv ct oc : Value} {an od : Option Addr}
    {osl : Array (Option Value)} {N ps : List Str} {sp : Sp} (lk : K.lookup f = some ⟨oc, od, .func (PySem.W.fnOf name qual params body scope dV kV doc pm an cdv ct), osl⟩) (hcd : PySem.W.codeIn K cdv qual = true) (S : FnScope N ps scope)
    (len : ∀ vs H Q E, sp vs H Q E → vs.length = ps.length)
    (hbody : ∀ (A : Around) (outer : List Env) (s : Shared) (H : Hp) (vs : List V) (Q : VK) (E : XK), Room k (A.deeper (envOfC qual scope s.heap.objs.size f cdv)) → sp vs H Q E →
      ∃ t, PSs (cxOf CX P w K mg base N qual scope f cdv A outer s H E) body t ∧ t { nx := fun _ H' => Q .non H', rt := Q } (start N vs) H) :
    FnOk P w K mg base CX (k + 1) f (PySem.W.fnOf name qual params body scope dV kV doc pm an cdv ct) ps sp := by
  refine ⟨len, fun A outer s H args us vs Q E hr e0 hb r hsp => ?_⟩
  have hl := len _ _ _ _ hsp
  have KX : K.In s.heap := e0.mod.kin.keeps fun b o e => (e0.bs b o e).1
  have lim : s.heap.NoLimit := e0.mod.nolimit.keeps fun b o e => (e0.bs b o e).1
  have hkind : ∀ y ∈ ps.zip us, scope.names.lookup y.1 = some .local ∨ (scope.names.lookup y.1 = some .cell ∧ ((cellsFrom (s.heap.objs.size + 1) scope.names []).lookup y.1).isSome = true) := fun ⟨n, v⟩ hy => by
    rcases S.par n (List.of_mem_zip hy).1 with q | q
    · exact .inl q
    · exact .inr ⟨q, PySem.W.cellsFrom_some _ _ _ (.inl q)⟩
  refine codeAny_call_function hr.depth (KX _ _ lk) rfl S.co S.gen rfl (PySem.W.codeRec_of KX hcd) (hb _ _ _ _ ?_)
  refine wpAny_newFunctionEnv_cells S.kind hkind fun env he s1 x => ?_
  subst he
  refine ⟨lim.keeps x.toInCall.keep, codeAny_func ?_⟩
  obtain ⟨t, ht, hq⟩ := hbody A outer s H vs Q E (hr.deeper _) hsp
  have I : Inv (cxOf CX P w K mg base N qual scope f cdv A outer s H E) [] (start N vs) H s1 := inv_start S hr.hd e0 hl r x
  refine wpAny_mono (ht [] s1 (start N vs) H _ I hq) (fun fl s' hs => ?_) fun e s' hs => hs
  have fin : ∀ {σ' : St} {H' : Hp} {v : V} {u : Value}, Inv (cxOf CX P w K mg base N qual scope f cdv A outer s H E) [] σ' H' s' → RelV v u → Q v H' → CE outer P w H s Q u s' :=
    fun {σ' H' v u} J rv q => ⟨v, H', J.os, J.bare, J.base, J.hok, rv, q⟩
  cases fl with
  | ret u =>
    obtain ⟨v, σ', H', J, rv, q⟩ := hs
    exact fin J rv q
  | next =>
    obtain ⟨σ', H', J, q⟩ := hs
    exact fin (v := V.non) (u := Value.none) J rfl q
  | brk =>
    obtain ⟨_, _, _, q⟩ := hs
    exact False.elim q
  | cont =>
    obtain ⟨_, _, _, q⟩ := hs
    exact False.elim q
end L2

namespace L2
open PySem PySem.Spec PyProof.Rows
section
variable {X : Cx} {x : Str} {p pos : Pos} {e : Expr} {es : List Expr} {t : TA} {id T : String} {r : List V → Hp → VK → Prop}

def tCB (r : List V → Hp → VK → Prop) (t : TA) : TE := fun σ H Q => t σ H fun vs H1 => r vs H1 Q
/-- f(e, ..), f a built-in function -/
theorem pe_callB (hc : CallR X (.builtin id) r) (hg : Gl X x) (hm : X.mg x = none) (hv : bootBuiltins x = some (.builtin id)) (ha : PA X (e :: es) t) (hn : x ≠ "__name__" := by decide) (hdb : (x == ("__debug__" : Str)) = false := by decide)
    (he : starEach (e :: es) X.env = (false, eval e X.env) :: starEach es X.env := by rfl) (hpl : (backTo pos (starEach es X.env)).any (·.1) = false := by rfl) : PE X (.Call (.Name x p) (e :: es) [] pos) (tCB r t) := by
  intro pins s σ H Q I h
  refine wpAny_Call_Name_kw (ld_blt I hg hm hv ?_ hn hdb)
  exact PyProof.Rows.callWith_builtin1 (thn (ha pos pins s σ H _ I h) fun us s1 ⟨vs, H1, I1, r1, q1⟩ => hc pins s1 σ H1 vs us Q I1 r1 q1) he hpl
/-- T(e, ..), T a built-in type -/
theorem pe_callTy (hc : CallR X (.type T) r) (hg : Gl X x) (hm : X.mg x = none) (hv : bootBuiltins x = some (.type T)) (ha : PA X (e :: es) t) (hn : x ≠ "__name__" := by decide) (hdb : (x == ("__debug__" : Str)) = false := by decide)
    (he : starEach (e :: es) X.env = (false, eval e X.env) :: starEach es X.env := by rfl) (hpl : (backTo pos (starEach es X.env)).any (·.1) = false := by rfl) : PE X (.Call (.Name x p) (e :: es) [] pos) (tCB r t) := by
  intro pins s σ H Q I h
  refine wpAny_Call_Name_kw (ld_blt I hg hm hv ?_ hn hdb)
  exact PyProof.Rows.callWith_type1 (thn (ha pos pins s σ H _ I h) fun us s1 ⟨vs, H1, I1, r1, q1⟩ => hc pins s1 σ H1 vs us Q I1 r1 q1) he hpl
/-- T() -/
theorem pe_callTy0 (hc : CallR X (.type T) r) (hg : Gl X x) (hm : X.mg x = none) (hv : bootBuiltins x = some (.type T)) (hn : x ≠ "__name__" := by decide) (hdb : (x == ("__debug__" : Str)) = false := by decide) :
    PE X (.Call (.Name x p) [] [] pos) (tCB r tNil) := by
  intro pins s σ H Q I h
  refine wpAny_Call_Name_kw (ld_blt I hg hm hv ?_ hn hdb)
  exact PyProof.Rows.callWith_type0 (hc pins s σ H [] [] Q I .nil h)
end
end L2

namespace HT
open PySem PyProof.Rows

/-- t < u of tuples of ints -/
def lexLt : List Int → List Int → Bool
  | [], [] => false
  | [], _ :: _ => true
  | _ :: _, [] => false
  | x :: xs, y :: ys => if x = y then lexLt xs ys else decide (x < y)
theorem lexLt_cons (x y : Int) (xs ys : List Int) : lexLt (x :: xs) (y :: ys) = if x = y then lexLt xs ys else decide (x < y) := rfl
theorem lexLt_nil_nil : lexLt [] [] = false := rfl
theorem lexLt_nil_cons (y : Int) (ys : List Int) : lexLt [] (y :: ys) = true := rfl
theorem lexLt_cons_nil (x : Int) (xs : List Int) : lexLt (x :: xs) [] = false := rfl

theorem eqAt_int (A : Around) (s : Shared) (a : Int) (t : Tok) (c : Int) (u : Tok) : ∃ e, SeqAt.EqAt A s (.int a t) (.int c u) e ∧ (e = true ↔ a = c) :=
  ⟨(a == c), SeqAt.EqAt.int_int a t c u, by simp⟩
theorem rcLt_int (A : Around) (s : Shared) (a : Int) (t : Tok) (c : Int) (u : Tok) (prog : Program) (w : World) (E : Value → Shared → Prop) (Q : Value → Shared → Prop) (h : Q (.bool (decide (a < c))) s) :
    wpAny (model prog w) A (richCompare .Lt (.int a t) (.int c u)) Q E s :=
  (PyProof.Rows.lt_int h : wpAny (model prog w) A (compareOp .Lt (.int a t) (.int c u)) Q E s)

section
open PySem.SeqAt
open PySem.AutoSeq1 (wpAny_loadPart')
open PySem.MeetsSeq PySem.MeetsSeq2 PySem.MeetsSeq3

theorem tuple_lt_ints (l b : Addr) (items items2 : Array Value) (n n2 : Nat) (dd dd2 : Option Addr) (sl sl2 : Array (Option Value)) (ns ms : List Int) (hi : IntsAre items.toList ns) (hj : IntsAre items2.toList ms) :
    Meets (Builtin.«tuple.__lt__» ⟨[.ref l, .ref b], []⟩)
      (fun _ R s => s.heap.get? l = some { cls := .type "tuple", dict := dd, data := .seq items n, slots := sl } ∧ s.heap.get? b = some { cls := .type "tuple", dict := dd2, data := .seq items2 n2, slots := sl2 } ∧
        R (.ok (.ret (.bool (lexLt ns ms)))) s) :=
  .of_wp fun prog w A R s h => by
    obtain ⟨hp, g, d, tk, os⟩ := s; obtain ⟨hl, hb, h⟩ := h
    have f2 := AutoSeq1.sub_tuple_tuple
    have z1 : items.size = ns.length := by rw [← hi.length]; simp
    have z2 : items2.size = ms.length := by rw [← hj.length]; simp
    wp_walk using wpAny_loadPart' hl, wpAny_loadPart' hb, wpAny_forIn_list _ (fun rest b s' => b.1 = none ∧ s' = ⟨hp, g, d, tk, os⟩ ∧ ∃ (vs ws : List Value) (ns' ms' : List Int), rest = vs.zip ws ∧
      IntsAre vs ns' ∧ IntsAre ws ms' ∧ ns'.length + items2.size = ms'.length + items.size ∧ R (.ok (.ret (.bool (lexLt ns' ms')))) ⟨hp, g, d, tk, os⟩) _
    case turn =>
      rintro ⟨y, x⟩ rest b s' ⟨hb', rfl, vs, ws, ns', ms', hz, hvi, hwi, hlen, hR⟩
      cases hvi with
      | nil => rw [List.zip_nil_left] at hz; cases hz
      | cons a t hvi' =>
        cases hwi with
        | nil => rw [List.zip_nil_right] at hz; cases hz
        | cons c u hwi' =>
          rw [List.zip_cons_cons] at hz
          injection hz with hyx hrest
          injection hyx with hy hx
          subst hy hx
          rw [lexLt_cons] at hR
          simp only [List.length_cons] at hlen
          obtain ⟨e, he, hiff⟩ := eqAt_int A.in1 ⟨hp, g, d, tk, os⟩ a t c u
          refine wpAny_bind (he prog w _ _ ?_)
          cases e with
          | true =>
            rw [if_pos (hiff.mp rfl)] at hR
            wp_walk
            exact ⟨rfl, rfl, _, _, _, _, hrest, hvi', hwi', by omega, hR⟩
          | false =>
            rw [if_neg (fun q => absurd (hiff.mpr q) Bool.false_ne_true)] at hR
            have hri := rcLt_int A.in1 ⟨hp, g, d, tk, os⟩ a t c u prog w
            wp_walk using hri
            exact ⟨_, rfl, by simpa using hR⟩
    case fin =>
      rintro ⟨b1, b2⟩ s' ⟨hb', rfl, vs, ws, ns', ms', hz, hvi, hwi, hlen, hR⟩
      simp only at hb'
      subst hb'
      have hv : lexLt ns' ms' = decide (items.size < items2.size) := by
        cases hvi with
        | nil =>
          cases hwi with
          | nil =>
            simp only [List.length_nil] at hlen
            rw [lexLt_nil_nil]
            exact (decide_eq_false (by omega)).symm
          | cons c u hw =>
            simp only [List.length_nil, List.length_cons] at hlen
            rw [lexLt_nil_cons]
            exact (decide_eq_true (by omega)).symm
        | cons a t hv =>
          cases hwi with
          | nil =>
            simp only [List.length_nil, List.length_cons] at hlen
            rw [lexLt_cons_nil]
            exact (decide_eq_false (by omega)).symm
          | cons c u hw =>
            rw [List.zip_cons_cons] at hz
            cases hz
      rw [hv] at hR
      wp_walk
      exact ⟨_, rfl, by simpa [Builtin.Tuple.tupleCompareSizes] using hR⟩
    case h =>
      exact ⟨rfl, rfl, items.toList, items2.toList, ns, ms, rfl, hi, hj, by omega, h⟩
end

section
variable {prog : Program} {w : World} {A : Around} {E : Value → Shared → Prop} {s : Shared}

theorem lt_tupInts {l b : Addr} {items items2 : Array Value} {ns ms : List Int} {Q : Value → Shared → Prop} (hl : IsTup s.heap l items) (hb : IsTup s.heap b items2) (hi : IntsAre items.toList ns) (hj : IntsAre items2.toList ms)
    (hu : A.units < cLine) (h : Q (.bool (lexLt ns ms)) s) : wpAny (model prog w) A (compareOp .Lt (.ref l) (.ref b)) Q E s := by
  obtain ⟨⟨cls, dd, data, sl⟩, ho, hc, n, hd⟩ := id hl
  obtain ⟨⟨cls2, dd2, data2, sl2⟩, ho2, hc2, n2, hd2⟩ := id hb
  simp only at hc hd hc2 hd2
  subst hc hd hc2 hd2
  exact richCompare_meets_room (op := .Lt) ⟨_, ho, rfl⟩ ⟨_, ho2, rfl⟩ PySem.F.slot_tuple_lt PySem.F.entry_tuple_lt (PySem.F.args_tuple_lt_2 _ _) (tuple_lt_ints l b items items2 n n2 dd dd2 sl sl2 ns ms hi hj)
    ⟨ho, ho2, show Value.bool (lexLt ns ms) ≠ Value.notImplemented ∧ Q (.bool (lexLt ns ms)) s from ⟨(fun x => nomatch x), h⟩⟩ hu

/-- t + u, t not empty -/
theorem cat_tup {t b : Addr} {vs ws : List Value} {Q : Value → Shared → Prop} (ht : IsTup s.heap t vs.toArray) (hb : IsTup s.heap b ws.toArray) (hv : vs ≠ [])
    (h1 : ws = [] → Q (.ref t) s) (h2 : ws ≠ [] → Q (.ref s.heap.objs.size) { s with heap := s.heap.push { cls := .type "tuple", data := .seq (vs ++ ws).toArray } })
    (hsz : vs.length + ws.length ≤ sizeLine) : wpAny (model prog w) A (binaryOp .Add (.ref t) (.ref b)) Q E s := by
  obtain ⟨⟨cls, dd, data, sl⟩, ho, hc, n, hd⟩ := id ht
  obtain ⟨⟨cls2, dd2, data2, sl2⟩, ho2, hc2, n2, hd2⟩ := id hb
  simp only at hc hd hc2 hd2
  subst hc hd hc2 hd2
  have e : vs.toArray ++ ws.toArray = (vs ++ ws).toArray := by simp
  by_cases hw : ws = []
  · exact concat_meets ⟨_, ho, rfl⟩ ⟨_, ho2, rfl⟩ noFill_tuple_add seq_tuple_add PySem.F.slot_tuple_add PySem.F.entry_tuple_add (PySem.F.args_tuple_add_2 _ _)
      (tuple_addW1 t b vs.toArray ws.toArray n n2 dd dd2 sl sl2 (by simpa using hv) (by simp [hw])) ⟨ho, ho2, h1 hw⟩
  · refine concat_meets ⟨_, ho, rfl⟩ ⟨_, ho2, rfl⟩ noFill_tuple_add seq_tuple_add PySem.F.slot_tuple_add PySem.F.entry_tuple_add (PySem.F.args_tuple_add_2 _ _)
      (tuple_addW2 t b vs.toArray ws.toArray n n2 dd dd2 sl sl2 (by simpa using hv) (by simpa using hw) (by rw [List.size_toArray, List.size_toArray]; exact hsz)) ⟨ho, ho2, ?_⟩
    rw [e]
    exact h2 hw

/-! ### t[a:b], not the whole -/
/-- a slice's bound as a place among n (d where it is left out) -/
def sIx (n d : Nat) : Option Int → Nat
  | none => d
  | some v => if v < 0 then (v + (n : Int)).toNat else min v.toNat n
theorem sIx_none (n d : Nat) : sIx n d none = d := rfl
theorem sIx_nat (n d k : Nat) : sIx n d (some (k : Int)) = min k n := by
  show (if (k : Int) < 0 then ((k : Int) + (n : Int)).toNat else min (k : Int).toNat n) = min k n
  rw [if_neg (by omega), Int.toNat_natCast]
theorem sIx_le (n d : Nat) (hd : d ≤ n) (o : Option Int) : sIx n d o ≤ n := by
  cases o with
  | none => exact hd
  | some v =>
    show (if v < 0 then (v + (n : Int)).toNat else min v.toNat n) ≤ n
    by_cases hv : v < 0
    · rw [if_pos hv]; omega
    · rw [if_neg hv]; exact Nat.min_le_right _ _
theorem clip_eq (v : Int) (n d : Nat) : (if v < 0 then max (v + (n : Int)) 0 else min v (n : Int)) = ((sIx n d (some v) : Nat) : Int) := by
  show (if v < 0 then max (v + (n : Int)) 0 else min v (n : Int)) = (((if v < 0 then (v + (n : Int)).toNat else min v.toNat n) : Nat) : Int)
  by_cases hv : v < 0
  · simp only [if_pos hv]; omega
  · simp only [if_neg hv]; omega
theorem adjust_gen (lo hi : Option Int) (n : Nat) : Builtin.Slice.sliceAdjust lo hi 1 (n : Int) = (((sIx n 0 lo : Nat) : Int), ((sIx n n hi : Nat) : Int)) := by
  have h1 : ¬ ((1 : Int) < 0) := by omega
  unfold Builtin.Slice.sliceAdjust
  simp only [h1, if_false]
  refine Prod.ext ?_ ?_
  · cases lo with
    | none => rfl
    | some v => exact clip_eq v n 0
  · cases hi with
    | none => rfl
    | some v => exact clip_eq v n n
theorem places_gen (i j : Nat) : Builtin.Slice.slicePlaces (i : Int) (j : Int) 1 = j - i := by
  unfold Builtin.Slice.slicePlaces
  have h1 : (1 : Int) > 0 := by omega
  simp only [h1, if_true, Int.ediv_one]
  split <;> omega
theorem slicePart_ {v : Value} {o : Option Int} {Q : Option Int → Shared → Prop} (p : IsPart v o) (h : Q o s) : wpAny (model prog w) A (Builtin.Slice.slicePartIndex v) Q E s := by
  cases p with
  | none => exact slicePart_none h
  | int i t => exact slicePart_int h
theorem sliceApplied_gen {sl : Addr} {vl vu : Value} {lo hi : Option Int} {n : Nat} {Q : Int × Int × Nat → Shared → Prop} (hs : s.heap.IsSliceOf sl vl vu .none) (pl : IsPart vl lo) (pu : IsPart vu hi)
    (h : Q (((sIx n 0 lo : Nat) : Int), 1, sIx n n hi - sIx n 0 lo) s) : wpAny (model prog w) A (Builtin.Slice.sliceApplied (.ref sl) (pure (n : Int))) Q E s := by
  obtain ⟨os, hos, hcs, hds⟩ := id hs
  unfold Builtin.Slice.sliceApplied Builtin.Slice.sliceFields
  refine wpAny_bind (wpAny_bind (wpAny_field hos hds (x := vl) rfl (wpAny_bind (wpAny_field hos hds (x := vu) rfl (wpAny_bind (wpAny_field hos hds (x := .none) rfl (wpAny_pure ?_)))))))
  refine wpAny_bind (slicePart_none ?_)
  show wpAny _ _ (if ((1 : Int) == 0) = true then _ else _) _ _ s
  rw [if_neg (by decide)]
  refine wpAny_bind (slicePart_ pl (wpAny_bind (slicePart_ pu (wpAny_bind (wpAny_pure ?_)))))
  show wpAny _ _ (match Builtin.Slice.sliceAdjust lo hi 1 (n : Int) with | (lo, hi) => pure (lo, (1 : Int), Builtin.Slice.slicePlaces lo hi 1)) _ _ s
  rw [adjust_gen lo hi n]
  show wpAny _ _ (pure (((sIx n 0 lo : Nat) : Int), (1 : Int), Builtin.Slice.slicePlaces ((sIx n 0 lo : Nat) : Int) ((sIx n n hi : Nat) : Int) 1)) _ _ s
  rw [places_gen]
  exact wpAny_pure h
theorem pick_gen (xs : Array Value) (i k : Nat) : ((List.range k).filterMap fun (m : Nat) => xs[((i : Int) + (m : Int) * 1).toNat]?).toArray = ((xs.toList.drop i).take k).toArray := by
  have e : (fun (m : Nat) => xs[((i : Int) + (m : Int) * 1).toNat]?) = fun m => xs[i + m]? := by
    funext m
    have : ((i : Int) + (m : Int) * 1).toNat = i + m := by omega
    rw [this]
  rw [e]
  have := pick_run xs i k
  rw [List.filterMap_map] at this
  have e2 : ((fun x => xs[x]?) ∘ fun x => i + x) = fun m => xs[i + m]? := rfl
  rw [e2] at this
  rw [this]

theorem getItem_tuple_cut {t sl : Addr} {items : Array Value} {vl vu : Value} {lo hi : Option Int} {Q : Value → Shared → Prop} (ht : IsTup s.heap t items) (hs : s.heap.IsSliceOf sl vl vu .none) (pl : IsPart vl lo) (pu : IsPart vu hi)
    (hw : ¬ (sIx items.size 0 lo = 0 ∧ sIx items.size items.size hi = items.size))
    (h : Q (.ref s.heap.objs.size) { s with heap := s.heap.push { cls := .type "tuple", data := .seq ((items.toList.drop (sIx items.size 0 lo)).take (sIx items.size items.size hi - sIx items.size 0 lo)).toArray } })
    (hsz : items.size ≤ sizeLine) : wpAny (model prog w) A (getItem (.ref t) (.ref sl)) Q E s := by
  have htake : sizeOk (.seq ((items.toList.drop (sIx items.size 0 lo)).take (sIx items.size items.size hi - sIx items.size 0 lo)).toArray) := by
    show ((items.toList.drop (sIx items.size 0 lo)).take (sIx items.size items.size hi - sIx items.size 0 lo)).toArray.size ≤ sizeLine
    rw [List.size_toArray, List.length_take, List.length_drop, Array.length_toList]
    omega
  have hj : sIx items.size items.size hi ≤ items.size := sIx_le _ _ (Nat.le_refl _) hi
  obtain ⟨os, hos, hcs, hds⟩ := id hs
  have hTs : s.TypeIs (.ref sl) "slice" := ⟨os, hos, hcs⟩
  unfold getItem
  try with_reducible refine wpAny_holding ?_
  first | refine wpAny_bind (wpAny_pure ?_) | skip
  refine wpAny_bind (wpAny_sequenceKey ht.typeIs (by decide) ?_)
  refine wpAny_bind (wpAny_callSpecial?_slot (name := Str.ofString "__getitem__") ht.typeIs PyProof.Rows.slot_tuple_getitem
    (wpAny_call_entry PyProof.Rows.slot_tuple_getitem ht.typeIs entry_tuple_getitem ?_ (args_tuple_getitem _ _)))
  show wpAny _ _ (Builtin.Tuple.tupleItemsOf (.ref t) >>= _) _ _ s
  refine wpAny_bind (tupleItemsOf_ ht ?_)
  refine wpAny_bind (wpAny_typeOf hTs ?_)
  rw [if_pos (by decide)]
  refine wpAny_bind (sliceApplied_gen hs pl pu ?_)
  have hno : ¬ ((((sIx items.size 0 lo : Nat) : Int) == 0 && (1 : Int) == 1 && (sIx items.size items.size hi - sIx items.size 0 lo) == items.size) = true) := by
    intro q
    rw [Bool.and_eq_true, Bool.and_eq_true] at q
    have q1 : ((sIx items.size 0 lo : Nat) : Int) = 0 := eq_of_beq q.1.1
    have q2 : sIx items.size items.size hi - sIx items.size 0 lo = items.size := eq_of_beq q.2
    exact hw ⟨by omega, by omega⟩
  show wpAny _ _ (if (((sIx items.size 0 lo : Nat) : Int) == 0 && (1 : Int) == 1 && (sIx items.size items.size hi - sIx items.size 0 lo) == items.size) = true then _ else _) _ _ s
  rw [if_neg hno, pick_gen]
  first
    | exact wpAny_bind (m := Builtin.Tuple.tupleExact _) (wpAny_newObj_type (wpAny_pure ⟨_, rfl, wpAny_pure h⟩) htake)
    | exact wpAny_bind (m := Builtin.Tuple.tupleExact _) (wpAny_newObj_type (wpAny_bind (wpAny_pure (wpAny_pure ⟨_, rfl, wpAny_pure h⟩))) htake)
    | exact wpAny_bind (wpAny_bind (m := Builtin.Tuple.tupleExact _) (wpAny_newObj_type (wpAny_pure (wpAny_pure ⟨_, rfl, wpAny_pure h⟩)) htake))
    | exact wpAny_bind (wpAny_bind (m := Builtin.Tuple.tupleExact _) (wpAny_newObj_type (wpAny_pure ⟨_, rfl, wpAny_pure h⟩) htake))
end
end HT

namespace L2
open PySem PySem.Spec PyProof.Rows

/-! ### the parts of a slice -/
abbrev TO := St → Hp → (Option Int → Hp → Prop) → Prop
/-- a slice's part (left out, or an int) -/
def PO (X : Cx) (e : Option Expr) (t : TO) : Prop :=
  ∀ (pins : List (Addr × Obj)) (s : Shared) (σ : St) (H : Hp) (Q : Option Int → Hp → Prop), Inv X pins σ H s → t σ H Q →
    wpAny (model X.prog X.w) X.A (evalPart e X.env) (fun u s' => ∃ o H', Inv X pins σ H' s' ∧ IsPart u o ∧ Q o H') X.xe s
def tNoPart : TO := fun _ H Q => Q none H
def tPart (t : TE) : TO := fun σ H Q => t σ H fun x H1 => ∃ i, x = .int i ∧ Q (some i) H1

theorem intsAre_of {ns : List Int} : ∀ {us : List Value}, Vals (ns.map V.int) us → IntsAre us ns := by
  induction ns with
  | nil => intro us r; rw [List.map_nil] at r; cases r; exact .nil
  | cons n ns ih =>
    intro us r
    rw [List.map_cons] at r
    cases r with
    | cons r1 r2 =>
      obtain ⟨t, e⟩ := r1
      subst e
      exact .cons n t (ih r2)

section
variable {X : Cx} {e : Expr} {te : TE} {lo hi : Option Expr} {tl th : TO} {pos p2 : Pos}

theorem po_none : PO X none tNoPart := by
  intro pins s σ H Q I h
  rw [evalPart_none]
  exact wpAny_pure ⟨none, H, I, .none, h⟩
theorem po_some (h : PE X e te) : PO X (some e) (tPart te) := by
  intro pins s σ H Q I hw
  rw [evalPart_some]
  refine thn (h pins s σ H _ I hw) fun u s1 ⟨x, H1, I1, r1, q1⟩ => ?_
  obtain ⟨i, rfl, q⟩ := q1
  obtain ⟨t, rfl⟩ := r1
  exact ⟨some i, H1, I1, .int i t, q⟩

/-- what a slice of a value is, by values: the slice object stands at sl -/
def SlR (X : Cx) (r : V → Option Int → Option Int → Hp → VK → Prop) : Prop :=
  ∀ (pins : List (Addr × Obj)) (s : Shared) (σ : St) (H : Hp) (x : V) (v vl vu : Value) (lo hi : Option Int) (sl : Addr) (Q : VK), Inv X pins σ H s → RelV x v → s.heap.IsSliceOf sl vl vu .none → IsPart vl lo → IsPart vu hi → r x lo hi H Q →
    ∃ T id, typeLookup (.type T) "__getitem__" = pure (some (.builtin id)) ∧ s.TypeIs v T ∧ wpAny (model X.prog X.w) X.A (getItem v (.ref sl)) (EP X pins σ Q) X.xe s
theorem SlR.or {r r' : V → Option Int → Option Int → Hp → VK → Prop} (h : SlR X r) (h' : SlR X r') : SlR X (fun x lo hi H Q => r x lo hi H Q ∨ r' x lo hi H Q) := by
  intro pins s σ H x v vl vu lo hi sl Q I rx hs pl pu q
  rcases q with q | q
  · exact h pins s σ H x v vl vu lo hi sl Q I rx hs pl pu q
  · exact h' pins s σ H x v vl vu lo hi sl Q I rx hs pl pu q
def tSl (r : V → Option Int → Option Int → Hp → VK → Prop) (te : TE) (tl th : TO) : TE := fun σ H Q => te σ H fun x H1 => tl σ H1 fun l H2 => th σ H2 fun u H3 => r x l u H3 Q
/-- a[lo:hi], any a -/
theorem pe_slice {r : V → Option Int → Option Int → Hp → VK → Prop} (hr : SlR X r) (he : PE X e te) (hl : PO X lo tl) (hu : PO X hi th) : PE X (.Subscript e (.Slice lo hi none p2) pos) (tSl r te tl th) := by
  intro pins s σ H Q I h
  refine Subscript_ (thn (he pins s σ H _ I h) fun v s1 ⟨x, H1, I1, r1, q1⟩ => ?_)
  refine wpAny_Slice (thn (hl pins s1 σ H1 _ I1 q1) fun vl s2 ⟨l, H2, I2, pl, q2⟩ => thn (hu pins s2 σ H2 _ I2 q2) fun vu s3 ⟨u, H3, I3, pu, q3⟩ => ?_)
  rw [evalPart_none]
  refine wpAny_pure ?_
  have I4 : Inv X pins σ H3 { s3 with heap := s3.heap.push { cls := .type "slice", data := .fields #[vl, vu, .none] } } := I3.kept (t' := s3.toks) fun b ob q => Heap.get?_push_of_some _ q
  obtain ⟨T, id, hT, ht, hg⟩ := hr pins { s3 with heap := s3.heap.push { cls := .type "slice", data := .fields #[vl, vu, .none] } } σ H3 x v vl vu l u s3.heap.objs.size Q I4 r1 (Heap.IsSliceOf.new ..) pl pu q3
  show wpAny (model X.prog X.w) X.A (subscriptTail e (.Slice lo hi none p2) v (.ref s3.heap.objs.size)) (EP X pins σ Q) X.xe { s3 with heap := s3.heap.push { cls := .type "slice", data := .fields #[vl, vu, .none] } }
  exact tail_any (ops := [.ref s3.heap.objs.size, v]) ht hT hg (by with_unfolding_all rfl)

/-- the items of xs[lo:hi] -/
def cutV (xs : List V) (lo hi : Option Int) : List V := (xs.drop (HT.sIx xs.length 0 lo)).take (HT.sIx xs.length xs.length hi - HT.sIx xs.length 0 lo)
theorem cutV_length (xs : List V) (lo hi : Option Int) : (cutV xs lo hi).length ≤ xs.length := by
  unfold cutV
  rw [List.length_take, List.length_drop]
  omega
/-- t[lo:hi], not the whole of it (the whole would be t itself) -/
def rSlT (K : PySem.W.Frag) : V → Option Int → Option Int → Hp → VK → Prop := fun x lo hi H Q => ∃ a xs, x = .ref a ∧ SqT K H a xs ∧
  ¬ (HT.sIx xs.length 0 lo = 0 ∧ HT.sIx xs.length xs.length hi = xs.length) ∧ ∀ p, H p = none → Q (.ref p) (upd H p (.tup (cutV xs lo hi)))
theorem sl_tup : SlR X (rSlT X.K) := by
  intro pins s σ H x v vl vu lo hi sl Q I rx hs pl pu h
  obtain ⟨a, xs, rfl, hx, hw, q⟩ := h
  cases rx
  obtain ⟨its, r, ht, hz⟩ := I.tuple hx
  have hlen : its.toArray.size = xs.length := by rw [List.size_toArray]; exact r.length.symm
  refine ⟨"tuple", _, PyProof.Rows.slot_tuple_getitem.lookup, ht.typeIs, ?_⟩
  refine HT.getItem_tuple_cut ht hs pl pu (by rw [hlen]; exact hw) ?_ (by rw [hlen]; exact hz)
  rw [hlen]
  refine ⟨.ref s.heap.objs.size, _, I.laid (t' := s.toks) (o := .tup (cutV xs lo hi)) (fun b ob q => Heap.get?_push_of_some _ q) (Nat.le_refl _) ?_, rfl, q _ (I.hok.fresh (Nat.le_refl _))⟩
  exact ⟨Nat.le_trans (cutV_length xs lo hi) hz, _, (r.drop (HT.sIx xs.length 0 lo)).take (HT.sIx xs.length xs.length hi - HT.sIx xs.length 0 lo), IsTup.new _ _⟩

/-! ### t < u, t + u -/
def rLtT (K : PySem.W.Frag) : R2 := fun x y H Q => ∃ a b ns ms, x = .ref a ∧ y = .ref b ∧ SqT K H a (ns.map V.int) ∧ SqT K H b (ms.map V.int) ∧ Q (.bl (HT.lexLt ns ms)) H
theorem op_ltT (hu : X.A.units < cLine) : OpR X (compareOp .Lt) (rLtT X.K) := by
  intro pins s σ H x y v u Q I rx ry h
  obtain ⟨a, b, ns, ms, rfl, rfl, ha, hb, q⟩ := h
  cases rx
  cases ry
  obtain ⟨its, r1, p1, _⟩ := I.tuple ha
  obtain ⟨its2, r2, p2, _⟩ := I.tuple hb
  have i1 : IntsAre its.toArray.toList ns := intsAre_of r1
  have i2 : IntsAre its2.toArray.toList ms := intsAre_of r2
  exact HT.lt_tupInts p1 p2 i1 i2 hu ⟨.bl (HT.lexLt ns ms), H, I, rfl, q⟩
/-- t + u, t not empty: u empty gives t itself -/
def rCatT (K : PySem.W.Frag) : R2 := fun x y H Q => ∃ a b xs ys, x = .ref a ∧ y = .ref b ∧ SqT K H a xs ∧ SqT K H b ys ∧ xs ≠ [] ∧ xs.length + ys.length ≤ sizeLine ∧
  (ys = [] → Q (.ref a) H) ∧ (ys ≠ [] → ∀ p, H p = none → Q (.ref p) (upd H p (.tup (xs ++ ys))))
theorem Vals.nil_iff {xs : List V} {us : List Value} (r : Vals xs us) : us = [] ↔ xs = [] := by
  cases r with
  | nil => simp
  | cons _ _ => simp
theorem op_catT : OpR X (binaryOp .Add) (rCatT X.K) := by
  intro pins s σ H x y v u Q I rx ry h
  obtain ⟨a, b, xs, ys, rfl, rfl, ha, hb, hx, hz, q1, q2⟩ := h
  cases rx
  cases ry
  obtain ⟨its, r1, p1, _⟩ := I.tuple ha
  obtain ⟨its2, r2, p2, _⟩ := I.tuple hb
  refine HT.cat_tup p1 p2 (fun z => hx (r1.nil_iff.mp z)) (fun z => ⟨.ref a, H, I, rfl, q1 (r2.nil_iff.mp z)⟩) (fun z => ?_) (by rw [← r1.length, ← r2.length]; exact hz)
  refine ⟨.ref s.heap.objs.size, _, I.laid (t' := s.toks) (o := .tup (xs ++ ys)) (fun b ob q => Heap.get?_push_of_some _ q) (Nat.le_refl _) ?_, rfl, q2 (fun w => z (r2.nil_iff.mpr w)) _ (I.hok.fresh (Nat.le_refl _))⟩
  exact ⟨by rw [List.length_append]; exact hz, _, r1.append r2, IsTup.new _ _⟩
/-- tuple(t) -/
theorem call_tupleT : CallR X (.type "tuple") (fun xs H Q => ∃ a ys, xs = [.ref a] ∧ SqT X.K H a ys ∧ Q (.ref a) H) := by
  intro pins s σ H xs us Q I r h
  obtain ⟨a, ys, rfl, ha, q⟩ := h
  obtain ⟨u, rfl, ru⟩ := vals1 r
  cases ru
  obtain ⟨its, _, p1, _⟩ := I.tuple ha
  exact call_tuple_same (items := its.toArray) p1 ⟨.ref a, H, I, rfl, q⟩
end
end L2

namespace L2
open PySem PySem.Spec PyProof.Rows

/-! ### places -/
/-- the place that an index of any sign means -/
def ixN (n : Nat) (i : Int) : Option Nat := if 0 ≤ i then (if i < n then some i.toNat else none) else if -(n : Int) ≤ i then some (i + n).toNat else none
def atI {α : Type} (xs : List α) (i : Int) : Option α := (ixN xs.length i).bind fun j => xs[j]?
theorem ixN_seq {n : Nat} {i : Int} {j : Nat} (h : ixN n i = some j) : seqIndex? i n = some j ∧ j < n ∧ -(n : Int) ≤ i ∧ i < n := by
  unfold ixN at h
  by_cases h0 : 0 ≤ i
  · rw [if_pos h0] at h
    by_cases h1 : i < n
    · rw [if_pos h1] at h
      have e : i.toNat = j := Option.some.inj h
      exact ⟨by rw [seqIndex_of h0 h1, e], by omega, by omega, h1⟩
    · rw [if_neg h1] at h; cases h
  · rw [if_neg h0] at h
    by_cases h1 : -(n : Int) ≤ i
    · rw [if_pos h1] at h
      have e : (i + n).toNat = j := Option.some.inj h
      exact ⟨by rw [seqIndex_neg (by omega) h1, e], by omega, h1, by omega⟩
    · rw [if_neg h1] at h; cases h
theorem atI_get {α : Type} {xs : List α} {i : Int} {v : α} (h : atI xs i = some v) : ∃ j, seqIndex? i xs.length = some j ∧ xs[j]? = some v ∧ j < xs.length ∧ -(xs.length : Int) ≤ i ∧ i < xs.length := by
  unfold atI at h
  cases e : ixN xs.length i with
  | none => rw [e] at h; cases h
  | some j =>
    rw [e] at h
    obtain ⟨h1, h2, h3, h4⟩ := ixN_seq e
    exact ⟨j, h1, h, h2, h3, h4⟩
theorem atI_nat {α : Type} {xs : List α} {j : Nat} {v : α} (h : xs[j]? = some v) : atI xs (j : Int) = some v := by
  have hj : j < xs.length := (List.getElem?_eq_some_iff.mp h).1
  have e : ixN xs.length (j : Int) = some j := by
    unfold ixN
    rw [if_pos (by omega), if_pos (by omega)]; simp
  unfold atI; rw [e]; exact h
theorem atI_last {α : Type} (xs : List α) (v : α) : atI (xs ++ [v]) (-1) = some v := by
  have hl : (xs ++ [v]).length = xs.length + 1 := by simp
  have e : ixN (xs ++ [v]).length (-1) = some xs.length := by
    unfold ixN
    rw [hl, if_neg (by decide), if_pos (by omega)]
    congr 1
    omega
  unfold atI
  rw [e]
  show (xs ++ [v])[xs.length]? = some v
  simp

/-! ### what may be subscripted -/
/-- what stands as an index of a plain subscript -/
def PlainIx (b : Expr) : Prop := ∀ o i, subscripted b false o i = operate [o, i] (getItem o i)
/-- a subscript by values -/
def IxR (X : Cx) (r : R2) : Prop :=
  ∀ (value slice : Expr) (pins : List (Addr × Obj)) (s : Shared) (σ : St) (H : Hp) (x y : V) (v u : Value) (Q : VK), Inv X pins σ H s → RelV x v → RelV y u → r x y H Q →
    subscripted slice false v u = operate [v, u] (getItem v u) → wpAny (model X.prog X.w) X.A (subscriptTail value slice v u) (EP X pins σ Q) X.xe s
/-- a call of a builtin's method by values: the receiver, the arguments -/
def MtR (X : Cx) (id : String) (r : V → List V → Hp → VK → Prop) : Prop :=
  ∀ (pins : List (Addr × Obj)) (s : Shared) (σ : St) (H : Hp) (x : V) (xs : List V) (v : Value) (us : List Value) (Q : VK), Inv X pins σ H s → RelV x v → Vals xs us → r x xs H Q →
    wpAny (model X.prog X.w) X.A (call (.builtin id) (v :: us)) (EP X pins σ Q) X.xe s
section
variable {X : Cx} {a b : Expr} {ta tb : TE} {pos : Pos}
theorem IxR.or {r r' : R2} (h : IxR X r) (h' : IxR X r') : IxR X (fun x y H Q => r x y H Q ∨ r' x y H Q) := by
  intro value slice pins s σ H x y v u Q I rx ry q hs
  rcases q with q | q
  · exact h value slice pins s σ H x y v u Q I rx ry q hs
  · exact h' value slice pins s σ H x y v u Q I rx ry q hs
theorem MtR.or {id : String} {r r' : V → List V → Hp → VK → Prop} (h : MtR X id r) (h' : MtR X id r') : MtR X id (fun x xs H Q => r x xs H Q ∨ r' x xs H Q) := by
  intro pins s σ H x xs v us Q I rx rs q
  rcases q with q | q
  · exact h pins s σ H x xs v us Q I rx rs q
  · exact h' pins s σ H x xs v us Q I rx rs q
/-- a[b] -/
theorem pe_ix {r : R2} (hr : IxR X r) (ha : PE X a ta) (hb : PE X b tb) (hs : PlainIx b) : PE X (.Subscript a b pos) (tOp r ta tb) := by
  intro pins s σ H Q I h
  exact Subscript_ (binT ha hb I h fun v u s2 x y H2 I2 rx ry q => hr a b pins s2 σ H2 x y v u Q I2 rx ry q (hs _ _))

def rIxL (K : PySem.W.Frag) : R2 := fun x y H Q => ∃ p xs i v, x = .ref p ∧ y = .int i ∧ SqL K H p xs ∧ atI xs i = some v ∧ Q v H
def rIxT (K : PySem.W.Frag) : R2 := fun x y H Q => ∃ p xs i v, x = .ref p ∧ y = .int i ∧ SqT K H p xs ∧ atI xs i = some v ∧ Q v H
def rIxS : R2 := fun x y H Q => ∃ z i c, x = .str z ∧ y = .int i ∧ z.length ≤ sizeLine ∧ atI z.cps.toList i = some c ∧ Q (.str ⟨#[c]⟩) H
theorem ix_list : IxR X (rIxL X.K) := by
  intro value slice pins s σ H x y v u Q I rx ry h hs
  obtain ⟨p, xs, i, z, rfl, rfl, hq, he, q⟩ := h
  cases rx
  obtain ⟨t, rfl⟩ := ry
  obtain ⟨its, r, pl, hz⟩ := I.list hq
  obtain ⟨j, h1, h2, h3, h4, h5⟩ := atI_get he
  obtain ⟨w, ew, rw'⟩ := r.get h2
  have hl := r.length
  have hn := line63
  have fin : EP X pins σ Q w s := ⟨z, H, I, rw', q⟩
  by_cases h0 : 0 ≤ i
  · have hj : i.toNat = j := by
      rw [seqIndex_of h0 h5] at h1
      exact Option.some.inj h1
    exact item_listR pl.isList h0 (by omega) (by rw [hj]; simpa using ew) fin hs
  · have hj : (i + (its.toArray.size : Int)).toNat = j := by
      rw [seqIndex_neg (by omega) h4] at h1
      rw [List.size_toArray, ← hl]
      exact Option.some.inj h1
    exact subscriptTail_builtinR (x := w) pl.isList.typeIs slot_list_getitem.lookup
      (wpAny_getItem_list_neg (Q := fun r s' => r = w ∧ EP X pins σ Q r s') pl.isList (by omega) (by rw [List.size_toArray] <;> omega) (by omega) (by rw [hj]; simpa using ew) ⟨rfl, fin⟩) hs
theorem ix_tup : IxR X (rIxT X.K) := by
  intro value slice pins s σ H x y v u Q I rx ry h hs
  obtain ⟨p, xs, i, z, rfl, rfl, hq, he, q⟩ := h
  cases rx
  obtain ⟨t, rfl⟩ := ry
  obtain ⟨its, r, pl, hz⟩ := I.tuple hq
  obtain ⟨j, h1, h2, h3, h4, h5⟩ := atI_get he
  obtain ⟨w, ew, rw'⟩ := r.get h2
  have hl := r.length
  have hn := line63
  have fin : EP X pins σ Q w s := ⟨z, H, I, rw', q⟩
  exact subscriptTail_builtinR (x := w) pl.typeIs slot_tuple_getitem.lookup
    (getItem_tuple (j := j) (Q := fun r s' => r = w ∧ EP X pins σ Q r s') pl (by omega) (by omega) (by rw [List.size_toArray, ← hl]; exact h1) (by simpa using ew) ⟨rfl, fin⟩) hs
theorem ix_str : IxR X rIxS := by
  intro value slice pins s σ H x y v u Q I rx ry h hs
  obtain ⟨z, i, c, rfl, rfl, hz, he, q⟩ := h
  obtain ⟨t, rfl⟩ := rx
  obtain ⟨t', rfl⟩ := ry
  obtain ⟨j, h1, h2, h3, h4, h5⟩ := atI_get he
  have hl : z.cps.toList.length = z.length := by simp [Str.length]
  rw [hl] at h1 h4 h5
  have hn := line63
  exact tail_any (typeIs_str s z t) slot_str_getitem.lookup (getItem_str (c := c) (by
    have e1 : decide (i < -(2 ^ 63 : Int)) = false := decide_eq_false (by omega)
    have e2 : decide (i ≥ 2 ^ 63) = false := decide_eq_false (by omega)
    rw [e1, e2, Bool.or_false]) (by rw [h1]; simpa using h2) ⟨.str ⟨#[c]⟩, H, I.tok _, ⟨_, rfl⟩, q⟩) hs
/-- list, tuple or str -/
def rIx (K : PySem.W.Frag) : R2 := fun x y H Q => rIxL K x y H Q ∨ rIxT K x y H Q ∨ rIxS x y H Q
theorem ix_seq : IxR X (rIx X.K) := ix_list.or (ix_tup.or ix_str)

/-! ### xs[i] = v, any sign -/
/-- the list's object behind a store -/
theorem mapSeq_set (its : List Value) (n j : Nat) (u : Value) : Obj.mapSeq (·.setIfInBounds j u) { cls := .type "list", data := .seq its.toArray n } = { cls := .type "list", data := .seq (its.set j u).toArray n } := by
  simp [Obj.mapSeq]
theorem Inv.lst {pins : List (Addr × Obj)} {σ : St} {H : Hp} {s : Shared} {p : Addr} {xs : List V} (I : Inv X pins σ H s) (h : H p = some (.lst xs)) :
    ∃ (its : List Value) (n : Nat), Vals xs its ∧ s.heap.get? p = some { cls := .type "list", data := .seq its.toArray n } ∧ xs.length ≤ sizeLine := by
  obtain ⟨z, its, n, r, e⟩ := I.hok p _ h
  exact ⟨its, n, r, e, z⟩
/-- the list at p is written by an update of its object -/
theorem Inv.lstUpd {pins : List (Addr × Obj)} {σ : St} {H : Hp} {s : Shared} {p : Addr} {xs ys : List V} {its its' : List Value} {n n' : Nat} {f : Obj → Obj} (I : Inv X pins σ H s) (h : H p = some (.lst xs))
    (ho : s.heap.get? p = some { cls := .type "list", data := .seq its.toArray n }) (hf : f { cls := .type "list", data := .seq its.toArray n } = { cls := .type "list", data := .seq its'.toArray n' }) (r : Vals ys its') (hz : ys.length ≤ sizeLine) (t : Nat) :
    Inv X pins σ (upd H p (.lst ys)) { s with heap := s.heap.update p f, toks := t } := by
  have e : (s.heap.update p f).get? p = some { cls := .type "list", data := .seq its'.toArray n' } := by
    rw [Heap.get?_update_self f ho (by rw [hf] <;> rfl), hf]
  refine I.write (x := p) (e := p) (by rw [h]; trivial) (.inl rfl) (fun b u hb q => (Heap.get?_update_other _ _ (Ne.symm hb)).trans q) ⟨_, e⟩ ?_
  exact ⟨hz, its', n', r, e⟩
def rSetL : V → V → V → Hp → (Hp → Prop) → Prop := fun o i v H Q => ∃ p xs k j, o = .ref p ∧ i = .int k ∧ H p = some (.lst xs) ∧ ixN xs.length k = some j ∧ Q (upd H p (.lst (xs.set j v)))
theorem set_list : PSet X rSetL := by
  intro pins s σ H o i v ov iv u Q I ro ri rv h
  obtain ⟨p, xs, k, j, rfl, rfl, hp, hj, q⟩ := h
  cases ro
  obtain ⟨t, rfl⟩ := ri
  obtain ⟨its, n, r, ho, hz⟩ := I.lst hp
  obtain ⟨h1, h2, h3, h4⟩ := ixN_seq hj
  have hl := r.length
  have hn := line63
  have I' : Inv X pins σ (upd H p (.lst (xs.set j v))) { s with heap := s.heap.update p (Obj.mapSeq (·.setIfInBounds j u)) } :=
    I.lstUpd hp ho (mapSeq_set its n j u) (r.set rv j) (by rw [List.length_set]; exact hz) s.toks
  by_cases h0 : 0 ≤ k
  · have hk : k.toNat = j := by
      rw [seqIndex_of h0 h4] at h1
      exact Option.some.inj h1
    exact PySem.W.ki_setAt ho h0 (by omega) (by rw [List.size_toArray, ← hl]; exact h4) (by rw [hk]; exact ⟨_, I', q⟩)
  · have hk : (k + (its.toArray.size : Int)).toNat = j := by
      rw [seqIndex_neg (by omega) h3] at h1
      rw [List.size_toArray, ← hl]
      exact Option.some.inj h1
    exact PySem.W.ki_setBack ho (by omega) (by rw [List.size_toArray, ← hl]; exact h3) (by omega) (by rw [hk]; exact ⟨_, I', q⟩)

/-! ### slices -/
theorem slice_bounds (lo hi : Option Int) (n : Nat) : (sliceBounds lo hi none n).1 = ((HT.sIx n 0 lo : Nat) : Int) ∧ (sliceBounds lo hi none n).2.1 = ((HT.sIx n n hi : Nat) : Int) ∧ (sliceBounds lo hi none n).2.2 = 1 := by
  refine ⟨?_, ?_, rfl⟩
  · cases lo with
    | none => simp [sliceBounds, HT.sIx]
    | some i =>
      simp only [sliceBounds, HT.sIx, Option.getD_none, show (1 : Int) > 0 by decide, if_true]
      by_cases h : i < 0
      · simp only [h, if_true] <;> omega
      · simp only [h, if_false] <;> omega
  · cases hi with
    | none => simp [sliceBounds, HT.sIx]
    | some i =>
      simp only [sliceBounds, HT.sIx, Option.getD_none, show (1 : Int) > 0 by decide, if_true]
      by_cases h : i < 0
      · simp only [h, if_true] <;> omega
      · simp only [h, if_false] <;> omega
theorem slicePick_cut (its : List Value) (lo hi : Option Int) : slicePick its.toArray lo hi none = ((its.drop (HT.sIx its.length 0 lo)).take (HT.sIx its.length its.length hi - HT.sIx its.length 0 lo)).toArray := by
  obtain ⟨h1, h2, h3⟩ := slice_bounds lo hi its.toArray.size
  unfold slicePick
  rw [h1, h2, h3]
  simp only [sliceRange_one, pick_run, List.size_toArray] <;> rfl
/-- xs[lo:hi] of a list: a new list -/
def rSlL (K : PySem.W.Frag) : V → Option Int → Option Int → Hp → VK → Prop := fun x lo hi H Q => ∃ a xs, x = .ref a ∧ SqL K H a xs ∧ ∀ p, H p = none → Q (.ref p) (upd H p (.lst (cutV xs lo hi)))
theorem sl_list : SlR X (rSlL X.K) := by
  intro pins s σ H x v vl vu lo hi sl Q I rx hs pl pu h
  obtain ⟨a, xs, rfl, hx, q⟩ := h
  cases rx
  obtain ⟨its, r, ht, hz⟩ := I.list hx
  have hlen := r.length
  refine ⟨"list", _, slot_list_getitem.lookup, ht.isList.typeIs, ?_⟩
  refine wpAny_getItem_list_slice ht.isList hs pl pu .none (by simp) ?_ (by rw [List.size_toArray] <;> omega)
  rw [slicePick_cut, ← hlen]
  refine ⟨.ref s.heap.objs.size, _, I.laid (t' := s.toks) (o := .lst (cutV xs lo hi)) (fun b ob q => Heap.get?_push_of_some _ q) (Nat.le_refl _) ?_, rfl, q _ (I.hok.fresh (Nat.le_refl _))⟩
  exact ⟨Nat.le_trans (cutV_length xs lo hi) hz, _, 0, (r.drop (HT.sIx xs.length 0 lo)).take (HT.sIx xs.length xs.length hi - HT.sIx xs.length 0 lo), Heap.get?_push_size _ rfl⟩

/-! ### in, not in: flat items -/
def flatV : V → Bool
  | .non => true
  | .bl _ => true
  | .int _ => true
  | .str _ => true
  | _ => false
/-- == of flat values -/
def eqV : V → V → Bool
  | .non, .non => true
  | .bl a, .bl b => a == b
  | .bl a, .int b => (if a then 1 else 0) == b
  | .int a, .bl b => a == (if b then 1 else 0)
  | .int a, .int b => a == b
  | .str a, .str b => a == b
  | _, _ => false
theorem eqAt_V {A : Around} {s : Shared} {y x : V} {u v : Value} (ry : RelV y u) (rx : RelV x v) (fy : flatV y = true) (fx : flatV x = true) : SeqAt.EqAt A s u v (eqV y x) := by
  cases y with
  | non =>
    cases ry
    cases x with
    | non => cases rx; exact SeqAt.EqAt.same _
    | bl b => cases rx; exact SeqAt.EqAt.none_bool b
    | int b => obtain ⟨t, rfl⟩ := rx; exact SeqAt.EqAt.none_int b t
    | str b => obtain ⟨t, rfl⟩ := rx; exact SeqAt.EqAt.none_str b t
    | _ => exact absurd (show false = true from fx) Bool.false_ne_true
  | bl a =>
    cases ry
    cases x with
    | non => cases rx; exact SeqAt.EqAt.bool_none a
    | bl b => cases rx; exact SeqAt.EqAt.bool_bool a b
    | int b => obtain ⟨t, rfl⟩ := rx; exact SeqAt.EqAt.bool_int a b t
    | str b => obtain ⟨t, rfl⟩ := rx; exact SeqAt.EqAt.bool_str a b t
    | _ => exact absurd (show false = true from fx) Bool.false_ne_true
  | int a =>
    obtain ⟨t', rfl⟩ := ry
    cases x with
    | non => cases rx; exact SeqAt.EqAt.int_none a t'
    | bl b => cases rx; exact SeqAt.EqAt.int_bool a t' b
    | int b => obtain ⟨t, rfl⟩ := rx; exact SeqAt.EqAt.int_int a t' b t
    | str b => obtain ⟨t, rfl⟩ := rx; exact SeqAt.EqAt.int_str a t' b t
    | _ => exact absurd (show false = true from fx) Bool.false_ne_true
  | str a =>
    obtain ⟨t', rfl⟩ := ry
    cases x with
    | non => cases rx; exact SeqAt.EqAt.str_none a t'
    | bl b => cases rx; exact SeqAt.EqAt.str_bool a t' b
    | int b => obtain ⟨t, rfl⟩ := rx; exact SeqAt.EqAt.str_int a t' b t
    | str b => obtain ⟨t, rfl⟩ := rx; exact SeqAt.EqAt.str_str a t' b t
    | _ => exact absurd (show false = true from fx) Bool.false_ne_true
  | _ => exact absurd (show false = true from fy) Bool.false_ne_true
/-- the items' answers, read off the values (a value's own answer does not lean on its token) -/
def eqU (x : V) (u : Value) : Bool := match u with
  | .none => eqV .non x
  | .bool b => eqV (.bl b) x
  | .int i _ => eqV (.int i) x
  | .str z _ => eqV (.str z) x
  | _ => false
theorem eqU_of {x y : V} {u : Value} (r : RelV y u) (f : flatV y = true) : eqU x u = eqV y x := by
  cases y with
  | non => cases r; rfl
  | bl b => cases r; rfl
  | int i => obtain ⟨t, rfl⟩ := r; rfl
  | str z => obtain ⟨t, rfl⟩ := r; rfl
  | _ => exact absurd (show false = true from f) Bool.false_ne_true
theorem any_eqU {x : V} : ∀ {xs : List V} {us : List Value}, Vals xs us → xs.all flatV = true → us.any (eqU x) = xs.any fun y => eqV y x
  | _, _, .nil, _ => rfl
  | y :: xs, u :: us, .cons r t, f => by
    rw [List.all_cons, Bool.and_eq_true] at f
    rw [List.any_cons, List.any_cons, eqU_of r f.1, any_eqU t f.2]
theorem mem_eqAt {A : Around} {s : Shared} {x : V} {v : Value} (rx : RelV x v) (fx : flatV x = true) : ∀ {xs : List V} {us : List Value}, Vals xs us → xs.all flatV = true → ∀ u ∈ us, SeqAt.EqAt A s u v (eqU x u)
  | _, _, .nil, _ => fun u hu => by cases hu
  | y :: xs, u :: us, .cons r t, f => fun u' hu => by
    rw [List.all_cons, Bool.and_eq_true] at f
    rcases List.mem_cons.mp hu with rfl | hu
    · rw [eqU_of r f.1]; exact eqAt_V r rx f.1 fx
    · exact mem_eqAt rx fx t f.2 u' hu
def inV (x : V) (xs : List V) : Bool := xs.any fun y => eqV y x
/-- x in a list or tuple of flat items -/
def rIn (K : PySem.W.Frag) (neg : Bool) : R2 := fun x y H Q => ∃ p xs, y = .ref p ∧ (SqL K H p xs ∨ SqT K H p xs) ∧ flatV x = true ∧ xs.all flatV = true ∧ Q (.bl (if neg then !inV x xs else inV x xs)) H
theorem op_in_seq : OpR X (compareOp .In) (rIn X.K false) := by
  intro pins s σ H x y v u Q I rx ry h
  obtain ⟨p, xs, rfl, hq, fx, fs, q⟩ := h
  cases ry
  rcases hq with hq | hq
  · obtain ⟨its, r, pl, hz⟩ := I.list hq
    refine SeqAt.in_listAt (eqU x) pl.isList (fun w hw => mem_eqAt rx fx r fs w (by simpa using hw)) ⟨.bl _, H, I, rfl, ?_⟩
    rw [show its.toArray.any (eqU x) = its.any (eqU x) by simp, any_eqU r fs]
    exact q
  · obtain ⟨its, r, pl, hz⟩ := I.tuple hq
    refine SeqAt.in_tupleAt (eqU x) pl (fun w hw => mem_eqAt rx fx r fs w (by simpa using hw)) ⟨.bl _, H, I, rfl, ?_⟩
    rw [show its.toArray.any (eqU x) = its.any (eqU x) by simp, any_eqU r fs]
    exact q
theorem op_notIn_seq : OpR X (compareOp .NotIn) (rIn X.K true) := by
  intro pins s σ H x y v u Q I rx ry h
  obtain ⟨p, xs, rfl, hq, fx, fs, q⟩ := h
  cases ry
  rcases hq with hq | hq
  · obtain ⟨its, r, pl, hz⟩ := I.list hq
    refine SeqAt.notIn_listAt (eqU x) pl.isList (fun w hw => mem_eqAt rx fx r fs w (by simpa using hw)) ⟨.bl _, H, I, rfl, ?_⟩
    rw [show its.toArray.any (eqU x) = its.any (eqU x) by simp, any_eqU r fs]
    exact q
  · obtain ⟨its, r, pl, hz⟩ := I.tuple hq
    refine SeqAt.notIn_tupleAt (eqU x) pl (fun w hw => mem_eqAt rx fx r fs w (by simpa using hw)) ⟨.bl _, H, I, rfl, ?_⟩
    rw [show its.toArray.any (eqU x) = its.any (eqU x) by simp, any_eqU r fs]
    exact q
theorem op_notIn_str : OpR X (compareOp .NotIn) (fun x y H Q => ∃ i j, x = .str i ∧ y = .str j ∧ Q (.bl (!(!(Builtin.Str.occurrences j i 0 j.length 1).isEmpty))) H) := by
  intro pins s σ H x y v u Q I rx ry h
  obtain ⟨i, j, rfl, rfl, q⟩ := h
  obtain ⟨t, rfl⟩ := rx
  obtain ⟨t', rfl⟩ := ry
  exact notIn_str ⟨.bl _, H, I, rfl, q⟩

/-! ### len, list(x), tuple(x) of any list or tuple that is read -/
theorem call_len_seq : CallR X (.builtin "len") (fun xs H Q => ∃ p ys, xs = [.ref p] ∧ (SqL X.K H p ys ∨ SqT X.K H p ys) ∧ Q (.int ys.length) H) := by
  intro pins s σ H xs us Q I r h
  obtain ⟨p, ys, rfl, hq, q⟩ := h
  obtain ⟨u, rfl, rx⟩ := vals1 r
  cases rx
  have hn := line63
  rcases hq with hq | hq
  · obtain ⟨its, r', pl, hz⟩ := I.list hq
    have hlen := r'.length
    exact Calls.call_len_list pl.isList (by simp only [List.size_toArray] <;> omega) ⟨.int ys.length, H, I.tok _, ⟨s.toks + 1, by rw [List.size_toArray, hlen]⟩, q⟩
  · obtain ⟨its, r', pl, hz⟩ := I.tuple hq
    have hlen := r'.length
    exact len_tuple pl (by simp only [List.size_toArray] <;> omega) ⟨.int ys.length, H, I.tok _, ⟨s.toks + 1, by rw [List.size_toArray, hlen]⟩, q⟩
theorem call_len_str : CallR X (.builtin "len") (fun xs H Q => ∃ z, xs = [.str z] ∧ z.length ≤ sizeLine ∧ Q (.int z.length) H) := by
  intro pins s σ H xs us Q I r h
  obtain ⟨z, rfl, hz, q⟩ := h
  obtain ⟨u, rfl, t, rfl⟩ := vals1 r
  have hn := line63
  exact len_str (by omega) ⟨.int z.length, H, I.tok _, ⟨_, rfl⟩, q⟩
theorem CallR.or {f : Value} {r r' : List V → Hp → VK → Prop} (h : CallR X f r) (h' : CallR X f r') : CallR X f (fun xs H Q => r xs H Q ∨ r' xs H Q) := by
  intro pins s σ H xs us Q I rs q
  rcases q with q | q
  · exact h pins s σ H xs us Q I rs q
  · exact h' pins s σ H xs us Q I rs q
theorem call_list_of : CallR X (.type "list") (fun xs H Q => ∃ p ys, xs = [.ref p] ∧ (SqL X.K H p ys ∨ SqT X.K H p ys) ∧ ∀ l, H l = none → Q (.ref l) (upd H l (.lst ys))) := by
  intro pins s σ H xs us Q I r h
  obtain ⟨p, ys, rfl, hq, q⟩ := h
  obtain ⟨u, rfl, rx⟩ := vals1 r
  cases rx
  have fin : ∀ (its : List Value), Vals ys its → ys.length ≤ sizeLine → ∀ (h' : Heap) (c' : Nat), (∀ b o', s.heap.get? b = some o' → h'.get? b = some o') →
      h'.get? s.heap.objs.size = some { cls := .type "list", dict := none, data := .seq its.toArray c', slots := #[] } → EP X pins σ Q (.ref s.heap.objs.size) { s with heap := h' } := fun its r' hz h' c' kp e =>
    ⟨.ref s.heap.objs.size, _, I.laid (t' := s.toks) kp (Nat.le_refl _) (show ObjOk X.prog X.w _ h' _ (.lst ys) from ⟨hz, its, c', r', e⟩), rfl, q _ (I.hok.fresh (Nat.le_refl _))⟩
  rcases hq with hq | hq
  · obtain ⟨its, r', pl, hz⟩ := I.list hq
    have hlen := r'.length
    obtain ⟨o, ho, hc, n, hd⟩ := pl.isList
    exact call_list_seq p (.inl rfl) ho hc hd (fun h' c' kp e => fin its r' hz h' c' kp e) (by simp only [List.size_toArray] <;> omega)
  · obtain ⟨its, r', pl, hz⟩ := I.tuple hq
    have hlen := r'.length
    obtain ⟨o, ho, hc, n, hd⟩ := pl
    exact call_list_seq p (.inr rfl) ho hc hd (fun h' c' kp e => fin its r' hz h' c' kp e) (by simp only [List.size_toArray] <;> omega)
theorem call_tuple_of : CallR X (.type "tuple") (fun xs H Q => ∃ p ys, xs = [.ref p] ∧ ((SqL X.K H p ys ∧ ∀ l, H l = none → Q (.ref l) (upd H l (.tup ys))) ∨ (SqT X.K H p ys ∧ Q (.ref p) H))) := by
  intro pins s σ H xs us Q I r h
  obtain ⟨p, ys, rfl, h⟩ := h
  obtain ⟨u, rfl, rx⟩ := vals1 r
  cases rx
  rcases h with ⟨hq, q⟩ | ⟨hq, q⟩
  · obtain ⟨its, r', pl, hz⟩ := I.list hq
    have hlen := r'.length
    refine call_tuple_list pl.isList (fun h' kp => ?_) (by simp only [List.size_toArray] <;> omega)
    have I1 : Inv X pins σ H { s with heap := h' } := I.kept (t' := s.toks) kp
    have I2 : Inv X pins σ (upd H h'.objs.size (.tup ys)) { s with heap := h'.push { cls := .type "tuple", data := .seq its.toArray } } :=
      I1.laid (t' := s.toks) (fun b o e => Heap.get?_push_of_some _ e) (Nat.le_refl _) (show ObjOk X.prog X.w _ _ _ (.tup ys) from ⟨hz, its, r', IsTup.new _ _⟩)
    exact ⟨.ref h'.objs.size, _, I2, rfl, q _ (I1.hok.fresh (Nat.le_refl _))⟩
  · obtain ⟨its, r', pl, hz⟩ := I.tuple hq
    exact call_tuple_same pl ⟨.ref p, H, I, rfl, q⟩

/-! ### the call of a builtin's method: o.m(..) -/
/-- the value is of that builtin type -/
def tyV (K : PySem.W.Frag) (T : String) (x : V) (H : Hp) : Prop := match x with
  | .str _ => T = "str"
  | .int _ => T = "int"
  | .ref p => (T = "list" ∧ ∃ xs, SqL K H p xs) ∨ (T = "tuple" ∧ ∃ o, K.lookup p = some o ∧ o.cls = .type "tuple" ∧ o.dict = none) ∨
      (T = "dict" ∧ ((∃ kvs, H p = some (.dK kvs)) ∨ ∃ kvs, H p = some (.dT kvs))) ∨ (T = "set" ∧ ∃ S n, H p = some (.set S n))
  | _ => False
theorem tyV_is {pins : List (Addr × Obj)} {σ : St} {H : Hp} {s : Shared} {T : String} {x : V} {v : Value} (I : Inv X pins σ H s) (r : RelV x v) (ty : tyV X.K T x H) :
    s.TypeIs v T ∧ ∀ a, v = .ref a → ∃ ob, s.heap.get? a = some ob ∧ ob.dict = none := by
  cases x with
  | str z =>
    obtain ⟨t, rfl⟩ := r
    cases (show T = "str" from ty)
    exact ⟨typeIs_str s z t, fun _ e => nomatch e⟩
  | int i =>
    obtain ⟨t, rfl⟩ := r
    cases (show T = "int" from ty)
    exact ⟨typeIs_int s i t, fun _ e => nomatch e⟩
  | ref p =>
    cases r
    rcases ty with ⟨rfl, xs, hq⟩ | ⟨rfl, o, hk, hc, hd⟩ | ⟨rfl, hk⟩ | ⟨rfl, S, n, hk⟩
    · obtain ⟨its, _, pl, _⟩ := I.list hq
      refine ⟨pl.isList.typeIs, fun a e => ?_⟩
      cases e
      obtain ⟨o, n, e, c, hd, _⟩ := pl
      exact ⟨o, e, hd⟩
    · refine ⟨⟨o, I.kIn p o hk, hc⟩, fun a e => ?_⟩
      cases e
      exact ⟨o, I.kIn _ o hk, hd⟩
    · have z : ∃ o, s.heap.get? p = some o ∧ o.ExactDict := by
        rcases hk with ⟨kvs, hk⟩ | ⟨kvs, hk⟩
        · obtain ⟨_, _, _, _, o, _, _, e, ex, _⟩ := I.hok p _ hk
          exact ⟨o, e, ex⟩
        · obtain ⟨_, _, _, _, o, _, _, e, ex, _⟩ := I.hok p _ hk
          exact ⟨o, e, ex⟩
      obtain ⟨o, e, ex⟩ := z
      refine ⟨⟨o, e, ex.1⟩, fun a e2 => ?_⟩
      cases e2
      exact ⟨o, e, ex.2.1⟩
    · obtain ⟨o, _, _, _, e, ex, _⟩ := I.hok p _ hk
      refine ⟨⟨o, e, ex.1⟩, fun a e2 => ?_⟩
      cases e2
      exact ⟨o, e, ex.2.1⟩
  | _ => exact False.elim ty
def tBM0 (K : PySem.W.Frag) (T : String) (r : V → List V → Hp → VK → Prop) (to : TE) : TE := fun σ H Q => to σ H fun x H1 => tyV K T x H1 ∧ r x [] H1 Q
def tBM (K : PySem.W.Frag) (T : String) (r : V → List V → Hp → VK → Prop) (to : TE) (t : TA) : TE := fun σ H Q => to σ H fun x H1 => tyV K T x H1 ∧ t σ H1 fun xs H2 => r x xs H2 Q
variable {o e : Expr} {es : List Expr} {to : TE} {t : TA} {name : Str} {apos cpos : Pos} {T id : String} {r : V → List V → Hp → VK → Prop}
theorem pe_bm0 (pa : PlainAttrs T) (slot : Slot T name id) (hty : typeOf (.builtin id) = pure (.type "method_descriptor")) (hm : MtR X id r) (ho : PE X o to)
    (hbase : attributeBase o name X.env (eval o X.env) = eval o X.env := by rfl) (hline : (apos.endLine == cpos.line) = true := by rfl) : PE X (.Call (.Attribute o name apos) [] [] cpos) (tBM0 X.K T r to) := by
  intro pins s σ H Q I h
  refine wpAny_Call_method0_late hbase hline (thn (ho pins s σ H _ I h) fun v s1 ⟨x, H1, I1, r1, ty, q1⟩ => ?_)
  obtain ⟨h1, h2⟩ := tyV_is I1 r1 ty
  exact ⟨T, id, pa, slot, hty, h1, h2, Calls.callWith_builtin rfl (PySem.evalArgs_none (hm pins s1 σ H1 x [] v [] Q I1 r1 .nil q1))⟩
theorem pe_bm (pa : PlainAttrs T) (slot : Slot T name id) (hty : typeOf (.builtin id) = pure (.type "method_descriptor")) (hm : MtR X id r) (ho : PE X o to) (ha : PA X (e :: es) t)
    (hbase : attributeBase o name X.env (eval o X.env) = eval o X.env := by rfl)
    (hfew : ((backTo cpos (starEach (e :: es) X.env)).all (fun x => !x.1) && (backToKw cpos (keywordEach [] X.env)).all (fun x => x.1.isSome)
      && decide ((e :: es).length + ([] : List Keyword).length + (if ([] : List Keyword).isEmpty then 0 else 1) < 30)) = true := by rfl)
    (hline : (apos.endLine == cpos.line) = true := by rfl) (hs : starEach (e :: es) X.env = (false, eval e X.env) :: starEach es X.env := by rfl) (hplain : (backTo cpos (starEach es X.env)).any (·.1) = false := by rfl) :
    PE X (.Call (.Attribute o name apos) (e :: es) [] cpos) (tBM X.K T r to t) := by
  intro pins s σ H Q I h
  refine wpAny_Call_method_late hbase hfew hline rfl (thn (ho pins s σ H _ I h) fun v s1 ⟨x, H1, I1, r1, ty, q1⟩ => ?_)
  obtain ⟨h1, h2⟩ := tyV_is I1 r1 ty
  refine ⟨T, id, pa, slot, hty, h1, h2, ?_⟩
  have hA := ha cpos pins s1 σ H1 _ I1 q1
  rw [hs] at hA ⊢
  refine Calls.callWith_builtin (by show (false || (backTo cpos (starEach es X.env)).any (·.1)) = false; rw [hplain] <;> rfl) (Calls.evalArgs_plain ?_)
  exact thn hA fun us s2 ⟨vs, H2, I2, r2, q2⟩ => hm pins s2 σ H2 x vs v us Q I2 r1 r2 q2
/- xs.append(e), list.index on a module's tuple .. are MtR facts of 06m -/
end
end L2

namespace L2
open PySem PySem.Spec PyProof.Rows

def MtM (X : Cx) (id : String) (r : V → List V → Hp → VK → Prop) : Prop :=
  ∀ (pins : List (Addr × Obj)) (s : Shared) (σ : St) (H : Hp) (x : V) (xs : List V) (v : Value) (us : List Value) (Q : VK), Inv X pins σ H s → RelV x v → Vals xs us → r x xs H Q →
    wpAny (model X.prog X.w) X.A (call (.builtin id) (v :: us)) (EP X pins σ Q) X.xe s

/-! ### lists of values -/
theorem Vals.one : ∀ {x : V} {us : List Value}, Vals [x] us → ∃ u, us = [u] ∧ RelV x u
  | _, _, .cons r .nil => ⟨_, rfl, r⟩
theorem Vals.two : ∀ {x y : V} {us : List Value}, Vals [x, y] us → ∃ u v, us = [u, v] ∧ RelV x u ∧ RelV y v
  | _, _, _, .cons r (.cons q .nil) => ⟨_, _, rfl, r, q⟩
theorem Vals.zero : ∀ {us : List Value}, Vals [] us → us = []
  | _, .nil => rfl
theorem Vals.dropLast {xs : List V} {us : List Value} (h : Vals xs us) : Vals xs.dropLast us.dropLast := by
  induction h with
  | nil => exact .nil
  | cons r t ih =>
    cases t with
    | nil => exact .nil
    | cons q t' => exact .cons r ih
theorem Vals.eraseIdx : ∀ {xs : List V} {us : List Value} (i : Nat), Vals xs us → Vals (xs.eraseIdx i) (us.eraseIdx i)
  | _, _, _, .nil => .nil
  | _, _, 0, .cons _ t => t
  | _, _, i + 1, .cons r t => .cons r (Vals.eraseIdx i t)
theorem Vals.reverse {xs : List V} {us : List Value} (h : Vals xs us) : Vals xs.reverse us.reverse := by
  induction h with
  | nil => exact .nil
  | cons r t ih => rw [List.reverse_cons, List.reverse_cons]; exact Vals.append ih (.cons r .nil)
theorem Vals.rep {xs : List V} {us : List Value} (h : Vals xs us) : ∀ k : Nat, Vals (List.replicate k xs).flatten (List.replicate k us).flatten
  | 0 => .nil
  | k + 1 => by
    rw [List.replicate_succ, List.replicate_succ, List.flatten_cons, List.flatten_cons]
    exact Vals.append h (Vals.rep h k)
theorem erase_last {α : Type} (l : List α) : l.eraseIdx (l.length - 1) = l.dropLast := by
  induction l with
  | nil => rfl
  | cons a r ih =>
    cases r with
    | nil => rfl
    | cons b r =>
      have e : (a :: b :: r).length - 1 = ((b :: r).length - 1) + 1 := by
        have h1 : (a :: b :: r).length = r.length + 2 := rfl
        have h2 : (b :: r).length = r.length + 1 := rfl
        omega
      rw [e, List.eraseIdx_cons_succ, ih]
      all_goals rfl
theorem len_erase {α : Type} : ∀ (l : List α) (i : Nat), (l.eraseIdx i).length ≤ l.length
  | [], _ => Nat.le_refl _
  | _ :: _, 0 => Nat.le_succ _
  | _ :: r, i + 1 => Nat.succ_le_succ (len_erase r i)
theorem foldl_rep (its : List Value) : ∀ (k : Nat) (acc : List Value),
    List.foldl (fun x1 x2 => x1 ++ x2) acc.toArray (List.replicate k its.toArray) = (acc ++ (List.replicate k its).flatten).toArray
  | 0, acc => by simp
  | k + 1, acc => by
    have e : acc.toArray ++ its.toArray = (acc ++ its).toArray := by simp
    have e2 : (acc ++ its) ++ (List.replicate k its).flatten = acc ++ (List.replicate (k + 1) its).flatten := by
      rw [List.replicate_succ, List.flatten_cons, List.append_assoc]
    rw [← e2, ← foldl_rep its k (acc ++ its), ← e, List.replicate_succ, List.foldl_cons]

section
variable {X : Cx} {pins : List (Addr × Obj)} {σ : St} {H : Hp} {s : Shared} {l b : Addr} {xs ys zs : List V}

/-! ### the two steps: a tracked list is rewritten, a new list is laid -/
theorem Inv.lset {its its' : List Value} {n : Nat} {f : Array Value → Array Value} {t' : Nat} (I : Inv X pins σ H s) (hH : H l = some (.lst xs))
    (e : s.heap.get? l = some { cls := .type "list", data := .seq its.toArray n }) (hf : f its.toArray = its'.toArray) (hv : Vals ys its') (hz : ys.length ≤ sizeLine) :
    Inv X pins σ (upd H l (.lst ys)) { s with heap := s.heap.update l (Obj.mapSeq f), toks := t' } := by
  have q := PySem.IsL.update e f
  rw [hf] at q
  refine I.write (x := l) (e := l) (by rw [hH]; exact trivial) (.inl rfl) (fun b' u hb hu => (Heap.get?_update_other s.heap (Obj.mapSeq f) (Ne.symm hb)).trans hu) ⟨_, q⟩ ?_
  exact ⟨hz, its', _, hv, q⟩
theorem Inv.lnew {its : List Value} {t' : Nat} (I : Inv X pins σ H s) (hv : Vals ys its) (hz : ys.length ≤ sizeLine) :
    Inv X pins σ (upd H s.heap.objs.size (.lst ys)) { s with heap := s.heap.push { cls := .type "list", data := .seq its.toArray }, toks := t' } :=
  I.laid (fun _ _ q => Heap.get?_push_of_some _ q) (Nat.le_refl _) ⟨hz, its, 0, hv, Heap.get?_push_size _ rfl⟩
theorem Inv.fresh (I : Inv X pins σ H s) : H s.heap.objs.size = none := I.hok.fresh (Nat.le_refl _)
theorem Inv.lstM (I : Inv X pins σ H s) (hH : H l = some (.lst xs)) : xs.length ≤ sizeLine ∧ ∃ (its : List Value) (n : Nat), Vals xs its ∧ xs.length = its.length ∧ s.heap.get? l = some { cls := .type "list", data := .seq its.toArray n } := by
  obtain ⟨z, its, n, r, e⟩ := I.hok l _ hH
  exact ⟨z, its, n, r, r.length, e⟩

theorem notLongL {n : Nat} (h : n ≤ sizeLine) : Builtin.List.listTooLong n = false := by
  unfold Builtin.List.listTooLong
  exact decide_eq_false (by omega)
end

section
variable {X : Cx}

/-! ### methods -/
def rAppend : V → List V → Hp → VK → Prop := fun x vs H Q => ∃ l xs y, x = .ref l ∧ vs = [y] ∧ H l = some (.lst xs) ∧ xs.length < sizeLine ∧ Q .non (upd H l (.lst (xs ++ [y])))
theorem mt_append : MtM X "list.append" rAppend := by
  intro pins s σ H x vs v us Q I rx rv h
  obtain ⟨l, xs, y, rfl, rfl, hH, hz, q⟩ := h
  cases rx
  obtain ⟨u, rfl, ru⟩ := rv.one
  obtain ⟨z, its, n, r, hl, e⟩ := I.lstM hH
  refine call_meets F.slot_list_append ⟨_, e, rfl⟩ F.entry_list_append (F.args_list_append_2 _ _) (PySem.list_append l its.toArray n u (by rw [List.size_toArray]; omega)) ⟨e, ?_⟩
  refine ⟨.non, _, I.lset (its' := its ++ [u]) hH e (by simp) (r.append (.cons ru .nil)) ?_, rfl, q⟩
  rw [List.length_append, List.length_singleton]
  omega

def rExtend : V → List V → Hp → VK → Prop := fun x vs H Q => ∃ l b xs zs, x = .ref l ∧ vs = [.ref b] ∧ H l = some (.lst xs) ∧ H b = some (.lst zs) ∧ xs.length + zs.length ≤ sizeLine ∧ Q .non (upd H l (.lst (xs ++ zs)))
theorem mt_extend : MtM X "list.extend" rExtend := by
  intro pins s σ H x vs v us Q I rx rv h
  obtain ⟨l, b, xs, zs, rfl, rfl, hH, hB, hz, q⟩ := h
  cases rx
  obtain ⟨u, rfl, ru⟩ := rv.one
  cases ru
  obtain ⟨z, its, n, r, hl, e⟩ := I.lstM hH
  obtain ⟨z2, its2, n2, r2, hl2, e2⟩ := I.lstM hB
  have hsz : its.toArray.size + its2.toArray.size ≤ sizeLine := by rw [List.size_toArray, List.size_toArray]; omega
  have hlong : ¬ (!its.toArray.isEmpty && Builtin.List.listTooLong (its.toArray.size + its2.toArray.size)) = true := by
    rw [notLongL hsz, Bool.and_false]
    exact Bool.false_ne_true
  refine call_meets F.slot_list_extend ⟨_, e, rfl⟩ F.entry_list_extend (F.args_list_extend_2 _ _)
    (AutoSeq1.list_extend_list_list_0 l its.toArray n b its2.toArray n2 hlong (by rw [List.size_toArray]; omega) (by omega)) ⟨e, e2, ?_⟩
  refine ⟨.non, _, I.lset (its' := its ++ its2) hH e (by simp) (r.append r2) ?_, rfl, q⟩
  rw [List.length_append]
  omega

def rPop : V → List V → Hp → VK → Prop := fun x vs H Q => ∃ l xs y, x = .ref l ∧ vs = [] ∧ H l = some (.lst xs) ∧ xs[xs.length - 1]? = some y ∧ Q y (upd H l (.lst xs.dropLast))
theorem mt_pop : MtM X "list.pop" rPop := by
  intro pins s σ H x vs v us Q I rx rv h
  obtain ⟨l, xs, y, rfl, rfl, hH, hy, q⟩ := h
  cases rx
  have hus := rv.zero
  subst hus
  obtain ⟨z, its, n, r, hl, e⟩ := I.lstM hH
  obtain ⟨u, hu, ru⟩ := r.get hy
  have hy' : its.toArray[its.toArray.size - 1]? = some u := by
    show its.toArray[its.length - 1]? = some u
    rw [← Array.getElem?_toList, ← hl]
    exact hu
  refine call_meets F.slot_list_pop ⟨_, e, rfl⟩ F.entry_list_pop (F.args_list_pop_1 _) (MeetsSeq.list_pop_last l its.toArray n u hy' (by rw [List.size_toArray]; omega)) ⟨e, ?_⟩
  refine ⟨y, _, I.lset (its' := its.dropLast) hH e ?_ r.dropLast ?_, ru, q⟩
  · show its.toArray.eraseIdxIfInBounds (its.toArray.size - 1) = its.dropLast.toArray
    rw [List.size_toArray, List.eraseIdxIfInBounds_toArray, erase_last]
  · rw [List.length_dropLast]
    omega

def rPopAt : V → List V → Hp → VK → Prop := fun x vs H Q => ∃ l xs i k y, x = .ref l ∧ vs = [.int i] ∧ H l = some (.lst xs) ∧ -(2 ^ 63) ≤ i ∧ i < 2 ^ 63 ∧ seqIndex? i xs.length = some k ∧ xs[k]? = some y ∧ Q y (upd H l (.lst (xs.eraseIdx k)))
theorem mt_popAt : MtM X "list.pop" rPopAt := by
  intro pins s σ H x vs v us Q I rx rv h
  obtain ⟨l, xs, i, k, y, rfl, rfl, hH, h1, h2, hk, hy, q⟩ := h
  cases rx
  obtain ⟨u, rfl, ru⟩ := rv.one
  obtain ⟨t, rfl⟩ := ru
  obtain ⟨z, its, n, r, hl, e⟩ := I.lstM hH
  obtain ⟨w, hw, rw'⟩ := r.get hy
  refine call_meets F.slot_list_pop ⟨_, e, rfl⟩ F.entry_list_pop (F.args_list_pop_2 _ _)
    (MeetsSeq.list_pop_at l its.toArray n i t k w (fitsIndex_both h1 h2) (by rw [List.size_toArray, ← hl]; exact hk) (by rw [← Array.getElem?_toList]; exact hw) (by rw [List.size_toArray]; omega)) ⟨e, ?_⟩
  refine ⟨y, _, I.lset (its' := its.eraseIdx k) hH e ?_ (r.eraseIdx k) ?_, rw', q⟩
  · show its.toArray.eraseIdxIfInBounds k = (its.eraseIdx k).toArray
    rw [List.eraseIdxIfInBounds_toArray]
  · have := len_erase xs k
    omega

def rReverse : V → List V → Hp → VK → Prop := fun x vs H Q => ∃ l xs, x = .ref l ∧ vs = [] ∧ H l = some (.lst xs) ∧ Q .non (upd H l (.lst xs.reverse))
theorem mt_reverse : MtM X "list.reverse" rReverse := by
  intro pins s σ H x vs v us Q I rx rv h
  obtain ⟨l, xs, rfl, rfl, hH, q⟩ := h
  cases rx
  have hus := rv.zero
  subst hus
  obtain ⟨z, its, n, r, hl, e⟩ := I.lstM hH
  refine call_meets F.slot_list_reverse ⟨_, e, rfl⟩ F.entry_list_reverse (F.args_list_reverse_1 _) (AutoSeq1.list_reverse_list_0 l its.toArray n (by rw [List.size_toArray]; omega)) ⟨e, ?_⟩
  refine ⟨.non, _, I.lset (its' := its.reverse) hH e (by simp) r.reverse ?_, rfl, q⟩
  rw [List.length_reverse]
  omega

def rClear : V → List V → Hp → VK → Prop := fun x vs H Q => ∃ l xs, x = .ref l ∧ vs = [] ∧ H l = some (.lst xs) ∧ Q .non (upd H l (.lst []))
theorem mt_clear : MtM X "list.clear" rClear := by
  intro pins s σ H x vs v us Q I rx rv h
  obtain ⟨l, xs, rfl, rfl, hH, q⟩ := h
  cases rx
  have hus := rv.zero
  subst hus
  obtain ⟨z, its, n, r, hl, e⟩ := I.lstM hH
  refine call_meets F.slot_list_clear ⟨_, e, rfl⟩ F.entry_list_clear (F.args_list_clear_1 _) (AutoSeq1.list_clear_list_0 l its.toArray n (by rw [List.size_toArray]; omega)) ⟨e, ?_⟩
  exact ⟨.non, _, I.lset (its' := []) (ys := []) hH e rfl .nil (Nat.zero_le _), rfl, q⟩

/-! ### list + list, list += list, list * int -/
def rCat : R2 := fun x y H Q => ∃ l b xs zs, x = .ref l ∧ y = .ref b ∧ H l = some (.lst xs) ∧ H b = some (.lst zs) ∧ xs.length + zs.length ≤ sizeLine ∧ ∀ p, H p = none → Q (.ref p) (upd H p (.lst (xs ++ zs)))
theorem op_cat : OpR X (binaryOp .Add) rCat := by
  intro pins s σ H x y v u Q I rx ry h
  obtain ⟨l, b, xs, zs, rfl, rfl, hH, hB, hz, q⟩ := h
  cases rx
  cases ry
  obtain ⟨z, its, n, r, hl, e⟩ := I.lstM hH
  obtain ⟨z2, its2, n2, r2, hl2, e2⟩ := I.lstM hB
  refine PySem.P.add_list e e2 ?_ (by rw [List.size_toArray, List.size_toArray]; omega)
  have ea : its.toArray ++ its2.toArray = (its ++ its2).toArray := by simp
  rw [ea]
  exact ⟨.ref _, _, I.lnew (t' := s.toks) (r.append r2) (by rw [List.length_append]; omega), rfl, q _ I.fresh⟩
/-- a list times an int (a negative one is nothing) -/
def rRep : R2 := fun x y H Q => ∃ l k xs, x = .ref l ∧ y = .int k ∧ H l = some (.lst xs) ∧ -(2 ^ 63) ≤ k ∧ k < 2 ^ 63 ∧ xs.length * k.toNat ≤ sizeLine ∧
  ∀ p, H p = none → Q (.ref p) (upd H p (.lst (List.replicate k.toNat xs).flatten))
theorem len_rep {α : Type} (xs : List α) (k : Nat) : (List.replicate k xs).flatten.length = k * xs.length := by
  induction k with
  | zero => simp
  | succ k ih => rw [List.replicate_succ, List.flatten_cons, List.length_append, ih, Nat.succ_mul, Nat.add_comm]
theorem op_rep : OpR X (binaryOp .Mult) rRep := by
  intro pins s σ H x y v u Q I rx ry h
  obtain ⟨l, k, xs, rfl, rfl, hH, h1, h2, hz, q⟩ := h
  cases rx
  obtain ⟨t, rfl⟩ := ry
  obtain ⟨z, its, n, r, hl, e⟩ := I.lstM hH
  have hlen : its.toArray.size * k.toNat ≤ sizeLine := by rw [List.size_toArray, ← hl]; exact hz
  have hcap : ¬ its.toArray.size * k.toNat > (2 ^ 63 - 1) / 8 := by
    have : (sizeLine : Nat) ≤ (2 ^ 63 - 1) / 8 := by decide
    omega
  have hfit : ¬ (!Builtin.List.listFitsIndex k) = true := by
    rw [fitsIndex_both h1 h2]
    exact Bool.false_ne_true
  have hlong : ¬ Builtin.List.listTooLong (its.toArray.size * k.toNat) = true := by
    rw [notLongL hlen]
    exact Bool.false_ne_true
  have hnew : List.foldl (fun x1 x2 => x1 ++ x2) #[] (List.replicate (if its.toArray.isEmpty = true then 0 else k.toNat) its.toArray) = (List.replicate k.toNat its).flatten.toArray := by
    have f0 : ∀ m : Nat, List.foldl (fun x1 x2 => x1 ++ x2) #[] (List.replicate m its.toArray) = (List.replicate m its).flatten.toArray := fun m => by
      have := foldl_rep its m []
      rw [List.nil_append] at this
      exact this
    rw [f0]
    cases its with
    | nil => simp
    | cons a r' => rw [if_neg (by simp)]
  refine wpAny_binaryOp_repeat_ref (T := "list") (U := "int") (by decide) ⟨_, e, rfl⟩ (fun s' => typeIs_int s' k t) noFill_list_mul F.fills_int_mul F.slot_int_rmul repeat_list F.slot_int_index.lookup
    (call_meets F.slot_int_rmul (typeIs_int s k t) F.entry_int_rmul (F.args_int_rmul_2 _ _) (int___rmul___int_list k t l its.toArray n)
      ⟨e, rfl, ⟨_, e, rfl⟩, call_meets F.slot_list_mul ⟨_, e, rfl⟩ F.entry_list_mul (F.args_list_mul_2 _ _) (AutoListH.list___mul___list_int_3 l its.toArray n k t hfit hcap hlong) ⟨e, ?_⟩⟩)
  rw [hnew]
  exact ⟨.ref _, _, I.lnew (t' := s.toks) (r.rep k.toNat) (by rw [len_rep, Nat.mul_comm]; exact hz), rfl, q _ I.fresh⟩

/-! ### del xs[i] -/
theorem del_list {pins : List (Addr × Obj)} {s : Shared} {σ : St} {H : Hp} {l : Addr} {xs : List V} {i : Int} {t : Tok} {k : Nat} {Q : Unit → Shared → Prop} (I : Inv X pins σ H s) (hH : H l = some (.lst xs))
    (h1 : -(2 ^ 63) ≤ i) (h2 : i < 2 ^ 63) (hk : seqIndex? i xs.length = some k) (h : ∀ s', Inv X pins σ (upd H l (.lst (xs.eraseIdx k))) s' → Q () s') :
    wpAny (model X.prog X.w) X.A (delItem (.ref l) (.int i t)) Q X.xe s := by
  obtain ⟨z, its, n, r, hl, e⟩ := I.lstM hH
  refine PySem.P.delItem_list (k := k) e (fitsIndex_both h1 h2) (by rw [List.size_toArray, ← hl]; exact hk) (h _ ?_) (by rw [List.size_toArray]; omega)
  refine I.lset (its' := its.eraseIdx k) (t' := s.toks) hH e ?_ (r.eraseIdx k) ?_
  · show its.toArray.eraseIdxIfInBounds k = (its.eraseIdx k).toArray
    rw [List.eraseIdxIfInBounds_toArray]
  · have := len_erase xs k
    omega
end

/-! ### xs[a:b] = ys -/
section
variable {prog : Program} {w : World} {A : Around} {E : Value → Shared → Prop} {s : Shared}
theorem splice_eq (its its2 : List Value) (a c : Nat) : its.toArray.extract 0 a ++ its2.toArray ++ its.toArray.extract c its.toArray.size = (its.take a ++ its2 ++ its.drop c).toArray := by
  apply Array.toList_inj.mp
  first
    | (simp
       exact List.take_of_length_le (by simp))
    | simp [List.take_of_length_le]
    | simp
theorem bounds_run {a c n : Nat} (hac : a ≤ c) (hc : c ≤ n) : sliceBounds (some (a : Int)) (some (c : Int)) none n = ((a : Int), (c : Int), 1) := by
  simp only [sliceBounds, Option.getD_none]
  have h1 : ¬ ((a : Int) < 0) := by omega
  have h2 : ¬ ((c : Int) < 0) := by omega
  simp only [h1, h2, if_false, show (1 : Int) > 0 by decide, if_true]
  congr 1
  · omega
  · congr 1; omega
set_option maxRecDepth 100000 in
/-- list.__setitem__ with a slice of step one and another list -/
theorem setItem_slice {l b sl : Addr} {items new : Array Value} {n n2 : Nat} {vl vu : Value} {a c : Nat} {Q : Unit → Shared → Prop}
    (e : s.heap.get? l = some { cls := .type "list", data := .seq items n }) (e2 : s.heap.get? b = some { cls := .type "list", data := .seq new n2 }) (hne : l ≠ b)
    (hs : s.heap.IsSliceOf sl vl vu .none) (pl : IsPart vl (some (a : Int))) (pu : IsPart vu (some (c : Int))) (hac : a ≤ c) (hc : c ≤ items.size)
    (hsz : items.size + new.size ≤ sizeLine) (h : Q () { s with heap := s.heap.update l (Obj.mapSeq fun xs => xs.extract 0 a ++ new ++ xs.extract c xs.size) }) :
    wpAny (model prog w) A (setItem (.ref l) (.ref sl) (.ref b)) Q E s := by
  have hl : s.heap.IsList l items := PySem.IsL.isList e
  have hb : s.heap.IsList b new := PySem.IsL.isList e2
  obtain ⟨os, hos, hcs, hds⟩ := id hs
  have hTs : s.TypeIs (.ref sl) "slice" := ⟨os, hos, hcs⟩
  have hstep : ¬ ((rawPart none == rawInt 0) = true) := Bool.false_ne_true
  have hsame : Builtin.List.listSameRef (.ref l) (.ref b) = false := by
    unfold Builtin.List.listSameRef
    exact beq_eq_false_iff_ne.mpr hne
  have hmax : (max (a : Int) (c : Int)).toNat = c := by omega
  have hz' : ((fun xs : Array Value => xs.extract 0 a ++ new ++ xs.extract c xs.size) items).size ≤ sizeLine + 1 := by
    simp only [Array.size_append, Array.size_extract]
    omega
  unfold setItem
  try with_reducible refine wpAny_holding ?_
  first | refine wpAny_bind (wpAny_pure ?_) | skip
  refine wpAny_bind (wpAny_sequenceKey hl.typeIs (by decide) ?_)
  refine wpAny_bind (wpAny_callSpecial?_slot (name := Str.ofString "__setitem__") hl.typeIs slot_list_setitem
    (wpAny_call_entry slot_list_setitem hl.typeIs entry_list_setitem ?_ (args_list_setitem _ _ _)))
  show wpAny _ _ (Builtin.List.listSubscript? (.ref sl) >>= _) _ _ s
  refine wpAny_bind ?_
  unfold Builtin.List.listSubscript?
  refine wpAny_bind (wpAny_specialOf hTs slice_no_index ?_)
  simp only [Option.isNone_none, if_true]
  refine wpAny_pure ?_
  show wpAny _ _ (typeOf (.ref sl) >>= _) _ _ s
  refine wpAny_bind (wpAny_typeOf hTs ?_)
  first
    | rw [if_neg (by decide)]
    | refine PySem.W.KFB.if_not (by decide) ?_
  rw [listSliceParts_eq]
  refine wpAny_bind (wpAny_bind (wpAny_field hos hds (x := .none) rfl (wpAny_bind (wpAny_listPart .none ?_))))
  rw [if_neg hstep]
  refine wpAny_bind (wpAny_field hos hds (x := vl) rfl (wpAny_bind (wpAny_listPart pl ?_)))
  refine wpAny_bind (wpAny_field hos hds (x := vu) rfl (wpAny_bind (wpAny_listPart pu (wpAny_pure ?_))))
  first
    | simp only [hsame, Bool.false_eq_true, if_false]
    | refine PySem.W.KFB.if_not hsame ?_
    | (dsimp only
       rw [if_neg (by rw [hsame]; exact Bool.false_ne_true)])
  refine wpAny_bind (m := Builtin.List.listAllItems (.ref b) "must assign iterable to extended slice") ?_
  unfold Builtin.List.listAllItems
  refine wpAny_bind (wpAny_typeOf hb.typeIs ?_)
  first
    | refine PySem.W.KFB.if_so (by decide) ?_
    | rw [if_pos (by decide)]
    | simp only [beq_self_eq_true, Bool.true_or, if_true]
  unfold Builtin.List.listItems
  refine wpAny_bind (wpAny_seqItems e2 rfl (wpAny_pure ?_))
  refine wpAny_bind (wpAny_bind (wpAny_seqItems e rfl (wpAny_pure ?_)))
  refine wpAny_bind (wpAny_of_eq ((sliceIndices_raw (some (a : Int)) (some (c : Int)) none items.size (by simp)).trans (congrArg (pure : Int × Int × Int → Sem (Int × Int × Int)) (bounds_run hac hc))) ?_)
  show wpAny _ _ (if ((1 : Int) == 1) = true then _ else _) _ _ s
  rw [if_pos (by decide)]
  refine wpAny_bind (wpAny_rule ?_)
  first
    | simp only [notLongL hsz, Bool.false_eq_true, if_false]
    | refine PySem.W.KFB.if_not (notLongL hsz) ?_
  first | refine wpAny_bind (wpAny_pure ?_) | skip
  show wpAny _ _ (updateSeq l (fun xs => xs.extract 0 ((a : Int)).toNat ++ new ++ xs.extract (max (a : Int) (c : Int)).toNat xs.size) >>= _) _ _ s
  rw [hmax, Int.toNat_natCast]
  refine wpAny_bind (wpAny_updateSeq (hz := Nat.le_trans (Nat.le_add_right _ _) hsz) (_hz' := hz') e rfl ?_)
  refine wpAny_bind (wpAny_letGo ?_)
  first
    | exact wpAny_bind (wpAny_pure (wpAny_pure ⟨.none, rfl, wpAny_pure h⟩))
    | exact wpAny_pure ⟨.none, rfl, wpAny_pure h⟩
end

section
variable {X : Cx}
/-- xs[a:c] = ys of another list, at the value level: sl is the slice object that was just made -/
theorem set_slice {pins : List (Addr × Obj)} {s : Shared} {σ : St} {H : Hp} {l b sl : Addr} {xs ys : List V} {a c : Int} {vl vu : Value} {Q : Unit → Shared → Prop} (I : Inv X pins σ H s)
    (hH : H l = some (.lst xs)) (hB : H b = some (.lst ys)) (hne : l ≠ b) (hs : s.heap.IsSliceOf sl vl vu .none) (ra : RelV (.int a) vl) (rc : RelV (.int c) vu) (h0 : 0 ≤ a) (hac : a ≤ c) (hc : c ≤ xs.length)
    (hz : xs.length + ys.length ≤ sizeLine) (h : ∀ s', Inv X pins σ (upd H l (.lst (xs.take a.toNat ++ ys ++ xs.drop c.toNat))) s' → Q () s') :
    wpAny (model X.prog X.w) X.A (setItem (.ref l) (.ref sl) (.ref b)) Q X.xe s := by
  obtain ⟨ta, rfl⟩ := ra
  obtain ⟨tc, rfl⟩ := rc
  obtain ⟨z, its, n, r, hl, e⟩ := I.lstM hH
  obtain ⟨z2, its2, n2, r2, hl2, e2⟩ := I.lstM hB
  obtain ⟨a', rfl⟩ := Int.eq_ofNat_of_zero_le h0
  obtain ⟨c', rfl⟩ := Int.eq_ofNat_of_zero_le (Int.le_trans h0 hac)
  simp only [Int.toNat_natCast] at h
  refine setItem_slice (a := a') (c := c') e e2 hne hs (.int _ _) (.int _ _) (by omega) (by rw [List.size_toArray]; omega) (by rw [List.size_toArray, List.size_toArray]; omega) (h _ ?_)
  refine I.lset (its' := its.take a' ++ its2 ++ its.drop c') (t' := s.toks) hH e ?_ (Vals.append (Vals.append (r.take _) r2) (r.drop _)) ?_
  · exact splice_eq its its2 a' c'
  · rw [List.length_append, List.length_append, List.length_take, List.length_drop]
    omega
end
end L2

namespace Att
open PySem PySem.W PySem.Calls PyProof.Rows

/-! ### the script -/
theorem ints_of_wellAll {P : Params} {h : Heap} : ∀ (ns : List Int) (vs : List Value), WellAll P h vs (ns.map WData.int) → IntsAre vs ns := by
  intro ns
  induction ns with
  | nil =>
    intro vs w
    rw [List.map_nil] at w
    cases w
    exact .nil
  | cons n ns ih =>
    intro vs w
    rw [List.map_cons] at w
    cases w with
    | cons a b =>
      cases a
      exact .cons _ _ (ih _ b)

theorem script_of {l : OpenLaw} {n : Nat} (hn : l.most = some n) {P : Params} {h : Heap} {args : List WData} {vals : List Value}
    (hpre : l.row.toRowW.claim.pre args = true) (hwl : WellAll P h vals args) :
    ∃ a vs ns, vals = [Value.ref a] ∧ args = [WData.list (ns.map WData.int)] ∧ h.get? a = some { cls := .type "list", data := .seq vs.toArray } ∧ IntsAre vs ns ∧ ns.length ≤ n := by
  have hsh : WShape.hasAll [] args [.list .int] = true := (pre_splitW hpre).1
  have hc : l.pre.holds [] { args := args } = true := (pre_splitW hpre).2
  obtain ⟨d, r, rfl, h1, h2⟩ := hasAllW_cons hsh
  obtain rfl := hasAllW_nil h2
  obtain ⟨xs, rfl, h3⟩ := hasW_list h1
  obtain ⟨ns, rfl⟩ := items_int h3
  have hlen : ns.length ≤ n := by
    unfold OpenLaw.pre at hc
    have h4 : (WTm.not (.lt (.lit (.int (n : Int))) (.len (.arg 0)))).holds [] { args := [.list (ns.map .int)] } = true := by
      have h4 := (holds_andW hc).1
      rw [hn] at h4
      exact h4
    have h5 := condW_of h4 (w_not (w_lt w_lit (w_len_list (w_arg rfl))))
    rw [List.length_map] at h5
    refine Nat.le_of_not_lt fun q => ?_
    have q' : (n : Int) < ((ns.length : Nat) : Int) := by omega
    first
      | (rw [decide_eq_true q'] at h5; exact absurd h5 (by decide))
      | (simp at h5; omega)
  cases hwl with
  | cons w1 w2 =>
    cases w2
    cases w1 with
    | list ho hall => exact ⟨_, _, ns, rfl, rfl, ho, ints_of_wellAll ns _ hall, hlen⟩

theorem post_true (l : OpenLaw) (args : List WData) : l.row.toRowW.claim.post args (.bool true) args = true :=
  postW_of (r := l.row.toRowW) (X := (true == true))
    (show WShape.has [] (.bool true) .bool = true by first | rfl | decide | simp [WShape.has, WShape.arms, WShape.armsAll])
    (show (WTm.eq .res (.lit (.bool true))).value [] { args := args, res := some (.bool true), after := args } = some (.bool (true == true)) from w_eq_bool (w_res rfl) w_lit) rfl

/-! ### the attachment: holds_open's last premise (the goal 'hc' behind k_head) from a wpAny of the law's body -/
theorem attach {l : OpenLaw} {n : Nat} {q : Program} {loose : List Str} {XP : (Str → Option Value) → Heap → Prop} {YP : World → Heap → Prop} {d : DefRec} {x : Str}
    (hn : l.most = some n) (hdf : d.params.defaults = [])
    (hbind : ∀ pm cd doc v : Value, bindArgs (docDef d.name d.params d.body d.scope pm cd doc) ⟨[v], []⟩ = pure [(x, v)])
    (hx : d.scope.names.lookup x = some .local ∨ d.scope.names.lookup x = some .cell)
    (hk : d.scope.kind = .function) (hco : d.scope.isCoroutine = false) (hgen : d.scope.isGenerator = false)
    (body : ∀ (w : World) (s₀ s₁ s : Shared) (mg mb : Str → Option Value) (fa : Addr) (o : Obj) (pm cd doc : Value) (a : Addr) (vs : List Value) (ns : List Int),
      Ground q loose [] XP w s₀ mg mb s₁.heap → YP w s₁.heap →
      s₁.heap.get? fa = some o → o.data = .func (docDef d.name d.params d.body d.scope pm cd doc) → s₁.heap.CodeRec cd d.name → mg d.name = some (.ref fa) →
      s₁.heap.get? a = some { cls := .type "list", data := .seq vs.toArray } → IntsAre vs ns → ns.length ≤ n →
      s.gens = #[] → s.os = s₁.os →
      Fr s₁.heap s₁.heap.objs.size s.heap (bindL (envOfC d.name d.scope s₁.heap.objs.size fa cd).kindOf [(x, .ref a)] fun _ => none) →
      Cl s₁.heap.objs.size (cellsFrom (s₁.heap.objs.size + 1) d.scope.names []) s.heap (bindC (envOfC d.name d.scope s₁.heap.objs.size fa cd).kindOf [(x, .ref a)] fun _ => none) →
      wpAny (model l.prog w) (callerA.deeper (envOfC d.name d.scope s₁.heap.objs.size fa cd)) (execs d.body (envOfC d.name d.scope s₁.heap.objs.size fa cd))
        (fun f s' => f = .ret (.bool true) ∧ OldK s₁.heap s'.heap ∧ s'.os = s₁.os ∧ AllBare s'.gens) (fun _ _ => False) s) :
    WalkO q loose XP YP l.row.toRowW d [] (fun f vs => PySem.call f vs) := by
  intro w s₀ s₁ mg mb G Y fa o pm cd doc dV kV ho hd hcd hD hmg hg args vals as hpre hlay hrd hwl hlo
  obtain rfl : dV = .none := Dflts.none hD hdf
  obtain rfl : kV = .none := Dflts.noKw hD
  obtain ⟨a, vs, ns, rfl, rfl, hobj, hints, hlen⟩ := script_of hn hpre hwl
  refine enter_call ?_
  refine call_cells_ret (o := o) (by rw [depth_caller]; decide) ho (fd_plain hd) G.T.nolimit hcd (hbind pm cd doc (.ref a)) (fun y hy => ?_) (fun h₁ tk F X => ?_) hco hgen hk
  · obtain rfl : y = (x, Value.ref a) := List.mem_singleton.mp hy
    rcases hx with e | e
    · exact .inl e
    · exact .inr ⟨e, cellsFrom_some _ _ _ (.inl e)⟩
  · refine wpAny_mono (body w s₀ s₁ { s₁ with heap := h₁, toks := tk } mg mb fa o pm cd doc a vs ns G Y ho (fd_plain hd) hcd hmg hobj hints hlen hg rfl F X) (fun f s' hq => ?_) (fun _ _ hq => hq)
    obtain ⟨rfl, h2, h3, h4⟩ := hq
    exact ⟨.inl ⟨.bool true, .bool true, [], rfl, fun _ => rfl, .bool true, post_true l _, fun _ => ⟨List.Pairwise.nil, fun _ hm => (nomatch hm)⟩⟩, h2, h3, h4⟩

/-- the same from a codeAny of the CALL (for a layer whose function contracts speak of calls) -/
theorem attach_call {l : OpenLaw} {n : Nat} {q : Program} {loose : List Str} {XP : (Str → Option Value) → Heap → Prop} {YP : World → Heap → Prop} {d : DefRec}
    (hn : l.most = some n) (hdf : d.params.defaults = [])
    (call : ∀ (w : World) (s₀ s₁ : Shared) (mg mb : Str → Option Value) (fa : Addr) (o : Obj) (pm cd doc : Value) (a : Addr) (vs : List Value) (ns : List Int),
      Ground q loose [] XP w s₀ mg mb s₁.heap → YP w s₁.heap →
      s₁.heap.get? fa = some o → o.data = .func (docDef d.name d.params d.body d.scope pm cd doc) → s₁.heap.CodeRec cd d.name → mg d.name = some (.ref fa) →
      s₁.heap.get? a = some { cls := .type "list", data := .seq vs.toArray } → IntsAre vs ns → ns.length ≤ n → s₁.gens = #[] →
      codeAny (model l.prog w) callerA (.call (.ref fa) ⟨[.ref a], []⟩) (fun r s' => r = .ok (.ret (.bool true)) ∧ OldK s₁.heap s'.heap ∧ s'.os = s₁.os ∧ AllBare s'.gens) s₁) :
    WalkO q loose XP YP l.row.toRowW d [] (fun f vs => PySem.call f vs) := by
  intro w s₀ s₁ mg mb G Y fa o pm cd doc dV kV ho hd hcd hD hmg hg args vals as hpre hlay hrd hwl hlo
  obtain rfl : dV = .none := Dflts.none hD hdf
  obtain rfl : kV = .none := Dflts.noKw hD
  obtain ⟨a, vs, ns, rfl, rfl, hobj, hints, hlen⟩ := script_of hn hpre hwl
  refine enter_call (codeAny_mono (call w s₀ s₁ mg mb fa o pm cd doc a vs ns G Y ho (fd_plain hd) hcd hmg hobj hints hlen hg) fun r s' hq => ?_)
  obtain ⟨rfl, h2, h3, h4⟩ := hq
  exact ⟨.inl ⟨.bool true, .bool true, [], rfl, fun _ => rfl, .bool true, post_true l _, fun _ => ⟨List.Pairwise.nil, fun _ hm => (nomatch hm)⟩⟩, h2, h3, h4⟩

/-- the same where the top left finished generators (o_head chose holds_openN): nothing may have changed at all and no generator may be left -/
theorem attachN {l : OpenLaw} {n : Nat} {q : Program} {loose : List Str} {XP : (Str → Option Value) → Heap → Prop} {YP : World → Heap → Prop} {d : DefRec} {x : Str}
    (hn : l.most = some n) (hdf : d.params.defaults = [])
    (hbind : ∀ pm cd doc v : Value, bindArgs (docDef d.name d.params d.body d.scope pm cd doc) ⟨[v], []⟩ = pure [(x, v)])
    (hx : d.scope.names.lookup x = some .local ∨ d.scope.names.lookup x = some .cell)
    (hk : d.scope.kind = .function) (hco : d.scope.isCoroutine = false) (hgen : d.scope.isGenerator = false)
    (body : ∀ (w : World) (s₀ s₁ s : Shared) (mg mb : Str → Option Value) (fa : Addr) (o : Obj) (pm cd doc : Value) (a : Addr) (vs : List Value) (ns : List Int),
      Ground q loose [] XP w s₀ mg mb s₁.heap → YP w s₁.heap →
      s₁.heap.get? fa = some o → o.data = .func (docDef d.name d.params d.body d.scope pm cd doc) → s₁.heap.CodeRec cd d.name → mg d.name = some (.ref fa) →
      s₁.heap.get? a = some { cls := .type "list", data := .seq vs.toArray } → IntsAre vs ns → ns.length ≤ n →
      s.gens = #[] → s.os = s₁.os →
      Fr s₁.heap s₁.heap.objs.size s.heap (bindL (envOfC d.name d.scope s₁.heap.objs.size fa cd).kindOf [(x, .ref a)] fun _ => none) →
      Cl s₁.heap.objs.size (cellsFrom (s₁.heap.objs.size + 1) d.scope.names []) s.heap (bindC (envOfC d.name d.scope s₁.heap.objs.size fa cd).kindOf [(x, .ref a)] fun _ => none) →
      wpAny (model l.prog w) (callerA.deeper (envOfC d.name d.scope s₁.heap.objs.size fa cd)) (execs d.body (envOfC d.name d.scope s₁.heap.objs.size fa cd))
        (fun f s' => f = .ret (.bool true) ∧ (∀ b o, s₁.heap.get? b = some o → s'.heap.get? b = some o) ∧ s'.os = s₁.os ∧ s'.gens = #[]) (fun _ _ => False) s) :
    WalkN q loose XP YP l.row.toRowW d [] (fun f vs => PySem.call f vs) := by
  intro w s₀ s₁ mg mb G Y fa o pm cd doc dV kV ho hd hcd hD hmg hg args vals as hpre hlay hrd hwl hlo
  obtain rfl : dV = .none := Dflts.none hD hdf
  obtain rfl : kV = .none := Dflts.noKw hD
  obtain ⟨a, vs, ns, rfl, rfl, hobj, hints, hlen⟩ := script_of hn hpre hwl
  refine enter_callW ?_
  refine call_cells_ret (o := o) (by rw [depth_caller]; decide) ho (fd_plain hd) G.T.nolimit hcd (hbind pm cd doc (.ref a)) (fun y hy => ?_) (fun h₁ tk F X => ?_) hco hgen hk
  · obtain rfl : y = (x, Value.ref a) := List.mem_singleton.mp hy
    rcases hx with e | e
    · exact .inl e
    · exact .inr ⟨e, cellsFrom_some _ _ _ (.inl e)⟩
  · refine wpAny_mono (body w s₀ s₁ { s₁ with heap := h₁, toks := tk } mg mb fa o pm cd doc a vs ns G Y ho (fd_plain hd) hcd hmg hobj hints hlen hg rfl F X) (fun f s' hq => ?_) (fun _ _ hq => hq)
    obtain ⟨rfl, h2, h3, h4⟩ := hq
    exact ⟨.inl ⟨.bool true, .bool true, [], rfl, fun _ => rfl, .bool true, post_true l _, fun _ => ⟨List.Pairwise.nil, fun _ hm => (nomatch hm)⟩⟩, h2, h3, h4⟩

/-! ### rules over ANY heap (no ledger) from facts about the written part K: the library's own take a ledger (News) for what they write -/
section
variable {prog : Program} {w : World} {A : Around} {E : Value → Shared → Prop} {s : Shared} {K : Frag}

/-- a def of the module, or a method (qual 'C.m'), entered: the frame is the next address; cells behind it -/
theorem call_fn {R : Result → Shared → Prop} {name qual : Str} {params : Arguments} {body : List Stmt} {scope : Scope} {dV kV doc pm cdv ct oc : Value} {an od : Option Addr} {osl : Array (Option Value)} {f : Addr} {args : Args} {binds : List (Str × Value)}
    (X : K.In s.heap) (hlim : s.heap.NoLimit) (ho : K.lookup f = some ⟨oc, od, .func (fnOf name qual params body scope dV kV doc pm an cdv ct), osl⟩) (hcd : codeIn K cdv qual = true) (hroom : A.depth < recursionLimit)
    (hbind : BindsTo s (fnOf name qual params body scope dV kV doc pm an cdv ct) args binds)
    (hkind : (binds.all fun y => scope.names.lookup y.1 == some .local || scope.names.lookup y.1 == some .cell) = true)
    (h : ∀ s₁, InCallC s s.heap.objs.size (bindL (envOfC qual scope s.heap.objs.size f cdv).kindOf binds fun _ => none) (cellsFrom (s.heap.objs.size + 1) scope.names [])
        (bindC (envOfC qual scope s.heap.objs.size f cdv).kindOf binds fun _ => none) s₁ →
      wpAny (model prog w) (A.deeper (envOfC qual scope s.heap.objs.size f cdv)) (execs body (envOfC qual scope s.heap.objs.size f cdv))
        (fun fl s' => R (.ok (.ret (match fl with | .ret v => v | _ => .none))) s')
        (fun e s' => wpAny (model prog w) (A.deeper (envOfC qual scope s.heap.objs.size f cdv)) (leaving (envOfC qual scope s.heap.objs.size f cdv) e) (fun _ s'' => R (.error e) s'') (fun e' s'' => R (.error e') s'') s') s₁)
    (hco : scope.isCoroutine = false) (hgen : scope.isGenerator = false) (hk : scope.kind = .function) : codeAny (model prog w) A (.call (.ref f) args) R s := by
  refine codeAny_call_function hroom (X _ _ ho) rfl hco hgen rfl (codeRec_of X hcd) (hbind _ _ _ _ ?_)
  refine wpAny_newFunctionEnv_cells hk (kindsX hkind _) fun env he s₁ x => ?_
  subst he
  exact ⟨hlim.keeps x.toInCall.keep, codeAny_func (h s₁ x)⟩

/-- C(..): dict at size, instance at size + 1, then __init__ -/
theorem make_obj {R : Result → Shared → Prop} {C fI : Addr} {rest : List Value} {kw : List (Str × Value)}
    (X : K.In s.heap) (hm : makesIn K C = true) (hi : findIn K (.ref C) "__init__" = some (some (.ref fI))) (hf : isFn K (.ref fI) = true)
    (h : codeAny (model prog w) (A.under (.builtin "type.__call__" ⟨.ref C :: rest, kw⟩)) (.call (.ref fI) ⟨.ref (s.heap.objs.size + 1) :: rest, kw⟩) (InitBack (s.heap.objs.size + 1) R)
      { s with heap := (s.heap.push emptyDict).push (instObj C s.heap.objs.size) }) : codeAny (model prog w) A (.call (.ref C) ⟨rest, kw⟩) R s := by
  obtain ⟨hh, g, d, t, os⟩ := s
  exact make_core (makes_of X hm) (looks_findIn X hi) (fun self => bind_fn X self (beq_iff_eq.mp hf)) (.inl rfl) h

/-- x.name where the instance's dict holds the name and the class does not -/
theorem get_field {x C : Addr} {ox : Obj} {es : List DictEntry} {n : Nat} {name : Str} {expr : Bool} {v : Value} {Q : Value → Shared → Prop}
    (X : K.In s.heap) (I : PySem.W.InstAt s.heap x ox C (some (dictOf es n))) (hg : plainGet K C name = true) (hh : hasDictIn K C = true) (ha : findIn K (.ref C) name = some none)
    (hl : getL name es = some (some v)) (hv : handedIn v = true) (h : Q v { s with toks := s.toks + 1 }) : wpAny (model prog w) A (getAttr (.ref x) name expr) Q E s :=
  get_value X I (plainGet_of hg).1 (findObj_own hh ha rfl hl) hv h

/-- x.m(..): the method found in the class -/
theorem get_method {x C f : Addr} {ox : Obj} {es : List DictEntry} {n : Nat} {name : Str} {pl : Sem Bool} {Q : Value × List Value → Shared → Prop}
    (X : K.In s.heap) (I : PySem.W.InstAt s.heap x ox C (some (dictOf es n))) (hg : plainGet K C name = true) (hf : findIn K (.ref C) name = some (some (.ref f))) (ht : isFn K (.ref f) = true)
    (hl : getL name es = some none) (h : Q (.ref f, [.ref x]) s) : wpAny (model prog w) A (getMethod (.ref x) name pl) Q E s :=
  method_fn X I (plainGet_of hg).1 (plainGet_of hg).2 hf (beq_iff_eq.mp ht) (by show (lookIn name (dictOf es n)).map _ = _; rw [lookIn_dict, hl]; rfl) h

/-! the whole heap as the ledger: makes every rule that writes through a ledger a rule over any heap -/
def noObjs (h : Heap) : Heap := { h with objs := #[] }
theorem noObjs_get (h : Heap) (b : Addr) : (noObjs h).get? b = none := by
  cases e : (noObjs h).get? b with
  | none => rfl
  | some o => exact absurd (Heap.lt_size e) (Nat.not_lt_zero _)
def ledger (h : Heap) (L d : Addr) : List (Addr × Obj) := (List.range h.objs.size).filterMap fun a => if a = L ∨ a = d then none else (h.get? a).map fun o => (a, o)
theorem mem_ledger {h : Heap} {L d a : Addr} {o : Obj} : (a, o) ∈ ledger h L d ↔ a ≠ L ∧ a ≠ d ∧ h.get? a = some o := by
  unfold ledger
  rw [List.mem_filterMap]
  constructor
  · rintro ⟨b, _, e⟩
    split at e
    · cases e
    · rename_i hb
      obtain ⟨o', ho, e'⟩ := Option.map_eq_some_iff.mp e
      cases e'
      exact ⟨fun q => hb (.inl q), fun q => hb (.inr q), ho⟩
  · rintro ⟨n1, n2, ho⟩
    refine ⟨a, List.mem_range.mpr (Heap.lt_size ho), ?_⟩
    rw [if_neg (show ¬ (a = L ∨ a = d) from fun q => q.elim n1 n2), ho] <;> rfl
theorem news_ledger {h : Heap} {L d : Addr} {od : Obj} (hne : d ≠ L) (ho : h.get? d = some od) : News (noObjs h) L h ([] ++ (d, od) :: ledger h L d) := by
  rintro ⟨a, o⟩ hp
  rcases List.mem_cons.mp hp with e | hp
  · cases e
    exact ⟨ho, hne, noObjs_get _ _⟩
  · obtain ⟨n1, n2, e⟩ := mem_ledger.mp hp
    exact ⟨e, n1, noObjs_get _ _⟩
theorem fr_all {h : Heap} {L : Addr} {m : Str → Option Value} (n : h.Ns L m) : Fr (noObjs h) L h m :=
  ⟨n, fun b o e => (by rw [noObjs_get] at e; cases e), Nat.zero_le _⟩
/-- Upd of the head entry (for append_K, setItem_K ..) -/
theorem upd_ledger {h : Heap} {L d : Addr} {o o' : Obj} : Upd d o o' ((d, o) :: ledger h L d) ((d, o') :: ledger h L d) :=
  .head fun ⟨_, _⟩ hp => (mem_ledger.mp hp).2.1

/-- x.name = v over any heap: L is any namespace of the heap (the frame's, say): its map stays, its object is not told; all else but the dict stays -/
theorem set_field {x C dx L : Addr} {ox : Obj} {m : Str → Option Value} {es es' : List DictEntry} {n n' : Nat} {name : Str} {v : Value} {Q : Unit → Shared → Prop}
    (X : K.In s.heap) (I : PySem.W.InstAt s.heap x ox C (some (dictOf es n))) (hd : ox.dict = some dx) (hL : s.heap.Ns L m) (hne : dx ≠ L)
    (hs : findIn K (.ref C) "__setattr__" = some (some (.builtin "object.__setattr__"))) (hp : plainOver K C = true) (ht : takerIn K C name = some none) (hh : hasDictIn K C = true) (hl : (getL name es).isSome = true)
    (e : (putL name (PyData.keyHash w.params name) (.str name (s.toks + 1)) v es, putN name es n) = (es', n')) (hz : es'.length ≤ 1000)
    (h : ∀ h' : Heap, h'.Ns L m → h'.get? dx = some (dictOf es' n') → (∀ b o, b ≠ dx → b ≠ L → s.heap.get? b = some o → h'.get? b = some o) → Q () { s with heap := h', toks := s.toks + 2 }) :
    wpAny (model prog w) A (setAttr (.ref x) name v) Q E s := by
  obtain ⟨e1, e2⟩ := Prod.mk.inj e
  have hdx : s.heap.get? dx = some (dictOf es n) := by
    have := I.dict
    rw [hd] at this
    exact this
  refine set_plain X I hs (osa_dict (s := { s with toks := s.toks + 1 }) (h₀ := noObjs s.heap) (L := L) (m := m) (od := dictOf es n) (od' := dictOf es' n') (es := es') (n := n') (pre := []) (post := ledger s.heap L dx)
    (fr_all hL) (news_ledger hne hdx) X I hd hp ht hh hl (fun _ q => nomatch q) (fun ⟨_, _⟩ q => (mem_ledger.mp q).2.1) (by rw [putName_dict, e1, e2]) rfl hz fun h' F' N' => ?_)
  exact h h' F'.ns (N'.get (List.Mem.head _)) fun b o n1 n2 ho => N'.get (List.Mem.tail _ (mem_ledger.mpr ⟨n2, n1, ho⟩))
end
end Att

namespace L2
open PySem PySem.Spec PyProof.Rows

theorem vals_ints : ∀ {vs : List Value} {ns : List Int}, IntsAre vs ns → Vals (ns.map V.int) vs
  | _, _, .nil => .nil
  | _, _, .cons n t h => .cons ⟨t, rfl⟩ (vals_ints h)

/-- nothing is tracked but the script, known to the object (or it is an object of the module) -/
def Only (H : Hp) : Prop := ∀ b, H b = none ∨ ∃ o xs, H b = some (.frz o (.lst xs))

/-- THE HEAD: the law's promise, at the heap behind the top. F, the promise of the law's def, may use that base is part of the heap (so K.In base, base.Ns mainGlobals mg stand in Mod) -/
theorem law_call {P : Program} {w : World} {K : PySem.W.Frag} {mg mb : Str → Option Value} {CX : CXT} {k : Nat} {fa a : Addr} {fd : FuncData} {x : Str} {sp : Sp} {s₁ : Shared} {vs : List Value} {ns : List Int}
    (KX : K.In s₁.heap) (hns : s₁.heap.Ns mainGlobals mg) (hb : s₁.heap.Ns builtinsNs mb) (hbb : ∀ x : Str, x ≠ "__name__" → mb x = bootBuiltins x) (hlim : s₁.heap.NoLimit) (hg : s₁.gens = #[])
    (ha : s₁.heap.get? a = some { cls := .type "list", data := .seq vs.toArray }) (hi : IntsAre vs ns) (hl : ns.length ≤ sizeLine) (hr : Room k callerA)
    (F : ∀ base : Heap, K.In base → base.Ns mainGlobals mg → FnOk P w K mg base CX k fa fd [x] sp) (hbind : ∀ (s : Shared) (u : Value), BindsTo s fd ⟨[u], []⟩ [(x, u)])
    (hsp : ∀ H : Hp, Only H → SqL K H a (ns.map V.int) → sp [.ref a] H (fun v _ => v = .bl true) fun _ _ _ => False)
    (hCX : ∀ H e s', CX [] H s₁ (fun _ _ _ => False) e s' → False) :
    codeAny (model P w) callerA (.call (.ref fa) ⟨[.ref a], []⟩) (fun r s' => r = .ok (.ret (.bool true)) ∧ OldK s₁.heap s'.heap ∧ s'.os = s₁.os ∧ AllBare s'.gens) s₁ := by
  have rv := vals_ints hi
  have lenV := hi.length
  -- from an abstract heap in which nothing but the script may be tracked
  have core : ∀ H : Hp, Only H → SqL K H a (ns.map V.int) → HOk P w H s₁.heap → (∀ b, H b ≠ none → b = a) → (H a ≠ none → K.lookup a = none) →
      codeAny (model P w) callerA (.call (.ref fa) ⟨[.ref a], []⟩) (fun r s' => r = .ok (.ret (.bool true)) ∧ OldK s₁.heap s'.heap ∧ s'.os = s₁.os ∧ AllBare s'.gens) s₁ := by
    intro H hO hS hok hA hK
    have base_of : ∀ {b : Addr} {o : Obj}, s₁.heap.get? b = some o → H b = none → (hidT s₁.heap H).get? b = some o := fun e n => hidT_get e n
    have noA : ∀ {b : Addr} {o : Obj} {es : Array DictEntry} {ep : Nat}, s₁.heap.get? b = some o → o.data = .dict es ep → H b = none := fun {b o es ep} e d => by
      cases q : H b with
      | none => rfl
      | some u =>
        have e' : b = a := hA b (by rw [q]; simp)
        subst e'
        rw [ha] at e; cases e
        have d' : Data.seq vs.toArray _ = Data.dict es ep := d
        cases d'
    have nsK : ∀ {b : Addr} {m : Str → Option Value}, s₁.heap.Ns b m → (hidT s₁.heap H).Ns b m := fun {b m} ⟨o, es, ep, e, d, r⟩ => ⟨o, es, ep, base_of e (noA e d), d, r⟩
    have hKb : K.In (hidT s₁.heap H) := fun b o e => base_of (KX b o e) (by
      cases q : H b with
      | none => rfl
      | some u =>
        have e' : b = a := hA b (by rw [q]; simp)
        subst e'
        rw [hK (by rw [q]; simp)] at e; cases e)
    have hM : Mod K mg (hidT s₁.heap H) := ⟨hKb, nsK hns, ⟨mb, nsK hb, hbb⟩, let ⟨mc, h1, h2⟩ := hlim; ⟨mc, nsK h1, h2⟩⟩
    have e0 : Env0 P w K mg (hidT s₁.heap H) callerA [] s₁ H := ⟨rfl, hM, fun b o e => of_hidT e, Nat.le_of_eq (hidT_size _ _), trivial, fun b hb => absurd (show b ∈ ([] : List Addr) from hb) (by simp), hok, .of_eq hg⟩
    refine codeAny_mono ((F _ hKb (nsK hns)).run callerA [] s₁ H ⟨[.ref a], []⟩ [.ref a] [.ref a] _ _ hr e0 (hbind s₁ (.ref a)) (.cons rfl .nil) (hsp H hO hS)) fun r s' h => ?_
    cases r with
    | error e => exact (hCX H e s' h).elim
    | ok fl =>
      cases fl with
      | next => exact False.elim h
      | brk => exact False.elim h
      | cont => exact False.elim h
      | ret u =>
        obtain ⟨v, H', os, bare, un, hok', r', q⟩ := h
        have q' : v = .bl true := q
        subst q'
        obtain rfl : u = Value.bool true := r'
        refine ⟨rfl, OldK.of_keep fun b o e => ?_, os, bare⟩
        cases q : H b with
        | none => exact un.keep b o e q (by intro z; exact absurd (show b ∈ ([] : List Addr) from z) (by simp)) (by simp)
        | some u =>
          rcases hO b with z | ⟨ob, xs, z⟩
          · rw [q] at z; cases z
          · have z2 := un.frzs b ob _ z
            obtain ⟨e1, _⟩ := hok b _ z
            obtain ⟨e2, _⟩ := hok' b _ z2
            rw [e] at e1; cases e1
            exact e2
  cases hk : K.lookup a with
  | some o =>
    -- the script is one of the module's own objects
    have e := KX a o hk
    rw [ha] at e
    cases e
    refine core (fun _ => none) (fun _ => .inl rfl) (.inr ⟨_, vs.toArray, _, hk, rfl, rfl, rfl, by rw [List.size_toArray, lenV]; exact hl, by simpa using rv⟩) (fun b u z => by have z' : (none : Option HO) = some u := z; cases z') (fun b z => absurd rfl z) fun z => absurd rfl z
  | none =>
    refine core (fun b => if b = a then some (.frz { cls := .type "list", data := .seq vs.toArray } (.lst (ns.map V.int))) else none) (fun b => ?_) (.inl (.inr ⟨{ cls := .type "list", data := .seq vs.toArray }, if_pos rfl⟩)) (fun b u z => ?_) (fun b z => ?_) fun _ => hk
    · by_cases hb : b = a
      · exact .inr ⟨_, _, if_pos hb⟩
      · exact .inl (if_neg hb)
    · by_cases hb : b = a
      · have z' := (if_pos hb).symm.trans z
        cases z'
        subst hb
        exact ⟨ha, by rw [List.length_map]; exact hl, vs, _, rv, ha⟩
      · have z' := (if_neg hb).symm.trans z
        cases z'
    · by_cases hb : b = a
      · exact hb
      · exact absurd (if_neg hb) z
end L2

namespace L2
open PySem PySem.Spec PyProof.Rows

abbrev KOf {K : PySem.W.Frag} {h : Heap} (_ : K.In h) : PySem.W.Frag := K

/-- the goal that k_head leaves (case hc), from the law's promise. F gives the function object fd (K's own) once, then the promise over every base -/
theorem walk_of {l : PySem.W.OpenLaw} {n k : Nat} {q : Program} {loose : List Str} {XP : (Str → Option Value) → Heap → Prop} {YP : World → Heap → Prop} {d : DefRec} {K : Params → PySem.W.Frag} {CX : World → CXT} {sp : World → Sp} {x : Str}
    (hn : l.most = some n) (hn2 : n ≤ sizeLine) (hdf : d.params.defaults = []) (hr : Room k callerA)
    (hY : ∀ (w : World) (h : Heap), YP w h → (K w.params).In h)
    (F : ∀ (w : World) (mg : Str → Option Value) (fa : Addr) (h : Heap), (K w.params).In h → h.Ns mainGlobals mg → mg d.name = some (.ref fa) →
      ∃ fd : FuncData, (∀ (s : Shared) (u : Value), BindsTo s fd ⟨[u], []⟩ [(x, u)]) ∧
        ∀ base : Heap, (K w.params).In base → base.Ns mainGlobals mg → FnOk l.prog w (K w.params) mg base (CX w) k fa fd [x] (sp w))
    (hsp : ∀ (w : World) (H : Hp) (a : Addr) (ns : List Int), ns.length ≤ n → Only H → SqL (K w.params) H a (ns.map V.int) → sp w [.ref a] H (fun v _ => v = .bl true) fun _ _ _ => False)
    (hCX : ∀ (w : World) (H : Hp) (s : Shared) (e : Value) (s' : Shared), CX w [] H s (fun _ _ _ => False) e s' → False) :
    PySem.W.WalkO q loose XP YP l.row.toRowW d [] (fun f vs => PySem.call f vs) := by
  refine Att.attach_call hn hdf fun w s₀ s₁ mg mb fa o pm cd doc a vs ns G Y ho hd hcd hmg hobj hints hlen hg => ?_
  have KX := hY w _ Y
  obtain ⟨fd, hb, hF⟩ := F w mg fa _ KX G.T.g hmg
  exact law_call KX G.T.g G.T.b G.T.builtins G.T.nolimit hg hobj hints (Nat.le_trans hlen hn2) hr hF hb (fun H hO hS => hsp w H a ns hlen hO hS) fun H e s' => hCX w H s₁ e s'
/-- the same where the promise hangs on the written part alone: (sp := My.sp_law), no hole under a binder -/
theorem walk_ofK {l : PySem.W.OpenLaw} {n k : Nat} {q : Program} {loose : List Str} {XP : (Str → Option Value) → Heap → Prop} {YP : World → Heap → Prop} {d : DefRec} {K : Params → PySem.W.Frag} {CX : CXT} {sp : PySem.W.Frag → Sp} {x : Str}
    (hn : l.most = some n) (hn2 : n ≤ sizeLine) (hdf : d.params.defaults = []) (hr : Room k callerA)
    (hY : ∀ (w : World) (h : Heap), YP w h → (K w.params).In h)
    (F : ∀ (w : World) (mg : Str → Option Value) (fa : Addr) (h : Heap), (K w.params).In h → h.Ns mainGlobals mg → mg d.name = some (.ref fa) →
      ∃ fd : FuncData, (∀ (s : Shared) (u : Value), BindsTo s fd ⟨[u], []⟩ [(x, u)]) ∧
        ∀ base : Heap, (K w.params).In base → base.Ns mainGlobals mg → FnOk l.prog w (K w.params) mg base CX k fa fd [x] (sp (K w.params)))
    (hsp : ∀ (K : PySem.W.Frag) (H : Hp) (a : Addr) (ns : List Int), ns.length ≤ n → Only H → SqL K H a (ns.map V.int) → sp K [.ref a] H (fun v _ => v = .bl true) fun _ _ _ => False)
    (hCX : ∀ (H : Hp) (s : Shared) (e : Value) (s' : Shared), CX [] H s (fun _ _ _ => False) e s' → False) :
    PySem.W.WalkO q loose XP YP l.row.toRowW d [] (fun f vs => PySem.call f vs) :=
  walk_of (K := K) (CX := fun _ => CX) (sp := fun w => sp (K w.params)) hn hn2 hdf hr hY F (fun w H a ns h1 h2 h3 => hsp (K w.params) H a ns h1 h2 h3) fun _ H s e s' => hCX H s e s'
end L2

/- THE LAST THEOREM (shape; LID, My.* are yours):
   My.Adr: a structure of the addresses that your layer names (classes, functions); My.Txt K t: a structure (Prop) of the equations over K;
   My.txt_mk : {K} {implicit addresses ..} (e1 : nsIn K mainGlobals "law" = some (some (.ref f))) (e2 : K.lookup f = some ⟨oc, od, .func (fnOf "law" "law" params body scope dV kV doc pm an cdv ct), sl⟩) (e3 : codeIn K cdv "law" = true) .. : ∃ t, My.Txt K t

set_option maxRecDepth 100000 in
set_option maxHeartbeats 0 in
theorem PySem.Challenge.cw_LID_holds : PySem.Challenge.rw_LID.Holds := by
  w_on; o_law; k_head; (case hw => w_witness2)
  k_fill
  refine L2.walk_of (l := PySem.Challenge.rw_LID) (n := 63) (k := 40) (x := "script") (CX := fun w => ..) (sp := fun _ => My.sp_law) rfl (by decide) rfl ⟨rfl, by decide, by decide⟩ (fun w h Y => PySem.W.kIn_of Y) ?F ?S ?C
  case F =>
    intro w mg fa h KX G hmg
    have T : ∃ t, My.Txt (L2.KOf KX) t := by
      dsimp only [L2.KOf]                          -- K must stand as «<heap const> w.params» for k_is
      refine' My.txt_mk ?e1 ?e2 ?e3 ..
      (case e1 => PySem.W.k_is)                    -- in the order: a name -> its address -> its object -> its parts
      (case e2 => PySem.W.k_is)
      ..
    obtain ⟨t, T⟩ := T
    have e0 := hmg.symm.trans (PySem.W.mg_of KX G T.law)
    cases e0                                       -- fa is the law's own address
    exact ⟨_, fun s u => .of_eq rfl, fun base kb nb => My.law_fn T kb nb⟩     -- if «.of_eq rfl» comes too early: refine' ⟨_, ?b, fun base kb nb => My.law_fn T kb nb⟩; exact fun s u => .of_eq rfl
  case S => exact fun w H a ns hl hO hS => ..
  case C => exact ..
(the tactic k_is has no namespace: write k_is) -/

/-! SHORT WORDS over the layer: a def of the text, its body, what a loop and a test want. -/
namespace L2
open PySem PySem.Spec PyProof.Rows

/-! ### the text by places -/
/-- the j-th statement of a class's body -/
def inClass (s : Stmt) (j : Nat) : Stmt := match s with
  | .ClassDef _ _ _ body _ _ _ _ _ _ _ => body.getD j (.Pass ⟨0, 0, 0, 0⟩)
  | _ => .Pass ⟨0, 0, 0, 0⟩
def defArgs (s : Stmt) : Arguments := match s with
  | .FunctionDef _ a _ _ _ _ _ _ _ _ => a
  | _ => { posonlyargs := [], args := [], vararg := none, kwonlyargs := [], kw_defaults := [], kwarg := none, defaults := [] }
def defBody (s : Stmt) : List Stmt := match s with
  | .FunctionDef _ _ b _ _ _ _ _ _ _ => b
  | _ => []
def defScope (s : Stmt) : Scope := match s with
  | .FunctionDef _ _ _ _ _ _ sc _ _ _ => sc
  | _ => { kind := .function, names := [], isGenerator := false, isCoroutine := false }

/-! ### no exception leaves a def -/
abbrev CX0 : CXT := fun _ _ _ _ _ _ => False
abbrev E0 : XK := fun _ _ _ => False
theorem pass0 {X : Cx} : Passes CX0 X E0 := fun _ _ _ _ _ _ _ h => h.elim

/-! ### a def (or method) of the text as it stands behind the top -/
structure Fun (K : PySem.W.Frag) (x qual : Str) (st : Stmt) (f : Addr) (fd : FuncData) : Prop where
  ex : ∃ (oc : Value) (od : Option Addr) (kV doc pm : Value) (an : Option Addr) (cdv ct : Value) (osl : Array (Option Value)),
    fd = PySem.W.fnOf x qual (defArgs st) (defBody st) (defScope st) .none kV doc pm an cdv ct ∧ K.lookup f = some ⟨oc, od, .func fd, osl⟩ ∧ PySem.W.codeIn K cdv qual = true
  kp : PySem.W.keepIn K (.ref f) = true
section
variable {P : Program} {w : World} {K : PySem.W.Frag} {mg : Str → Option Value} {base : Heap}
/-- THE RULE for a def: its body as a term of rules, and the reading of that term -/
theorem Fun.ok {x qual : Str} {st : Stmt} {f : Addr} {fd : FuncData} {N ps : List Str} {k : Nat} {sp : Sp} (F : Fun K x qual st f fd) (S : FnScope N ps (defScope st)) (len : ∀ vs H Q E, sp vs H Q E → vs.length = ps.length)
    (hbody : ∀ (cdv : Value) (A : Around) (outer : List Env) (s : Shared) (H : Hp) (vs : List V) (Q : VK) (E : XK), Room k (A.deeper (envOfC qual (defScope st) s.heap.objs.size f cdv)) → sp vs H Q E →
      ∃ t, PSs (cxOf CX0 P w K mg base N qual (defScope st) f cdv A outer s H E).nox (defBody st) t ∧ t { nx := fun _ H' => Q .non H', rt := Q } (start N vs) H) : FnOk P w K mg base CX0 (k + 1) f fd ps sp := by
  obtain ⟨oc, od, kV, doc, pm, an, cdv, ct, osl, rfl, lk, hcd⟩ := F.ex
  refine fn_of lk hcd S len fun A outer s H vs Q E hr hsp => ?_
  obtain ⟨t, h, q⟩ := hbody cdv A outer s H vs Q E hr hsp
  exact ⟨t, h.nox, q⟩
/-- how its arguments bind (no defaults): h is «fun _ _ _ _ _ _ us hl => match us, hl with | [_, _], _ => rfl», one _ a parameter -/
theorem Fun.binds {x qual : Str} {st : Stmt} {f : Addr} {fd : FuncData} {ps : List Str} (F : Fun K x qual st f fd)
    (h : ∀ (kV doc pm : Value) (an : Option Addr) (cdv ct : Value) (us : List Value), us.length = ps.length → bindArgs (PySem.W.fnOf x qual (defArgs st) (defBody st) (defScope st) .none kV doc pm an cdv ct) ⟨us, []⟩ = pure (ps.zip us)) : Binds K fd ps [] := by
  obtain ⟨oc, od, kV, doc, pm, an, cdv, ct, osl, rfl, lk, hcd⟩ := F.ex
  exact .all (h kV doc pm an cdv ct)
theorem fun_mk {x qual : Str} {st : Stmt} {f : Addr} {oc : Value} {od an : Option Addr} {osl : Array (Option Value)} {kV doc pm cdv ct : Value} (l : K.lookup f = some ⟨oc, od, .func (PySem.W.fnOf x qual (defArgs st) (defBody st) (defScope st) .none kV doc pm an cdv ct), osl⟩)
    (c : PySem.W.codeIn K cdv qual = true) (k : PySem.W.keepIn K (.ref f) = true) : Fun K x qual st f (PySem.W.fnOf x qual (defArgs st) (defBody st) (defScope st) .none kV doc pm an cdv ct) := ⟨⟨oc, od, kV, doc, pm, an, cdv, ct, osl, rfl, l, c⟩, k⟩
end
theorem hu_of {A : Around} {k : Nat} (hr : Room k A) : A.units + 1 < cLine := Nat.lt_of_le_of_lt (Nat.add_le_add_left (by decide : 1 ≤ 64) _) hr.units
theorem small1000 {n : Nat} (h : n ≤ 1000) : n < sizeLine := Nat.lt_of_le_of_lt h (by decide)

/-! ### expressions in short: the name that stands in the i-th slot -/
section
variable {X : Cx}
theorem pv (i : Nat) {x : Str} {pos : Pos} (hN : X.N[i]? = some x := by rfl) (hv : Vis X.env.scope x := by first | exact Or.inl rfl | exact Or.inr (Or.inl rfl) | exact Or.inr (Or.inr rfl)) (hd : (x == ("__debug__" : Str)) = false := by decide)
    (hcd : (x == ("__classdict__" : Str)) = false := by decide) : PE X (.Name x pos) (tVar i) := pe_var hN hv hd hcd
end

/-! ### tests -/
theorem iteF {A B : Prop} (h : B) : if false = true then A else B := by
  rw [if_neg Bool.false_ne_true]
  exact h
theorem iteT {A B : Prop} (h : A) : if true = true then A else B := by
  rw [if_pos rfl]
  exact h
theorem ite2 {c A B : Prop} [Decidable c] (h1 : c → A) (h2 : ¬ c → B) : if c then A else B := by
  by_cases h : c
  · rw [if_pos h]
    exact h1 h
  · rw [if_neg h]
    exact h2 h
theorem iteNS {c A B : Prop} [Decidable c] (hc : c) (h : B) : if (!decide c) = true then A else B := by
  rw [decide_eq_true hc]
  exact iteF h

/-! ### heaps -/
/-- all that was tracked is as it was -/
def Same (H H' : Hp) : Prop := ∀ b o, H b = some o → H' b = some o
theorem Same.refl (H : Hp) : Same H H := fun _ _ h => h
theorem Same.trans {H H1 H2 : Hp} (a : Same H H1) (b : Same H1 H2) : Same H H2 := fun c o h => b c o (a c o h)
theorem Same.free {H H' : Hp} (e : Same H H') {l : Addr} (h : H' l = Option.none) : H l = Option.none := by
  cases q : H l with
  | none => rfl
  | some o =>
    rw [e l o q] at h
    cases h
theorem Same.seq {K : PySem.W.Frag} {H H' : Hp} {a : Addr} {xs : List V} (e : Same H H') (h : SqL K H a xs) : SqL K H' a xs := by
  rcases h with (h | ⟨o, h⟩) | h
  · exact .inl (.inl (e _ _ h))
  · exact .inl (.inr ⟨o, e _ _ h⟩)
  · exact .inr h

end L2

set_option Elab.async false
set_option linter.all false
set_option maxRecDepth 100000
set_option maxHeartbeats 4000000
namespace L2
open PySem PySem.Spec PyProof.Rows
section
variable {X : Cx}
/-! isinstance of a value of known kind and a built-in class -/
theorem call_isinst : CallR X (.builtin "isinstance") (fun xs H Q => ∃ x c t b, xs = [x, .ty c] ∧ TyOf X.K H x t ∧ PySem.W.kitOne X.K t (.type c) = some b ∧ Q (.bl b) H) := by
  intro pins s σ H xs us Q I r h
  obtain ⟨x, c, t, b, rfl, ty, e, q⟩ := h
  obtain ⟨u1, u2, rfl, r1, r2⟩ := vals2 r
  cases (show u2 = Value.type c from r2)
  exact isinst_ok I r1 ty e fun tk => ⟨.bl b, H, I.tok tk, rfl, q⟩
/-! products and quotients of larger numbers -/
def CBig (i j : Int) : Prop := i.natAbs < 2 ^ 1000 ∧ j.natAbs < 2 ^ 1000
theorem bits_of {i : Int} (h : i.natAbs < 2 ^ 1000) : Builtin.Int.intBits i ≤ 2 ^ 20 := Nat.le_trans (PyProof.Rows.intBits_le h) (by decide)
theorem op_mulB : OpR X (binaryOp .Mult) (rI CBig fun i j => .int (i * j)) := opI fun _ _ _ _ _ _ _ hc q => mul_int q (.of_bits (bits_of hc.1) (bits_of hc.2))
def CDivB (i j : Int) : Prop := j ≠ 0 ∧ j.natAbs < 2 ^ 1000
theorem op_fdivB : OpR X (binaryOp .FloorDiv) (rI CDivB fun i j => .int (i.fdiv j)) := opI fun i j _ _ _ _ _ hc q => floordiv_int hc.1 q (.inl (PyProof.noPylong_of_log2 (by
  have h0 : j.natAbs ≠ 0 := by have := hc.1; omega
  have := (Nat.log2_lt h0).mpr hc.2
  omega)))
end

/-! two lists walked side by side -/
def Itz (K : PySem.W.Frag) (a b : Addr) : It :=
  ⟨fun i H => ∃ xs ys x y, SqL K H a xs ∧ SqL K H b ys ∧ xs[i]? = some x ∧ ys[i]? = some y,
   fun i H v H' => ∃ T x y, H T = none ∧ v = .ref T ∧ H' = upd H T (.tup [x, y]) ∧ (∀ xs, SqL K H a xs → xs[i]? = some x) ∧ (∀ ys, SqL K H b ys → ys[i]? = some y),
   fun i H => ∃ xs ys, SqL K H a xs ∧ SqL K H b ys ∧ (xs.length ≤ i ∨ ys.length ≤ i)⟩
def ZipSt (a b z TI TO i1 i2 : Addr) (i : Nat) (h : Heap) : Prop :=
  IsZip h z TI TO .none ∧ IsPair h TI (.ref i1) (.ref i2) ∧ (∃ x y, IsPair h TO x y) ∧ h.IsListIter i1 a i ∧ h.IsListIter i2 b i
theorem ne_cls {h : Heap} {a b : Addr} {o u : Obj} (h1 : h.get? a = some o) (h2 : h.get? b = some u) (d : o.cls ≠ u.cls) : a ≠ b := by
  rintro rfl; rw [h1] at h2; cases h2; exact d rfl
theorem ZipSt.apart {a b z TI TO i1 i2 : Addr} {i : Nat} {h : Heap} {xs ys : Array Value} (st : ZipSt a b z TI TO i1 i2 i h) (n1 : TI ≠ TO) (n2 : i1 ≠ i2) (l1 : h.IsList a xs) (l2 : h.IsList b ys) : ZipApart z TI TO i1 i2 a b := by
  obtain ⟨hz, hTI, ⟨x, y, hTO⟩, ⟨o1, e1, c1, d1⟩, ⟨o2, e2, c2, d2⟩⟩ := st
  obtain ⟨oa, ea, ca, _⟩ := l1
  obtain ⟨ob, eb, cb, _⟩ := l2
  have k : ∀ {c d : Addr} {o u : Obj} {m n : String}, h.get? c = some o → h.get? d = some u → o.cls = .type m → u.cls = .type n → m ≠ n → c ≠ d := fun h1 h2 e1 e2 d => ne_cls h1 h2 (by rw [e1, e2]; intro q; injection q with q; exact d q)
  exact ⟨k hTI hz rfl rfl (by decide), k hTO hz rfl rfl (by decide), k e1 hz c1 rfl (by decide), k e2 hz c2 rfl (by decide), n1, k hTI e1 rfl c1 (by decide), k hTI e2 rfl c2 (by decide),
    k hTO e1 rfl c1 (by decide), k hTO e2 rfl c2 (by decide), n2, k ea hz ca rfl (by decide), k ea hTO ca rfl (by decide), k ea e1 ca c1 (by decide), k ea e2 ca c2 (by decide),
    k eb hz cb rfl (by decide), k eb hTO cb rfl (by decide), k eb e1 cb c1 (by decide), k eb e2 cb c2 (by decide)⟩
/-- several records turn -/
theorem Inv.turnedL {X : Cx} {pins : List (Addr × Obj)} {σ : St} {H : Hp} {s : Shared} {h' : Heap} {t' : Nat} {ch : List Addr} (I : Inv X pins σ H s) (k : ∀ b o, b ∉ ch → s.heap.get? b = some o → h'.get? b = some o) (hf : ∀ b ∈ ch, FpOk X pins H b) :
    Inv X pins σ H { s with heap := h', toks := t' } := by
  have nit : ∀ b u, H b = some u → b ∉ ch := fun b u e z => by have := (hf b z).1; rw [this] at e; cases e
  refine I.step (g' := s.gens) (d' := s.drawn) (ch := ch) (fun b hb => ?_) (fun b o _ _ hc e _ => k b o hc e) (fun b o _ _ hc e _ => ⟨o.slots, k b o hc e⟩) (fun _ _ _ _ n => n)
    (fun b o hc e => ⟨o, k b o hc e⟩) (fun _ _ e => e) (fun _ _ _ e => e) (fun b ps e => ⟨#[], by rw [e]; simp⟩) (fun m hm => ?_) (fun b u e => ?_) I.bare
  · obtain ⟨f0, f1, f2, f3, f4, f5⟩ := hf b hb
    exact ⟨f3, f1, f4, f5⟩
  · exact hm.at' fun o e => k _ o (fun z => (hf _ z).2.1 rfl) e
  · refine (I.hok b u e).stay (fun c v hc q => k c v ?_ q) (fun _ q => q) fun _ _ q => q
    rcases hc with rfl | hc
    · exact nit _ _ e
    · exact nit _ _ hc
theorem turn_zip {P : Program} {w : World} {K : PySem.W.Frag} {es : List Expr} {kk : Nat} {tp : Pos} (a b z TI TO i1 i2 : Addr) (n1 : TI ≠ TO) (n2 : i1 ≠ i2) :
    Turn P w K (.Tuple es kk tp) (Itz K a b) [z, TI, TO, i1, i2] z (ZipSt a b z TI TO i1 i2) where
  mem := by simp
  obj := fun i h st c hc => by
    obtain ⟨hz, hTI, ⟨x, y, hTO⟩, ⟨o1, e1, c1, d1⟩, ⟨o2, e2, c2, d2⟩⟩ := st
    have : c = z ∨ c = TI ∨ c = TO ∨ c = i1 ∨ c = i2 := by simpa using hc
    rcases this with rfl | rfl | rfl | rfl | rfl
    · exact ⟨_, hz, fun v q => by cases (show Data.fields _ = Data.cell v from q)⟩
    · exact ⟨_, hTI, fun v q => by cases (show Data.seq _ _ = Data.cell v from q)⟩
    · exact ⟨_, hTO, fun v q => by cases (show Data.seq _ _ = Data.cell v from q)⟩
    · exact ⟨_, e1, fun v q => by rw [d1] at q; cases q⟩
    · exact ⟨_, e2, fun v q => by rw [d2] at q; cases q⟩
  keep := fun i h h' st k => by
    obtain ⟨hz, hTI, ⟨x, y, hTO⟩, h1, h2⟩ := st
    exact ⟨k z (by simp) _ hz, k TI (by simp) _ hTI, ⟨x, y, k TO (by simp) _ hTO⟩, h1.at fun o e => k i1 (by simp) o e, h2.at fun o e => k i2 (by simp) o e⟩
  item := by
    intro X hP hw hK hc i pins s σ H E I hf st hg
    subst hP hw hK
    obtain ⟨xs, ys, x, y, hq, hq2, hx, hy⟩ := hg
    obtain ⟨its, rv, p, hz1⟩ := I.list hq
    obtain ⟨its2, rv2, p2, hz2⟩ := I.list hq2
    obtain ⟨u, hu, ru⟩ := rv.get hx
    obtain ⟨u2, hu2, ru2⟩ := rv2.get hy
    have D := st.apart n1 n2 p.isList p2.isList
    obtain ⟨hz, hTI, ⟨v1, v2, hTO⟩, h1, h2⟩ := id st
    refine wpAny_pyNext_zip_item D hz hTI hTO h1 h2 p.isList p2.isList (x := u) (y := u2) (by simpa using hu) (by simpa using hu2) fun h' a1 a2 a3 a4 a5 a6 a7 => ?_
    refine ⟨_, rfl, wpAny_letOwnedTupleGo_zip a1 fun h'' b1 b2 => ?_⟩
    have up : ∀ c o, c ≠ z → h'.get? c = some o → h''.get? c = some o := fun c o hc e => b2.extBut c o hc e
    have zlt : z < s.heap.objs.size := Heap.lt_size hz
    have TIs : IsPair h'' TI (.ref i1) (.ref i2) := up _ _ D.TIz (a7 _ _ D.TIz D.TITO D.TIi1 D.TIi2 hTI)
    have TOs : IsPair h'' TO u u2 := up _ _ D.TOz a2
    have I1s : h''.IsListIter i1 a (i + 1) := a3.at fun o e => up _ o D.i1z e
    have I2s : h''.IsListIter i2 b (i + 1) := a4.at fun o e => up _ o D.i2z e
    have I1 : Inv X pins σ H { s with heap := h'' } := by
      refine I.turnedL (t' := s.toks) (ch := [z, TI, TO, i1, i2]) (fun c o hc e => ?_) hf
      have hc' : c ≠ z ∧ c ≠ TI ∧ c ≠ TO ∧ c ≠ i1 ∧ c ≠ i2 := by simpa using hc
      exact up c o hc'.1 (a7 c o hc'.1 hc'.2.2.1 hc'.2.2.2.1 hc'.2.2.2.2 e)
    have fresh : H s.heap.objs.size = none := I.hok.fresh (Nat.le_refl _)
    have newT : h''.get? s.heap.objs.size = some _ := up _ _ (Nat.ne_of_gt zlt) a5
    have I2 : Inv X pins σ (upd H s.heap.objs.size (.tup [x, y])) { s with heap := h'' } := by
      have un : Un X.fs [z, TI, TO, i1, i2] H (upd H s.heap.objs.size (.tup [x, y])) s.heap h'' := by
        refine ⟨fun c o e n _ hx => ?_, fun c o e n _ hx => ⟨o.slots, ?_⟩, fun c o e n _ => ?_, fun c o e hx => ⟨o, ?_⟩, fun c zs e => ?_, fun c o zs e => ?_, fun c ps e => ⟨#[], ?_⟩⟩
        · have hc' : c ≠ z ∧ c ≠ TI ∧ c ≠ TO ∧ c ≠ i1 ∧ c ≠ i2 := by simpa using hx
          exact up c o hc'.1 (a7 c o hc'.1 hc'.2.2.1 hc'.2.2.2.1 hc'.2.2.2.2 e)
        · have hc' : c ≠ z ∧ c ≠ TI ∧ c ≠ TO ∧ c ≠ i1 ∧ c ≠ i2 := by simpa using hx
          exact up c o hc'.1 (a7 c o hc'.1 hc'.2.2.1 hc'.2.2.2.1 hc'.2.2.2.2 e)
        · rw [upd_ne (Nat.ne_of_lt (Heap.lt_size e))]; exact n
        · have hc' : c ≠ z ∧ c ≠ TI ∧ c ≠ TO ∧ c ≠ i1 ∧ c ≠ i2 := by simpa using hx
          exact up c o hc'.1 (a7 c o hc'.1 hc'.2.2.1 hc'.2.2.2.1 hc'.2.2.2.2 e)
        · rw [upd_ne (ne_of_none e fresh)]; exact e
        · rw [upd_ne (ne_of_none e fresh)]; exact e
        · rw [upd_ne (ne_of_none e fresh), e]; simp
      have ok2 : HOk X.prog X.w (upd H s.heap.objs.size (.tup [x, y])) h'' := fun c o e => by
        by_cases hc : c = s.heap.objs.size
        · subst hc
          rw [upd_same] at e; cases e
          exact ⟨by show 2 ≤ sizeLine; decide, [u, u2], .cons ru (.cons ru2 .nil), ⟨_, newT, rfl, _, rfl⟩⟩
        · rw [upd_ne hc] at e
          exact (I1.hok c o e).stay (fun _ _ _ q => q) (fun d q => by rw [upd_ne (ne_of_none q fresh)]; exact q) fun d zs q => by rw [upd_ne (ne_of_none q fresh)]; exact q
      refine I.call' (s' := { s with heap := h'' }) (ch := [z, TI, TO, i1, i2]) rfl (un.mono (fun c hc => ?_) fun c hc => hc) ok2 I.bare fun c hc => ?_
      · rcases I.ok.stk with e | ⟨e, hfr⟩
        · rw [e]; exact hc
        · rw [e]
          unfold frs
          rw [List.filterMap_cons, hfr]
          exact List.mem_cons_of_mem _ hc
      · obtain ⟨f0, f1, f2, f3, f4, f5⟩ := hf c hc
        exact ⟨f3, f1, f4, f5⟩
    refine ⟨.ref s.heap.objs.size, _, I2, rfl, ⟨_, x, y, fresh, rfl, rfl, fun xs' h => by rw [I.list_inj h hq]; exact hx, fun ys' h => by rw [I.list_inj h hq2]; exact hy⟩, ⟨b1, TIs, ⟨_, _, TOs⟩, I1s, I2s⟩, fun c hc => ?_⟩
    rw [upd_ne ?_]
    · exact (hf c hc).1
    · have hc' : c = z ∨ c = TI ∨ c = TO ∨ c = i1 ∨ c = i2 := by simpa using hc
      rcases hc' with rfl | rfl | rfl | rfl | rfl
      · exact Nat.ne_of_lt zlt
      · exact Nat.ne_of_lt (Heap.lt_size hTI)
      · exact Nat.ne_of_lt (Heap.lt_size hTO)
      · obtain ⟨o, e, _⟩ := h1; exact Nat.ne_of_lt (Heap.lt_size e)
      · obtain ⟨o, e, _⟩ := h2; exact Nat.ne_of_lt (Heap.lt_size e)
  done := by
    intro X hP hw hK hc i pins s σ H E I hf st hg
    subst hP hw hK
    obtain ⟨xs, ys, hq, hq2, hx⟩ := hg
    obtain ⟨its, rv, p, hz1⟩ := I.list hq
    obtain ⟨its2, rv2, p2, hz2⟩ := I.list hq2
    have D := st.apart n1 n2 p.isList p2.isList
    obtain ⟨hz, hTI, ⟨v1, v2, hTO⟩, h1, h2⟩ := id st
    have l1 := rv.length
    have l2 := rv2.length
    refine wpAny_pyNext_zip_end (I.ok.hd hc) D hz hTI hTO h1 h2 p.isList p2.isList ?_ fun h' hk => ⟨rfl, ?_⟩
    · rcases hx with hx | hx
      · left; simp; omega
      · right; simp; omega
    · refine I.turnedL (t' := s.toks) (ch := [z, TI, TO, i1, i2]) (fun c o hc e => ?_) hf
      have hc' : c ≠ z ∧ c ≠ TI ∧ c ≠ TO ∧ c ≠ i1 ∧ c ≠ i2 := by simpa using hc
      exact hk c o hc'.1 hc'.2.2.1 hc'.2.2.2.1 hc'.2.2.2.2 e
  self := fun _ _ _ _ _ st h => wpAny_pyIter_zip st.1 h
section
variable {X : Cx} {es : List Expr} {kk : Nat} {tp : Pos}
def iZip (K : PySem.W.Frag) (ta : TA) : TI := fun σ H R => ta σ H fun vs H1 => ∃ p q, vs = [.ref p, .ref q] ∧ (∃ xs, SqL K H1 p xs) ∧ (∃ ys, SqL K H1 q ys) ∧ R (Itz K p q) H1
theorem pi_zip {a b : Expr} {ta : TA} {p pos : Pos} (hg : Gl X "zip") (hm : X.mg "zip" = none) (ha : PA X [a, b] ta) (hs : starEach [a, b] X.env = [(false, eval a X.env), (false, eval b X.env)] := by rfl) (hs2 : starEach [b] X.env = [(false, eval b X.env)] := by rfl) :
    PI X (.Tuple es kk tp) (.Call (.Name "zip" p) [a, b] [] pos) (iZip X.K ta) := by
  intro pins s σ H R I h
  refine Call_ (ld_blt I hg hm boot_zip (PyProof.Rows.callWith_type1 (thn (ha pos pins s σ H _ I h) fun us s1 ⟨vs, H1, I1, r1, q1⟩ => ?_) (by rw [hs, hs2]) (by rw [hs2]; rfl)))
  obtain ⟨a1, b1, e, ⟨xs, hx⟩, ⟨ys, hy⟩, q⟩ := q1
  subst e
  obtain ⟨u1, u2, rfl, r, r'⟩ := vals2 r1
  cases (show u1 = Value.ref a1 from r)
  cases (show u2 = Value.ref b1 from r')
  obtain ⟨its, rv, p1, hz1⟩ := I1.list hx
  obtain ⟨its2, rv2, p2, hz2⟩ := I1.list hy
  refine call_zip_2 p1.isList p2.isList fun h' z1 z2 z3 z4 z5 z6 z7 => ?_
  refine wpAny_pyIter_zip z1 ?_
  have I2 : Inv X pins σ H1 { s1 with heap := h' } := I1.kept (t' := s1.toks) z7
  refine ⟨s1.heap.objs.size + 4, [s1.heap.objs.size + 4, s1.heap.objs.size + 2, s1.heap.objs.size + 3, s1.heap.objs.size, s1.heap.objs.size + 1], _, _, H1, rfl, I2,
    turn_zip a1 b1 _ _ _ _ _ (fun e => absurd (Nat.add_left_cancel e) (by decide)) (fun e => absurd (Nat.add_left_cancel (m := 0) e) (by decide)), ⟨z1, z2, ⟨_, _, z3⟩, z4, z5⟩, fun c hc => ?_, q⟩
  have hc' : s1.heap.objs.size ≤ c := by
    have : c = s1.heap.objs.size + 4 ∨ c = s1.heap.objs.size + 2 ∨ c = s1.heap.objs.size + 3 ∨ c = s1.heap.objs.size ∨ c = s1.heap.objs.size + 1 := by simpa using hc
    rcases this with e | e | e | e | e
    · rw [e]; exact Nat.le_add_right _ _
    · rw [e]; exact Nat.le_add_right _ _
    · rw [e]; exact Nat.le_add_right _ _
    · rw [e]; exact Nat.le_refl _
    · rw [e]; exact Nat.le_add_right _ _
  exact I1.fpOk hc' (I1.hok.fresh hc')
end
theorem for_zip {K : PySem.W.Frag} {a b : Addr} {xs ys : List V} {g : TG} {tb : TS} {D : Ends} {σ : St} {H : Hp} (Pv : Nat → St → Hp → Prop) (h0 : Pv 0 σ H) (hl : ∀ i σ H, i ≤ xs.length → i ≤ ys.length → Pv i σ H → SqL K H a xs ∧ SqL K H b ys)
    (hs : ∀ i x y T σ H, xs[i]? = some x → ys[i]? = some y → Pv i σ H → H T = none → g (.ref T) σ (upd H T (.tup [x, y])) fun σ2 H2 => tb { D with nx := Pv (i + 1), ct := Pv (i + 1), bk := D.nx } σ2 H2)
    (hd : ∀ σ H, Pv (min xs.length ys.length) σ H → D.nx σ H) :
    ∃ W : Nat → Nat → St → Hp → Prop, (∃ m, W 0 m σ H) ∧ ∀ i m σ H, W i m σ H →
      ((Itz K a b).stop i H ∧ D.nx σ H) ∨ ((Itz K a b).go i H ∧ ∃ N : St → Hp → Prop, (∀ σ' H', N σ' H' → ∃ m', m' < m ∧ W (i + 1) m' σ' H') ∧ ∀ x H', (Itz K a b).yld i H x H' → g x σ H' fun σ2 H2 => tb { D with nx := N, ct := N, bk := D.nx } σ2 H2) := by
  refine ⟨fun i m σ H => m = min xs.length ys.length - i ∧ i ≤ min xs.length ys.length ∧ Pv i σ H, ⟨min xs.length ys.length, by simp, Nat.zero_le _, h0⟩, ?_⟩
  rintro i m σ H ⟨rfl, hi, p⟩
  obtain ⟨q, q2⟩ := hl i σ H (by omega) (by omega) p
  by_cases hlt : i < min xs.length ys.length
  · have h1 : i < xs.length := by omega
    have h2 : i < ys.length := by omega
    refine .inr ⟨⟨xs, ys, xs[i], ys[i], q, q2, by simp [h1], by simp [h2]⟩, Pv (i + 1), fun σ' H' p' => ⟨min xs.length ys.length - (i + 1), by omega, rfl, hlt, p'⟩, fun v H' y => ?_⟩
    obtain ⟨T, x, y, hT, rfl, rfl, e1, e2⟩ := y
    exact hs i x y T σ H (e1 xs q) (e2 ys q2) p hT
  · have e : i = min xs.length ys.length := by omega
    refine .inl ⟨⟨xs, ys, q, q2, by omega⟩, hd σ H (e ▸ p)⟩
end L2

set_option Elab.async false
set_option linter.all false
set_option maxRecDepth 100000
set_option maxHeartbeats 4000000
namespace L2
open PySem PySem.Spec PyProof.Rows
/-! a list comprehension of one clause: its block as a context of its own -/
@[reducible] def blk (X : Cx) (scope : Scope) (cl : List (Str × Addr)) (N : List Str) (C : Addr) (s₀ : Shared) (H₀ : Hp) (ex : List Addr) : Cx where
  prog := X.prog
  w := X.w
  K := X.K
  mg := X.mg
  base := X.base
  A := X.A
  N := N
  s₀ := s₀
  H₀ := H₀
  env := compEnvC scope cl C X.env
  outer := X.stack
  stack := X.stack
  ex := ex
  fn := fun _ => false
  calm := X.calm
  pn := []
  xe := fun _ _ => False
/-- which slots of the block are the outer frame's cells -/
inductive CapOk (X : Cx) (sc : Scope) (cl : List (Str × Addr)) : List Str → List (Option Nat) → Prop
  | nil : CapOk X sc cl [] []
  | own {x : Str} {N : List Str} {caps : List (Option Nat)} : CapOk X sc cl N caps → CapOk X sc cl (x :: N) (none :: caps)
  | cap {x : Str} {N : List Str} {caps : List (Option Nat)} {j : Nat} (h1 : X.N[j]? = some x) (h2 : X.env.kindOf x = some .cell ∨ X.env.kindOf x = some .free)
      (h3 : (relabel sc X.env).names.lookup x = some .cell ∨ (relabel sc X.env).names.lookup x = some .free) (h4 : ∃ c, cl.lookup x = some c) : CapOk X sc cl N caps → CapOk X sc cl (x :: N) (some j :: caps)
/-- the closure is made of the frame's cells -/
inductive ClOk (X : Cx) : List (Str × Addr) → Prop
  | nil : ClOk X []
  | cons {x : Str} {c : Addr} {cl : List (Str × Addr)} (h : X.env.cells.lookup x = some c) : ClOk X cl → ClOk X ((x, c) :: cl)
theorem ClOk.get {X : Cx} : ∀ {cl : List (Str × Addr)}, ClOk X cl → ∀ x c, cl.lookup x = some c → X.env.cells.lookup x = some c
  | _, .nil, _, _, h => by simp at h
  | _, .cons (x := n) (c := d) h r, x, c, e => by
    rw [List.lookup_cons] at e
    cases q : x == n with
    | true =>
      rw [q] at e
      have e1 : x = n := eq_of_beq q
      have e2 : d = c := Option.some.inj e
      rw [e1, ← e2]; exact h
    | false =>
      rw [q] at e
      exact ClOk.get r x c e
def capt (σ : St) (caps : List (Option Nat)) : St := caps.map fun o => o.bind fun j => (σ[j]?).join
theorem CapOk.len {X : Cx} {sc : Scope} {cl : List (Str × Addr)} {N : List Str} {caps : List (Option Nat)} (h : CapOk X sc cl N caps) : caps.length = N.length := by
  induction h with
  | nil => rfl
  | own _ ih => simp [ih]
  | cap _ _ _ _ _ ih => simp [ih]
theorem CapOk.look {X : Cx} {sc : Scope} {cl : List (Str × Addr)} {N : List Str} {caps : List (Option Nat)} {σ : St} (h : CapOk X sc cl N caps) : ∀ (i : Nat) (x : Str) (v : V), N[i]? = some x → (capt σ caps)[i]? = some (some v) →
    ∃ j : Nat, X.N[j]? = some x ∧ σ[j]? = some (some v) ∧ (X.env.kindOf x = some .cell ∨ X.env.kindOf x = some .free) ∧ ((relabel sc X.env).names.lookup x = some .cell ∨ (relabel sc X.env).names.lookup x = some .free) ∧ ∃ c, cl.lookup x = some c := by
  induction h with
  | nil => intro i x v e; simp at e
  | own _ ih =>
    intro i x v e1 e2
    cases i with
    | zero =>
      have e2' : (none : Option V) = some v := by simpa [capt] using e2
      cases e2'
    | succ i => exact ih i x v (by simpa using e1) (by simpa [capt] using e2)
  | @cap y N caps j h1 h2 h3 h4 _ ih =>
    intro i x v e1 e2
    cases i with
    | zero =>
      have e1' : y = x := by simpa using e1
      subst e1'
      have e2' : (σ[j]?).join = some v := by simpa [capt] using e2
      refine ⟨j, h1, ?_, h2, h3, h4⟩
      cases q : σ[j]? with
      | none => rw [q] at e2'; cases e2'
      | some o =>
        rw [q] at e2'
        have : o = some v := e2'
        rw [this]
    | succ i => exact ih i x v (by simpa using e1) (by simpa [capt] using e2)
section
variable {X : Cx} {pins : List (Addr × Obj)} {σ : St} {H : Hp} {s : Shared} {scope : Scope} {cl : List (Str × Addr)} {N : List Str} {caps : List (Option Nat)} {ex : List Addr}
/-- the block begins -/
theorem Inv.block {h1 : Heap} {tk : Nat} (I : Inv X pins σ H s) (hkind : scope.kind = .function) (hcap : CapOk X scope cl N caps) (hcl : ClOk X cl) (hhas : ∀ x, ((relabel scope X.env).names.lookup x = some .cell ∨ (relabel scope X.env).names.lookup x = some .free) → ∃ c, cl.lookup x = some c)
    (hex : ∀ b ∈ ex, FpOk X pins H b ∧ b < s.heap.objs.size)
    (hns : ∃ m, h1.Ns s.heap.objs.size m) (hk : ∀ b o, s.heap.get? b = some o → h1.get? b = some o) (hsz : s.heap.objs.size < h1.objs.size) :
    Inv (blk X scope cl N s.heap.objs.size s H ex) [] (capt σ caps) H { s with heap := h1, toks := tk } := by
  have exfs : ∀ b ∈ ex, b ∉ frs X.stack := fun b hb z => by
    obtain ⟨⟨f0, f1, f2, f3, f4, f5⟩, _⟩ := hex b hb
    rcases List.mem_cons.mp (I.stkSub b z) with e | e
    · exact f1 e
    · exact f2 e
  have ok : (blk X scope cl N s.heap.objs.size s H ex).Ok := by
    refine ⟨I.ok.mod, hkind, I.ok.glob, I.ok.blt, Nat.le_refl _, fun x y c e1 e2 => I.ok.inj x y c (hcl.get x c e1) (hcl.get y c e2), fun x hx => hhas x hx, fun x c hx => (by cases hx), I.ok.hd, I.ok.frames, .inl rfl,
      fun b hb => ?_, I.bs, Nat.le_trans I.ok.bsz I.sz, fun b o e hb => ?_, exfs, I.stack, I.stkFree⟩
    · obtain ⟨⟨f0, f1, f2, f3, f4, f5⟩, hlt⟩ := hex b hb
      exact ⟨Nat.ne_of_lt hlt, fun x c e => f4 x c (hcl.get x c e)⟩
    · obtain ⟨⟨f0, f1, f2, f3, f4, f5⟩, hlt⟩ := hex b hb
      rcases f3 with f3 | f3
      · exact I.ok.noex b o e f3
      · exact absurd (Nat.lt_of_lt_of_le (Heap.lt_size e) (Nat.le_trans I.ok.bsz f3)) (Nat.lt_irrefl _)
  obtain ⟨m1, hm1⟩ := hns
  obtain ⟨m, hn, hl⟩ := I.loc
  refine ⟨ok, rfl, I.bare, Un.kept hk, ⟨m1, hm1, fun i x v e1 e2 e3 => ?_⟩, fun x c e => ?_, I.hok.fresh (Nat.le_refl _), fun x c e => I.freeC x c (hcl.get x c e), fun p hp => ?_, I.hok.kept hk, ?_⟩
  · obtain ⟨j, q1, q2, q3, q4, c, q5⟩ := hcap.look i x v e1 e2
    have vis : Vis X.env.scope x := q3.elim (fun z => .inr (.inl z)) fun z => .inr (.inr z)
    obtain ⟨u, r, l⟩ := hl j x v q1 q2 vis
    refine ⟨u, r, .inr ⟨q4, c, q5, ?_⟩⟩
    rcases l with ⟨k1, _⟩ | ⟨_, c', k2, k3⟩
    · rcases q3 with q3 | q3 <;> · rw [q3] at k1; cases k1
    · rw [hcl.get x c q5] at k2
      cases k2
      obtain ⟨o, k4, k5⟩ := k3
      exact ⟨o, hk _ _ k4, k5⟩
  · obtain ⟨v, o, k4, k5⟩ := I.cell x c (hcl.get x c e)
    exact ⟨v, o, hk _ _ k4, k5⟩
  · exact absurd (show p ∈ ([] : List (Addr × Obj)) from hp) (by simp)
  · show (capt σ caps).length = N.length
    unfold capt
    rw [List.length_map, hcap.len]
end
/-- the tests of a comprehension -/
def PIfs (Y : Cx) (ifs : List Expr) (t : TT) : Prop :=
  ∀ (pins : List (Addr × Obj)) (s : Shared) (σ : St) (H : Hp) (Q : Bool → Hp → Prop), Inv Y pins σ H s → t σ H Q →
    wpAny (model Y.prog Y.w) Y.A (forIn ifs true fun c r => if r = true then do let ok ← isTrue c Y.env (eval c Y.env); pure (ForInStep.yield ok) else pure (ForInStep.yield r)) (TP Y pins σ Q) Y.xe s
def tTrue : TT := fun _ H Q => Q true H
theorem ifs_nil {Y : Cx} : PIfs Y [] tTrue := fun _ _ _ H _ I h => wpAny_tests_nil ⟨H, I, h⟩
theorem ifs_one {Y : Cx} {c : Expr} {t : TT} (h : PT Y c t) : PIfs Y [c] t := fun pins s σ H Q I hw => wpAny_tests_one (h pins s σ H Q I hw)
def tComp (wi : TI) (caps : List (Option Nat)) (g : TG) (tt : TT) (te : TE) : TE := fun σ H Q => wi σ H fun J H1 => ∃ W : Nat → Nat → St → Hp → List V → Prop, (∃ m, W 0 m (capt σ caps) H1 []) ∧ ∀ i m σ' H' ys, W i m σ' H' ys →
  (J.stop i H' ∧ ys.length ≤ sizeLine ∧ ∀ p, H' p = none → Q (.ref p) (upd H' p (.lst ys))) ∨
  (J.go i H' ∧ ∃ Nn : St → Hp → List V → Prop, (∀ σ4 H4 ys4, Nn σ4 H4 ys4 → ∃ m', m' < m ∧ W (i + 1) m' σ4 H4 ys4) ∧ ∀ x H2, J.yld i H' x H2 → g x σ' H2 fun σ3 H3 => tt σ3 H3 fun b H4 => if b = true then te σ3 H4 fun y H5 => ys.length < sizeLine ∧ Nn σ3 H5 (ys ++ [y]) else Nn σ3 H4 ys)
/-- an untracked object is changed -/
theorem HOk.other {P : Program} {w : World} {H : Hp} {h h' : Heap} {a : Addr} (ok : HOk P w H h) (hf : H a = none) (hs : Heap.SameBut a h h') : HOk P w H h' := fun b ob e => by
  refine (ok b ob e).stay (fun c w' hc q => (hs.2 c ?_).trans q) (fun _ q => q) fun _ _ q => q
  rintro rfl
  rcases hc with rfl | hc
  · rw [hf] at e; cases e
  · rw [hf] at hc; cases hc
/-- an untracked object is tracked -/
theorem HOk.track {P : Program} {w : World} {H : Hp} {h : Heap} {a : Addr} {o : HO} (ok : HOk P w H h) (hn : H a = none) (new : ObjOk P w (upd H a o) h a o) : HOk P w (upd H a o) h := fun b u e => by
  by_cases hb : b = a
  · subst hb; rw [upd_same] at e; cases e; exact new
  · rw [upd_ne hb] at e
    exact (ok b u e).stay (fun c v _ q => q) (fun c q => by rw [upd_ne (ne_of_none q hn)]; exact q) fun c xs q => by rw [upd_ne (ne_of_none q hn)]; exact q
section
variable {X : Cx} {tg elt iter : Expr} {ifs : List Expr} {scope : Scope} {cl : List (Str × Addr)} {N : List Str} {caps : List (Option Nat)} {wi : TI} {g : TG} {tt : TT} {te : TE} {pos : Pos}
/-- the iterator's records, for the block -/
theorem blk_fp {C D : Addr} {s₀ : Shared} {H₀ : Hp} {fp : List Addr} {H' : Hp} {o : Obj} (hDf : D ∉ fp) (hb : ∀ b ∈ D :: fp, b ≠ C ∧ b ∉ frs X.stack ∧ ∀ x c, cl.lookup x = some c → c ≠ b) (hn : ∀ b ∈ D :: fp, H' b = none) :
    ∀ b ∈ fp, FpOk (blk X scope cl N C s₀ H₀ (D :: fp)) [(D, o)] H' b := fun b h =>
  have h' := List.mem_cons_of_mem D h
  ⟨hn b h', (hb b h').1, (hb b h').2.1, .inl h', (hb b h').2.2, fun p hp => by
    have e : p = (D, o) := by simpa using (show p ∈ ([(D, o)] : List (Addr × Obj)) from hp)
    rw [e]
    rintro rfl
    exact hDf h⟩
theorem comp_loop {C D it : Addr} {s₀ : Shared} {H₀ : Hp} {fp : List Addr} {tn : Nat → Heap → Prop} {J : It} {R : Result → Shared → Prop} {s : Shared} {σ₁ : St} {H₁ : Hp} {W : Nat → Nat → St → Hp → List V → Prop} {EndP : Hp → List V → Prop} {m0 : Nat}
    (hc : X.calm = true) (T : Turn X.prog X.w X.K tg J fp it tn) (hDf : D ∉ fp)
    (hb : ∀ b ∈ D :: fp, b ≠ C ∧ b ∉ frs X.stack ∧ ∀ x c, cl.lookup x = some c → c ≠ b)
    (hg : ∀ C s₀ H₀ ex, PG (blk X scope cl N C s₀ H₀ ex) tg g) (ht : ∀ C s₀ H₀ ex, PIfs (blk X scope cl N C s₀ H₀ ex) ifs tt) (he : ∀ C s₀ H₀ ex, PE (blk X scope cl N C s₀ H₀ ex) elt te)
    (turn : ∀ i m σ' H' ys, W i m σ' H' ys → (J.stop i H' ∧ EndP H' ys) ∨
      (J.go i H' ∧ ∃ Nn : St → Hp → List V → Prop, (∀ σ4 H4 ys4, Nn σ4 H4 ys4 → ∃ m', m' < m ∧ W (i + 1) m' σ4 H4 ys4) ∧ ∀ x H2, J.yld i H' x H2 → g x σ' H2 fun σ3 H3 => tt σ3 H3 fun b H4 => if b = true then te σ3 H4 fun y H5 => ys.length < sizeLine ∧ Nn σ3 H5 (ys ++ [y]) else Nn σ3 H4 ys))
    (I : Inv (blk X scope cl N C s₀ H₀ (D :: fp)) [] σ₁ H₁ s) (st : tn 0 s.heap) (fr : ∀ b ∈ D :: fp, H₁ b = none) (hD : s.heap.get? D = some { cls := .type "list", data := .seq ([] : List Value).toArray }) (w0 : W 0 m0 σ₁ H₁ [])
    (hR : ∀ σ' H' ys its nn s', Inv (blk X scope cl N C s₀ H₀ (D :: fp)) [] σ' H' s' → H' D = none → s'.heap.get? D = some { cls := .type "list", data := .seq (List.toArray its) nn } → Vals ys its → EndP H' ys → R (.ok .next) s') :
    codeAny (model X.prog X.w) X.A (.compLoop (.ListComp elt [⟨tg, iter, ifs, 0⟩] scope pos) 0 (.ref it) (.ref D) (compEnvC scope cl C X.env)) R s := by
  have pinD : ∀ {σ' : St} {H' : Hp} {s' : Shared} {its : List Value} {nn : Nat}, Inv (blk X scope cl N C s₀ H₀ (D :: fp)) [] σ' H' s' → H' D = none → s'.heap.get? D = some { cls := .type "list", data := .seq (List.toArray its) nn } →
      Inv (blk X scope cl N C s₀ H₀ (D :: fp)) [(D, { cls := .type "list", data := .seq (List.toArray its) nn })] σ' H' s' := fun I' hn e => by
    refine I'.pins_of fun p hp => ?_
    obtain rfl := List.mem_singleton.mp hp
    exact ⟨e, hn, (hb D (.head _)).1, (hb D (.head _)).2.1, fun v q => by cases (show Data.seq _ _ = Data.cell v from q)⟩
  refine codeAny_loop rfl (fun n s' => ∃ i σ' H' ys its nn, Inv (blk X scope cl N C s₀ H₀ (D :: fp)) [(D, { cls := .type "list", data := .seq (List.toArray its) nn })] σ' H' s' ∧ tn i s'.heap ∧ (∀ b ∈ D :: fp, H' b = none) ∧
    Vals ys its ∧ ys.length ≤ sizeLine ∧ W i n σ' H' ys) (fun n s' hI => ?_) m0 ⟨0, σ₁, H₁, [], [], 0, pinD I (fr D (.head _)) hD, st, fr, .nil, Nat.zero_le _, w0⟩
  obtain ⟨i, σ', H', ys, its, nn, I', st', fr', rv, hz, w'⟩ := hI
  show wpAny _ X.A ((compTurn (.ListComp elt [⟨tg, iter, ifs, 0⟩] scope pos) 0 (.ref it) (.ref D) (compEnvC scope cl C X.env)).onRaise (fun x => do noteFrame x (compEnvC scope cl C X.env); theTreesLotGoes x)) _ _ s'
  refine wpAny_noted ?_
  rw [compTurn_list]
  refine wpAny_bind (wpAny_standAt (wpAny_bind ?_))
  have fps : ∀ {H : Hp} {o : Obj}, (∀ b ∈ D :: fp, H b = none) → ∀ b ∈ fp, FpOk (blk X scope cl N C s₀ H₀ (D :: fp)) [(D, o)] H b := fun hn => blk_fp hDf hb hn
  rcases turn i n σ' H' ys w' with ⟨stop, qe⟩ | ⟨go, Nn, hNn, step⟩
  · refine thn (T.done (blk X scope cl N C s₀ H₀ (D :: fp)) rfl rfl rfl hc i _ s' σ' H' _ I' (fps fr') st' stop) fun r s4 ⟨hr, I4⟩ => ?_
    subst hr
    exact wpAny_pure (hR σ' H' ys its nn s4 (I4.pins_of fun p hp => absurd hp (by simp)) (fr' D (.head _)) (I4.pin (D, { cls := .type "list", data := .seq (List.toArray its) nn }) (List.mem_append_right _ (.head _))).1 rv qe)
  · refine thn (T.item (blk X scope cl N C s₀ H₀ (D :: fp)) rfl rfl rfl hc i _ s' σ' H' _ I' (fps fr') st' go) fun r s4 ⟨u, hr, h4⟩ => ?_
    subst hr
    refine wpAny_bind (thn h4 fun _ s5 ⟨x, H5, I5, r5, y5, st5, fr5⟩ => ?_)
    have D5 : H5 D = none := (I5.pin (D, { cls := .type "list", data := .seq (List.toArray its) nn }) (List.mem_append_right _ (.head _))).2.1
    have fr5' : ∀ b ∈ D :: fp, H5 b = none := fun b hb => (List.mem_cons.mp hb).elim (fun e => by rw [e]; exact D5) (fr5 b)
    have I5' := I5.pinned (fps fr5') (T.obj _ _ st5)
    refine wpAny_bind (wpAny_mono (hg _ _ _ _ _ s5 σ' H5 x u _ I5' r5 (step x H5 y5)) (fun _ s6 ⟨σ6, H6, I6, q6⟩ => ?_) fun _ _ z => False.elim z)
    refine wpAny_bind (wpAny_mono (ht _ _ _ _ _ s6 σ6 H6 _ I6 q6) (fun ok s7 ⟨H7, I7, q7⟩ => ?_) fun _ _ z => False.elim z)
    have fin : ∀ {H8 : Hp} {s8 : Shared}, Inv (blk X scope cl N C s₀ H₀ (D :: fp)) ([(D, { cls := .type "list", data := .seq (List.toArray its) nn })] ++ pinsAt fp s5.heap) σ6 H8 s8 →
        tn (i + 1) s8.heap ∧ (∀ b ∈ D :: fp, H8 b = none) ∧ s8.heap.get? D = some { cls := .type "list", data := .seq (List.toArray its) nn } := fun {H8 s8} I8 => by
      refine ⟨T.keep _ _ _ st5 fun b hb o e => (I8.pin (b, o) (List.mem_append_right _ (List.mem_append_right _ (mem_pinsAt hb e)))).1, fun b hb => ?_, (I8.pin (D, { cls := .type "list", data := .seq (List.toArray its) nn }) (List.mem_append_right _ (List.mem_append_left _ (.head _)))).1⟩
      rcases List.mem_cons.mp hb with e | hb
      · rw [e]; exact (I8.pin (D, { cls := .type "list", data := .seq (List.toArray its) nn }) (List.mem_append_right _ (List.mem_append_left _ (.head _)))).2.1
      · obtain ⟨o, e, d⟩ := T.obj _ _ st5 b hb
        exact (I8.pin (b, o) (List.mem_append_right _ (List.mem_append_right _ (mem_pinsAt hb e)))).2.1
    cases ok with
    | false =>
      obtain ⟨m', hm, w7⟩ := hNn _ _ _ q7
      obtain ⟨t7, f7, d7⟩ := fin I7
      exact wpAny_pure ⟨rfl, m', hm, i + 1, σ6, H7, ys, its, nn, I7.unpinned, t7, f7, rv, hz, w7⟩
    | true =>
      refine wpAny_bind (wpAny_bind (wpAny_mono (he _ _ _ _ _ s7 σ6 H7 _ I7 q7) (fun yv s8 ⟨y, H8, I8, r8, hz8, w8'⟩ => ?_) fun _ _ z => False.elim z))
      obtain ⟨m', hm, w8⟩ := hNn _ _ _ w8'
      obtain ⟨t8, f8, d8⟩ := fin I8
      have hl := rv.length
      refine wpAny_bind (call_meets F.slot_list_append ⟨_, d8, rfl⟩ F.entry_list_append (F.args_list_append_2 _ _) (PySem.list_append D its.toArray nn yv (by rw [List.size_toArray]; omega)) ⟨d8, ?_⟩)
      have q8 := PySem.IsL.update d8 (·.push yv)
      have I9 : Inv (blk X scope cl N C s₀ H₀ (D :: fp)) [] σ6 H8 { s8 with heap := s8.heap.update D (Obj.mapSeq (·.push yv)) } := by
        refine (I8.pins_of (pins' := []) fun p hp => absurd hp (by simp)).turned (it := D) (t' := s8.toks) (fun b o hb e => (Heap.get?_update_other s8.heap (Obj.mapSeq (·.push yv)) (Ne.symm hb)).trans e) (f8 D (.head _)) (hb D (.head _)).1 (.inl (.head _)) (hb D (.head _)).2.2 ?_
        intro p hp
        exact absurd (show p ∈ ([] : List (Addr × Obj)) from hp) (by simp)
      have ea : its.toArray.push yv = (its ++ [yv]).toArray := by simp
      rw [ea] at q8
      refine wpAny_pure (wpAny_pure ⟨rfl, m', hm, i + 1, σ6, H8, ys ++ [y], its ++ [yv], _, pinD I9 (f8 D (.head _)) q8, ?_, f8, rv.append (.cons r8 .nil), ?_, w8⟩)
      · refine T.keep _ _ _ t8 fun b hb' o e => (Heap.get?_update_other s8.heap (Obj.mapSeq (·.push yv)) ?_).trans e
        rintro rfl
        exact hDf hb'
      · rw [List.length_append, List.length_singleton]; omega
theorem comp_core {pins : List (Addr × Obj)} {s : Shared} {σ : St} {H : Hp} {use : Option (Value → Sem Unit)} {Q' : Value → Shared → Prop} {EndP : Hp → List V → Prop} {cpos : Pos}
    (hc : X.calm = true) (hi : PI X tg iter wi) (hclos : closureFor scope X.env = pure cl) (hcl : ClOk X cl) (hcap : CapOk X scope cl N caps)
    (hhas : ∀ x, ((relabel scope X.env).names.lookup x = some .cell ∨ (relabel scope X.env).names.lookup x = some .free) → ∃ c, cl.lookup x = some c)
    (hcell : ∀ y ∈ scope.names, y.2 ≠ .cell) (hkind : scope.kind = .function) (hnames : ∀ y ∈ scope.names, y.2 = .local → scope.names.lookup y.1 = some .local)
    (hg : ∀ C s₀ H₀ ex, PG (blk X scope cl N C s₀ H₀ ex) tg g) (ht : ∀ C s₀ H₀ ex, PIfs (blk X scope cl N C s₀ H₀ ex) ifs tt) (he : ∀ C s₀ H₀ ex, PE (blk X scope cl N C s₀ H₀ ex) elt te)
    (hs : ∀ x, foldedSetIterable iter X.env x = pure x) (I : Inv X pins σ H s)
    (h : wi σ H fun J H1 => ∃ W : Nat → Nat → St → Hp → List V → Prop, (∃ m, W 0 m (capt σ caps) H1 []) ∧ ∀ i m σ' H' ys, W i m σ' H' ys →
      (J.stop i H' ∧ EndP H' ys) ∨
      (J.go i H' ∧ ∃ Nn : St → Hp → List V → Prop, (∀ σ4 H4 ys4, Nn σ4 H4 ys4 → ∃ m', m' < m ∧ W (i + 1) m' σ4 H4 ys4) ∧ ∀ x H2, J.yld i H' x H2 → g x σ' H2 fun σ3 H3 => tt σ3 H3 fun b H4 => if b = true then te σ3 H4 fun y H5 => ys.length < sizeLine ∧ Nn σ3 H5 (ys ++ [y]) else Nn σ3 H4 ys))
    (hz : ∀ H' ys, EndP H' ys → ys.length ≤ sizeLine)
    (hfin : ∀ D C s' H' ys m', Inv X pins σ (upd H' D (.lst ys)) s' → s'.heap.Ns C m' → FpOk X pins (upd H' D (.lst ys)) C → H' D = none → EndP H' ys → compPost (model X.prog X.w) X.A X.xe use Q' (.ref D) C (.ok .next) s') :
    wpAny (model X.prog X.w) X.A (comprehension (.ListComp elt [⟨tg, iter, ifs, 0⟩] scope pos) scope X.env cpos (newList []) false (eval iter X.env) use) Q' X.xe s := by
  refine wpAny_comprehension_free (use := use) rfl hs hclos hkind hnames (thn (hi pins s σ H _ I h) fun v s1 h1 => thn h1 fun itv s2 h2 => ?_)
  obtain ⟨it, fp, tn, J, H2, rfl, I2, T, st2, f2, W, ⟨m0, w0⟩, turn⟩ := h2
  refine wpAny_newObj_type (wpAny_newFunctionEnv hcell (by intro y hy; simp at hy) (fun h₁ hns₁ hsb₁ => ?_) hkind)
  dsimp only at hns₁ hsb₁ ⊢
  generalize hH2 : s2.heap.push { cls := .type "list", dict := none, data := .seq ([] : List Value).toArray } = P2 at hns₁ hsb₁ ⊢
  have hC : P2.objs.size = s2.heap.objs.size + 1 := by rw [← hH2, Heap.size_push]
  have I3 : Inv X pins σ H2 { s2 with heap := P2 } := by
    rw [← hH2]
    exact I2.kept (t' := s2.toks) fun b o e => Heap.get?_push_of_some _ e
  have hD0 : P2.get? s2.heap.objs.size = some { cls := .type "list", data := .seq ([] : List Value).toArray } := by rw [← hH2]; exact Heap.get?_push_size _ rfl
  have fD : FpOk X pins H2 s2.heap.objs.size := I2.fpOk (Nat.le_refl _) (I2.hok.fresh (Nat.le_refl _))
  have hex : ∀ b ∈ s2.heap.objs.size :: fp, FpOk X pins H2 b ∧ b < P2.objs.size := fun b hb => by
    rcases List.mem_cons.mp hb with e | hb
    · rw [e]; exact ⟨fD, by rw [hC]; exact Nat.lt_succ_self _⟩
    · obtain ⟨o, e, _⟩ := T.obj _ _ st2 b hb
      exact ⟨f2 b hb, by rw [hC]; exact Nat.lt_succ_of_lt (Heap.lt_size e)⟩
  have up1 : ∀ b o, P2.get? b = some o → h₁.get? b = some o := fun b o e => hsb₁.extBut b o (Nat.ne_of_lt (Heap.lt_size e)) (Heap.get?_push_of_some _ e)
  have IB := I3.block (h1 := h₁) (tk := s2.toks + ([] : List (Str × Value)).length) (ex := s2.heap.objs.size :: fp) hkind hcap hcl hhas hex ⟨_, hns₁⟩ up1 hns₁.lt
  have hDf : s2.heap.objs.size ∉ fp := fun hm => by
    obtain ⟨o, e, _⟩ := T.obj _ _ st2 _ hm
    exact absurd (Heap.lt_size e) (Nat.lt_irrefl _)
  have hb : ∀ b ∈ s2.heap.objs.size :: fp, b ≠ P2.objs.size ∧ b ∉ frs X.stack ∧ ∀ x c, cl.lookup x = some c → c ≠ b := fun b hb => by
    obtain ⟨⟨f0, f1, f2, f3, f4, f5⟩, hlt⟩ := hex b hb
    refine ⟨Nat.ne_of_lt hlt, fun z => ?_, fun x c e => f4 x c (hcl.get x c e)⟩
    rcases List.mem_cons.mp (I3.stkSub b z) with e | e
    · exact f1 e
    · exact f2 e
  have st4 : tn 0 h₁ := T.keep _ _ _ st2 fun b hb o e => up1 b o (by rw [← hH2]; exact Heap.get?_push_of_some _ e)
  have loop := comp_loop (pos := pos) (iter := iter) (R := compPost (model X.prog X.w) X.A X.xe use Q' (.ref s2.heap.objs.size) P2.objs.size) (EndP := EndP)
    hc T hDf hb hg ht he turn IB st4 (fun b hb => (hex b hb).1.1) (up1 _ _ hD0) w0 ?_
  · exact codeAny_compStart_list loop (T.self _ 0 _ _ _ st4 loop)
  · intro σ' H' ys its nn s' I' hn hl rv hq
    obtain ⟨m', hm', _⟩ := id I'.loc
    have hCn : H' P2.objs.size = none := I'.free
    have hDC : s2.heap.objs.size ≠ P2.objs.size := (hb _ (.head _)).1
    have un0 : Un (frs X.stack) (s2.heap.objs.size :: fp) H2 H' P2 s'.heap := I'.base
    have un1 : Un (frs X.stack) (s2.heap.objs.size :: fp) H2 (upd H' s2.heap.objs.size (.lst ys)) P2 s'.heap := by
      have nD : ∀ {b}, b ∉ s2.heap.objs.size :: fp → b ≠ s2.heap.objs.size := fun h e => h (by rw [e]; exact .head _)
      have fD2 : H2 s2.heap.objs.size = none := fD.1
      refine ⟨un0.keep, un0.slot, fun b o e n hx => ?_, un0.there, fun b zs e => ?_, fun b o zs e => ?_, fun b ps e => ?_⟩
      · rw [upd_ne (nD hx)]; exact un0.free b o e n hx
      · rw [upd_ne (ne_of_none e fD2)]; exact un0.tups b zs e
      · rw [upd_ne (ne_of_none e fD2)]; exact un0.frzs b o zs e
      · rw [upd_ne (ne_of_none e fD2)]; exact un0.tbls b ps e
    have ok1 : HOk X.prog X.w (upd H' s2.heap.objs.size (.lst ys)) s'.heap := HOk.track I'.hok hn ⟨hz _ _ hq, its, nn, rv, hl⟩
    have I9 := I3.call' (s' := s') (ch := s2.heap.objs.size :: fp) I'.os un1 ok1 I'.bare fun b hb => by
      obtain ⟨⟨f0, f1, f2, f3, f4, f5⟩, hlt⟩ := hex b hb
      exact ⟨f3, f1, f4, f5⟩
    exact hfin _ _ _ _ _ _ I9 hm' (I3.fpOk (Nat.le_refl _) (by rw [upd_ne hDC.symm]; exact hCn)) hn hq
theorem pe_comp (hc : X.calm = true) (hi : PI X tg iter wi) (hclos : closureFor scope X.env = pure cl) (hcl : ClOk X cl) (hcap : CapOk X scope cl N caps)
    (hhas : ∀ x, ((relabel scope X.env).names.lookup x = some .cell ∨ (relabel scope X.env).names.lookup x = some .free) → ∃ c, cl.lookup x = some c)
    (hcell : ∀ y ∈ scope.names, y.2 ≠ .cell) (hkind : scope.kind = .function) (hnames : ∀ y ∈ scope.names, y.2 = .local → scope.names.lookup y.1 = some .local)
    (hg : ∀ C s₀ H₀ ex, PG (blk X scope cl N C s₀ H₀ ex) tg g) (ht : ∀ C s₀ H₀ ex, PIfs (blk X scope cl N C s₀ H₀ ex) ifs tt) (he : ∀ C s₀ H₀ ex, PE (blk X scope cl N C s₀ H₀ ex) elt te)
    (hs : ∀ x, foldedSetIterable iter X.env x = pure x := by intro _; rfl) :
    PE X (.ListComp elt [⟨tg, iter, ifs, 0⟩] scope pos) (tComp wi caps g tt te) := by
  intro pins s σ H Q I h
  rw [eval_ListComp]
  refine comp_core (EndP := fun H' ys => ys.length ≤ sizeLine ∧ ∀ p, H' p = none → Q (.ref p) (upd H' p (.lst ys))) hc hi hclos hcl hcap hhas hcell hkind hnames hg ht he hs I h (fun _ _ q => q.1) ?_
  intro D C s' H' ys m' I' hn hf hD hq
  refine ⟨m', hn, fun h' hs' => ⟨.ref D, _, ?_, rfl, hq.2 D hD⟩⟩
  exact I'.turnedL (t' := s'.toks) (ch := [C]) (fun b o hb e => hs'.extBut b o (fun z => hb (by simp [z])) e) fun b hb => by
    obtain rfl := List.mem_singleton.mp hb
    exact hf
/-- name = [.. for ..] where the store comes ahead of the block's end -/
theorem ps_setComp {i : Nat} {y : Str} {py spos : Pos} (hN : X.N.Nodup) (hiN : X.N[i]? = some y) (hy : X.env.scope.names.lookup y = some .local)
    (hc : X.calm = true) (hi : PI X tg iter wi) (hclos : closureFor scope X.env = pure cl) (hcl : ClOk X cl) (hcap : CapOk X scope cl N caps)
    (hhas : ∀ x, ((relabel scope X.env).names.lookup x = some .cell ∨ (relabel scope X.env).names.lookup x = some .free) → ∃ c, cl.lookup x = some c)
    (hcell : ∀ y ∈ scope.names, y.2 ≠ .cell) (hkind : scope.kind = .function) (hnames : ∀ y ∈ scope.names, y.2 = .local → scope.names.lookup y.1 = some .local)
    (hg : ∀ C s₀ H₀ ex, PG (blk X scope cl N C s₀ H₀ ex) tg g) (ht : ∀ C s₀ H₀ ex, PIfs (blk X scope cl N C s₀ H₀ ex) ifs tt) (he : ∀ C s₀ H₀ ex, PE (blk X scope cl N C s₀ H₀ ex) elt te)
    (hsw : swapsWith (.ListComp elt [⟨tg, iter, ifs, 0⟩] scope pos) (some (.Name y py)) spos.line X.env = pure true := by rfl)
    (hs : ∀ x, foldedSetIterable iter X.env x = pure x := by intro _; rfl) :
    PS X (.Assign [.Name y py] (.ListComp elt [⟨tg, iter, ifs, 0⟩] scope pos) spos) (tAsg (tComp wi caps g tt te) (gName i)) := by
  intro pins s σ H D I h
  rw [exec_Assign_Name_used _ _ _ _ hsw]
  refine wpAny_bind (wpAny_standAt (wpAny_bind ?_))
  show wpAny _ X.A (do let _ ← comprehension (.ListComp elt [⟨tg, iter, ifs, 0⟩] scope pos) scope X.env _ (newList []) false (eval iter X.env) (some (assign (.Name y py) X.env))) _ _ s
  refine wpAny_bind (thn (comp_core (Q' := fun _ s' => SP X pins D .next s') (EndP := fun H' ys => ys.length ≤ sizeLine ∧ ∀ p, H' p = none → gName i (.ref p) σ (upd H' p (.lst ys)) D.nx) hc hi hclos hcl hcap hhas hcell hkind hnames hg ht he hs I h (fun _ _ q => q.1) ?_)
    fun _ s' hq => wpAny_pure (wpAny_pure hq))
  intro Dl C s' H' ys m' I' hn hf hD hq
  show wpAny _ X.A (assign (.Name y py) X.env (.ref Dl)) _ _ _
  refine wpAny_assign_Name (store_ok2 I' hN hiN (.inl hy) (show RelV (.ref Dl) (.ref Dl) from rfl) (fun s2 I2 ⟨a, hs2, ha⟩ => ?_) (.inr hy))
  obtain ⟨f0, f1, f2, f3, f4, f5⟩ := hf
  have haC : C ≠ a := by
    rintro rfl
    rcases ha with e | e
    · exact f1 e
    · exact f4 _ _ e rfl
  refine ⟨m', hn.sameBut hs2 haC, fun h3 hs3 => ⟨_, _, ?_, hq.2 Dl hD⟩⟩
  exact I2.turnedL (t' := s2.toks) (ch := [C]) (fun b o hb e => hs3.extBut b o (fun z => hb (by simp [z])) e) fun b hb => by
    obtain rfl := List.mem_singleton.mp hb
    exact ⟨f0, f1, f2, f3, f4, f5⟩
end
/-! the forms one uses -/
section
variable {K : PySem.W.Frag} {g : TG} {tt : TT} {te : TE} {σ : St} {H : Hp} {Q : VK}
theorem comp_list {a : Addr} {xs : List V} (Pv : Nat → St → Hp → List V → Prop) (h0 : Pv 0 σ H []) (hl : ∀ i σ H ys, i ≤ xs.length → Pv i σ H ys → SqL K H a xs)
    (hs : ∀ i x σ H ys, xs[i]? = some x → Pv i σ H ys → g x σ H fun σ3 H3 => tt σ3 H3 fun b H4 => if b = true then te σ3 H4 fun y H5 => ys.length < sizeLine ∧ Pv (i + 1) σ3 H5 (ys ++ [y]) else Pv (i + 1) σ3 H4 ys)
    (hd : ∀ σ H ys, Pv xs.length σ H ys → ys.length ≤ sizeLine ∧ ∀ p, H p = none → Q (.ref p) (upd H p (.lst ys))) :
    ∃ W : Nat → Nat → St → Hp → List V → Prop, (∃ m, W 0 m σ H []) ∧ ∀ i m σ' H' ys, W i m σ' H' ys →
      ((Itl K a).stop i H' ∧ ys.length ≤ sizeLine ∧ ∀ p, H' p = none → Q (.ref p) (upd H' p (.lst ys))) ∨
      ((Itl K a).go i H' ∧ ∃ Nn : St → Hp → List V → Prop, (∀ σ4 H4 ys4, Nn σ4 H4 ys4 → ∃ m', m' < m ∧ W (i + 1) m' σ4 H4 ys4) ∧ ∀ x H2, (Itl K a).yld i H' x H2 → g x σ' H2 fun σ3 H3 => tt σ3 H3 fun b H4 => if b = true then te σ3 H4 fun y H5 => ys.length < sizeLine ∧ Nn σ3 H5 (ys ++ [y]) else Nn σ3 H4 ys) := by
  refine ⟨fun i m σ H ys => m = xs.length - i ∧ i ≤ xs.length ∧ Pv i σ H ys, ⟨xs.length, by simp, Nat.zero_le _, h0⟩, ?_⟩
  rintro i m σ H ys ⟨rfl, hi, p⟩
  have q := hl i σ H ys hi p
  by_cases hlt : i < xs.length
  · refine .inr ⟨⟨xs, xs[i], q, by simp [hlt]⟩, Pv (i + 1), fun σ' H' ys' p' => ⟨xs.length - (i + 1), by omega, rfl, hlt, p'⟩, fun x H' y => ?_⟩
    obtain ⟨e, y⟩ := y
    subst e
    exact hs i x σ _ ys (y xs q) p
  · have e : i = xs.length := by omega
    subst e
    exact .inl ⟨⟨xs, q, Nat.le_refl _⟩, hd σ H ys p⟩
theorem comp_range {lo : Int} {n : Nat} (Pv : Nat → St → Hp → List V → Prop) (h0 : Pv 0 σ H [])
    (hs : ∀ i σ H ys, i < n → Pv i σ H ys → g (.int (lo + i)) σ H fun σ3 H3 => tt σ3 H3 fun b H4 => if b = true then te σ3 H4 fun y H5 => ys.length < sizeLine ∧ Pv (i + 1) σ3 H5 (ys ++ [y]) else Pv (i + 1) σ3 H4 ys)
    (hd : ∀ σ H ys, Pv n σ H ys → ys.length ≤ sizeLine ∧ ∀ p, H p = none → Q (.ref p) (upd H p (.lst ys))) :
    ∃ W : Nat → Nat → St → Hp → List V → Prop, (∃ m, W 0 m σ H []) ∧ ∀ i m σ' H' ys, W i m σ' H' ys →
      ((Itr lo n).stop i H' ∧ ys.length ≤ sizeLine ∧ ∀ p, H' p = none → Q (.ref p) (upd H' p (.lst ys))) ∨
      ((Itr lo n).go i H' ∧ ∃ Nn : St → Hp → List V → Prop, (∀ σ4 H4 ys4, Nn σ4 H4 ys4 → ∃ m', m' < m ∧ W (i + 1) m' σ4 H4 ys4) ∧ ∀ x H2, (Itr lo n).yld i H' x H2 → g x σ' H2 fun σ3 H3 => tt σ3 H3 fun b H4 => if b = true then te σ3 H4 fun y H5 => ys.length < sizeLine ∧ Nn σ3 H5 (ys ++ [y]) else Nn σ3 H4 ys) := by
  refine ⟨fun i m σ H ys => m = n - i ∧ i ≤ n ∧ Pv i σ H ys, ⟨n, by simp, Nat.zero_le _, h0⟩, ?_⟩
  rintro i m σ H ys ⟨rfl, hi, p⟩
  by_cases hlt : i < n
  · refine .inr ⟨hlt, Pv (i + 1), fun σ' H' ys' p' => ⟨n - (i + 1), by omega, rfl, hlt, p'⟩, fun x H' y => ?_⟩
    obtain ⟨e, y⟩ := y
    subst e y
    exact hs i σ _ ys hlt p
  · have e : i = n := by omega
    subst e
    exact .inl ⟨Nat.le_refl _, hd σ H ys p⟩
end
/-! == of two lists of ints -/
section
variable {X : Cx}
theorem eq_ints {xs ys : List Int} {its its2 : List Value} (r : Vals (xs.map V.int) its) (r2 : Vals (ys.map V.int) its2) {j : Nat} (h1 : j < its.length) (h2 : j < its2.length) :
    ∃ a b t u, xs[j]? = some a ∧ ys[j]? = some b ∧ its[j] = Value.int a t ∧ its2[j] = Value.int b u := by
  have l1 := r.length
  have l2 := r2.length
  rw [List.length_map] at l1 l2
  have g1 : xs[j]? = some xs[j] := by simp
  have g2 : ys[j]? = some ys[j] := by simp
  obtain ⟨u, e, q⟩ := r.get (i := j) (x := V.int xs[j]) (by simp)
  obtain ⟨u2, e2, q2⟩ := r2.get (i := j) (x := V.int ys[j]) (by simp)
  obtain ⟨t, rfl⟩ := q
  obtain ⟨t2, rfl⟩ := q2
  refine ⟨_, _, t, t2, g1, g2, ?_, ?_⟩
  · rw [List.getElem?_eq_getElem h1] at e; exact Option.some.inj e
  · rw [List.getElem?_eq_getElem h2] at e2; exact Option.some.inj e2
def rEqI (K : PySem.W.Frag) : R2 := fun x y H Q => ∃ (a b : Addr) (ns ms : List Int), x = .ref a ∧ y = .ref b ∧ SqL K H a (ns.map V.int) ∧ SqL K H b (ms.map V.int) ∧ Q (.bl (decide (ns = ms))) H
theorem op_eqI (hu : X.A.units < cLine) : OpR X (compareOp .Eq) (rEqI X.K) := by
  intro pins s σ H x y v u Q I rx ry h
  obtain ⟨a, b, ns, ms, rfl, rfl, h1, h2, q⟩ := h
  cases rx
  cases ry
  obtain ⟨its, r, p, hz⟩ := I.list h1
  obtain ⟨its2, r2, p2, hz2⟩ := I.list h2
  have l1 := r.length
  have l2 := r2.length
  rw [List.length_map] at l1 l2
  by_cases hl : its.length = its2.length
  · refine SeqAt.eq_listAt (e := fun j => ns[j]? == ms[j]?) p.isList p2.isList (by simpa using hl) hu (fun j h1 h2 => ?_) ⟨.bl (decide (ns = ms)), H, I, ?_, q⟩
    · have h1' : j < its.length := by simpa using h1
      have h2' : j < its2.length := by simpa using h2
      obtain ⟨i1, i2, t1, t2, e1, e2, e3, e4⟩ := eq_ints r r2 h1' h2'
      have e3' : its.toArray[j] = Value.int i1 t1 := by simpa using e3
      have e4' : its2.toArray[j] = Value.int i2 t2 := by simpa using e4
      rw [e3', e4', e1, e2]
      intro prog w E Q hq
      refine wpAny_eqBool_int ?_
      simpa using hq
    · show Value.bool _ = Value.bool _
      congr 1
      rw [Bool.eq_iff_iff]
      simp only [List.size_toArray, List.all_eq_true, List.mem_range, decide_eq_true_eq, beq_iff_eq]
      constructor
      · intro h
        apply List.ext_getElem?
        intro j
        by_cases hj : j < its.length
        · exact h j hj
        · rw [List.getElem?_eq_none (by omega), List.getElem?_eq_none (by omega)]
      · rintro rfl j _; rfl
  · refine SeqAt.eq_list_lengthsAt p.isList p2.isList (by simpa using hl) hu ⟨.bl (decide (ns = ms)), H, I, ?_, q⟩
    show Value.bool _ = Value.bool _
    congr 1
    symm
    apply decide_eq_false
    rintro rfl
    omega
end
end L2

set_option Elab.async false
set_option linter.all false
set_option maxRecDepth 100000
set_option maxHeartbeats 4000000
namespace L2
open PySem PySem.Spec PyProof.Rows
/-! a def of the text with what a caller needs of it -/
structure TF (K : PySem.W.Frag) (mg : Str → Option Value) (x : Str) (st : Stmt) (ps : List Str) : Prop where
  ex : ∃ (f : Addr) (fd : FuncData), Fun K x x st f fd ∧ mg x = some (.ref f) ∧ Binds K fd ps []
structure Cal (P : Program) (w : World) (K : PySem.W.Frag) (mg : Str → Option Value) (base : Heap) (x : Str) (k : Nat) (ps : List Str) (sp : Sp) : Prop where
  ex : ∃ (f : Addr) (fd : FuncData), FnOk P w K mg base CX0 k f fd ps sp ∧ mg x = some (.ref f) ∧ PySem.W.keepIn K (.ref f) = true ∧ Binds K fd ps []
theorem TF.ok {P : Program} {w : World} {K : PySem.W.Frag} {mg : Str → Option Value} {base : Heap} {x : Str} {st : Stmt} {ps N : List Str} {k : Nat} {sp : Sp} (T : TF K mg x st ps) (S : FnScope N ps (defScope st)) (len : ∀ vs H Q E, sp vs H Q E → vs.length = ps.length)
    (hbody : ∀ (f : Addr) (cdv : Value) (A : Around) (outer : List Env) (s : Shared) (H : Hp) (vs : List V) (Q : VK) (E : XK), Room k (A.deeper (envOfC x (defScope st) s.heap.objs.size f cdv)) → sp vs H Q E →
      ∃ t, PSs (cxOf CX0 P w K mg base N x (defScope st) f cdv A outer s H E).nox (defBody st) t ∧ t { nx := fun _ H' => Q .non H', rt := Q } (start N vs) H) : Cal P w K mg base x (k + 1) ps sp := by
  obtain ⟨f, fd, F, m, b⟩ := T.ex
  exact ⟨f, fd, F.ok S len (hbody f), m, F.kp, b⟩
section
variable {X : Cx} {x : Str} {k : Nat} {ps : List Str} {sp : Sp} {p pos : Pos} {e : Expr} {es : List Expr} {t : TA}
theorem pe_cal (c : Cal X.prog X.w X.K X.mg X.base x k ps sp) (hr : Room k X.A) (ha : PA X (e :: es) t) (hg : Gl X x := by rfl) (hdb : (x == ("__debug__" : Str)) = false := by decide)
    (he : starEach (e :: es) X.env = (false, eval e X.env) :: starEach es X.env := by rfl) (hpl : (backTo pos (starEach es X.env)).any (·.1) = false := by rfl) :
    PE X (.Call (.Name x p) (e :: es) [] pos) (tCall sp [] E0 t) := by
  obtain ⟨f, fd, F, m, kp, b⟩ := c.ex
  exact pe_call F hr hg m kp b .nil pass0 ha hdb he hpl
end
/-! the side conditions of a comprehension, as checks that compute -/
def hasB (names : List (Str × NameKind)) (cl : List (Str × Addr)) : Bool := names.all fun y => (!(y.2 == .cell) && !(y.2 == .free)) || (cl.lookup y.1).isSome
def cellB (names : List (Str × NameKind)) : Bool := names.all fun y => !(y.2 == .cell)
def locB (names : List (Str × NameKind)) : Bool := names.all fun y => !(y.2 == .local) || (names.lookup y.1 == some .local)
theorem lookup_mem {α β : Type} [BEq α] [LawfulBEq α] {x : α} {v : β} : ∀ {l : List (α × β)}, l.lookup x = some v → (x, v) ∈ l
  | [], h => by simp at h
  | (a, b) :: r, h => by
    rw [List.lookup_cons] at h
    cases q : x == a with
    | true =>
      rw [q] at h
      have e1 : x = a := eq_of_beq q
      have e2 : b = v := Option.some.inj h
      rw [e1, e2]; exact .head _
    | false =>
      rw [q] at h
      exact .tail _ (lookup_mem h)
theorem hasB_ok {names : List (Str × NameKind)} {cl : List (Str × Addr)} (h : hasB names cl = true) : ∀ x, (names.lookup x = some .cell ∨ names.lookup x = some .free) → ∃ c, cl.lookup x = some c := by
  intro x hx
  have key : ∀ k, names.lookup x = some k → (k = .cell ∨ k = .free) → ∃ c, cl.lookup x = some c := fun k hk hc => by
    have := List.all_eq_true.mp h _ (lookup_mem hk)
    simp only [Bool.or_eq_true, Bool.and_eq_true, Bool.not_eq_true', beq_eq_false_iff_ne] at this
    rcases this with ⟨h1, h2⟩ | h1
    · rcases hc with hc | hc
      · exact absurd hc h1
      · exact absurd hc h2
    · exact Option.isSome_iff_exists.mp h1
  rcases hx with hx | hx
  · exact key _ hx (.inl rfl)
  · exact key _ hx (.inr rfl)
theorem cellB_ok {names : List (Str × NameKind)} (h : cellB names = true) : ∀ y ∈ names, y.2 ≠ .cell := fun y hy e => by
  have := List.all_eq_true.mp h _ hy
  simp [e] at this
theorem locB_ok {names : List (Str × NameKind)} (h : locB names = true) : ∀ y ∈ names, y.2 = .local → names.lookup y.1 = some .local := fun y hy e => by
  have := List.all_eq_true.mp h _ hy
  simpa [e] using this
section
variable {X : Cx} {tg elt iter : Expr} {ifs : List Expr} {scope : Scope} {cl : List (Str × Addr)} {N : List Str} {caps : List (Option Nat)} {wi : TI} {g : TG} {tt : TT} {te : TE} {pos : Pos}
theorem pe_lc (hi : PI X tg iter wi) (hcl : ClOk X cl) (hcap : CapOk X scope cl N caps)
    (hg : ∀ C s₀ H₀ ex, PG (blk X scope cl N C s₀ H₀ ex) tg g) (ht : ∀ C s₀ H₀ ex, PIfs (blk X scope cl N C s₀ H₀ ex) ifs tt) (he : ∀ C s₀ H₀ ex, PE (blk X scope cl N C s₀ H₀ ex) elt te)
    (hclos : closureFor scope X.env = pure cl := by rfl) (hhas : hasB (relabel scope X.env).names cl = true := by rfl) (hcell : cellB scope.names = true := by rfl) (hloc : locB scope.names = true := by rfl)
    (hkind : scope.kind = .function := by rfl) (hc : X.calm = true := by rfl)
    (hs : ∀ x, foldedSetIterable iter X.env x = pure x := by intro _; rfl) :
    PE X (.ListComp elt [⟨tg, iter, ifs, 0⟩] scope pos) (tComp wi caps g tt te) := pe_comp hc hi hclos hcl hcap (hasB_ok hhas) (cellB_ok hcell) hkind (locB_ok hloc) hg ht he hs
theorem ps_lc {i : Nat} {y : Str} {py spos : Pos} (hN : X.N.Nodup) (hiN : X.N[i]? = some y) (hi : PI X tg iter wi) (hcl : ClOk X cl) (hcap : CapOk X scope cl N caps)
    (hg : ∀ C s₀ H₀ ex, PG (blk X scope cl N C s₀ H₀ ex) tg g) (ht : ∀ C s₀ H₀ ex, PIfs (blk X scope cl N C s₀ H₀ ex) ifs tt) (he : ∀ C s₀ H₀ ex, PE (blk X scope cl N C s₀ H₀ ex) elt te)
    (hy : X.env.scope.names.lookup y = some .local := by rfl)
    (hclos : closureFor scope X.env = pure cl := by rfl) (hhas : hasB (relabel scope X.env).names cl = true := by rfl) (hcell : cellB scope.names = true := by rfl) (hloc : locB scope.names = true := by rfl)
    (hkind : scope.kind = .function := by rfl) (hc : X.calm = true := by rfl)
    (hsw : swapsWith (.ListComp elt [⟨tg, iter, ifs, 0⟩] scope pos) (some (.Name y py)) spos.line X.env = pure true := by rfl)
    (hs : ∀ x, foldedSetIterable iter X.env x = pure x := by intro _; rfl) :
    PS X (.Assign [.Name y py] (.ListComp elt [⟨tg, iter, ifs, 0⟩] scope pos) spos) (tAsg (tComp wi caps g tt te) (gName i)) := ps_setComp hN hiN hy hc hi hclos hcl hcap (hasB_ok hhas) (cellB_ok hcell) hkind (locB_ok hloc) hg ht he hsw hs
end
/-! a cut between two statements -/
section
variable {X : Cx} {st : Stmt} {rest : List Stmt} {t u : TS}
def tCut (t u : TS) : TS := fun D σ H => ∃ Pm : St → Hp → Prop, t { D with nx := Pm } σ H ∧ ∀ σ' H', Pm σ' H' → u D σ' H'
theorem pss_cut (h1 : PS X st t) (h2 : PSs X rest u) : PSs X (st :: rest) (tCut t u) := by
  intro pins s σ H D I h
  obtain ⟨Pm, h, hP⟩ := h
  refine wpAny_execs_cons (thn (h1 pins s σ H { D with nx := Pm } I h) fun f s1 q => ?_)
  cases f with
  | next =>
    obtain ⟨σ', H', I', q⟩ := q
    exact h2 pins s1 σ' H' D I' (hP _ _ q)
  | ret v => exact q
  | brk => exact q
  | cont => exact q
theorem cut {t u : TS} {D : Ends} {σ : St} {H : Hp} (Pm : St → Hp → Prop) (h : t { D with nx := Pm } σ H) (hP : ∀ σ' H', Pm σ' H' → u D σ' H') : tCut t u D σ H := ⟨Pm, h, hP⟩
end
/-! short words for the reading -/
def LoopOk (J : It) (g : TG) (tb : TS) (D : Ends) (σ : St) (H1 : Hp) : Prop := ∃ W : Nat → Nat → St → Hp → Prop, (∃ m, W 0 m σ H1) ∧ ∀ i m σ H, W i m σ H →
  (J.stop i H ∧ D.nx σ H) ∨ (J.go i H ∧ ∃ N : St → Hp → Prop, (∀ σ' H', N σ' H' → ∃ m', m' < m ∧ W (i + 1) m' σ' H') ∧ ∀ x H', J.yld i H x H' → g x σ H' fun σ2 H2 => tb { D with nx := N, ct := N, bk := D.nx } σ2 H2)
theorem tFor_eq {wi : TI} {g : TG} {tb : TS} {D : Ends} {σ : St} {H : Hp} : tFor wi g tb D σ H = wi σ H fun J H1 => LoopOk J g tb D σ H1 := rfl
theorem tForI {wi : TI} {g : TG} {tb : TS} {D : Ends} {σ : St} {H : Hp} (h : wi σ H fun J H1 => LoopOk J g tb D σ H1) : tFor wi g tb D σ H := h
theorem loop_list {K : PySem.W.Frag} {a : Addr} {xs : List V} {g : TG} {tb : TS} {D : Ends} {σ : St} {H : Hp} (Pv : Nat → St → Hp → Prop) (h0 : Pv 0 σ H) (hl : ∀ i σ H, i ≤ xs.length → Pv i σ H → SqL K H a xs)
    (hs : ∀ i x σ H, xs[i]? = some x → Pv i σ H → g x σ H fun σ2 H2 => tb { D with nx := Pv (i + 1), ct := Pv (i + 1), bk := D.nx } σ2 H2) (hd : ∀ σ H, Pv xs.length σ H → D.nx σ H) : LoopOk (Itl K a) g tb D σ H := for_list Pv h0 hl hs hd
theorem loop_range {lo : Int} {n : Nat} {g : TG} {tb : TS} {D : Ends} {σ : St} {H : Hp} (Pv : Nat → St → Hp → Prop) (h0 : Pv 0 σ H)
    (hs : ∀ i σ H, i < n → Pv i σ H → g (.int (lo + i)) σ H fun σ2 H2 => tb { D with nx := Pv (i + 1), ct := Pv (i + 1), bk := D.nx } σ2 H2) (hd : ∀ σ H, Pv n σ H → D.nx σ H) : LoopOk (Itr lo n) g tb D σ H := for_range Pv h0 hs hd
theorem loop_zip {K : PySem.W.Frag} {a b : Addr} {xs ys : List V} {g : TG} {tb : TS} {D : Ends} {σ : St} {H : Hp} (Pv : Nat → St → Hp → Prop) (h0 : Pv 0 σ H) (hl : ∀ i σ H, i ≤ xs.length → i ≤ ys.length → Pv i σ H → SqL K H a xs ∧ SqL K H b ys)
    (hs : ∀ i x y T σ H, xs[i]? = some x → ys[i]? = some y → Pv i σ H → H T = none → g (.ref T) σ (upd H T (.tup [x, y])) fun σ2 H2 => tb { D with nx := Pv (i + 1), ct := Pv (i + 1), bk := D.nx } σ2 H2)
    (hd : ∀ σ H, Pv (min xs.length ys.length) σ H → D.nx σ H) : LoopOk (Itz K a b) g tb D σ H := for_zip Pv h0 hl hs hd
def CompOk (J : It) (g : TG) (tt : TT) (te : TE) (Q : VK) (σ : St) (H1 : Hp) : Prop := ∃ W : Nat → Nat → St → Hp → List V → Prop, (∃ m, W 0 m σ H1 []) ∧ ∀ i m σ' H' ys, W i m σ' H' ys →
  (J.stop i H' ∧ ys.length ≤ sizeLine ∧ ∀ p, H' p = none → Q (.ref p) (upd H' p (.lst ys))) ∨
  (J.go i H' ∧ ∃ Nn : St → Hp → List V → Prop, (∀ σ4 H4 ys4, Nn σ4 H4 ys4 → ∃ m', m' < m ∧ W (i + 1) m' σ4 H4 ys4) ∧ ∀ x H2, J.yld i H' x H2 → g x σ' H2 fun σ3 H3 => tt σ3 H3 fun b H4 => if b = true then te σ3 H4 fun y H5 => ys.length < sizeLine ∧ Nn σ3 H5 (ys ++ [y]) else Nn σ3 H4 ys)
theorem tComp_eq {wi : TI} {caps : List (Option Nat)} {g : TG} {tt : TT} {te : TE} {σ : St} {H : Hp} {Q : VK} : tComp wi caps g tt te σ H Q = wi σ H fun J H1 => CompOk J g tt te Q (capt σ caps) H1 := rfl
theorem tCompI {wi : TI} {caps : List (Option Nat)} {g : TG} {tt : TT} {te : TE} {σ : St} {H : Hp} {Q : VK} (h : wi σ H fun J H1 => CompOk J g tt te Q (capt σ caps) H1) : tComp wi caps g tt te σ H Q := h
section
variable {K : PySem.W.Frag} {g : TG} {tt : TT} {te : TE} {σ : St} {H : Hp} {Q : VK}
theorem lc_list {a : Addr} {xs : List V} (Pv : Nat → St → Hp → List V → Prop) (h0 : Pv 0 σ H []) (hl : ∀ i σ H ys, i ≤ xs.length → Pv i σ H ys → SqL K H a xs)
    (hs : ∀ i x σ H ys, xs[i]? = some x → Pv i σ H ys → g x σ H fun σ3 H3 => tt σ3 H3 fun b H4 => if b = true then te σ3 H4 fun y H5 => ys.length < sizeLine ∧ Pv (i + 1) σ3 H5 (ys ++ [y]) else Pv (i + 1) σ3 H4 ys)
    (hd : ∀ σ H ys, Pv xs.length σ H ys → ys.length ≤ sizeLine ∧ ∀ p, H p = none → Q (.ref p) (upd H p (.lst ys))) : CompOk (Itl K a) g tt te Q σ H := comp_list (σ := σ) Pv h0 hl hs hd
theorem lc_range {lo : Int} {n : Nat} (Pv : Nat → St → Hp → List V → Prop) (h0 : Pv 0 σ H [])
    (hs : ∀ i σ H ys, i < n → Pv i σ H ys → g (.int (lo + i)) σ H fun σ3 H3 => tt σ3 H3 fun b H4 => if b = true then te σ3 H4 fun y H5 => ys.length < sizeLine ∧ Pv (i + 1) σ3 H5 (ys ++ [y]) else Pv (i + 1) σ3 H4 ys)
    (hd : ∀ σ H ys, Pv n σ H ys → ys.length ≤ sizeLine ∧ ∀ p, H p = none → Q (.ref p) (upd H p (.lst ys))) : CompOk (Itr lo n) g tt te Q σ H := comp_range (σ := σ) Pv h0 hs hd
end
theorem same_upd {H : Hp} {p : Addr} {o : HO} (h : H p = none) : Same H (upd H p o) := fun b u e => by rw [upd_ne (ne_of_none e h)]; exact e
theorem var_ok {σ : St} {H : Hp} {Q : VK} {i : Nat} {v : V} (h : σ[i]? = some (some v)) (q : Q v H) : tVar i σ H Q := ⟨v, h, q⟩
theorem tw {c : TT} {tb : TS} {D : Ends} {σ : St} {H : Hp} (W : Nat → St → Hp → Prop) (m : Nat) (h0 : W m σ H) (hs : ∀ m σ H, W m σ H → c σ H fun b H1 => if b = true then ∃ N : St → Hp → Prop, (∀ σ' H', N σ' H' → ∃ m', m' < m ∧ W m' σ' H') ∧ tb { D with nx := N, ct := N, bk := D.nx } σ H1 else D.nx σ H1) :
    tWhile c tb D σ H := ⟨W, ⟨m, h0⟩, hs⟩
end L2

set_option Elab.async false
set_option linter.all false
set_option maxRecDepth 100000
set_option maxHeartbeats 4000000
namespace L2
open PySem PySem.Spec PyProof.Rows
section
variable {X : Cx}
/-! a product with one small factor, or two that are not huge -/
def CHug (i j : Int) : Prop := i.natAbs < 2 ^ 10000 ∧ j.natAbs < 2 ^ 10000
theorem bits_hug {i : Int} (h : i.natAbs < 2 ^ 10000) : Builtin.Int.intBits i ≤ 2 ^ 20 := Nat.le_trans (PyProof.Rows.intBits_le h) (by decide)
def CMulA (i j : Int) : Prop := CMul i j ∨ CHug i j
theorem op_mulA : OpR X (binaryOp .Mult) (rI CMulA fun i j => .int (i * j)) := opI fun _ _ _ _ _ _ _ hc q => mul_int q (hc.elim (fun h => h.ok) fun h => .of_bits (bits_hug h.1) (bits_hug h.2))
theorem mulA_b {i j : Int} {m n : Nat} (hi : i.natAbs < 2 ^ m) (hj : j.natAbs < 2 ^ n) (hm : m ≤ 10000) (hn : n ≤ 10000) : CMulA i j := .inr ⟨Nat.lt_of_lt_of_le hi (Nat.pow_le_pow_right (by decide) hm), Nat.lt_of_lt_of_le hj (Nat.pow_le_pow_right (by decide) hn)⟩
theorem mulA_l {i j : Int} (h1 : -(2 ^ 64) < i) (h2 : i < 2 ^ 64) : CMulA i j := .inl (.inl ⟨h1, h2⟩)
theorem mulA_r {i j : Int} (h1 : -(2 ^ 64) < j) (h2 : j < 2 ^ 64) : CMulA i j := .inl (.inr ⟨h1, h2⟩)
/-! min, max, sum of a list of ints -/
def lMin (xs : List Int) : Int := xs.foldl min (xs.headD 0)
def IsMin (xs : List Int) (m : Int) : Prop := m ∈ xs ∧ ∀ a ∈ xs, m ≤ a
def IsMax (xs : List Int) (m : Int) : Prop := m ∈ xs ∧ ∀ a ∈ xs, a ≤ m
theorem call_minL (hc : X.calm = true) : CallR X (.builtin "min") (fun vs H Q => ∃ (l : Addr) (xs : List Int), vs = [.ref l] ∧ SqL X.K H l (xs.map V.int) ∧ xs ≠ [] ∧ ∀ m, IsMin xs m → Q (.int m) H) := by
  intro pins s σ H vs us Q I r h
  obtain ⟨l, ns, rfl, hS, hne, q⟩ := h
  obtain ⟨u, rfl, ru⟩ := vals1 r
  cases (show u = Value.ref l from ru)
  obtain ⟨its, rv, p, hz⟩ := I.list hS
  have hi := intsAre_of rv
  obtain ⟨xs, e⟩ := hi.allInts.items
  have hns : ns = xs.toList.map (·.1) := by rw [← hi.numsOf, ← nums_intItems, ← e]
  have hsz : 0 < xs.size := by
    have h3 : 0 < ns.length := List.length_pos_iff.mpr hne
    rw [hns, List.length_map, Array.length_toList] at h3; exact h3
  have hl := p.isList
  rw [e] at hl
  refine min_intList (I.ok.hd hc) hl hsz fun v h' tk hv hk => ?_
  obtain ⟨t, rfl⟩ := intItems_at hv
  obtain ⟨h1, h2⟩ := argBest_lt (numAt xs) (xs.size - 1)
  refine ⟨.int _, H, I.kept hk, ⟨t, rfl⟩, q _ ⟨?_, fun a ha => ?_⟩⟩
  · rw [hns, numAt_eq]; exact PySem.getD_mem (by rw [List.length_map, Array.length_toList]; omega)
  · rw [hns] at ha
    obtain ⟨j, hj, rfl⟩ := mem_getD ha
    rw [List.length_map, Array.length_toList] at hj
    rw [← numAt_eq]; exact h2 j (by omega)
theorem call_maxL (hc : X.calm = true) : CallR X (.builtin "max") (fun vs H Q => ∃ (l : Addr) (xs : List Int), vs = [.ref l] ∧ SqL X.K H l (xs.map V.int) ∧ xs ≠ [] ∧ ∀ m, IsMax xs m → Q (.int m) H) := by
  intro pins s σ H vs us Q I r h
  obtain ⟨l, ns, rfl, hS, hne, q⟩ := h
  obtain ⟨u, rfl, ru⟩ := vals1 r
  cases (show u = Value.ref l from ru)
  obtain ⟨its, rv, p, hz⟩ := I.list hS
  have hi := intsAre_of rv
  obtain ⟨xs, e⟩ := hi.allInts.items
  have hns : ns = xs.toList.map (·.1) := by rw [← hi.numsOf, ← nums_intItems, ← e]
  have hsz : 0 < xs.size := by
    have h3 : 0 < ns.length := List.length_pos_iff.mpr hne
    rw [hns, List.length_map, Array.length_toList] at h3; exact h3
  have hl := p.isList
  rw [e] at hl
  refine max_intList (I.ok.hd hc) hl hsz fun v h' tk hv hk => ?_
  obtain ⟨t, rfl⟩ := intItems_at hv
  obtain ⟨h1, h2⟩ := argBest_gt (numAt xs) (xs.size - 1)
  refine ⟨.int _, H, I.kept hk, ⟨t, rfl⟩, q _ ⟨?_, fun a ha => ?_⟩⟩
  · rw [hns, numAt_eq]; exact PySem.getD_mem (by rw [List.length_map, Array.length_toList]; omega)
  · rw [hns] at ha
    obtain ⟨j, hj, rfl⟩ := mem_getD ha
    rw [List.length_map, Array.length_toList] at hj
    rw [← numAt_eq]; exact h2 j (by omega)
theorem call_sumL (hc : X.calm = true) : CallR X (.builtin "sum") (fun vs H Q => ∃ (l : Addr) (xs : List Int), vs = [.ref l] ∧ SqL X.K H l (xs.map V.int) ∧ Q (.int xs.sum) H) := by
  intro pins s σ H vs us Q I r h
  obtain ⟨l, ns, rfl, hS, q⟩ := h
  obtain ⟨u, rfl, ru⟩ := vals1 r
  cases (show u = Value.ref l from ru)
  obtain ⟨its, rv, p, hz⟩ := I.list hS
  have hi := intsAre_of rv
  obtain ⟨xs, e⟩ := hi.allInts.items
  have hns : ns = xs.toList.map (·.1) := by rw [← hi.numsOf, ← nums_intItems, ← e]
  have hl := p.isList
  rw [e] at hl
  refine sum_intListG (I.ok.hd hc) hl fun h' tk t' hk => ?_
  refine ⟨.int _, H, I.kept hk, ⟨t', ?_⟩, q⟩
  rw [preSum_eq, List.take_of_length_le (by simp), ← hns]
end
/-! a, b = a list -/
section
variable {prog : Program} {w : World} {A : Around} {E : Value → Shared → Prop} {s : Shared}
theorem draw_list {it l : Addr} {items : Array Value} (hne : l ≠ it) : ∀ (n i : Nat) (s : Shared) (Q : List Value → Shared → Prop), s.heap.IsListIter it l i → s.heap.IsList l items → i + n ≤ items.size →
    (∀ h', h'.IsListIter it l (i + n) → Heap.SameBut it s.heap h' → Q ((items.toList.drop i).take n) { s with heap := h' }) → wpAny (model prog w) A (draw (.ref it) n) Q E s
  | 0, i, s, Q, hit, _, _, hQ => by
    show wpAny _ _ (pure []) Q E s
    exact wpAny_pure (by simpa using hQ s.heap hit (Heap.SameBut.refl ..))
  | n + 1, i, s, Q, hit, ht, hle, hQ => by
    have hlt : i < items.size := by omega
    show wpAny _ _ (pyNext (.ref it) >>= _) Q E s
    refine wpAny_bind (wpAny_pyNext_list_item hit ht (x := items[i]) (by simp [hlt]) fun h₁ hit₁ hs₁ => ?_)
    refine wpAny_bind (wpAny_holding (draw_list hne n (i + 1) _ _ hit₁ (ht.extBut hs₁.extBut hne) (by omega) fun h₂ hit₂ hs₂ => wpAny_pure ?_))
    have hd : items.toList.drop i = items[i] :: items.toList.drop (i + 1) := by simp [List.drop_eq_getElem_cons, hlt]
    have q := hQ h₂ (by rw [show i + (n + 1) = i + 1 + n by omega]; exact hit₂) (hs₁.trans hs₂)
    rw [hd, List.take_succ_cons] at q
    exact q
theorem unpackItems_list {l : Addr} {items : Array Value} {Q : List Value → Shared → Prop} (hh : A.handled = none) (hl : s.heap.IsList l items)
    (hQ : ∀ h', Heap.ExtBut s.heap.objs.size s.heap h' → Q items.toList { s with heap := h' }) : wpAny (model prog w) A (unpackItems (.ref l) items.size none) Q E s := by
  have hlt : l ≠ s.heap.objs.size := by obtain ⟨o, ho, _⟩ := hl; exact Nat.ne_of_lt (Heap.lt_size ho)
  unfold unpackItems
  refine wpAny_bind ?_
  unfold notIterableAtAll
  refine wpAny_bind (wpAny_specialOf hl.typeIs slot_list_iter.lookup ?_)
  refine wpAny_pure ?_
  simp only [Bool.false_eq_true, if_false]
  refine wpAny_bind (wpAny_holding (wpAny_pyIter_list hl ?_))
  refine wpAny_bind (wpAny_holding (draw_list hlt items.size 0 _ _ ⟨_, Heap.get?_push_size _ rfl, rfl, rfl⟩ (hl.push _) (by omega) fun h₁ hit₁ hs₁ => ?_))
  have hall : List.take items.size (List.drop 0 items.toList) = items.toList := by
    rw [List.drop_zero]; exact List.take_of_length_le (by simp)
  rw [hall]
  rw [if_neg (by simp)]
  have ht₁ : h₁.IsList l items := (hl.push _).extBut hs₁.extBut hlt
  refine wpAny_bind (wpAny_holding (wpAny_pyNext_list_end hh hit₁ ht₁ (by simp) fun h₂ he₂ => ?_))
  simp only [Option.isSome_none, Bool.false_eq_true, if_false]
  exact wpAny_pure (hQ h₂ fun b o hb e => he₂ b o hb (hs₁.extBut b o hb (Heap.get?_push_of_some _ e)))
end
section
variable {X : Cx} {pos : Pos}
def gTupL (K : PySem.W.Frag) (n : Nat) (t : TGs) : TG := fun v σ H Q => ∃ a xs, v = .ref a ∧ SqL K H a xs ∧ xs.length = n ∧ t xs σ H Q
theorem pg_tupL {es : List Expr} {k : Nat} {t : TGs} {n : Nat} (hc : X.calm = true) (h : PGs X es t)
    (hn : (assignEach es X.env).length = n := by rfl) (hst : (assignEach es X.env).findIdx? (·.1) = none := by rfl) : PG X (.Tuple es k pos) (gTupL X.K n t) := by
  intro pins s σ H v u Q I r hw
  obtain ⟨a, xs, e1, hq, hl, hw⟩ := hw
  subst e1
  cases r
  obtain ⟨its, rv, ht, hz⟩ := I.list hq
  rw [assign_Tuple]
  refine wpAny_bind (wpAny_standAt ?_)
  unfold unpack
  rw [hn, hst]
  have hlen : n = its.toArray.size := by rw [List.size_toArray, ← rv.length, hl]
  rw [hlen]
  refine wpAny_bind (wpAny_holding (unpackItems_list (I.ok.hd hc) ht.isList fun h' hx => ?_))
  have I1 : Inv X pins σ H { s with heap := h' } := I.kept (t' := s.toks) fun b o e => hx b o (Nat.ne_of_lt (Heap.lt_size e)) e
  exact h pins _ σ H xs _ Q I1 (by simpa using rv) hw
theorem gTupL2 {K : PySem.W.Frag} {T : Addr} {v1 v2 : V} {i j : Nat} {σ : St} {H : Hp} {Q : St → Hp → Prop} (h : SqL K H T [v1, v2]) (q : Q ((σ.set i (some v1)).set j (some v2)) H) :
    gTupL K 2 (gCons (gName i) (gCons (gName j) gNil)) (.ref T) σ H Q := ⟨T, _, rfl, h, rfl, _, _, rfl, _, _, rfl, rfl, q⟩
end
/-! == and != of two lists, one of them empty, or both of ints -/
section
variable {X : Cx}
def IntsV (xs : List V) : Prop := ∀ x ∈ xs, ∃ i, x = V.int i
theorem intsV_map (ns : List Int) : IntsV (ns.map V.int) := fun x hx => by
  obtain ⟨i, _, rfl⟩ := List.mem_map.mp hx
  exact ⟨i, rfl⟩
def CmpOk (xs ys : List V) : Prop := xs = [] ∨ ys = [] ∨ (IntsV xs ∧ IntsV ys)
theorem CmpOk.ints (ns ms : List Int) : CmpOk (ns.map V.int) (ms.map V.int) := .inr (.inr ⟨intsV_map ns, intsV_map ms⟩)
theorem dec_ints (ns ms : List Int) : decide (ns.map V.int = ms.map V.int) = decide (ns = ms) := by
  rw [Bool.eq_iff_iff, decide_eq_true_eq, decide_eq_true_eq]
  refine ⟨fun h => ?_, fun h => by rw [h]⟩
  have h2 := congrArg (List.map fun v => match v with | V.int i => i | _ => 0) h
  simpa [List.map_map, Function.comp_def] using h2
theorem items_eq {A : Around} {s : Shared} {xs ys : List V} {its its2 : List Value} (r : Vals xs its) (r2 : Vals ys its2) (hc : CmpOk xs ys) (j : Nat) (h1 : j < its.toArray.size) (h2 : j < its2.toArray.size) :
    SeqAt.EqAt A s its.toArray[j] its2.toArray[j] (decide (xs[j]? = ys[j]?)) := by
  have l1 := r.length
  have l2 := r2.length
  have h1' : j < its.length := by simpa using h1
  have h2' : j < its2.length := by simpa using h2
  rcases hc with e | e | ⟨c1, c2⟩
  · rw [e] at l1; simp at l1; omega
  · rw [e] at l2; simp at l2; omega
  · have q1 : xs[j]? = some xs[j] := by simp
    have q2 : ys[j]? = some ys[j] := by simp
    obtain ⟨u, e1, ru⟩ := r.get q1
    obtain ⟨u2, e2, ru2⟩ := r2.get q2
    obtain ⟨i1, g1⟩ := c1 xs[j] (List.getElem_mem _)
    obtain ⟨i2, g2⟩ := c2 ys[j] (List.getElem_mem _)
    rw [g1] at ru
    rw [g2] at ru2
    obtain ⟨t1, rfl⟩ := ru
    obtain ⟨t2, rfl⟩ := ru2
    have e3 : its.toArray[j] = Value.int i1 t1 := by
      rw [List.getElem?_eq_getElem h1'] at e1
      simpa using Option.some.inj e1
    have e4 : its2.toArray[j] = Value.int i2 t2 := by
      rw [List.getElem?_eq_getElem h2'] at e2
      simpa using Option.some.inj e2
    rw [e3, e4, q1, q2, g1, g2]
    intro prog w E Q hq
    refine wpAny_eqBool_int ?_
    have : (i1 == i2) = decide (some (V.int i1) = some (V.int i2)) := by rw [Bool.eq_iff_iff]; simp
    rw [this]; exact hq
theorem all_eq {xs ys : List V} {n : Nat} (h1 : xs.length = n) (h2 : ys.length = n) : ((List.range n).all fun j => decide (xs[j]? = ys[j]?)) = decide (xs = ys) := by
  rw [Bool.eq_iff_iff]
  simp only [List.all_eq_true, List.mem_range, decide_eq_true_eq]
  constructor
  · intro h
    apply List.ext_getElem?
    intro j
    by_cases hj : j < n
    · exact h j hj
    · rw [List.getElem?_eq_none (by omega), List.getElem?_eq_none (by omega)]
  · rintro rfl j _; rfl
def rEqA (K : PySem.W.Frag) : R2 := fun x y H Q => ∃ (a b : Addr), x = .ref a ∧ y = .ref b ∧ ∃ xs ys, SqL K H a xs ∧ SqL K H b ys ∧ CmpOk xs ys ∧ Q (.bl (decide (xs = ys))) H
def rNeA (K : PySem.W.Frag) : R2 := fun x y H Q => ∃ (a b : Addr), x = .ref a ∧ y = .ref b ∧ ∃ xs ys, SqL K H a xs ∧ SqL K H b ys ∧ CmpOk xs ys ∧ Q (.bl (!decide (xs = ys))) H
theorem op_eqA (hu : X.A.units < cLine) : OpR X (compareOp .Eq) (rEqA X.K) := by
  intro pins s σ H x y v u Q I rx ry h
  obtain ⟨a, b, rfl, rfl, xs, ys, h1, h2, hc, q⟩ := h
  cases rx
  cases ry
  obtain ⟨its, r, p, hz⟩ := I.list h1
  obtain ⟨its2, r2, p2, hz2⟩ := I.list h2
  have l1 := r.length
  have l2 := r2.length
  by_cases hl : its.length = its2.length
  · refine SeqAt.eq_listAt (e := fun j => decide (xs[j]? = ys[j]?)) p.isList p2.isList (by simpa using hl) hu (items_eq r r2 hc) ⟨.bl (decide (xs = ys)), H, I, ?_, q⟩
    rw [List.size_toArray, all_eq l1 (by omega)]; rfl
  · refine SeqAt.eq_list_lengthsAt p.isList p2.isList (by simpa using hl) hu ⟨.bl (decide (xs = ys)), H, I, ?_, q⟩
    rw [decide_eq_false (by rintro rfl; omega)]; rfl
theorem op_neA (hu : X.A.units < cLine) : OpR X (compareOp .NotEq) (rNeA X.K) := by
  intro pins s σ H x y v u Q I rx ry h
  obtain ⟨a, b, rfl, rfl, xs, ys, h1, h2, hc, q⟩ := h
  cases rx
  cases ry
  obtain ⟨its, r, p, hz⟩ := I.list h1
  obtain ⟨its2, r2, p2, hz2⟩ := I.list h2
  have l1 := r.length
  have l2 := r2.length
  by_cases hl : its.length = its2.length
  · refine SeqAt.RcNeAt.lists (e := fun j => decide (xs[j]? = ys[j]?)) p.isList p2.isList (by simpa using hl) hu (items_eq r r2 hc) _ _ _ _ ⟨.bl (!decide (xs = ys)), H, I, ?_, q⟩
    rw [List.size_toArray, all_eq l1 (by omega)]; rfl
  · refine SeqAt.RcNeAt.lists_lengths p.isList p2.isList (by simpa using hl) hu _ _ _ _ ⟨.bl (!decide (xs = ys)), H, I, ?_, q⟩
    rw [decide_eq_false (by rintro rfl; omega)]; rfl
end
end L2

set_option Elab.async false
set_option linter.all false
set_option maxRecDepth 100000
set_option maxHeartbeats 4000000
namespace L2
open PySem PySem.Spec PyProof.Rows
/-! xs[::-1] -/
theorem filterMap_some {α β : Type} {g : α → Option β} {h : α → β} : ∀ {l : List α}, (∀ k ∈ l, g k = some (h k)) → l.filterMap g = l.map h
  | [], _ => rfl
  | a :: r, q => by
    rw [List.filterMap_cons, q a (.head _), List.map_cons, filterMap_some fun k hk => q k (.tail _ hk)]
theorem rev_pick {α : Type} (its : List α) : ((sliceRange ((its.length : Int) - 1) (-1) (-1)).filterMap (its[·]?)) = its.reverse := by
  have e : sliceRange ((its.length : Int) - 1) (-1) (-1) = (List.range its.length).map fun k => its.length - 1 - k := by
    unfold sliceRange
    rw [if_neg (by decide)]
    have hc : (if (its.length : Int) - 1 > -1 then ((its.length : Int) - 1 - -1 - -1 - 1) / (- -1) else 0).toNat = its.length := by
      have h1 : (- -1 : Int) = 1 := by decide
      rw [h1, Int.ediv_one]
      split <;> omega
    simp only [hc]
    apply List.map_congr_left
    intro k hk
    have := List.mem_range.mp hk
    omega
  rw [e, List.filterMap_map]
  cases its with
  | nil => rfl
  | cons a r =>
    have hall : (List.range (a :: r).length).filterMap ((fun x => (a :: r)[x]?) ∘ fun k => (a :: r).length - 1 - k) = (List.range (a :: r).length).map fun k => (a :: r).reverse.getD k a := by
      apply filterMap_some
      intro k hk
      have hk' := List.mem_range.mp hk
      simp only [Function.comp]
      rw [List.getD_eq_getElem?_getD, List.getElem?_reverse hk', List.getElem?_eq_getElem (show (a :: r).length - 1 - k < (a :: r).length by omega)]
      rfl
    rw [hall]
    apply List.ext_getElem?
    intro j
    by_cases hj : j < (a :: r).length
    · rw [List.getElem?_map, List.getElem?_range hj, Option.map_some, List.getD_eq_getElem?_getD, List.getElem?_eq_getElem (show j < (a :: r).reverse.length by simpa using hj)]
      rfl
    · rw [List.getElem?_eq_none (by simpa using hj), List.getElem?_eq_none (by simpa using hj)]
section
variable {X : Cx} {e st : Expr} {te ts : TE} {pos p2 : Pos}
def tRev (K : PySem.W.Frag) (te ts : TE) : TE := fun σ H Q => te σ H fun x H1 => ts σ H1 fun y H2 => y = .int (-1) ∧ ∃ a xs, x = .ref a ∧ SqL K H2 a xs ∧ ∀ p, H2 p = none → Q (.ref p) (upd H2 p (.lst xs.reverse))
theorem pe_rev (he : PE X e te) (hst : PE X st ts) (ht : ∀ o r, letTemporaryGo e o r = pure () := by intro _ _; rfl) : PE X (.Subscript e (.Slice none none (some st) p2) pos) (tRev X.K te ts) := by
  intro pins s σ H Q I h
  refine wpAny_Subscript_Slice_step (T := "list") slot_list_getitem.lookup (thn (he pins s σ H _ I h) fun v s1 ⟨x, H1, I1, r1, q1⟩ => ?_) ht
  refine wpAny_Slice ?_
  rw [evalPart_none]
  refine wpAny_pure ?_
  refine wpAny_pure ?_
  rw [evalPart_some]
  refine thn (hst pins s1 σ H1 _ I1 q1) fun vs s2 ⟨y, H2, I2, r2, q2⟩ => ?_
  obtain ⟨rfl, a, xs, rfl, hx, q⟩ := q2
  obtain ⟨t, rfl⟩ := r2
  cases (show v = Value.ref a from r1)
  obtain ⟨its, r, p, hz⟩ := I2.list hx
  have hlen := r.length
  have I3 : Inv X pins σ H2 { s2 with heap := s2.heap.push { cls := .type "slice", data := .fields #[.none, .none, .int (-1) t] } } := I2.kept (t' := s2.toks) fun b ob q => Heap.get?_push_of_some _ q
  obtain ⟨its', r', p', _⟩ := I3.list hx
  refine ⟨p'.isList.typeIs, ?_⟩
  refine wpAny_getItem_list_slice p'.isList (Heap.IsSliceOf.new ..) .none .none (.int (-1) t) (by simp) ?_ (by rw [List.size_toArray, ← r'.length]; exact hz)
  have ep : slicePick its'.toArray none none (some (-1)) = its'.reverse.toArray := by
    unfold slicePick
    have e1 : sliceBounds none none (some (-1)) its'.toArray.size = ((its'.length : Int) - 1, -1, -1) := by
      simp [sliceBounds]
    rw [e1]
    have := rev_pick its'
    simpa using congrArg List.toArray this
  rw [ep]
  refine ⟨.ref _, _, I3.laid (t' := s2.toks) (o := .lst xs.reverse) (fun b ob q => Heap.get?_push_of_some _ q) (Nat.le_refl _) ?_, rfl, q _ (I3.hok.fresh (Nat.le_refl _))⟩
  exact ⟨by rw [List.length_reverse]; exact hz, _, 0, r'.reverse, Heap.get?_push_size _ rfl⟩
end
end L2

set_option Elab.async false
set_option linter.all false
set_option maxRecDepth 100000
set_option maxHeartbeats 4000000
namespace L2
open PySem PySem.Spec PyProof.Rows
/-! the rules that speak of the module's part, with that part named (for a comprehension's block) -/
section
variable {X : Cx} {K : PySem.W.Frag}
theorem ix_listK (h : X.K = K) : IxR X (rIxL K) := h ▸ ix_list
theorem ix_tupK (h : X.K = K) : IxR X (rIxT K) := h ▸ ix_tup
theorem sl_listK (h : X.K = K) : SlR X (rSlL K) := h ▸ sl_list
theorem call_len_seqK (h : X.K = K) : CallR X (.builtin "len") (fun xs H Q => ∃ p ys, xs = [.ref p] ∧ (SqL K H p ys ∨ SqT K H p ys) ∧ Q (.int ys.length) H) := h ▸ call_len_seq
theorem call_list_ofK (h : X.K = K) : CallR X (.type "list") (fun xs H Q => ∃ p ys, xs = [.ref p] ∧ (SqL K H p ys ∨ SqT K H p ys) ∧ ∀ l, H l = none → Q (.ref l) (upd H l (.lst ys))) := h ▸ call_list_of
theorem call_minLK (h : X.K = K) (hc : X.calm = true) : CallR X (.builtin "min") (fun vs H Q => ∃ (l : Addr) (xs : List Int), vs = [.ref l] ∧ SqL K H l (xs.map V.int) ∧ xs ≠ [] ∧ ∀ m, IsMin xs m → Q (.int m) H) := h ▸ call_minL hc
theorem call_maxLK (h : X.K = K) (hc : X.calm = true) : CallR X (.builtin "max") (fun vs H Q => ∃ (l : Addr) (xs : List Int), vs = [.ref l] ∧ SqL K H l (xs.map V.int) ∧ xs ≠ [] ∧ ∀ m, IsMax xs m → Q (.int m) H) := h ▸ call_maxL hc
theorem call_sumLK (h : X.K = K) (hc : X.calm = true) : CallR X (.builtin "sum") (fun vs H Q => ∃ (l : Addr) (xs : List Int), vs = [.ref l] ∧ SqL K H l (xs.map V.int) ∧ Q (.int xs.sum) H) := h ▸ call_sumL hc
theorem op_eqAK (h : X.K = K) (hu : X.A.units < cLine) : OpR X (compareOp .Eq) (rEqA K) := h ▸ op_eqA hu
theorem op_neAK (h : X.K = K) (hu : X.A.units < cLine) : OpR X (compareOp .NotEq) (rNeA K) := h ▸ op_neA hu
theorem pi_listK {tg l : Expr} {tl : TE} (h : X.K = K) (hl : PE X l tl) : PI X tg l (iList K tl) := h ▸ pi_list hl
theorem pi_zipK {es : List Expr} {kk : Nat} {tp : Pos} {a b : Expr} {ta : TA} {p pos : Pos} (h : X.K = K) (hg : Gl X "zip") (hm : X.mg "zip" = none) (ha : PA X [a, b] ta) (hs : starEach [a, b] X.env = [(false, eval a X.env), (false, eval b X.env)] := by rfl) (hs2 : starEach [b] X.env = [(false, eval b X.env)] := by rfl) :
    PI X (.Tuple es kk tp) (.Call (.Name "zip" p) [a, b] [] pos) (iZip K ta) := h ▸ pi_zip hg hm ha hs hs2
theorem pg_tupK {pos : Pos} {es : List Expr} {k : Nat} {t : TGs} {n : Nat} (h : X.K = K) (hc : X.calm = true) (hh : PGs X es t) (hn : (assignEach es X.env).length = n := by rfl) (hst : (assignEach es X.env).findIdx? (·.1) = none := by rfl) : PG X (.Tuple es k pos) (gTup K n t) := h ▸ pg_tup hc hh hn hst
end
/-! a comprehension over two lists side by side -/
section
variable {K : PySem.W.Frag} {g : TG} {tt : TT} {te : TE} {σ : St} {H : Hp} {Q : VK}
theorem lc_zip {a b : Addr} {xs ys : List V} (Pv : Nat → St → Hp → List V → Prop) (h0 : Pv 0 σ H []) (hl : ∀ i σ H zs, i ≤ xs.length → i ≤ ys.length → Pv i σ H zs → SqL K H a xs ∧ SqL K H b ys)
    (hs : ∀ i x y T σ H zs, xs[i]? = some x → ys[i]? = some y → Pv i σ H zs → H T = none → g (.ref T) σ (upd H T (.tup [x, y])) fun σ3 H3 => tt σ3 H3 fun c H4 => if c = true then te σ3 H4 fun z H5 => zs.length < sizeLine ∧ Pv (i + 1) σ3 H5 (zs ++ [z]) else Pv (i + 1) σ3 H4 zs)
    (hd : ∀ σ H zs, Pv (min xs.length ys.length) σ H zs → zs.length ≤ sizeLine ∧ ∀ p, H p = none → Q (.ref p) (upd H p (.lst zs))) : CompOk (Itz K a b) g tt te Q σ H := by
  refine ⟨fun i m σ H zs => m = min xs.length ys.length - i ∧ i ≤ min xs.length ys.length ∧ Pv i σ H zs, ⟨min xs.length ys.length, by simp, Nat.zero_le _, h0⟩, ?_⟩
  rintro i m σ H zs ⟨rfl, hi, p⟩
  obtain ⟨q, q2⟩ := hl i σ H zs (by omega) (by omega) p
  by_cases hlt : i < min xs.length ys.length
  · have h1 : i < xs.length := by omega
    have h2 : i < ys.length := by omega
    refine .inr ⟨⟨xs, ys, xs[i], ys[i], q, q2, by simp [h1], by simp [h2]⟩, Pv (i + 1), fun σ' H' zs' p' => ⟨min xs.length ys.length - (i + 1), by omega, rfl, hlt, p'⟩, fun v H' y => ?_⟩
    obtain ⟨T, x, y, hT, rfl, rfl, e1, e2⟩ := y
    exact hs i x y T σ H zs (e1 xs q) (e2 ys q2) p hT
  · have e : i = min xs.length ys.length := by omega
    refine .inl ⟨⟨xs, ys, q, q2, by omega⟩, hd σ H zs (e ▸ p)⟩
end
/-! a display of written ints -/
def constI : Expr → Option Int
  | .Constant (.int i) _ _ => some i
  | .UnaryOp .USub (.Constant (.int i) _ _) _ => some (-i)
  | _ => none
def constIs : List Expr → Option (List Int)
  | [] => some []
  | e :: r => match constI e, constIs r with
    | some i, some ns => some (i :: ns)
    | _, _ => none
def tInts (ns : List Int) : TA := fun _ H Q => Q (ns.map V.int) H
section
variable {X : Cx}
theorem pe_constI {e : Expr} {i : Int} (h : constI e = some i) : PE X e (tC (.int i)) := by
  unfold constI at h
  split at h
  · cases h; exact pe_int
  · cases h
    intro pins s σ H Q I q
    exact pe_un un_neg pe_int pins s σ H Q I ⟨_, rfl, q⟩
  · cases h
theorem star_constI {e : Expr} {i : Int} (h : constI e = some i) (es : List Expr) (env : Env) : starEach (e :: es) env = (false, eval e env) :: starEach es env := by
  unfold constI at h
  split at h
  · rfl
  · rfl
  · cases h
theorem pa_constIs : ∀ {es : List Expr} {ns : List Int}, constIs es = some ns → PA X es (tInts ns)
  | [], ns, h => by
    cases (show some [] = some ns from h)
    exact pa_nil
  | e :: r, ns, h => by
    unfold constIs at h
    split at h
    · rename_i i ms h1 h2
      cases h
      have := pa_cons (pe_constI (X := X) h1) (pa_constIs h2) (star_constI h1 r X.env)
      exact this
    · cases h
theorem pe_lstC {es : List Expr} {pos : Pos} {ns : List Int} (h : constIs es = some ns) : PE X (.List es pos) (tLst (tInts ns)) := pe_lst (pa_constIs h)
end
end L2

set_option Elab.async false
set_option linter.all false
set_option maxRecDepth 100000
set_option maxHeartbeats 4000000
namespace L2
open PySem PySem.Spec PyProof.Rows
/-! a list walked with its places -/
def Ite (K : PySem.W.Frag) (a : Addr) : It :=
  ⟨fun i H => ∃ xs x, SqL K H a xs ∧ xs[i]? = some x,
   fun i H v H' => ∃ T x, H T = none ∧ v = .ref T ∧ H' = upd H T (.tup [V.int (i : Int), x]) ∧ (∀ xs, SqL K H a xs → xs[i]? = some x),
   fun i H => ∃ xs, SqL K H a xs ∧ xs.length ≤ i⟩
def EnumSt (a e it : Addr) (i : Nat) (h : Heap) : Prop := (∃ old, IsEnum h e it (i : Int) old) ∧ h.IsListIter it a i
theorem turn_enum {P : Program} {w : World} {K : PySem.W.Frag} {es : List Expr} {kk : Nat} {tp : Pos} (a e it : Addr) :
    Turn P w K (.Tuple es kk tp) (Ite K a) [e, it] e (EnumSt a e it) where
  mem := by simp
  obj := fun i h st c hc => by
    obtain ⟨⟨old, he⟩, ⟨o1, e1, c1, d1⟩⟩ := st
    have : c = e ∨ c = it := by simpa using hc
    rcases this with rfl | rfl
    · exact ⟨_, he, fun v q => by cases (show Data.fields _ = Data.cell v from q)⟩
    · exact ⟨_, e1, fun v q => by rw [d1] at q; cases q⟩
  keep := fun i h h' st k => by
    obtain ⟨⟨old, he⟩, h1⟩ := st
    exact ⟨⟨old, k e (by simp) _ he⟩, h1.at fun o q => k it (by simp) o q⟩
  item := by
    intro X hP hw hK hc i pins s σ H E I hf st hg
    subst hP hw hK
    obtain ⟨xs, x, hq, hx⟩ := hg
    obtain ⟨its, rv, p, hz1⟩ := I.list hq
    obtain ⟨u, hu, ru⟩ := rv.get hx
    obtain ⟨⟨old, he⟩, h1⟩ := id st
    have k : ∀ {c d : Addr} {o u : Obj} {m n : String}, s.heap.get? c = some o → s.heap.get? d = some u → o.cls = .type m → u.cls = .type n → m ≠ n → c ≠ d := fun h1 h2 e1 e2 d => ne_cls h1 h2 (by rw [e1, e2]; intro q; injection q with q; exact d q)
    have hei : e ≠ it := by
      obtain ⟨o1, e1, c1, d1⟩ := h1
      exact k he e1 rfl c1 (by decide)
    have hle : a ≠ e := by
      obtain ⟨oa, ea, ca, _⟩ := p.isList
      exact k ea he ca rfl (by decide)
    have hli : a ≠ it := by
      obtain ⟨oa, ea, ca, _⟩ := p.isList
      obtain ⟨o1, e1, c1, d1⟩ := h1
      exact k ea e1 ca c1 (by decide)
    refine wpAny_pyNext_enum_item he h1 p.isList (x := u) (by simpa using hu) hei fun h' a1 a2 a3 a4 a5 => ?_
    refine ⟨_, rfl, wpAny_letOwnedTupleGo_enum a1 fun h'' b1 b2 => ?_⟩
    replace b2 : Heap.SameBut e h' h'' := b2
    have up : ∀ c o, c ≠ e → h'.get? c = some o → h''.get? c = some o := fun c o hc q => b2.extBut c o hc q
    have zlt : e < s.heap.objs.size := Heap.lt_size he
    have I1s : h''.IsListIter it a (i + 1) := a2.at fun o q => up _ o hei.symm q
    have I1 : Inv X pins σ H { s with heap := h'', toks := s.toks + 1 } := by
      refine I.turnedL (t' := s.toks + 1) (ch := [e, it]) (fun c o hc q => ?_) hf
      have hc' : c ≠ e ∧ c ≠ it := by simpa using hc
      exact up c o hc'.1 (a5 c o hc'.1 hc'.2 q)
    have fresh : H s.heap.objs.size = none := I.hok.fresh (Nat.le_refl _)
    have newT : h''.get? s.heap.objs.size = some _ := up _ _ (Nat.ne_of_gt zlt) a3
    have I2 : Inv X pins σ (upd H s.heap.objs.size (.tup [V.int (i : Int), x])) { s with heap := h'', toks := s.toks + 1 } := by
      have un : Un X.fs [e, it] H (upd H s.heap.objs.size (.tup [V.int (i : Int), x])) s.heap h'' := by
        refine ⟨fun c o q n _ hx => ?_, fun c o q n _ hx => ⟨o.slots, ?_⟩, fun c o q n _ => ?_, fun c o q hx => ⟨o, ?_⟩, fun c zs q => ?_, fun c o zs q => ?_, fun c ps q => ⟨#[], ?_⟩⟩
        · have hc' : c ≠ e ∧ c ≠ it := by simpa using hx
          exact up c o hc'.1 (a5 c o hc'.1 hc'.2 q)
        · have hc' : c ≠ e ∧ c ≠ it := by simpa using hx
          exact up c o hc'.1 (a5 c o hc'.1 hc'.2 q)
        · rw [upd_ne (Nat.ne_of_lt (Heap.lt_size q))]; exact n
        · have hc' : c ≠ e ∧ c ≠ it := by simpa using hx
          exact up c o hc'.1 (a5 c o hc'.1 hc'.2 q)
        · rw [upd_ne (ne_of_none q fresh)]; exact q
        · rw [upd_ne (ne_of_none q fresh)]; exact q
        · rw [upd_ne (ne_of_none q fresh), q]; simp
      have ok2 : HOk X.prog X.w (upd H s.heap.objs.size (.tup [V.int (i : Int), x])) h'' := fun c o q => by
        by_cases hc : c = s.heap.objs.size
        · subst hc
          rw [upd_same] at q; cases q
          exact ⟨by show 2 ≤ sizeLine; decide, [Value.int i s.toks, u], .cons ⟨_, rfl⟩ (.cons ru .nil), ⟨_, newT, rfl, _, rfl⟩⟩
        · rw [upd_ne hc] at q
          exact (I1.hok c o q).stay (fun _ _ _ q => q) (fun d q => by rw [upd_ne (ne_of_none q fresh)]; exact q) fun d zs q => by rw [upd_ne (ne_of_none q fresh)]; exact q
      refine I.call' (s' := { s with heap := h'', toks := s.toks + 1 }) (ch := [e, it]) rfl (un.mono (fun c hc => ?_) fun c hc => hc) ok2 I.bare fun c hc => ?_
      · rcases I.ok.stk with q | ⟨q, hfr⟩
        · rw [q]; exact hc
        · rw [q]
          unfold frs
          rw [List.filterMap_cons, hfr]
          exact List.mem_cons_of_mem _ hc
      · obtain ⟨f0, f1, f2, f3, f4, f5⟩ := hf c hc
        exact ⟨f3, f1, f4, f5⟩
    have b1' : IsEnum h'' e it ((i + 1 : Nat) : Int) u := by
      have : ((i + 1 : Nat) : Int) = (i : Int) + 1 := by push_cast; rfl
      rw [this]; exact b1
    refine ⟨.ref s.heap.objs.size, _, I2, rfl, ⟨_, x, fresh, rfl, rfl, fun xs' h => by rw [I.list_inj h hq]; exact hx⟩, ⟨⟨_, b1'⟩, I1s⟩, fun c hc => ?_⟩
    rw [upd_ne ?_]
    · exact (hf c hc).1
    · have hc' : c = e ∨ c = it := by simpa using hc
      rcases hc' with rfl | rfl
      · exact Nat.ne_of_lt zlt
      · obtain ⟨o, q, _⟩ := h1; exact Nat.ne_of_lt (Heap.lt_size q)
  done := by
    intro X hP hw hK hc i pins s σ H E I hf st hg
    subst hP hw hK
    obtain ⟨xs, hq, hx⟩ := hg
    obtain ⟨its, rv, p, hz1⟩ := I.list hq
    obtain ⟨⟨old, he⟩, h1⟩ := id st
    have l1 := rv.length
    refine wpAny_pyNext_enum_end (I.ok.hd hc) he h1 p.isList (by simp; omega) fun h' hk => ⟨rfl, ?_⟩
    refine I.turnedL (t' := s.toks) (ch := [e, it]) (fun c o hc q => ?_) hf
    have hc' : c ≠ e ∧ c ≠ it := by simpa using hc
    exact hk c o hc'.2 q
  self := fun _ _ _ _ _ st h => by
    obtain ⟨⟨old, he⟩, _⟩ := st
    exact wpAny_pyIter_enum he h
section
variable {X : Cx} {es : List Expr} {kk : Nat} {tp : Pos}
def iEnum (K : PySem.W.Frag) (ta : TA) : TI := fun σ H R => ta σ H fun vs H1 => ∃ p, vs = [.ref p] ∧ (∃ xs, SqL K H1 p xs) ∧ R (Ite K p) H1
theorem pi_enum {a : Expr} {ta : TA} {p pos : Pos} (hg : Gl X "enumerate") (hm : X.mg "enumerate" = none) (ha : PA X [a] ta) (hs : starEach [a] X.env = [(false, eval a X.env)] := by rfl) :
    PI X (.Tuple es kk tp) (.Call (.Name "enumerate" p) [a] [] pos) (iEnum X.K ta) := by
  intro pins s σ H R I h
  refine Call_ (ld_blt I hg hm boot_enumerate (PyProof.Rows.callWith_type1 (thn (ha pos pins s σ H _ I h) fun us s1 ⟨vs, H1, I1, r1, q1⟩ => ?_) (by rw [hs]; rfl) (by rfl)))
  obtain ⟨a1, e, ⟨xs, hx⟩, q⟩ := q1
  subst e
  obtain ⟨u1, rfl, r⟩ := vals1 r1
  cases (show u1 = Value.ref a1 from r)
  obtain ⟨its, rv, p1, hz1⟩ := I1.list hx
  refine call_enumerate_list p1.isList fun h' z1 z2 z3 z4 => ?_
  refine wpAny_pyIter_enum z1 ?_
  have I2 : Inv X pins σ H1 { s1 with heap := h' } := I1.kept (t' := s1.toks) z4
  refine ⟨s1.heap.objs.size + 1, [s1.heap.objs.size + 1, s1.heap.objs.size], _, _, H1, rfl, I2, turn_enum a1 _ _, ⟨⟨_, z1⟩, z2⟩, fun c hc => ?_, q⟩
  have hc' : s1.heap.objs.size ≤ c := by
    have : c = s1.heap.objs.size + 1 ∨ c = s1.heap.objs.size := by simpa using hc
    rcases this with e | e
    · rw [e]; exact Nat.le_add_right _ _
    · rw [e]; exact Nat.le_refl _
  exact I1.fpOk hc' (I1.hok.fresh hc')
theorem pi_enumK {K : PySem.W.Frag} {a : Expr} {ta : TA} {p pos : Pos} (h : X.K = K) (hg : Gl X "enumerate") (hm : X.mg "enumerate" = none) (ha : PA X [a] ta) (hs : starEach [a] X.env = [(false, eval a X.env)] := by rfl) :
    PI X (.Tuple es kk tp) (.Call (.Name "enumerate" p) [a] [] pos) (iEnum K ta) := h ▸ pi_enum hg hm ha hs
end
section
variable {K : PySem.W.Frag} {g : TG} {tt : TT} {te : TE} {σ : St} {H : Hp} {Q : VK}
theorem lc_enum {a : Addr} {xs : List V} (Pv : Nat → St → Hp → List V → Prop) (h0 : Pv 0 σ H []) (hl : ∀ i σ H zs, i ≤ xs.length → Pv i σ H zs → SqL K H a xs)
    (hs : ∀ i x T σ H zs, xs[i]? = some x → Pv i σ H zs → H T = none → g (.ref T) σ (upd H T (.tup [V.int (i : Int), x])) fun σ3 H3 => tt σ3 H3 fun c H4 => if c = true then te σ3 H4 fun z H5 => zs.length < sizeLine ∧ Pv (i + 1) σ3 H5 (zs ++ [z]) else Pv (i + 1) σ3 H4 zs)
    (hd : ∀ σ H zs, Pv xs.length σ H zs → zs.length ≤ sizeLine ∧ ∀ p, H p = none → Q (.ref p) (upd H p (.lst zs))) : CompOk (Ite K a) g tt te Q σ H := by
  refine ⟨fun i m σ H zs => m = xs.length - i ∧ i ≤ xs.length ∧ Pv i σ H zs, ⟨xs.length, by simp, Nat.zero_le _, h0⟩, ?_⟩
  rintro i m σ H zs ⟨rfl, hi, p⟩
  have q := hl i σ H zs (by omega) p
  by_cases hlt : i < xs.length
  · refine .inr ⟨⟨xs, xs[i], q, by simp [hlt]⟩, Pv (i + 1), fun σ' H' zs' p' => ⟨xs.length - (i + 1), by omega, rfl, hlt, p'⟩, fun v H' y => ?_⟩
    obtain ⟨T, x, hT, rfl, rfl, e1⟩ := y
    exact hs i x T σ H zs (e1 xs q) p hT
  · have e : i = xs.length := by omega
    refine .inl ⟨⟨xs, q, by omega⟩, hd σ H zs (e ▸ p)⟩
end
/-! a tuple's parts into names -/
theorem gTup3 {K : PySem.W.Frag} {T : Addr} {v1 v2 v3 : V} {i j k : Nat} {σ : St} {H : Hp} {Q : St → Hp → Prop} (h : SqT K H T [v1, v2, v3]) (q : Q (((σ.set i (some v1)).set j (some v2)).set k (some v3)) H) :
    gTup K 3 (gCons (gName i) (gCons (gName j) (gCons (gName k) gNil))) (.ref T) σ H Q := ⟨T, _, rfl, h, rfl, _, _, rfl, _, _, rfl, _, _, rfl, rfl, q⟩
end L2

set_option Elab.async false
namespace My
def g (a b : Int) : Int := ((Int.gcd a b : Nat) : Int)
theorem g_zero {a : Int} (h : 0 ≤ a) : g a 0 = a := by
  unfold g
  rw [Int.gcd_zero_right]
  omega
theorem g_nonneg (a b : Int) : 0 ≤ g a b := Int.natCast_nonneg _
theorem g_dvd_left (a b : Int) : g a b ∣ a := Int.gcd_dvd_left ..
theorem g_dvd_right (a b : Int) : g a b ∣ b := Int.gcd_dvd_right ..
theorem g_greatest {p a b : Int} (h1 : p ∣ a) (h2 : p ∣ b) : p ∣ g a b := Int.dvd_coe_gcd h1 h2
theorem g_step {a b : Int} (h : 0 < b) : g b (Int.fmod a b) = g a b := by
  have e : Int.fmod a b = a % b := Int.fmod_eq_emod_of_nonneg a (Int.le_of_lt h)
  rw [e]
  have d : a = b * (a / b) + a % b := (Int.mul_ediv_add_emod a b).symm
  refine Int.dvd_antisymm (g_nonneg _ _) (g_nonneg _ _) (g_greatest ?_ (g_dvd_left _ _)) (g_greatest (g_dvd_right _ _) ?_)
  · have h1 := g_dvd_left b (a % b)
    have h2 := g_dvd_right b (a % b)
    have h3 := Int.dvd_add (Int.dvd_mul_of_dvd_left h1 (c := a / b)) h2
    rw [← d] at h3
    exact h3
  · have h1 := g_dvd_left a b
    have h2 := g_dvd_right a b
    have h3 := Int.dvd_sub h1 (Int.dvd_mul_of_dvd_left h2 (c := a / b))
    have d2 : a - b * (a / b) = a % b := by omega
    rw [d2] at h3
    exact h3
theorem g_less {a b : Int} (h : 0 < b) : 0 ≤ Int.fmod a b ∧ (Int.fmod a b).toNat < b.toNat := by
  have e : Int.fmod a b = a % b := Int.fmod_eq_emod_of_nonneg a (Int.le_of_lt h)
  have h1 := Int.emod_nonneg a (show b ≠ 0 by omega)
  have h2 := Int.emod_lt_of_pos a h
  omega
/- the divisor of a row -/
def ab (x : Int) : Int := if x < 0 then -x else x
theorem ab_nonneg (x : Int) : 0 ≤ ab x := by unfold ab; split <;> omega
theorem dvd_ab {p x : Int} : p ∣ ab x ↔ p ∣ x := by
  unfold ab; split
  · exact Int.dvd_neg
  · exact Iff.rfl
def ga (xs : List Int) : Int := xs.foldl (fun c x => g c (ab x)) 0
theorem ga_nil : ga [] = 0 := rfl
theorem ga_snoc (xs : List Int) (x : Int) : ga (xs ++ [x]) = g (ga xs) (ab x) := by
  unfold ga; rw [List.foldl_append]; rfl
theorem fold_nonneg : ∀ (xs : List Int) (c : Int), 0 ≤ c → 0 ≤ xs.foldl (fun c x => g c (ab x)) c
  | [], _, h => h
  | _ :: r, _, _ => fold_nonneg r _ (g_nonneg _ _)
theorem ga_nonneg (xs : List Int) : 0 ≤ ga xs := fold_nonneg xs 0 (Int.le_refl 0)
theorem fold_dvd : ∀ (xs : List Int) (c : Int), (xs.foldl (fun c x => g c (ab x)) c ∣ c) ∧ ∀ x ∈ xs, xs.foldl (fun c x => g c (ab x)) c ∣ x
  | [], c => ⟨Int.dvd_refl c, fun _ h => nomatch h⟩
  | y :: r, c => by
    have ih := fold_dvd r (g c (ab y))
    refine ⟨Int.dvd_trans ih.1 (g_dvd_left _ _), fun x hx => ?_⟩
    rcases List.mem_cons.mp hx with e | hx
    · rw [e]; exact Int.dvd_trans ih.1 (dvd_ab.mp (Int.dvd_trans (g_dvd_right _ _) (Int.dvd_refl _)))
    · exact ih.2 x hx
theorem ga_dvd {xs : List Int} {x : Int} (h : x ∈ xs) : ga xs ∣ x := (fold_dvd xs 0).2 x h
theorem fold_greatest {p : Int} : ∀ (xs : List Int) (c : Int), p ∣ c → (∀ x ∈ xs, p ∣ x) → p ∣ xs.foldl (fun c x => g c (ab x)) c
  | [], _, h, _ => h
  | y :: r, c, h, hx => fold_greatest r _ (g_greatest h (dvd_ab.mpr (hx y (.head _)))) fun x h' => hx x (.tail _ h')
theorem ga_greatest {p : Int} {xs : List Int} (h : ∀ x ∈ xs, p ∣ x) : p ∣ ga xs := fold_greatest xs 0 (Int.dvd_zero p) h
theorem ga_zero {xs : List Int} (h : ∀ x ∈ xs, x = 0) : ga xs = 0 := by
  have : (0 : Int) ∣ ga xs := ga_greatest fun x hx => by rw [h x hx]; exact Int.dvd_refl 0
  exact Int.zero_dvd.mp this
theorem ga_pos {xs : List Int} {x : Int} (hx : x ∈ xs) (h : x ≠ 0) : 0 < ga xs := by
  have h1 := ga_nonneg xs
  rcases Int.lt_or_eq_of_le h1 with h2 | h2
  · exact h2
  · have h3 := ga_dvd hx
    rw [← h2] at h3
    exact absurd (Int.zero_dvd.mp h3) h
theorem fmod_of_dvd {x d : Int} (h : d ∣ x) : Int.fmod x d = 0 := by
  obtain ⟨k, rfl⟩ := h
  exact Int.mul_fmod_right d k
end My

set_option Elab.async false
set_option linter.all false
namespace My
/-- a sum of the first n -/
def sumTo (n : Nat) (f : Nat → Int) : Int := match n with
  | 0 => 0
  | n + 1 => sumTo n f + f n
theorem sumTo_congr {f g : Nat → Int} : ∀ {n : Nat}, (∀ k, k < n → f k = g k) → sumTo n f = sumTo n g
  | 0, _ => rfl
  | n + 1, h => by
    show sumTo n f + f n = sumTo n g + g n
    rw [sumTo_congr fun k hk => h k (by omega), h n (by omega)]
theorem sumTo_zero {f : Nat → Int} : ∀ {n : Nat}, (∀ k, k < n → f k = 0) → sumTo n f = 0
  | 0, _ => rfl
  | n + 1, h => by
    show sumTo n f + f n = 0
    rw [sumTo_zero fun k hk => h k (by omega), h n (by omega)]; rfl
theorem sumTo_lin (a : Int) (f g : Nat → Int) : ∀ n, sumTo n (fun k => a * f k + g k) = a * sumTo n f + sumTo n g
  | 0 => by simp [sumTo]
  | n + 1 => by
    show sumTo n (fun k => a * f k + g k) + (a * f n + g n) = a * (sumTo n f + f n) + (sumTo n g + g n)
    rw [sumTo_lin a f g n, Int.mul_add]; omega
/-- a sum with one number other than nought -/
theorem sumTo_one {f : Nat → Int} {i : Nat} : ∀ {n : Nat}, i < n → (∀ k, k < n → k ≠ i → f k = 0) → sumTo n f = f i
  | 0, h, _ => absurd h (by omega)
  | n + 1, h, hz => by
    show sumTo n f + f n = f i
    by_cases e : i = n
    · subst e
      rw [sumTo_zero fun k hk => hz k (by omega) (by omega)]; omega
    · rw [sumTo_one (n := n) (by omega) fun k hk => hz k (by omega), hz n (by omega) (by omega)]; omega
/-! Elimination over whole numbers, in vectors (maps of places) and linear measures of them -/
abbrev Vec := Nat → Int
structure IsLin (f : Vec → Int) : Prop where
  zero : f (fun _ => 0) = 0
  add : ∀ (a : Int) (u v : Vec), f (fun k => a * u k + v k) = a * f u + f v
inductive Span (U : List Vec) : Vec → Prop
  | zero : Span U (fun _ => 0)
  | add {u v : Vec} (a : Int) : u ∈ U → Span U v → Span U (fun k => a * u k + v k)
theorem Span.scale {U : List Vec} {v : Vec} (b : Int) (h : Span U v) : Span U (fun k => b * v k) := by
  induction h with
  | zero => simpa using Span.zero
  | add a hu _ ih =>
    have := Span.add (b * a) hu ih
    simpa [Int.mul_add, Int.mul_assoc] using this
theorem Span.mem {U : List Vec} {u : Vec} (h : u ∈ U) : Span U u := by
  have := Span.add 1 h Span.zero
  simpa using this
theorem Span.plus {U : List Vec} {v : Vec} (h : Span U v) : ∀ {w : Vec}, Span U w → Span U (fun k => v k + w k) := by
  induction h with
  | zero => intro w hw; simpa using hw
  | add a hu _ ih =>
    intro w hw
    have := Span.add a hu (ih hw)
    simpa [Int.add_assoc] using this
def comb : List Int → List Vec → Vec
  | l :: ls, r :: rs => fun k => l * r k + comb ls rs k
  | _, _ => fun _ => 0
def Indep (U : List Vec) : Prop := ∀ ls : List Int, ls.length = U.length → (∀ k, comb ls U k = 0) → ∀ l ∈ ls, l = 0
theorem comb_nil_r (ls : List Int) : comb ls [] = fun _ => 0 := by cases ls <;> rfl
theorem comb_append : ∀ (la : List Int) (A : List Vec) (lb : List Int) (B : List Vec), la.length = A.length → ∀ k, comb (la ++ lb) (A ++ B) k = comb la A k + comb lb B k
  | [], [], lb, B, _, k => by simp [comb]
  | l :: la, a :: A, lb, B, h, k => by
    have ih := comb_append la A lb B (by simpa using h) k
    show l * a k + comb (la ++ lb) (A ++ B) k = l * a k + comb la A k + comb lb B k
    rw [ih]; omega
  | [], _ :: _, _, _, h, _ => by simp at h
  | _ :: _, [], _, _, h, _ => by simp at h
theorem comb_scale (c : Int) : ∀ (ls : List Int) (U : List Vec) (k : Nat), comb (ls.map (c * ·)) U k = c * comb ls U k
  | [], U, k => by cases U <;> simp [comb]
  | l :: ls, [], k => by simp [comb]
  | l :: ls, u :: U, k => by
    have ih := comb_scale c ls U k
    show c * l * u k + comb (ls.map (c * ·)) U k = c * (l * u k + comb ls U k)
    rw [ih, Int.mul_add, Int.mul_assoc]
/-- the sum of measures -/
def wsum (f : Vec → Int) : List Int → List Vec → Int
  | l :: ls, u :: U => l * f u + wsum f ls U
  | _, _ => 0
theorem comb_step (f : Vec → Int) (q : Int) (p : Vec) : ∀ (ls : List Int) (U : List Vec) (k : Nat), comb ls (U.map fun u k => q * u k - f u * p k) k = q * comb ls U k - wsum f ls U * p k
  | [], U, k => by cases U <;> simp [comb, wsum]
  | l :: ls, [], k => by simp [comb, wsum]
  | l :: ls, u :: U, k => by
    have ih := comb_step f q p ls U k
    show l * (q * u k - f u * p k) + comb ls (U.map fun u k => q * u k - f u * p k) k = q * (l * u k + comb ls U k) - (l * f u + wsum f ls U) * p k
    rw [ih]; grind
/-- one step: the first vector whose measure is not nought is the pivot -/
def stepU (f : Vec → Int) (U : List Vec) : List Vec := match U.find? (fun u => decide (f u ≠ 0)) with
  | none => U
  | some p => (U.eraseP (fun u => decide (f u ≠ 0))).map fun u k => f p * u k - f u * p k
theorem step_cases (f : Vec → Int) (U : List Vec) : ((∀ u ∈ U, f u = 0) ∧ stepU f U = U) ∨ ∃ A p B, U = A ++ p :: B ∧ f p ≠ 0 ∧ stepU f U = (A ++ B).map fun u k => f p * u k - f u * p k := by
  unfold stepU
  cases h : U.find? (fun u => decide (f u ≠ 0)) with
  | none =>
    left
    refine ⟨fun u hu => ?_, rfl⟩
    have := List.find?_eq_none.mp h u hu
    simpa using this
  | some p =>
    right
    obtain ⟨hp, A, B, e, hA⟩ := List.find?_eq_some_iff_append.mp h
    refine ⟨A, p, B, e, by simpa using hp, ?_⟩
    have : U.eraseP (fun u => decide (f u ≠ 0)) = A ++ B := by
      rw [e, List.eraseP_append_right _ (fun b hb => by simpa using hA b hb), List.eraseP_cons_of_pos (p := fun u => decide (f u ≠ 0)) hp]
    rw [this]
theorem step_zero {f : Vec → Int} (hf : IsLin f) {U : List Vec} : ∀ u ∈ stepU f U, f u = 0 := by
  intro u hu
  rcases step_cases f U with ⟨h, e⟩ | ⟨A, p, B, e, hp, e2⟩
  · exact h u (e ▸ hu)
  · rw [e2] at hu
    obtain ⟨v, _, rfl⟩ := List.mem_map.mp hu
    have h1 := hf.add (-(f v)) p (fun k => f p * v k)
    have h2 : f (fun k => f p * v k) = f p * f v := by
      have := hf.add (f p) v (fun _ => 0)
      simpa [hf.zero] using this
    have e3 : (fun k => f p * v k - f v * p k) = fun k => -(f v) * p k + (fun k => f p * v k) k := by
      funext k; grind
    rw [e3, h1, h2]; grind
theorem step_keep {f g : Vec → Int} (hg : IsLin g) {U : List Vec} (h : ∀ u ∈ U, g u = 0) : ∀ u ∈ stepU f U, g u = 0 := by
  intro u hu
  rcases step_cases f U with ⟨_, e⟩ | ⟨A, p, B, e, hp, e2⟩
  · exact h u (e ▸ hu)
  · rw [e2] at hu
    obtain ⟨v, hv, rfl⟩ := List.mem_map.mp hu
    have hv0 : g v = 0 := h v (by rw [e]; rcases List.mem_append.mp hv with hv | hv; exact List.mem_append_left _ hv; exact List.mem_append_right _ (.tail _ hv))
    have hp0 : g p = 0 := h p (by rw [e]; exact List.mem_append_right _ (.head _))
    have h1 := hg.add (-(f v)) p (fun k => f p * v k)
    have h2 : g (fun k => f p * v k) = f p * g v := by
      have := hg.add (f p) v (fun _ => 0)
      simpa [hg.zero] using this
    have e3 : (fun k => f p * v k - f v * p k) = fun k => -(f v) * p k + (fun k => f p * v k) k := by
      funext k; grind
    rw [e3, h1, h2, hv0, hp0]; simp
theorem step_span {f : Vec → Int} (hf : IsLin f) {U : List Vec} {v : Vec} (h : Span U v) (h0 : f v = 0) : ∃ a : Int, a ≠ 0 ∧ Span (stepU f U) (fun k => a * v k) := by
  rcases step_cases f U with ⟨_, e⟩ | ⟨A, p, B, e, hp, e2⟩
  · exact ⟨1, by decide, by rw [e]; simpa using h⟩
  · refine ⟨f p, hp, ?_⟩
    have key : ∀ {v : Vec}, Span U v → Span (stepU f U) (fun k => f p * v k - f v * p k) := by
      intro v h
      induction h with
      | zero =>
        rw [hf.zero]
        simpa using Span.zero
      | @add u v a hu _ ih =>
        rw [hf.add]
        have goal : Span (stepU f U) (fun k => a * (f p * u k - f u * p k) + (f p * v k - f v * p k)) := by
          by_cases hup : u ∈ A ++ B
          · exact Span.add a (by rw [e2]; exact List.mem_map.mpr ⟨u, hup, rfl⟩) ih
          · have : u = p := by
              rw [e] at hu
              rcases List.mem_append.mp hu with q | q
              · exact absurd (List.mem_append_left _ q) hup
              · rcases List.mem_cons.mp q with q | q
                · exact q
                · exact absurd (List.mem_append_right _ q) hup
            rw [this]
            have e4 : (fun k => a * (f p * p k - f p * p k) + (f p * v k - f v * p k)) = fun k => f p * v k - f v * p k := by funext k; grind
            rw [e4]; exact ih
        have e5 : (fun k => f p * (a * u k + v k) - (a * f u + f v) * p k) = fun k => a * (f p * u k - f u * p k) + (f p * v k - f v * p k) := by funext k; grind
        rw [e5]; exact goal
    have := key h
    rw [h0] at this
    simpa using this
theorem step_indep {f : Vec → Int} {U : List Vec} (h : Indep U) : Indep (stepU f U) := by
  rcases step_cases f U with ⟨_, e⟩ | ⟨A, p, B, e, hp, e2⟩
  · rw [e]; exact h
  · rw [e2]
    intro ls hl hz
    rw [List.length_map, List.length_append] at hl
    obtain ⟨la, lb, rfl, hla⟩ : ∃ la lb, ls = la ++ lb ∧ la.length = A.length := ⟨ls.take A.length, ls.drop A.length, (List.take_append_drop _ _).symm, by rw [List.length_take]; omega⟩
    have hlb : lb.length = B.length := by rw [List.length_append] at hl; omega
    have big := h (la.map (f p * ·) ++ (-(wsum f (la ++ lb) (A ++ B))) :: lb.map (f p * ·)) (by rw [e]; simp [hla, hlb]) (fun k => by
      rw [e, comb_append _ _ _ _ (by simpa using hla)]
      show comb (la.map (f p * ·)) A k + (-(wsum f (la ++ lb) (A ++ B)) * p k + comb (lb.map (f p * ·)) B k) = 0
      rw [comb_scale, comb_scale]
      have hk := hz k
      rw [comb_step, comb_append _ _ _ _ hla] at hk
      grind)
    intro l hl'
    have hm : f p * l ∈ la.map (f p * ·) ++ (-(wsum f (la ++ lb) (A ++ B))) :: lb.map (f p * ·) := by
      rcases List.mem_append.mp hl' with q | q
      · exact List.mem_append_left _ (List.mem_map.mpr ⟨l, q, rfl⟩)
      · exact List.mem_append_right _ (.tail _ (List.mem_map.mpr ⟨l, q, rfl⟩))
    rcases Int.mul_eq_zero.mp (big _ hm) with q | q
    · exact absurd q hp
    · exact q
theorem step_len (f : Vec → Int) (U : List Vec) : (stepU f U).length ≤ U.length ∧ U.length ≤ (stepU f U).length + 1 := by
  rcases step_cases f U with ⟨_, e⟩ | ⟨A, p, B, e, hp, e2⟩
  · rw [e]; omega
  · rw [e2, e, List.length_map, List.length_append, List.length_append, List.length_cons]; omega
def elim : List (Vec → Int) → List Vec → List Vec
  | [], U => U
  | f :: fs, U => elim fs (stepU f U)
theorem elim_keep {g : Vec → Int} (hg : IsLin g) : ∀ {fs : List (Vec → Int)} {U : List Vec}, (∀ u ∈ U, g u = 0) → ∀ u ∈ elim fs U, g u = 0
  | [], _, h => h
  | f :: fs, U, h => elim_keep (fs := fs) (U := stepU f U) hg (step_keep hg h)
theorem elim_zero : ∀ {fs : List (Vec → Int)} {U : List Vec}, (∀ f ∈ fs, IsLin f) → ∀ f ∈ fs, ∀ u ∈ elim fs U, f u = 0
  | f :: fs, U, hl, g, hg, u, hu => by
    rcases List.mem_cons.mp hg with rfl | hg
    · exact elim_keep (hl _ (.head _)) (step_zero (hl _ (.head _))) u hu
    · exact elim_zero (fun f hf => hl f (.tail _ hf)) g hg u hu
theorem elim_span : ∀ {fs : List (Vec → Int)} {U : List Vec} {v : Vec}, (∀ f ∈ fs, IsLin f) → Span U v → (∀ f ∈ fs, f v = 0) → ∃ a : Int, a ≠ 0 ∧ Span (elim fs U) (fun k => a * v k)
  | [], U, v, _, h, _ => ⟨1, by decide, by simpa [elim] using h⟩
  | f :: fs, U, v, hl, h, h0 => by
    obtain ⟨a, ha, hs⟩ := step_span (hl f (.head _)) h (h0 f (.head _))
    obtain ⟨b, hb, hs2⟩ := elim_span (fs := fs) (fun g hg => hl g (.tail _ hg)) hs (fun g hg => by
      have := (hl g (.tail _ hg)).add a v (fun _ => 0)
      rw [(hl g (.tail _ hg)).zero, h0 g (.tail _ hg)] at this
      simpa using this)
    refine ⟨b * a, Int.mul_ne_zero hb ha, ?_⟩
    show Span (elim fs (stepU f U)) _
    simpa [Int.mul_assoc] using hs2
theorem elim_indep : ∀ {fs : List (Vec → Int)} {U : List Vec}, Indep U → Indep (elim fs U)
  | [], _, h => h
  | f :: fs, U, h => elim_indep (fs := fs) (U := stepU f U) (step_indep h)
theorem elim_len : ∀ (fs : List (Vec → Int)) (U : List Vec), (elim fs U).length ≤ U.length ∧ U.length ≤ (elim fs U).length + fs.length
  | [], U => by simp [elim]
  | f :: fs, U => by
    have h1 := step_len f U
    have h2 := elim_len fs (stepU f U)
    show (elim fs (stepU f U)).length ≤ U.length ∧ U.length ≤ (elim fs (stepU f U)).length + (f :: fs).length
    rw [List.length_cons]; omega
/-! the unit vectors -/
def unit (i : Nat) : Vec := fun k => if k = i then 1 else 0
def units (n : Nat) : List Vec := (List.range n).map unit
theorem units_span {n : Nat} {c : Vec} (h : ∀ k, n ≤ k → c k = 0) : Span (units n) c := by
  have key : ∀ m, m ≤ n → Span (units n) (fun k => if k < m then c k else 0) := by
    intro m
    induction m with
    | zero => intro _; simpa using Span.zero
    | succ m ih =>
      intro hm
      have := Span.add (c m) (show unit m ∈ units n from List.mem_map.mpr ⟨m, List.mem_range.mpr (by omega), rfl⟩) (ih (by omega))
      have e : (fun k => c m * unit m k + if k < m then c k else 0) = fun k => if k < m + 1 then c k else 0 := by
        funext k
        unfold unit
        by_cases h1 : k = m
        · subst h1; simp
        · by_cases h2 : k < m
          · simp [h1, h2, show k < m + 1 by omega]
          · simp [h1, h2, show ¬ k < m + 1 by omega]
      rw [e] at this; exact this
  have := key n (Nat.le_refl n)
  have e : (fun k => if k < n then c k else 0) = c := by
    funext k
    by_cases hk : k < n
    · simp [hk]
    · simp [hk, h k (by omega)]
  rw [e] at this; exact this
theorem comb_units : ∀ (ls : List Int) (a : Nat) (k : Nat), comb ls ((List.range' a ls.length).map unit) k = if a ≤ k then ls.getD (k - a) 0 else 0
  | [], a, k => by simp [comb]
  | l :: ls, a, k => by
    have ih := comb_units ls (a + 1) k
    rw [List.length_cons, List.range'_succ, List.map_cons]
    show l * unit a k + comb ls ((List.range' (a + 1) ls.length).map unit) k = _
    rw [ih]
    unfold unit
    by_cases h1 : k = a
    · subst h1; simp [show ¬ k + 1 ≤ k by omega]
    · by_cases h2 : a ≤ k
      · have : k - a = (k - (a + 1)) + 1 := by omega
        simp [h1, h2, show a + 1 ≤ k by omega, this]
      · simp [h1, h2, show ¬ a + 1 ≤ k by omega]
theorem units_indep (n : Nat) : Indep (units n) := by
  intro ls hl hz l hm
  have hl' : ls.length = n := by simpa [units] using hl
  obtain ⟨i, hi, rfl⟩ := List.getElem_of_mem hm
  have := hz i
  unfold units at this
  rw [List.range_eq_range', ← hl', comb_units] at this
  simpa [List.getD_eq_getElem?_getD, hi] using this
/-! how many are left -/
structure Ker (fs : List (Vec → Int)) (n : Nat) (c : Vec) : Prop where
  sup : ∀ k, n ≤ k → c k = 0
  ev : ∀ f ∈ fs, f c = 0
/-- up to multiples one way to come out even -/
def Ker1 (fs : List (Vec → Int)) (n : Nat) : Prop := ∃ v, Ker fs n v ∧ (∃ k, v k ≠ 0) ∧ ∀ u, Ker fs n u → ∃ a b : Int, a ≠ 0 ∧ ∀ k, a * u k = b * v k
theorem span_sup {U : List Vec} {n : Nat} (h : ∀ u ∈ U, ∀ k, n ≤ k → u k = 0) {v : Vec} (s : Span U v) : ∀ k, n ≤ k → v k = 0 := by
  induction s with
  | zero => intro k _; rfl
  | add a hu _ ih => intro k hk; show a * _ + _ = 0; rw [h _ hu k hk, ih k hk]; simp
theorem step_sup {f : Vec → Int} {U : List Vec} {n : Nat} (h : ∀ u ∈ U, ∀ k, n ≤ k → u k = 0) : ∀ u ∈ stepU f U, ∀ k, n ≤ k → u k = 0 := by
  intro u hu k hk
  rcases step_cases f U with ⟨_, e⟩ | ⟨A, p, B, e, hp, e2⟩
  · exact h u (e ▸ hu) k hk
  · rw [e2] at hu
    obtain ⟨v, hv, rfl⟩ := List.mem_map.mp hu
    have hv0 := h v (by rw [e]; rcases List.mem_append.mp hv with hv | hv; exact List.mem_append_left _ hv; exact List.mem_append_right _ (.tail _ hv)) k hk
    have hp0 := h p (by rw [e]; exact List.mem_append_right _ (.head _)) k hk
    show f p * v k - f v * p k = 0
    rw [hv0, hp0]; simp
theorem elim_sup {n : Nat} : ∀ {fs : List (Vec → Int)} {U : List Vec}, (∀ u ∈ U, ∀ k, n ≤ k → u k = 0) → ∀ u ∈ elim fs U, ∀ k, n ≤ k → u k = 0
  | [], _, h => h
  | f :: fs, U, h => elim_sup (fs := fs) (U := stepU f U) (step_sup h)
theorem units_sup (n : Nat) : ∀ u ∈ units n, ∀ k, n ≤ k → u k = 0 := by
  intro u hu k hk
  obtain ⟨i, hi, rfl⟩ := List.mem_map.mp hu
  have := List.mem_range.mp hi
  unfold unit
  rw [if_neg (by omega)]
/-- each that is left is a way to come out even -/
theorem left_ker {fs : List (Vec → Int)} {n : Nat} (hl : ∀ f ∈ fs, IsLin f) : ∀ u ∈ elim fs (units n), Ker fs n u := fun u hu =>
  ⟨elim_sup (units_sup n) u hu, fun f hf => elim_zero hl f hf u hu⟩
theorem ker_left {fs : List (Vec → Int)} {n : Nat} (hl : ∀ f ∈ fs, IsLin f) {c : Vec} (h : Ker fs n c) : ∃ a : Int, a ≠ 0 ∧ Span (elim fs (units n)) (fun k => a * c k) := elim_span hl (units_span h.sup) h.ev
theorem span_one {u v : Vec} (h : Span [u] v) : ∃ b : Int, ∀ k, v k = b * u k := by
  induction h with
  | zero => exact ⟨0, by simp⟩
  | @add w v a hw _ ih =>
    obtain ⟨b, hb⟩ := ih
    obtain rfl := List.mem_singleton.mp hw
    exact ⟨a + b, fun k => by show a * w k + v k = _; rw [hb k, Int.add_mul]⟩
theorem span_none {v : Vec} (h : Span [] v) : ∀ k, v k = 0 := by
  cases h with
  | zero => intro k; rfl
  | add a hw _ => cases hw
theorem indep_ne {u : Vec} {U : List Vec} (h : Indep (u :: U)) : ∃ k, u k ≠ 0 := by
  refine Classical.byContradiction fun hn => ?_
  have hz : ∀ k, u k = 0 := fun k => Classical.byContradiction fun q => hn ⟨k, q⟩
  have := h (1 :: List.replicate U.length 0) (by simp) (fun k => by
    show 1 * u k + comb (List.replicate U.length 0) U k = 0
    have e : List.replicate U.length (0 : Int) = (List.replicate U.length 0).map (0 * ·) := by simp
    rw [hz k, e, comb_scale]; simp) 1 (.head _)
  exact absurd this (by decide)
/-- one is left just where there is one way -/
theorem one_iff {fs : List (Vec → Int)} {n : Nat} (hl : ∀ f ∈ fs, IsLin f) : (elim fs (units n)).length = 1 ↔ Ker1 fs n := by
  have ind := elim_indep (fs := fs) (units_indep n)
  constructor
  · intro h
    cases e : elim fs (units n) with
    | nil => rw [e] at h; simp at h
    | cons v r =>
      have hr : r = [] := by rw [e] at h; simpa using h
      subst hr
      have hv : v ∈ elim fs (units n) := by rw [e]; exact .head _
      rw [e] at ind
      refine ⟨v, left_ker hl v hv, indep_ne ind, fun u hu => ?_⟩
      obtain ⟨a, ha, hs⟩ := ker_left hl hu
      rw [e] at hs
      obtain ⟨b, hb⟩ := span_one hs
      exact ⟨a, b, ha, hb⟩
  · rintro ⟨v, hv, ⟨k0, hk0⟩, hall⟩
    cases e : elim fs (units n) with
    | nil =>
      obtain ⟨a, ha, hs⟩ := ker_left hl hv
      rw [e] at hs
      have := span_none hs k0
      rcases Int.mul_eq_zero.mp this with q | q
      · exact absurd q ha
      · exact absurd q hk0
    | cons u r =>
      cases r with
      | nil => rfl
      | cons w r =>
        exfalso
        rw [e] at ind
        obtain ⟨a, b, ha, h1⟩ := hall u (left_ker hl u (by rw [e]; exact .head _))
        obtain ⟨c, d, hc, h2⟩ := hall w (left_ker hl w (by rw [e]; exact .tail _ (.head _)))
        have nb : b ≠ 0 := fun q => by
          obtain ⟨k, hk⟩ := indep_ne ind
          have := h1 k
          rw [q, Int.zero_mul] at this
          rcases Int.mul_eq_zero.mp this with q | q
          · exact ha q
          · exact hk q
        -- d a u - b c w = 0
        have := ind (d * a :: -(b * c) :: List.replicate r.length 0) (by simp) (fun k => by
          show d * a * u k + (-(b * c) * w k + comb (List.replicate r.length 0) r k) = 0
          have e : List.replicate r.length (0 : Int) = (List.replicate r.length 0).map (0 * ·) := by simp
          rw [e, comb_scale]
          have q1 := h1 k
          have q2 := h2 k
          grind) (-(b * c)) (.tail _ (.head _))
        have hbc := Int.mul_ne_zero nb hc
        omega
theorem none_iff {fs : List (Vec → Int)} {n : Nat} (hl : ∀ f ∈ fs, IsLin f) : elim fs (units n) = [] ↔ ∀ u, Ker fs n u → ∀ k, u k = 0 := by
  have ind := elim_indep (fs := fs) (units_indep n)
  constructor
  · intro e u hu k
    obtain ⟨a, ha, hs⟩ := ker_left hl hu
    rw [e] at hs
    rcases Int.mul_eq_zero.mp (span_none hs k) with q | q
    · exact absurd q ha
    · exact q
  · intro h
    cases e : elim fs (units n) with
    | nil => rfl
    | cons u r =>
      rw [e] at ind
      obtain ⟨k, hk⟩ := indep_ne ind
      exact absurd (h u (left_ker hl u (by rw [e]; exact .head _)) k) hk
end My

set_option Elab.async false
set_option linter.all false
namespace My
/-! Elimination over rows of numbers: each row its deed's numbers, then its own counts -/
def phi (n : Nat) (M : Nat → Nat → Int) (j : Nat) : Vec → Int := fun c => sumTo n fun k => c k * M k j
theorem phi_lin (n : Nat) (M : Nat → Nat → Int) (j : Nat) : IsLin (phi n M j) := by
  refine ⟨sumTo_zero fun k _ => by simp, fun a u v => ?_⟩
  unfold phi
  rw [← sumTo_lin]
  exact sumTo_congr fun k _ => by grind
/-- the counts of a row -/
def cts (w : Nat) (r : List Int) : Vec := fun k => r.getD (w + k) 0
structure Fit (w n : Nat) (M : Nat → Nat → Int) (r : List Int) : Prop where
  len : r.length = w + n
  num : ∀ j, j < w → r.getD j 0 = phi n M j (cts w r)
def mixRow (j : Nat) (p r : List Int) : List Int := List.zipWith (fun x y => p.getD j 0 * x - r.getD j 0 * y) r p
def stepL (j : Nat) (L : List (List Int)) : List (List Int) := match L.find? (fun r => decide (r.getD j 0 ≠ 0)) with
  | none => L
  | some p => (L.eraseP (fun r => decide (r.getD j 0 ≠ 0))).map (mixRow j p)
theorem mix_len {w n : Nat} {M : Nat → Nat → Int} {j : Nat} {p r : List Int} (hp : Fit w n M p) (hr : Fit w n M r) : (mixRow j p r).length = w + n := by
  unfold mixRow; rw [List.length_zipWith, hp.len, hr.len]; omega
theorem mix_get {j : Nat} {p r : List Int} (h : p.length = r.length) (i : Nat) : (mixRow j p r).getD i 0 = p.getD j 0 * r.getD i 0 - r.getD j 0 * p.getD i 0 := by
  unfold mixRow
  simp only [List.getD_eq_getElem?_getD, List.getElem?_zipWith]
  by_cases hi : i < r.length
  · rw [List.getElem?_eq_getElem hi, List.getElem?_eq_getElem (show i < p.length by omega)]; rfl
  · rw [List.getElem?_eq_none (show r.length ≤ i by omega), List.getElem?_eq_none (show p.length ≤ i by omega)]; simp
theorem mix_cts {w n : Nat} {M : Nat → Nat → Int} {j : Nat} {p r : List Int} (hp : Fit w n M p) (hr : Fit w n M r) (hj : j < w) : cts w (mixRow j p r) = fun k => phi n M j (cts w p) * cts w r k - phi n M j (cts w r) * cts w p k := by
  funext k
  unfold cts
  rw [mix_get (by rw [hp.len, hr.len])]
  rw [hp.num j hj, hr.num j hj]; rfl
theorem mix_fit {w n : Nat} {M : Nat → Nat → Int} {j : Nat} {p r : List Int} (hp : Fit w n M p) (hr : Fit w n M r) (hj : j < w) : Fit w n M (mixRow j p r) := by
  refine ⟨mix_len hp hr, fun i hi => ?_⟩
  rw [mix_get (by rw [hp.len, hr.len]), mix_cts hp hr hj, hp.num i hi, hr.num i hi, hp.num j hj, hr.num j hj]
  have l := phi_lin n M i
  have h1 := l.add (-(phi n M j (cts w r))) (cts w p) (fun k => phi n M j (cts w p) * cts w r k)
  have h2 : phi n M i (fun k => phi n M j (cts w p) * cts w r k) = phi n M j (cts w p) * phi n M i (cts w r) := by
    have := l.add (phi n M j (cts w p)) (cts w r) (fun _ => 0)
    simpa [l.zero] using this
  have e3 : (fun k => phi n M j (cts w p) * cts w r k - phi n M j (cts w r) * cts w p k) = fun k => -(phi n M j (cts w r)) * cts w p k + (fun k => phi n M j (cts w p) * cts w r k) k := by
    funext k; grind
  rw [e3, h1, h2]; grind
theorem find_map {w n : Nat} {M : Nat → Nat → Int} {j : Nat} (hj : j < w) : ∀ {L : List (List Int)}, (∀ r ∈ L, Fit w n M r) →
    (L.map (cts w)).find? (fun u => decide (phi n M j u ≠ 0)) = (L.find? (fun r => decide (r.getD j 0 ≠ 0))).map (cts w) ∧
    (L.map (cts w)).eraseP (fun u => decide (phi n M j u ≠ 0)) = (L.eraseP (fun r => decide (r.getD j 0 ≠ 0))).map (cts w)
  | [], _ => ⟨rfl, rfl⟩
  | r :: L, h => by
    have ih := find_map hj (L := L) fun r hr => h r (.tail _ hr)
    have e := (h r (.head _)).num j hj
    by_cases q : phi n M j (cts w r) = 0
    · have q' : r.getD j 0 = 0 := by rw [e]; exact q
      constructor
      · rw [List.map_cons, List.find?_cons_of_neg (by simp [q]), List.find?_cons_of_neg (by rw [q']; decide)]; exact ih.1
      · rw [List.map_cons, List.eraseP_cons_of_neg (by simp [q]), List.eraseP_cons_of_neg (by rw [q']; decide), List.map_cons, ih.2]
    · have q' : r.getD j 0 ≠ 0 := by rw [e]; exact q
      constructor
      · rw [List.map_cons, List.find?_cons_of_pos (by simp [q]), List.find?_cons_of_pos (p := fun r => decide (List.getD r j 0 ≠ 0)) (decide_eq_true q')]; rfl
      · rw [List.map_cons, List.eraseP_cons_of_pos (by simp [q]), List.eraseP_cons_of_pos (p := fun r => decide (List.getD r j 0 ≠ 0)) (decide_eq_true q')]
theorem stepL_fit {w n : Nat} {M : Nat → Nat → Int} {j : Nat} (hj : j < w) {L : List (List Int)} (h : ∀ r ∈ L, Fit w n M r) : ∀ r ∈ stepL j L, Fit w n M r := by
  intro r hr
  unfold stepL at hr
  split at hr
  · exact h r hr
  · rename_i p hp
    obtain ⟨r', hr', rfl⟩ := List.mem_map.mp hr
    exact mix_fit (h p (List.mem_of_find?_eq_some hp)) (h r' (List.mem_of_mem_eraseP hr')) hj
theorem stepL_map {w n : Nat} {M : Nat → Nat → Int} {j : Nat} (hj : j < w) {L : List (List Int)} (h : ∀ r ∈ L, Fit w n M r) : (stepL j L).map (cts w) = stepU (phi n M j) (L.map (cts w)) := by
  obtain ⟨e1, e2⟩ := find_map hj h
  unfold stepU stepL
  rw [e1, e2]
  cases q : L.find? (fun r => decide (r.getD j 0 ≠ 0)) with
  | none => rfl
  | some p =>
    show ((L.eraseP _).map (mixRow j p)).map (cts w) = _
    rw [List.map_map, Option.map_some]
    show _ = ((L.eraseP _).map (cts w)).map fun u k => phi n M j (cts w p) * u k - phi n M j u * cts w p k
    rw [List.map_map]
    apply List.map_congr_left
    intro r hr
    exact mix_cts (h p (List.mem_of_find?_eq_some q)) (h r (List.mem_of_mem_eraseP hr)) hj
def unitRow (n i : Nat) : List Int := (List.replicate n 0).set i 1
def startL (n : Nat) (rows : Nat → List Int) : List (List Int) := (List.range n).map fun k => rows k ++ unitRow n k
def stepsL : Nat → List (List Int) → List (List Int)
  | 0, L => L
  | j + 1, L => stepL j (stepsL j L)
def evenOf (w n : Nat) (rows : Nat → List Int) : List (List Int) := (stepsL w (startL n rows)).map (List.drop w)
theorem start_fit {w n : Nat} {rows : Nat → List Int} (h : ∀ k, k < n → (rows k).length = w) : ∀ r ∈ startL n rows, Fit w n (fun k j => (rows k).getD j 0) r := by
  intro r hr
  obtain ⟨i, hi, rfl⟩ := List.mem_map.mp hr
  have hi' := List.mem_range.mp hi
  have hu : (unitRow n i).length = n := by unfold unitRow; simp
  refine ⟨by rw [List.length_append, h i hi', hu], fun j hj => ?_⟩
  have hc : ∀ k, k < n → cts w (rows i ++ unitRow n i) k = if k = i then 1 else 0 := fun k hk => by
    unfold cts
    rw [List.getD_eq_getElem?_getD, List.getElem?_append_right (by rw [h i hi']; omega), h i hi', show w + k - w = k by omega]
    unfold unitRow
    by_cases e : k = i
    · subst e
      rw [List.getElem?_set_self (by simpa using hk)]; simp
    · rw [List.getElem?_set_ne (Ne.symm e), List.getElem?_replicate, if_pos hk]; simp [e]
  unfold phi
  rw [sumTo_one hi' fun k hk hne => by rw [hc k hk, if_neg hne]; simp, hc i hi', if_pos rfl]
  rw [List.getD_eq_getElem?_getD, List.getElem?_append_left (by rw [h i hi']; exact hj), ← List.getD_eq_getElem?_getD]; simp
theorem start_map {w n : Nat} {rows : Nat → List Int} (h : ∀ k, k < n → (rows k).length = w) : (startL n rows).map (cts w) = units n := by
  unfold startL units
  rw [List.map_map]
  apply List.map_congr_left
  intro i hi
  have hi' := List.mem_range.mp hi
  funext k
  show cts w (rows i ++ unitRow n i) k = unit i k
  unfold cts unit
  rw [List.getD_eq_getElem?_getD, List.getElem?_append_right (by rw [h i hi']; omega), h i hi', show w + k - w = k by omega]
  unfold unitRow
  by_cases e : k = i
  · subst e
    rw [List.getElem?_set_self (by simpa using hi')]; simp
  · rw [List.getElem?_set_ne (Ne.symm e), List.getElem?_replicate, if_neg e]
    split <;> rfl
theorem steps_fit {w n : Nat} {M : Nat → Nat → Int} {L : List (List Int)} (h : ∀ r ∈ L, Fit w n M r) : ∀ {j : Nat}, j ≤ w → ∀ r ∈ stepsL j L, Fit w n M r
  | 0, _ => h
  | j + 1, hj => stepL_fit (by omega) (steps_fit h (j := j) (by omega))
theorem elim_append (f : Vec → Int) : ∀ (fs : List (Vec → Int)) (U : List Vec), elim (fs ++ [f]) U = stepU f (elim fs U)
  | [], U => rfl
  | g :: fs, U => elim_append f fs (stepU g U)
theorem steps_map {w n : Nat} {M : Nat → Nat → Int} {L : List (List Int)} (h : ∀ r ∈ L, Fit w n M r) : ∀ {j : Nat}, j ≤ w → (stepsL j L).map (cts w) = elim ((List.range j).map (phi n M)) (L.map (cts w))
  | 0, _ => rfl
  | j + 1, hj => by
    rw [List.range_succ, List.map_append]
    show (stepL j (stepsL j L)).map (cts w) = elim ((List.range j).map (phi n M) ++ [phi n M j]) (L.map (cts w))
    rw [elim_append, stepL_map (by omega) (steps_fit h (by omega)), steps_map h (j := j) (by omega)]
/-- what is left, as vectors -/
def vecOf (l : List Int) : Vec := fun k => l.getD k 0
theorem even_vec {w n : Nat} {rows : Nat → List Int} (h : ∀ k, k < n → (rows k).length = w) : (evenOf w n rows).map vecOf = elim ((List.range w).map (phi n fun k j => (rows k).getD j 0)) (units n) := by
  rw [← start_map h, ← steps_map (start_fit h) (Nat.le_refl w)]
  unfold evenOf
  rw [List.map_map]
  apply List.map_congr_left
  intro r _
  funext k
  show (r.drop w).getD k 0 = cts w r k
  unfold cts
  rw [List.getD_eq_getElem?_getD, List.getElem?_drop, ← List.getD_eq_getElem?_getD]
theorem even_lens {w n : Nat} {rows : Nat → List Int} (h : ∀ k, k < n → (rows k).length = w) : ∀ l ∈ evenOf w n rows, l.length = n := by
  intro l hl
  obtain ⟨r, hr, rfl⟩ := List.mem_map.mp hl
  rw [List.length_drop, (steps_fit (start_fit h) (Nat.le_refl w) r hr).len]; omega
/-- the measures of the wares -/
abbrev wares (w n : Nat) (rows : Nat → List Int) : List (Vec → Int) := (List.range w).map (phi n fun k j => (rows k).getD j 0)
theorem wares_lin (w n : Nat) (rows : Nat → List Int) : ∀ f ∈ wares w n rows, IsLin f := fun f hf => by
  obtain ⟨j, _, rfl⟩ := List.mem_map.mp hf
  exact phi_lin ..
theorem even_one {w n : Nat} {rows : Nat → List Int} (h : ∀ k, k < n → (rows k).length = w) : (evenOf w n rows).length = 1 ↔ Ker1 (wares w n rows) n := by
  rw [← one_iff (wares_lin w n rows), ← even_vec h, List.length_map]
theorem even_nil {w n : Nat} {rows : Nat → List Int} (h : ∀ k, k < n → (rows k).length = w) : evenOf w n rows = [] ↔ ∀ u, Ker (wares w n rows) n u → ∀ k, u k = 0 := by
  rw [← none_iff (wares_lin w n rows), ← even_vec h, List.map_eq_nil_iff]
theorem even_many {w n : Nat} {rows : Nat → List Int} (h : ∀ k, k < n → (rows k).length = w) : (evenOf w n rows).length ≤ n ∧ n ≤ (evenOf w n rows).length + w := by
  have := elim_len (wares w n rows) (units n)
  rw [← even_vec h, List.length_map] at this
  simpa [units] using this
end My
namespace My
theorem first_idx {α : Type} (p : α → Bool) (l : List α) : ((List.range l.length).filter (fun k => (l[k]?).any p) = [] ∧ l.find? p = none) ∨
    ∃ i r x, (List.range l.length).filter (fun k => (l[k]?).any p) = i :: r ∧ l[i]? = some x ∧ l.find? p = some x ∧ l.eraseP p = l.take i ++ l.drop (i + 1) := by
  cases h : l.find? p with
  | none =>
    left
    refine ⟨?_, rfl⟩
    rw [List.filter_eq_nil_iff]
    intro k hk
    have hk' := List.mem_range.mp hk
    rw [List.getElem?_eq_getElem hk']
    have := List.find?_eq_none.mp h _ (List.getElem_mem hk')
    simpa using this
  | some x =>
    right
    obtain ⟨hp, A, B, e, hA⟩ := List.find?_eq_some_iff_append.mp h
    have hlen : l.length = A.length + (B.length + 1) := by rw [e]; simp
    have f0 : (List.range A.length).filter (fun k => (l[k]?).any p) = [] := by
      rw [List.filter_eq_nil_iff]
      intro k hk
      have hk' := List.mem_range.mp hk
      rw [e, List.getElem?_append_left hk', List.getElem?_eq_getElem hk']
      have := hA _ (List.getElem_mem hk')
      simpa using this
    have hx : l[A.length]? = some x := by rw [e, List.getElem?_append_right (Nat.le_refl _)]; simp
    refine ⟨A.length, ((List.range B.length).map (A.length + 1 + ·)).filter (fun k => (l[k]?).any p), x, ?_, hx, rfl, ?_⟩
    · rw [hlen, List.range_add, List.filter_append, f0, List.nil_append, Nat.add_comm B.length 1, List.range_add]
      show List.filter _ (List.map _ ([0] ++ _)) = _
      rw [List.map_append, List.filter_append, List.map_map]
      have e1 : List.filter (fun k => (l[k]?).any p) (List.map (fun x => A.length + x) [0]) = [A.length] := by
        simp [hx, hp]
      rw [e1]
      show _ = [A.length] ++ _
      congr 2
      apply List.map_congr_left
      intro k _
      simp [Function.comp, Nat.add_assoc]
    · rw [e, List.eraseP_append_right _ (fun b hb => by simpa using hA b hb), List.eraseP_cons_of_pos (p := p) hp]
      simp
end My

set_option Elab.async false
set_option linter.all false
namespace My
/-! Rounds, lean rounds, and one way to come out even -/
structure KerS (fs : List (Vec → Int)) (S : Nat → Prop) (c : Vec) : Prop where
  sup : ∀ k, ¬ S k → c k = 0
  ev : ∀ f ∈ fs, f c = 0
def Ker1S (fs : List (Vec → Int)) (S : Nat → Prop) : Prop := ∃ v, KerS fs S v ∧ (∃ k, v k ≠ 0) ∧ ∀ u, KerS fs S u → ∃ a b : Int, a ≠ 0 ∧ ∀ k, a * u k = b * v k
/-- a round: some count above nought, none below, every ware even -/
structure Round (fs : List (Vec → Int)) (n : Nat) (c : Vec) : Prop where
  sup : ∀ k, n ≤ k → c k = 0
  nn : ∀ k, 0 ≤ c k
  some : ∃ k, 0 < c k
  ev : ∀ f ∈ fs, f c = 0
/-- lean: no round does with only some of its deeds -/
def LeanR (fs : List (Vec → Int)) (n : Nat) (c : Vec) : Prop := Round fs n c ∧ ∀ d, Round fs n d → (∀ k, 0 < d k → 0 < c k) → ∀ k, 0 < c k → 0 < d k
theorem lin_two {f : Vec → Int} (h : IsLin f) (a b : Int) (u v : Vec) : f (fun k => a * u k + b * v k) = a * f u + b * f v := by
  have h1 := h.add a u (fun k => b * v k)
  have h2 : f (fun k => b * v k) = b * f v := by
    have := h.add b v (fun _ => 0)
    simpa [h.zero] using this
  rw [h1, h2]
/-- the greatest share -/
theorem best_share {S : Nat → Prop} {c u : Vec} (hpos : ∀ k, S k → 0 < c k) : ∀ n, (∀ k, k < n → ¬ S k) ∨ ∃ k0, k0 < n ∧ S k0 ∧ ∀ k, k < n → S k → u k * c k0 ≤ u k0 * c k := by
  intro n
  induction n with
  | zero => exact .inl fun k hk => absurd hk (by omega)
  | succ n ih =>
    by_cases hn : S n
    · right
      rcases ih with ih | ⟨k0, h1, h2, h3⟩
      · refine ⟨n, by omega, hn, fun k hk hs => ?_⟩
        by_cases e : k = n
        · subst e; exact Int.le_refl _
        · exact absurd hs (ih k (by omega))
      · by_cases cmp : u n * c k0 ≤ u k0 * c n
        · refine ⟨k0, by omega, h2, fun k hk hs => ?_⟩
          by_cases e : k = n
          · subst e; exact cmp
          · exact h3 k (by omega) hs
        · refine ⟨n, by omega, hn, fun k hk hs => ?_⟩
          by_cases e : k = n
          · subst e; exact Int.le_refl _
          · have p0 := hpos k0 h2
            have pk := hpos k hs
            have pn := hpos n hn
            have a1 := h3 k (by omega) hs
            have a2 : u k0 * c n ≤ u n * c k0 := by omega
            -- u k * c n ≤ u n * c k, times c k0
            have b1 : u k * c k0 * c n ≤ u k0 * c k * c n := Int.mul_le_mul_of_nonneg_right a1 (by omega)
            have b2 : u k0 * c n * c k ≤ u n * c k0 * c k := Int.mul_le_mul_of_nonneg_right a2 (by omega)
            have b3 : u k * c n * c k0 ≤ u n * c k * c k0 := by
              have e1 : u k * c n * c k0 = u k * c k0 * c n := by grind
              have e2 : u k0 * c k * c n = u k0 * c n * c k := by grind
              have e3 : u n * c k0 * c k = u n * c k * c k0 := by grind
              omega
            exact Int.le_of_mul_le_mul_right b3 p0
    · rcases ih with ih | ⟨k0, h1, h2, h3⟩
      · left
        intro k hk
        by_cases e : k = n
        · subst e; exact hn
        · exact ih k (by omega)
      · right
        refine ⟨k0, by omega, h2, fun k hk hs => ?_⟩
        by_cases e : k = n
        · subst e; exact absurd hs hn
        · exact h3 k (by omega) hs
/-- a round is lean just where its deeds have one way to come out even -/
theorem lean_iff {fs : List (Vec → Int)} {n : Nat} {c : Vec} (hl : ∀ f ∈ fs, IsLin f) (hc : Round fs n c) : LeanR fs n c ↔ Ker1S fs (fun k => 0 < c k) := by
  have ck : KerS fs (fun k => 0 < c k) c := ⟨fun k hk => by have := hc.nn k; omega, hc.ev⟩
  obtain ⟨k1, hk1⟩ := hc.some
  have k1n : k1 < n := by
    refine Classical.byContradiction fun q => ?_
    have := hc.sup k1 (by omega)
    omega
  constructor
  · intro h
    refine ⟨c, ck, ⟨k1, by omega⟩, fun u hu => ?_⟩
    rcases best_share (S := fun k => 0 < c k) (c := c) (u := u) (fun k hk => hk) n with hno | ⟨k0, h1, h2, h3⟩
    · exact absurd hk1 (hno k1 k1n)
    · -- d = u k0 * c - c k0 * u
      have dz : ∀ k, ¬ 0 < c k → u k0 * c k + -(c k0) * u k = 0 := fun k hk => by
        rw [ck.sup k hk, hu.sup k hk]; simp
      by_cases hd : ∃ k, u k0 * c k + -(c k0) * u k ≠ 0
      · exfalso
        have dnn : ∀ k, 0 ≤ u k0 * c k + -(c k0) * u k := fun k => by
          by_cases hk : 0 < c k
          · have kn : k < n := by
              refine Classical.byContradiction fun q => ?_
              have := hc.sup k (by omega)
              omega
            have := h3 k kn hk
            have e : -(c k0) * u k = -(u k * c k0) := by grind
            omega
          · rw [dz k hk]; exact Int.le_refl 0
        have rd : Round fs n (fun k => u k0 * c k + -(c k0) * u k) := by
          refine ⟨fun k hk => dz k (by rw [hc.sup k hk]; omega), dnn, ?_, fun f hf => ?_⟩
          · obtain ⟨k, hk⟩ := hd
            exact ⟨k, by have := dnn k; show 0 < u k0 * c k + -(c k0) * u k; omega⟩
          · rw [lin_two (hl f hf), hc.ev f hf, hu.ev f hf]; simp
        have := h.2 _ rd (fun k hk => Classical.byContradiction fun q => by
          have := dz k q
          have hk' : 0 < u k0 * c k + -(c k0) * u k := hk
          omega) k0 h2
        have this' : 0 < u k0 * c k0 + -(c k0) * u k0 := this
        have e : u k0 * c k0 + -(c k0) * u k0 = 0 := by grind
        omega
      · refine ⟨c k0, u k0, by omega, fun k => ?_⟩
        have : u k0 * c k + -(c k0) * u k = 0 := Classical.byContradiction fun q => hd ⟨k, q⟩
        grind
  · rintro ⟨v, hv, ⟨kv, hkv⟩, hall⟩
    refine ⟨hc, fun d hd hsub k hk => ?_⟩
    obtain ⟨a, b, ha, hab⟩ := hall c ck
    have dk : KerS fs (fun k => 0 < c k) d := ⟨fun j hj => by
      have h0 := hd.nn j
      refine Classical.byContradiction fun q => hj (hsub j (by omega)), hd.ev⟩
    obtain ⟨a', b', ha', hab'⟩ := hall d dk
    obtain ⟨kd, hkd⟩ := hd.some
    have b'0 : b' ≠ 0 := fun q => by
      have := hab' kd
      rw [q, Int.zero_mul] at this
      rcases Int.mul_eq_zero.mp this with q | q
      · exact ha' q
      · omega
    have vk : v k ≠ 0 := fun q => by
      have := hab k
      rw [q, Int.mul_zero] at this
      rcases Int.mul_eq_zero.mp this with q | q
      · exact ha q
      · omega
    have dk0 : d k ≠ 0 := fun q => by
      have := hab' k
      rw [q, Int.mul_zero] at this
      rcases Int.mul_eq_zero.mp this.symm with q | q
      · exact b'0 q
      · exact vk q
    have := hd.nn k
    omega
/-! some of the deeds alone -/
theorem sumTo_swap (f : Nat → Nat → Int) : ∀ (a b : Nat), sumTo a (fun i => sumTo b fun k => f i k) = sumTo b fun k => sumTo a fun i => f i k
  | 0, b => by
    show (0 : Int) = sumTo b fun k => 0
    exact (sumTo_zero fun k _ => rfl).symm
  | a + 1, b => by
    show sumTo a (fun i => sumTo b fun k => f i k) + sumTo b (fun k => f a k) = sumTo b fun k => sumTo a (fun i => f i k) + f a k
    rw [sumTo_swap f a b]
    have := sumTo_lin 1 (fun k => sumTo a fun i => f i k) (fun k => f a k) b
    simp at this
    rw [this]
def lift (ss : List Nat) (c : Vec) : Vec := fun k => sumTo ss.length fun i => if ss.getD i 0 = k then c i else 0
def rest (ss : List Nat) (d : Vec) : Vec := fun i => if i < ss.length then d (ss.getD i 0) else 0
theorem lift_at {ss : List Nat} (nd : ss.Nodup) (c : Vec) {i : Nat} (hi : i < ss.length) : lift ss c (ss.getD i 0) = c i := by
  unfold lift
  rw [sumTo_one (i := i) hi fun j hj hne => ?_, if_pos rfl]
  rw [if_neg]
  intro e
  have e' : ss[j] = ss[i] := by
    rw [List.getD_eq_getElem?_getD, List.getElem?_eq_getElem hj, List.getD_eq_getElem?_getD, List.getElem?_eq_getElem hi] at e
    exact e
  exact hne ((List.getElem_inj nd).mp e')
theorem lift_out {ss : List Nat} (c : Vec) {k : Nat} (hk : k ∉ ss) : lift ss c k = 0 := by
  refine sumTo_zero fun i hi => if_neg fun e => hk ?_
  rw [← e, List.getD_eq_getElem?_getD, List.getElem?_eq_getElem hi]
  exact List.getElem_mem hi
theorem lift_phi {ss : List Nat} {n : Nat} {M : Nat → Nat → Int} (hlt : ∀ k ∈ ss, k < n) (c : Vec) (j : Nat) : phi n M j (lift ss c) = phi ss.length (fun i j => M (ss.getD i 0) j) j c := by
  unfold phi lift
  have e1 : (sumTo n fun k => (sumTo ss.length fun i => if ss.getD i 0 = k then c i else 0) * M k j) = sumTo n fun k => sumTo ss.length fun i => if ss.getD i 0 = k then c i * M (ss.getD i 0) j else 0 := by
    apply sumTo_congr
    intro k _
    have := sumTo_lin (M k j) (fun i => if ss.getD i 0 = k then c i else 0) (fun _ => 0) ss.length
    rw [sumTo_zero (f := fun _ => 0) fun _ _ => rfl] at this
    have e2 : (sumTo ss.length fun i => if ss.getD i 0 = k then c i else 0) * M k j = M k j * (sumTo ss.length fun i => if ss.getD i 0 = k then c i else 0) + 0 := by grind
    rw [e2, ← this]
    apply sumTo_congr
    intro i _
    show M k j * (if ss.getD i 0 = k then c i else 0) + 0 = _
    split
    · rename_i e; rw [e]; grind
    · simp
  rw [e1, sumTo_swap]
  apply sumTo_congr
  intro i hi
  have hk : ss.getD i 0 < n := by
    rw [List.getD_eq_getElem?_getD, List.getElem?_eq_getElem hi]
    exact hlt _ (List.getElem_mem hi)
  rw [sumTo_one (i := ss.getD i 0) hk fun k _ hne => if_neg (Ne.symm hne), if_pos rfl]
theorem lift_rest {ss : List Nat} (nd : ss.Nodup) {d : Vec} (h : ∀ k, ¬ k ∈ ss → d k = 0) : lift ss (rest ss d) = d := by
  funext k
  by_cases hk : k ∈ ss
  · obtain ⟨i, hi, e⟩ := List.getElem_of_mem hk
    have e' : ss.getD i 0 = k := by rw [List.getD_eq_getElem?_getD, List.getElem?_eq_getElem hi, ← e]; rfl
    rw [← e', lift_at nd _ hi]
    unfold rest
    rw [if_pos hi]
  · rw [lift_out _ hk, h k hk]
/-- the same whether the others are left out or have the count nought -/
theorem one_some {ss : List Nat} {n w : Nat} {rows : Nat → List Int} (nd : ss.Nodup) (hlt : ∀ k ∈ ss, k < n) : Ker1 (wares w ss.length fun i => rows (ss.getD i 0)) ss.length ↔ Ker1S (wares w n rows) (fun k => k ∈ ss) := by
  have toS : ∀ {c : Vec}, Ker (wares w ss.length fun i => rows (ss.getD i 0)) ss.length c → KerS (wares w n rows) (fun k => k ∈ ss) (lift ss c) := fun {c} h => by
    refine ⟨fun k hk => lift_out _ hk, fun f hf => ?_⟩
    obtain ⟨j, hj, rfl⟩ := List.mem_map.mp hf
    rw [lift_phi hlt]
    exact h.ev _ (List.mem_map.mpr ⟨j, hj, rfl⟩)
  have toK : ∀ {d : Vec}, KerS (wares w n rows) (fun k => k ∈ ss) d → Ker (wares w ss.length fun i => rows (ss.getD i 0)) ss.length (rest ss d) := fun {d} h => by
    refine ⟨fun k hk => by unfold rest; rw [if_neg (by omega)], fun f hf => ?_⟩
    obtain ⟨j, hj, rfl⟩ := List.mem_map.mp hf
    have := lift_phi (M := fun k j => (rows k).getD j 0) hlt (rest ss d) j
    rw [lift_rest nd h.sup] at this
    rw [← this]
    exact h.ev _ (List.mem_map.mpr ⟨j, hj, rfl⟩)
  constructor
  · rintro ⟨v, hv, ⟨k, hk⟩, hall⟩
    have hkl : k < ss.length := Classical.byContradiction fun q => hk (hv.sup k (by omega))
    refine ⟨lift ss v, toS hv, ⟨ss.getD k 0, by rw [lift_at nd _ hkl]; exact hk⟩, fun u hu => ?_⟩
    obtain ⟨a, b, ha, hab⟩ := hall _ (toK hu)
    refine ⟨a, b, ha, fun j => ?_⟩
    by_cases hj : j ∈ ss
    · obtain ⟨i, hi, e⟩ := List.getElem_of_mem hj
      have e' : ss.getD i 0 = j := by rw [List.getD_eq_getElem?_getD, List.getElem?_eq_getElem hi, ← e]; rfl
      have := hab i
      unfold rest at this
      rw [if_pos hi, e'] at this
      rw [← e', lift_at nd _ hi, e']; exact this
    · rw [hu.sup j hj, lift_out _ hj]; simp
  · rintro ⟨v, hv, ⟨k, hk⟩, hall⟩
    have hks : k ∈ ss := Classical.byContradiction fun q => hk (hv.sup k q)
    obtain ⟨i, hi, e⟩ := List.getElem_of_mem hks
    have e' : ss.getD i 0 = k := by rw [List.getD_eq_getElem?_getD, List.getElem?_eq_getElem hi, ← e]; rfl
    refine ⟨rest ss v, toK hv, ⟨i, by unfold rest; rw [if_pos hi, e']; exact hk⟩, fun u hu => ?_⟩
    obtain ⟨a, b, ha, hab⟩ := hall _ (toS hu)
    refine ⟨a, b, ha, fun j => ?_⟩
    unfold rest
    by_cases hj : j < ss.length
    · rw [if_pos hj]
      have := hab (ss.getD j 0)
      rw [lift_at nd _ hj] at this; exact this
    · rw [if_neg hj, hu.sup j (by omega)]; simp
end My

set_option Elab.async false
set_option linter.all false
namespace My
/-! The list of the lean rounds by going through all sets -/
def rowsAt (m : List (List Int)) (ss : List Nat) : Nat → List Int := fun k => m.getD (ss.getD k 0) []
def rowsOf (m : List (List Int)) : Nat → List Int := fun k => m.getD k []
def setOf (n b : Nat) : List Nat := (List.range n).filter fun k => b.testBit (n - 1 - k)
def cntTo (n : Nat) (ss : List Nat) (l : List Int) : Nat → List Int
  | 0 => List.replicate n 0
  | i + 1 => (cntTo n ss l i).set (ss.getD i 0) ((ab (l.getD i 0)).fdiv (ga l))
def OneSign (l : List Int) : Prop := (∀ x ∈ l, 0 < x) ∨ ∀ x ∈ l, x < 0
instance {l : List Int} : Decidable (OneSign l) := inferInstanceAs (Decidable (_ ∨ _))
theorem cntTo_len {n : Nat} {ss : List Nat} {l : List Int} : ∀ i, (cntTo n ss l i).length = n
  | 0 => List.length_replicate
  | i + 1 => by unfold cntTo; rw [List.length_set]; exact cntTo_len i
theorem setOf_mem {n b k : Nat} : k ∈ setOf n b ↔ k < n ∧ b.testBit (n - 1 - k) = true := by
  unfold setOf
  rw [List.mem_filter, List.mem_range]
theorem setOf_nodup (n b : Nat) : (setOf n b).Nodup := List.Nodup.sublist List.filter_sublist List.nodup_range
/-- the counts, one by one -/
theorem cntTo_out {n : Nat} {ss : List Nat} {l : List Int} {k : Nat} : ∀ i, (∀ j, j < i → ss.getD j 0 ≠ k) → (cntTo n ss l i).getD k 0 = 0
  | 0, _ => by
    unfold cntTo
    rw [List.getD_eq_getElem?_getD]
    by_cases h : k < n
    · rw [List.getElem?_eq_getElem (by rw [List.length_replicate]; exact h)]; simp
    · rw [List.getElem?_eq_none (by rw [List.length_replicate]; omega)]; rfl
  | i + 1, h => by
    unfold cntTo
    rw [List.getD_eq_getElem?_getD, List.getElem?_set_ne (h i (by omega)), ← List.getD_eq_getElem?_getD]
    exact cntTo_out i fun j hj => h j (by omega)
theorem cntTo_in {n : Nat} {ss : List Nat} {l : List Int} (nd : ss.Nodup) (hlt : ∀ k ∈ ss, k < n) {j : Nat} : ∀ i, i ≤ ss.length → j < i → (cntTo n ss l i).getD (ss.getD j 0) 0 = (ab (l.getD j 0)).fdiv (ga l)
  | 0, _, h => absurd h (Nat.not_lt_zero j)
  | i + 1, hi, h => by
    unfold cntTo
    have hg : ∀ t, t < ss.length → ss.getD t 0 = ss[t]! := fun t ht => by simp [ht]
    by_cases e : j = i
    · subst e
      have hm : ss.getD j 0 ∈ ss := by
        rw [List.getD_eq_getElem?_getD, List.getElem?_eq_getElem (by omega)]; exact List.getElem_mem _
      rw [List.getD_eq_getElem?_getD, List.getElem?_set_self (by rw [cntTo_len]; exact hlt _ hm)]
      rfl
    · have ne : ss.getD i 0 ≠ ss.getD j 0 := by
        rw [List.getD_eq_getElem?_getD, List.getD_eq_getElem?_getD, List.getElem?_eq_getElem (show i < ss.length by omega), List.getElem?_eq_getElem (show j < ss.length by omega)]
        intro q
        exact e ((List.getElem_inj nd).mp q).symm
      rw [List.getD_eq_getElem?_getD, List.getElem?_set_ne ne, ← List.getD_eq_getElem?_getD]
      exact cntTo_in nd hlt i (by omega) (by omega)
/-- the counts of a set, times the divisor and a sign, are the lifted row -/
theorem cnt_lift {n : Nat} {ss : List Nat} {l : List Int} (nd : ss.Nodup) (hlt : ∀ k ∈ ss, k < n) (hl : l.length = ss.length) (hs : OneSign l) (hn : l ≠ []) :
    ∃ s : Int, s ≠ 0 ∧ (s = ga l ∨ s = -ga l) ∧ (∀ k, lift ss (vecOf l) k = s * vecOf (cntTo n ss l ss.length) k) ∧ (∀ k, k ∈ ss ↔ 0 < vecOf (cntTo n ss l ss.length) k) ∧ ∀ k, 0 ≤ vecOf (cntTo n ss l ss.length) k := by
  obtain ⟨x0, hx0⟩ := List.exists_mem_of_ne_nil _ hn
  have hx0n : x0 ≠ 0 := by
    rcases hs with h | h
    · have := h x0 hx0; omega
    · have := h x0 hx0; omega
  have hg : 0 < ga l := ga_pos hx0 hx0n
  have val : ∀ j, j < ss.length → ∃ q : Int, 0 < q ∧ ab (l.getD j 0) = ga l * q ∧ vecOf (cntTo n ss l ss.length) (ss.getD j 0) = q := fun j hj => by
    have hm : l.getD j 0 ∈ l := by rw [List.getD_eq_getElem?_getD, List.getElem?_eq_getElem (by omega)]; exact List.getElem_mem _
    obtain ⟨c, hc⟩ := ga_dvd hm
    have habs : ab (l.getD j 0) = ga l * c ∨ ab (l.getD j 0) = ga l * (-c) := by
      unfold ab
      split
      · right; rw [hc, Int.mul_neg]
      · left; exact hc
    have hpos : 0 < ab (l.getD j 0) := by
      unfold ab
      rcases hs with h | h
      · have := h _ hm; split <;> omega
      · have := h _ hm; split <;> omega
    have fin : ∀ q, ab (l.getD j 0) = ga l * q → 0 < q ∧ vecOf (cntTo n ss l ss.length) (ss.getD j 0) = q := fun q hq => by
      refine ⟨?_, ?_⟩
      · rw [hq] at hpos; exact Int.pos_of_mul_pos_right hpos (by omega)
      · unfold vecOf
        rw [cntTo_in nd hlt ss.length (Nat.le_refl _) hj, hq, Int.mul_fdiv_cancel_left _ (by omega)]
    rcases habs with h | h
    · exact ⟨c, (fin c h).1, h, (fin c h).2⟩
    · exact ⟨-c, (fin _ h).1, h, (fin _ h).2⟩
  have out : ∀ k, k ∉ ss → vecOf (cntTo n ss l ss.length) k = 0 := fun k hk => by
    unfold vecOf
    refine cntTo_out _ fun j hj e => hk ?_
    rw [← e, List.getD_eq_getElem?_getD, List.getElem?_eq_getElem hj]; exact List.getElem_mem _
  have idx : ∀ k, k ∈ ss → ∃ j, j < ss.length ∧ ss.getD j 0 = k := fun k hk => by
    obtain ⟨j, hj, e⟩ := List.getElem_of_mem hk
    exact ⟨j, hj, by rw [List.getD_eq_getElem?_getD, List.getElem?_eq_getElem hj]; exact e⟩
  have lf : ∀ (sg : Int), (∀ x ∈ l, x = sg * ab x) → ∀ k, lift ss (vecOf l) k = sg * ga l * vecOf (cntTo n ss l ss.length) k := fun sg hsg k => by
    by_cases hk : k ∈ ss
    · obtain ⟨j, hj, rfl⟩ := idx k hk
      rw [lift_at nd _ hj]
      obtain ⟨q, _, h1, h2⟩ := val j hj
      have hm : l.getD j 0 ∈ l := by rw [List.getD_eq_getElem?_getD, List.getElem?_eq_getElem (by omega)]; exact List.getElem_mem _
      rw [h2]
      show l.getD j 0 = _
      rw [hsg _ hm, h1, Int.mul_assoc]
    · rw [lift_out _ hk, out k hk, Int.mul_zero]
  have sup : ∀ k, k ∈ ss ↔ 0 < vecOf (cntTo n ss l ss.length) k := fun k => by
    constructor
    · intro hk
      obtain ⟨j, hj, rfl⟩ := idx k hk
      obtain ⟨q, h0, _, h2⟩ := val j hj
      rw [h2]; exact h0
    · intro h
      by_cases hk : k ∈ ss
      · exact hk
      · rw [out k hk] at h; omega
  have nn : ∀ k, 0 ≤ vecOf (cntTo n ss l ss.length) k := fun k => by
    by_cases hk : k ∈ ss
    · exact Int.le_of_lt ((sup k).mp hk)
    · rw [out k hk]; exact Int.le_refl 0
  rcases hs with h | h
  · refine ⟨1 * ga l, by omega, by omega, lf 1 fun x hx => ?_, sup, nn⟩
    have := h x hx; unfold ab; rw [if_neg (by omega)]; omega
  · refine ⟨-1 * ga l, by omega, by omega, lf (-1) fun x hx => ?_, sup, nn⟩
    have := h x hx; unfold ab; rw [if_pos (by omega)]; omega
theorem getD_mem {l : List Int} {j : Nat} (h : j < l.length) : l.getD j 0 ∈ l := by
  rw [List.getD_eq_getElem?_getD, List.getElem?_eq_getElem h]; exact List.getElem_mem _
theorem cnt_prim {n : Nat} {ss : List Nat} {l : List Int} (nd : ss.Nodup) (hlt : ∀ k ∈ ss, k < n) (hl : l.length = ss.length) (hs : OneSign l) (hn : l ≠ []) : ga (cntTo n ss l ss.length) = 1 := by
  obtain ⟨s, s0, sg, h1, h2, h3⟩ := cnt_lift nd hlt hl hs hn
  have key : s * ga (cntTo n ss l ss.length) ∣ ga l := ga_greatest fun x hx => by
    obtain ⟨j, hj, e⟩ := List.getElem_of_mem hx
    have e1 : vecOf l j = x := by unfold vecOf; rw [List.getD_eq_getElem?_getD, List.getElem?_eq_getElem hj]; exact e
    have hj' : j < ss.length := by omega
    have e2 := h1 (ss.getD j 0)
    rw [lift_at nd _ hj', e1] at e2
    rw [e2]
    have hk : ss.getD j 0 < n := by
      apply hlt
      rw [List.getD_eq_getElem?_getD, List.getElem?_eq_getElem hj']; exact List.getElem_mem _
    exact Int.mul_dvd_mul (Int.dvd_refl s) (ga_dvd (getD_mem (by rw [cntTo_len]; exact hk)))
  have key2 : s * ga (cntTo n ss l ss.length) ∣ s * 1 := by
    rcases sg with e | e
    · rw [Int.mul_one]; conv => rhs; rw [e]
      exact key
    · have : ga l = -s := by omega
      rw [this] at key
      rw [Int.mul_one]; exact (Int.dvd_neg).mp key
  have key3 : ga (cntTo n ss l ss.length) ∣ 1 := Int.dvd_of_mul_dvd_mul_left s0 key2
  have := ga_nonneg (cntTo n ss l ss.length)
  exact Int.eq_one_of_dvd_one this key3
theorem lift_ker {ss : List Nat} {n w : Nat} {rows : Nat → List Int} (hlt : ∀ k ∈ ss, k < n) {c : Vec} (h : Ker (wares w ss.length fun i => rows (ss.getD i 0)) ss.length c) : KerS (wares w n rows) (fun k => k ∈ ss) (lift ss c) := by
  refine ⟨fun k hk => lift_out _ hk, fun f hf => ?_⟩
  obtain ⟨j, hj, rfl⟩ := List.mem_map.mp hf
  rw [lift_phi hlt]
  exact h.ev _ (List.mem_map.mpr ⟨j, hj, rfl⟩)
theorem rest_ker {ss : List Nat} {n w : Nat} {rows : Nat → List Int} (nd : ss.Nodup) (hlt : ∀ k ∈ ss, k < n) {d : Vec} (h : KerS (wares w n rows) (fun k => k ∈ ss) d) : Ker (wares w ss.length fun i => rows (ss.getD i 0)) ss.length (rest ss d) := by
  refine ⟨fun k hk => by unfold rest; rw [if_neg (by omega)], fun f hf => ?_⟩
  obtain ⟨j, hj, rfl⟩ := List.mem_map.mp hf
  have := lift_phi (M := fun k j => (rows k).getD j 0) hlt (rest ss d) j
  rw [lift_rest nd h.sup] at this
  rw [← this]
  exact h.ev _ (List.mem_map.mpr ⟨j, hj, rfl⟩)
theorem scale_zero {f : Vec → Int} (hf : IsLin f) {s : Int} (s0 : s ≠ 0) {v : Vec} (h : f (fun k => s * v k) = 0) : f v = 0 := by
  have := hf.add s v (fun _ => 0)
  simp only [Int.add_zero] at this
  rw [this, hf.zero, Int.add_zero] at h
  rcases Int.mul_eq_zero.mp h with e | e
  · exact absurd e s0
  · exact e
/-- a set that the law takes has a lean round, and its counts are that -/
theorem accept {w : Nat} {m : List (List Int)} {ss : List Nat} (hw : ∀ row ∈ m, row.length = w) (nd : ss.Nodup) (hlt : ∀ k ∈ ss, k < m.length) (hE : (evenOf w ss.length (rowsAt m ss)).length = 1) (hs : OneSign ((evenOf w ss.length (rowsAt m ss)).getD 0 [])) :
    LeanR (wares w m.length (rowsOf m)) m.length (vecOf (cntTo m.length ss ((evenOf w ss.length (rowsAt m ss)).getD 0 []) ss.length)) ∧ (∀ k, k ∈ ss ↔ 0 < vecOf (cntTo m.length ss ((evenOf w ss.length (rowsAt m ss)).getD 0 []) ss.length) k) ∧ ga (cntTo m.length ss ((evenOf w ss.length (rowsAt m ss)).getD 0 []) ss.length) = 1 := by
  have hrow : ∀ k, k < ss.length → (rowsAt m ss k).length = w := fun k hk => by
    unfold rowsAt
    have hk' : ss.getD k 0 < m.length := by
      rw [List.getD_eq_getElem?_getD, List.getElem?_eq_getElem hk]
      exact hlt _ (List.getElem_mem hk)
    rw [List.getD_eq_getElem?_getD, List.getElem?_eq_getElem hk']
    exact hw _ (List.getElem_mem hk')
  have hone := (even_one hrow).mp hE
  have hmany := (even_many hrow).1
  have hvec := even_vec hrow
  have hlen := even_lens hrow
  generalize hEv : evenOf w ss.length (rowsAt m ss) = Ev at *
  obtain ⟨l, rfl⟩ := List.length_eq_one_iff.mp hE
  have e0 : List.getD [l] 0 [] = l := rfl
  rw [e0] at hs ⊢
  have hl : l.length = ss.length := hlen l (List.mem_singleton.mpr rfl)
  have hn : l ≠ [] := by
    rintro rfl
    rw [hE] at hmany
    rw [← hl] at hmany; exact absurd hmany (by decide)
  have hker : Ker (wares w ss.length (rowsAt m ss)) ss.length (vecOf l) := left_ker (wares_lin _ _ _) _ (by rw [← hvec]; exact List.mem_singleton.mpr rfl)
  have hkS : KerS (wares w m.length (rowsOf m)) (fun k => k ∈ ss) (lift ss (vecOf l)) := lift_ker (rows := rowsOf m) hlt hker
  obtain ⟨s, s0, sg, h1, h2, h3⟩ := cnt_lift nd hlt hl hs hn
  have hR : Round (wares w m.length (rowsOf m)) m.length (vecOf (cntTo m.length ss l ss.length)) := by
    refine ⟨fun k hk => ?_, h3, ?_, fun f hf => ?_⟩
    · have := h3 k
      have nk : ¬ 0 < vecOf (cntTo m.length ss l ss.length) k := fun q => by have := hlt k ((h2 k).mpr q); omega
      omega
    · have hss1 : 0 < ss.length := by omega
      exact ⟨ss[0], (h2 _).mp (List.getElem_mem hss1)⟩
    · refine scale_zero (wares_lin _ _ _ f hf) s0 (v := vecOf (cntTo m.length ss l ss.length)) ?_
      have : (fun k => s * vecOf (cntTo m.length ss l ss.length) k) = lift ss (vecOf l) := funext fun k => (h1 k).symm
      rw [this]; exact hkS.ev f hf
  refine ⟨(lean_iff (wares_lin _ _ _) hR).mpr ?_, h2, cnt_prim nd hlt hl hs hn⟩
  have hpred : (fun k => 0 < vecOf (cntTo m.length ss l ss.length) k) = fun k => k ∈ ss := funext fun k => propext (h2 k).symm
  rw [hpred]
  exact (one_some (rows := rowsOf m) nd hlt).mp hone
theorem ga_mul (t : Int) (xs : List Int) : ga (xs.map (t * ·)) = ab t * ga xs := by
  have key : ∀ (xs : List Int) (c : Int), 0 ≤ c → (xs.map (t * ·)).foldl (fun c x => g c (ab x)) (ab t * c) = ab t * xs.foldl (fun c x => g c (ab x)) c := by
    intro xs
    induction xs with
    | nil => intro c _; rfl
    | cons y r ih =>
      intro c hc
      have e : g (ab t * c) (ab (t * y)) = ab t * g c (ab y) := by
        have e1 : ab (t * y) = ab t * ab y := by
          have : ∀ x : Int, ab x = (x.natAbs : Int) := fun x => by unfold ab; split <;> omega
          rw [this, this, this, Int.natAbs_mul]; simp
        rw [e1]
        unfold g
        rw [Int.gcd_mul_left]
        have : ((ab t).natAbs : Int) = ab t := by have := ab_nonneg t; omega
        rw [Int.natCast_mul, this]
      rw [List.map_cons, List.foldl_cons, List.foldl_cons]
      show List.foldl _ (g (ab t * c) (ab (t * y))) _ = _
      rw [e]
      exact ih _ (g_nonneg _ _)
  have := key xs 0 (Int.le_refl 0)
  rw [Int.mul_zero] at this
  exact this
theorem ga_mul_dvd {p t : Int} {xs : List Int} (h : ∀ x ∈ xs, p ∣ t * x) : p ∣ t * ga xs := by
  have h1 : p ∣ ga (xs.map (t * ·)) := ga_greatest fun x hx => by
    obtain ⟨y, hy, rfl⟩ := List.mem_map.mp hx
    exact h y hy
  rw [ga_mul] at h1
  unfold ab at h1
  split at h1
  · rw [Int.neg_mul] at h1; exact Int.dvd_neg.mp h1
  · exact h1
/-- two rows in lowest terms, without numbers below nought, multiples of each other -/
theorem prim_eq {xs ys : List Int} {a t : Int} (hl : xs.length = ys.length) (ha : a ≠ 0) (h : ∀ k, a * vecOf xs k = t * vecOf ys k) (gx : ga xs = 1) (gy : ga ys = 1) (nx : ∀ k, 0 ≤ vecOf xs k) (ny : ∀ k, 0 ≤ vecOf ys k) : xs = ys := by
  have at1 : ∀ {zs : List Int} {x : Int}, x ∈ zs → ∃ k, vecOf zs k = x := fun {zs x} hx => by
    obtain ⟨j, hj, e⟩ := List.getElem_of_mem hx
    exact ⟨j, by unfold vecOf; rw [List.getD_eq_getElem?_getD, List.getElem?_eq_getElem hj]; exact e⟩
  have d1 : a ∣ t := by
    have := ga_mul_dvd (p := a) (t := t) (xs := ys) fun y hy => by
      obtain ⟨k, rfl⟩ := at1 hy
      exact ⟨_, (h k).symm⟩
    rw [gy, Int.mul_one] at this; exact this
  have d2 : t ∣ a := by
    have := ga_mul_dvd (p := t) (t := a) (xs := xs) fun y hy => by
      obtain ⟨k, rfl⟩ := at1 hy
      exact ⟨_, h k⟩
    rw [gx, Int.mul_one] at this; exact this
  have hnat : a.natAbs = t.natAbs := Nat.dvd_antisymm (Int.natAbs_dvd_natAbs.mpr d1) (Int.natAbs_dvd_natAbs.mpr d2)
  have hsome : ∃ x ∈ xs, x ≠ 0 := Classical.byContradiction fun q => by
    have : ga xs = 0 := ga_zero fun x hx => Classical.byContradiction fun hx0 => q ⟨x, hx, hx0⟩
    omega
  obtain ⟨x, hx, hx0⟩ := hsome
  obtain ⟨k0, rfl⟩ := at1 hx
  have eqv : ∀ k, vecOf xs k = vecOf ys k := by
    have hcase : t = a ∨ t = -a := by omega
    rcases hcase with rfl | rfl
    · exact fun k => Int.eq_of_mul_eq_mul_left ha (h k)
    · exfalso
      have h0 := h k0
      rw [Int.neg_mul] at h0
      have h1 : a * (vecOf xs k0 + vecOf ys k0) = 0 := by rw [Int.mul_add]; omega
      rcases Int.mul_eq_zero.mp h1 with e | e
      · exact ha e
      · have := nx k0; have := ny k0; omega
  apply List.ext_getElem hl
  intro j h1 h2
  have := eqv j
  unfold vecOf at this
  rw [List.getD_eq_getElem?_getD, List.getD_eq_getElem?_getD, List.getElem?_eq_getElem h1, List.getElem?_eq_getElem h2] at this
  exact this
/-- the deeds of a lean round are taken, and the counts are the round in lowest terms -/
theorem lean_accept {w : Nat} {m : List (List Int)} {ss : List Nat} {c : List Int} (hw : ∀ row ∈ m, row.length = w) (nd : ss.Nodup) (hlt : ∀ k ∈ ss, k < m.length) (hc : LeanR (wares w m.length (rowsOf m)) m.length (vecOf c)) (hsup : ∀ k, k ∈ ss ↔ 0 < vecOf c k) :
    (evenOf w ss.length (rowsAt m ss)).length = 1 ∧ OneSign ((evenOf w ss.length (rowsAt m ss)).getD 0 []) ∧ ss.length ≤ w + 1 ∧ (c.length = m.length → ga c = 1 → cntTo m.length ss ((evenOf w ss.length (rowsAt m ss)).getD 0 []) ss.length = c) := by
  have hrow : ∀ k, k < ss.length → (rowsAt m ss k).length = w := fun k hk => by
    unfold rowsAt
    have hk' : ss.getD k 0 < m.length := by
      rw [List.getD_eq_getElem?_getD, List.getElem?_eq_getElem hk]
      exact hlt _ (List.getElem_mem hk)
    rw [List.getD_eq_getElem?_getD, List.getElem?_eq_getElem hk']
    exact hw _ (List.getElem_mem hk')
  have hpred : (fun k => 0 < vecOf c k) = fun k => k ∈ ss := funext fun k => propext (hsup k).symm
  have h1S := (lean_iff (wares_lin _ _ _) hc.1).mp hc
  rw [hpred] at h1S
  have hker1 : Ker1 (wares w ss.length (rowsAt m ss)) ss.length := (one_some (rows := rowsOf m) nd hlt).mpr h1S
  have hE := (even_one hrow).mpr hker1
  have hmany := (even_many hrow).2
  have hvec := even_vec hrow
  have hlen := even_lens hrow
  have hind : Indep (elim (wares w ss.length (rowsAt m ss)) (units ss.length)) := elim_indep (units_indep _)
  generalize hEv : evenOf w ss.length (rowsAt m ss) = Ev at *
  obtain ⟨l, rfl⟩ := List.length_eq_one_iff.mp hE
  have e0 : List.getD [l] 0 [] = l := rfl
  rw [e0]
  have hl : l.length = ss.length := hlen l (List.mem_singleton.mpr rfl)
  have hcS : KerS (wares w m.length (rowsOf m)) (fun k => k ∈ ss) (vecOf c) := ⟨fun k hk => by have := hc.1.nn k; have h' : ¬ 0 < vecOf c k := fun q => hk ((hsup k).mpr q); omega, hc.1.ev⟩
  have hcK := rest_ker (rows := rowsOf m) nd hlt hcS
  obtain ⟨a, ha, hsp⟩ := ker_left (wares_lin w ss.length (rowsAt m ss)) hcK
  have hvec' : elim (wares w ss.length (rowsAt m ss)) (units ss.length) = [vecOf l] := hvec.symm
  rw [hvec'] at hsp
  obtain ⟨b, hb⟩ := span_one hsp
  have hpos : ∀ j, j < ss.length → 0 < rest ss (vecOf c) j := fun j hj => by
    unfold rest
    rw [if_pos hj]
    apply (hsup _).mp
    rw [List.getD_eq_getElem?_getD, List.getElem?_eq_getElem hj]; exact List.getElem_mem _
  have hss1 : 0 < ss.length := by
    obtain ⟨k, hk⟩ := hc.1.some
    exact List.length_pos_of_mem ((hsup k).mpr hk)
  have hb0 : b ≠ 0 := by
    intro e
    have := hb 0
    rw [e, Int.zero_mul] at this
    rcases Int.mul_eq_zero.mp this with q | q
    · exact ha q
    · have := hpos 0 hss1; omega
  have hl0 : l ≠ [] := by
    rintro rfl
    rw [← hl] at hss1; exact absurd hss1 (by decide)
  have hOS : OneSign l := by
    have hx : ∀ x ∈ l, ∃ q : Int, 0 < q ∧ a * q = b * x := fun x hx => by
      obtain ⟨j, hj, e⟩ := List.getElem_of_mem hx
      refine ⟨_, hpos j (by omega), ?_⟩
      rw [hb j]
      unfold vecOf
      rw [List.getD_eq_getElem?_getD, List.getElem?_eq_getElem hj, ← e]; rfl
    by_cases hab : (0 < a ∧ 0 < b) ∨ (a < 0 ∧ b < 0)
    · left
      intro x hx'
      obtain ⟨q, q0, e⟩ := hx x hx'
      rcases hab with ⟨a0, b0⟩ | ⟨a0, b0⟩
      · have : 0 < b * x := by rw [← e]; exact Int.mul_pos a0 q0
        exact Int.pos_of_mul_pos_right this (by omega)
      · have : 0 < (-b) * x := by rw [Int.neg_mul, ← e, ← Int.neg_mul]; exact Int.mul_pos (by omega) q0
        exact Int.pos_of_mul_pos_right this (by omega)
    · right
      intro x hx'
      obtain ⟨q, q0, e⟩ := hx x hx'
      have hab' : (0 < a ∧ b < 0) ∨ (a < 0 ∧ 0 < b) := by omega
      rcases hab' with ⟨a0, b0⟩ | ⟨a0, b0⟩
      · have : 0 < (-b) * (-x) := by rw [Int.neg_mul_neg, ← e]; exact Int.mul_pos a0 q0
        have := Int.pos_of_mul_pos_right this (by omega)
        omega
      · have : 0 < b * (-x) := by rw [Int.mul_neg, ← e, ← Int.neg_mul]; exact Int.mul_pos (by omega) q0
        have := Int.pos_of_mul_pos_right this (by omega)
        omega
  refine ⟨hE, hOS, by rw [hE] at hmany; omega, fun hcl hcg => ?_⟩
  obtain ⟨s, s0, sg, h1, h2, h3⟩ := cnt_lift nd hlt hl hOS hl0
  refine (prim_eq (a := a) (t := b * s) (xs := c) (by rw [cntTo_len]; exact hcl) ha (fun k => ?_) hcg (cnt_prim nd hlt hl hOS hl0) hc.1.nn h3).symm
  rw [Int.mul_assoc, ← h1 k]
  by_cases hk : k ∈ ss
  · obtain ⟨j, hj, e⟩ := List.getElem_of_mem hk
    have e' : ss.getD j 0 = k := by rw [List.getD_eq_getElem?_getD, List.getElem?_eq_getElem hj, ← e]; rfl
    rw [← e', lift_at nd _ hj, ← hb j]
    unfold rest
    rw [if_pos hj]
  · rw [lift_out _ hk, hcS.sup k hk]; simp
end My

set_option Elab.async false
set_option linter.all false
namespace My
/-! The order of the list, and that it holds all -/
theorem bits_of (q : Nat → Bool) : ∀ n, ∃ b, b < 2 ^ n ∧ ∀ i, i < n → b.testBit i = q i := by
  intro n
  induction n generalizing q with
  | zero => exact ⟨0, by decide, fun i hi => absurd hi (Nat.not_lt_zero i)⟩
  | succ n ih =>
    obtain ⟨b, hb, h⟩ := ih fun i => q (i + 1)
    refine ⟨2 * b + (if q 0 then 1 else 0), by rw [Nat.pow_succ]; split <;> omega, fun i hi => ?_⟩
    cases i with
    | zero =>
      rw [Nat.testBit_zero]
      cases e : q 0
      · simp
      · simp
    | succ i =>
      rw [Nat.testBit_succ]
      have e : (2 * b + (if q 0 then 1 else 0)) / 2 = b := by split <;> omega
      rw [e]; exact h i (by omega)
theorem bit_lt : ∀ (x y : Nat), x < y → ∃ i, x.testBit i = false ∧ y.testBit i = true ∧ ∀ j, i < j → x.testBit j = y.testBit j
  | x, y => fun h => by
    by_cases h2 : x / 2 < y / 2
    · obtain ⟨i, h3, h4, h5⟩ := bit_lt (x / 2) (y / 2) h2
      refine ⟨i + 1, by rw [Nat.testBit_succ]; exact h3, by rw [Nat.testBit_succ]; exact h4, fun j hj => ?_⟩
      obtain ⟨j, rfl⟩ : ∃ j', j = j' + 1 := ⟨j - 1, by omega⟩
      rw [Nat.testBit_succ, Nat.testBit_succ]; exact h5 j (by omega)
    · have e : x / 2 = y / 2 := by omega
      refine ⟨0, by rw [Nat.testBit_zero]; simp; omega, by rw [Nat.testBit_zero]; simp; omega, fun j hj => ?_⟩
      obtain ⟨j, rfl⟩ : ∃ j', j = j' + 1 := ⟨j - 1, by omega⟩
      rw [Nat.testBit_succ, Nat.testBit_succ, e]
termination_by x y => y
decreasing_by omega
/-- goes ahead: the first deed that only one of them has, the first one has -/
def Ahead (a b : List Int) : Prop := ∃ k, (∀ j, j < k → (0 < vecOf a j ↔ 0 < vecOf b j)) ∧ 0 < vecOf a k ∧ ¬ 0 < vecOf b k
theorem Ahead.asym {a b : List Int} (h : Ahead a b) : ¬ Ahead b a := by
  rintro ⟨k2, h4, h5, h6⟩
  obtain ⟨k1, h1, h2, h3⟩ := h
  rcases Nat.lt_trichotomy k1 k2 with h | h | h
  · exact h3 ((h4 k1 h).mpr h2)
  · rw [h] at h2; exact h6 h2
  · exact h6 ((h1 k2 h).mpr h5)
theorem sorted_unique {α : Type} {R : α → α → Prop} (asym : ∀ a b, R a b → ¬ R b a) : ∀ {l1 l2 : List α}, l1.Pairwise R → l2.Pairwise R → (∀ x, x ∈ l1 ↔ x ∈ l2) → l1 = l2
  | [], [], _, _, _ => rfl
  | [], b :: t, _, _, h => absurd ((h b).mpr (.head _)) (by simp)
  | a :: t, [], _, _, h => absurd ((h a).mp (.head _)) (by simp)
  | a :: t1, b :: t2, h1, h2, h => by
    obtain ⟨p1, q1⟩ := List.pairwise_cons.mp h1
    obtain ⟨p2, q2⟩ := List.pairwise_cons.mp h2
    have eab : a = b := by
      rcases List.mem_cons.mp ((h a).mp (.head _)) with e | e
      · exact e
      · rcases List.mem_cons.mp ((h b).mpr (.head _)) with e2 | e2
        · exact e2.symm
        · exact absurd (p1 b e2) (asym _ _ (p2 a e))
    subst eab
    congr 1
    refine sorted_unique asym q1 q2 fun x => ⟨fun hx => ?_, fun hx => ?_⟩
    · rcases List.mem_cons.mp ((h x).mp (.tail _ hx)) with e | e
      · subst e; exact absurd (p1 x hx) (asym _ _ (p1 x hx))
      · exact e
    · rcases List.mem_cons.mp ((h x).mpr (.tail _ hx)) with e | e
      · subst e; exact absurd (p2 x hx) (asym _ _ (p2 x hx))
      · exact e
/-! the list itself -/
abbrev evenB (w : Nat) (m : List (List Int)) (b : Nat) : List (List Int) := evenOf w (setOf m.length b).length (rowsAt m (setOf m.length b))
def Take (w : Nat) (m : List (List Int)) (b : Nat) : Prop := (evenB w m b).length = 1 ∧ OneSign ((evenB w m b).getD 0 [])
instance {w : Nat} {m : List (List Int)} {b : Nat} : Decidable (Take w m b) := inferInstanceAs (Decidable (_ ∧ _))
def cntB (w : Nat) (m : List (List Int)) (b : Nat) : List Int := cntTo m.length (setOf m.length b) ((evenB w m b).getD 0 []) (setOf m.length b).length
def leanN (w : Nat) (m : List (List Int)) : Nat → List (Nat × List Int)
  | 0 => []
  | i + 1 => if (leanN w m i).filter (fun f => decide (f.1 &&& (i + 1) = f.1)) = [] ∧ (setOf m.length (i + 1)).length ≤ w + 1 then (if Take w m (i + 1) then leanN w m i ++ [(i + 1, cntB w m (i + 1))] else leanN w m i) else leanN w m i
def takes (w : Nat) (m : List (List Int)) (i : Nat) : List Nat := (List.range' 1 i).filter fun b => decide (Take w m b)
theorem set_lt {n b : Nat} : ∀ k ∈ setOf n b, k < n := fun k hk => (setOf_mem.mp hk).1
theorem set_sub {n b b' : Nat} (h : b' &&& b = b') : ∀ k ∈ setOf n b', k ∈ setOf n b := fun k hk => by
  obtain ⟨h1, h2⟩ := setOf_mem.mp hk
  refine setOf_mem.mpr ⟨h1, ?_⟩
  rw [← h, Nat.testBit_and] at h2
  simp at h2; exact h2.2
theorem set_inj {n b b' : Nat} (hb : b < 2 ^ n) (hb' : b' < 2 ^ n) (h : ∀ k, k ∈ setOf n b ↔ k ∈ setOf n b') : b = b' := by
  apply Nat.eq_of_testBit_eq
  intro i
  by_cases hi : i < n
  · have := h (n - 1 - i)
    rw [setOf_mem, setOf_mem] at this
    have e : n - 1 - (n - 1 - i) = i := by omega
    rw [e] at this
    have h' : n - 1 - i < n := by omega
    simp only [h', true_and] at this
    rw [Bool.eq_iff_iff]; exact this
  · rw [Nat.testBit_lt_two_pow (Nat.lt_of_lt_of_le hb (Nat.pow_le_pow_right (by decide) (by omega))), Nat.testBit_lt_two_pow (Nat.lt_of_lt_of_le hb' (Nat.pow_le_pow_right (by decide) (by omega)))]
theorem take_ok {w : Nat} {m : List (List Int)} (hw : ∀ row ∈ m, row.length = w) {b : Nat} (h : Take w m b) :
    LeanR (wares w m.length (rowsOf m)) m.length (vecOf (cntB w m b)) ∧ (∀ k, k ∈ setOf m.length b ↔ 0 < vecOf (cntB w m b) k) ∧ ga (cntB w m b) = 1 := accept hw (setOf_nodup _ _) set_lt h.1 h.2
theorem leanN_eq {w : Nat} {m : List (List Int)} (hw : ∀ row ∈ m, row.length = w) : ∀ i, i < 2 ^ m.length → leanN w m i = (takes w m i).map fun b => (b, cntB w m b)
  | 0, _ => rfl
  | i + 1, hi => by
    have ih := leanN_eq hw i (by omega)
    unfold leanN
    have hsucc : takes w m (i + 1) = takes w m i ++ if Take w m (i + 1) then [i + 1] else [] := by
      unfold takes
      rw [List.range'_1_concat, List.filter_append]
      congr 1
      rw [List.filter_cons, List.filter_nil]
      have : 1 + i = i + 1 := by omega
      rw [this]
      by_cases h : Take w m (i + 1)
      · rw [if_pos h, if_pos (by simpa using h)]
      · rw [if_neg h, if_neg (by simpa using h)]
    rw [hsucc]
    by_cases h : Take w m (i + 1)
    · have hov : (leanN w m i).filter (fun f => decide (f.1 &&& (i + 1) = f.1)) = [] := by
        rw [List.filter_eq_nil_iff]
        intro f hf hd
        rw [ih] at hf
        obtain ⟨b', hb', rfl⟩ := List.mem_map.mp hf
        unfold takes at hb'
        obtain ⟨hr, ht⟩ := List.mem_filter.mp hb'
        rw [List.mem_range'_1] at hr
        have ht' : Take w m b' := by simpa using ht
        have hd' : b' &&& (i + 1) = b' := by simpa using hd
        obtain ⟨l1, s1, _⟩ := take_ok hw h
        obtain ⟨l2, s2, _⟩ := take_ok hw ht'
        have hall := l1.2 _ l2.1 (fun k hk => (s1 k).mp (set_sub hd' k ((s2 k).mpr hk)))
        have : b' = i + 1 := set_inj (n := m.length) (by omega) hi fun k => ⟨set_sub hd' k, fun hk => (s2 k).mpr (hall k ((s1 k).mp hk))⟩
        omega
      have hlen : (setOf m.length (i + 1)).length ≤ w + 1 := by
        obtain ⟨l1, s1, _⟩ := take_ok hw h
        exact (lean_accept hw (setOf_nodup _ _) set_lt l1 s1).2.2.1
      rw [if_pos ⟨hov, hlen⟩, if_pos h, if_pos h, ih, List.map_append]; rfl
    · rw [if_neg h, if_neg h, List.append_nil, ← ih]
      split <;> rfl
def leanL (w : Nat) (m : List (List Int)) : List (List Int) := ((leanN w m (2 ^ m.length - 1)).reverse).map Prod.snd
theorem leanL_eq {w : Nat} {m : List (List Int)} (hw : ∀ row ∈ m, row.length = w) : leanL w m = (takes w m (2 ^ m.length - 1)).reverse.map (cntB w m) := by
  unfold leanL
  have := Nat.two_pow_pos m.length
  rw [leanN_eq hw _ (by omega), ← List.map_reverse, List.map_map]; rfl
/-- it holds the lean rounds in lowest terms, and nothing else -/
theorem leanL_mem {w : Nat} {m : List (List Int)} (hw : ∀ row ∈ m, row.length = w) (c : List Int) : c ∈ leanL w m ↔ c.length = m.length ∧ LeanR (wares w m.length (rowsOf m)) m.length (vecOf c) ∧ ga c = 1 := by
  have h2 := Nat.two_pow_pos m.length
  rw [leanL_eq hw, List.mem_map]
  constructor
  · rintro ⟨b, hb, rfl⟩
    rw [List.mem_reverse] at hb
    have ht : Take w m b := by simpa using (List.mem_filter.mp hb).2
    obtain ⟨l1, _, l3⟩ := take_ok hw ht
    exact ⟨cntTo_len _, l1, l3⟩
  · rintro ⟨hl, hc, hg⟩
    obtain ⟨b, hb, hbit⟩ := bits_of (fun i => decide (0 < vecOf c (m.length - 1 - i))) m.length
    have hsup : ∀ k, k ∈ setOf m.length b ↔ 0 < vecOf c k := fun k => by
      rw [setOf_mem]
      constructor
      · rintro ⟨h1, h3⟩
        rw [hbit _ (by omega)] at h3
        have e : m.length - 1 - (m.length - 1 - k) = k := by omega
        rw [e] at h3; simpa using h3
      · intro h
        have hk : k < m.length := Classical.byContradiction fun q => by
          have := hc.1.sup k (by omega); omega
        refine ⟨hk, ?_⟩
        rw [hbit _ (by omega)]
        have e : m.length - 1 - (m.length - 1 - k) = k := by omega
        rw [e]; simpa using h
    obtain ⟨a1, a2, _, a4⟩ := lean_accept hw (setOf_nodup _ _) set_lt hc hsup
    have hb0 : b ≠ 0 := by
      rintro rfl
      obtain ⟨k, hk⟩ := hc.1.some
      have := (setOf_mem.mp ((hsup k).mpr hk)).2
      simp at this
    refine ⟨b, ?_, a4 hl hg⟩
    rw [List.mem_reverse]
    refine List.mem_filter.mpr ⟨by rw [List.mem_range'_1]; omega, decide_eq_true (show Take w m b from ⟨a1, a2⟩)⟩
/-- .. in the order of their deeds -/
theorem leanL_sorted {w : Nat} {m : List (List Int)} (hw : ∀ row ∈ m, row.length = w) : (leanL w m).Pairwise Ahead := by
  have h2 := Nat.two_pow_pos m.length
  rw [leanL_eq hw, List.pairwise_map, List.pairwise_reverse]
  have hp : (takes w m (2 ^ m.length - 1)).Pairwise (fun a b => a < b) := List.Pairwise.filter _ (List.pairwise_lt_range' ..)
  refine List.Pairwise.imp_of_mem ?_ hp
  intro a b ha hb hab
  have ta : Take w m a := by simpa using (List.mem_filter.mp ha).2
  have tb : Take w m b := by simpa using (List.mem_filter.mp hb).2
  have rb := (List.mem_filter.mp hb).1
  rw [List.mem_range'_1] at rb
  obtain ⟨_, s1, _⟩ := take_ok hw ta
  obtain ⟨_, s2, _⟩ := take_ok hw tb
  obtain ⟨i, e1, e2, e3⟩ := bit_lt a b hab
  have hi : i < m.length := Classical.byContradiction fun q => by
    have : b.testBit i = false := Nat.testBit_lt_two_pow (Nat.lt_of_lt_of_le (show b < 2 ^ m.length by omega) (Nat.pow_le_pow_right (by decide) (by omega)))
    rw [this] at e2; cases e2
  have e : m.length - 1 - (m.length - 1 - i) = i := by omega
  refine ⟨m.length - 1 - i, fun j hj => ?_, ?_, fun q => ?_⟩
  · rw [← s1, ← s2, setOf_mem, setOf_mem, e3 (m.length - 1 - j) (by omega)]
  · rw [← s2, setOf_mem, e]; exact ⟨by omega, e2⟩
  · rw [← s1, setOf_mem, e, e1] at q
    exact absurd q.2 (by decide)
/-- a list with the same members in the same order is the same -/
theorem leanL_unique {w : Nat} {m L : List (List Int)} (hw : ∀ row ∈ m, row.length = w) (h : ∀ c, c ∈ L ↔ c.length = m.length ∧ LeanR (wares w m.length (rowsOf m)) m.length (vecOf c) ∧ ga c = 1) (hs : L.Pairwise Ahead) : L = leanL w m :=
  sorted_unique (fun _ _ h => h.asym) hs (leanL_sorted hw) fun c => by rw [h, leanL_mem hw]
theorem leanL_len {w : Nat} {m : List (List Int)} (hw : ∀ row ∈ m, row.length = w) : (leanL w m).length ≤ 2 ^ m.length - 1 := by
  rw [leanL_eq hw, List.length_map, List.length_reverse]
  unfold takes
  exact Nat.le_trans (List.length_filter_le _ _) (by rw [List.length_range']; exact Nat.le_refl _)
end My

set_option Elab.async false
set_option linter.all false
set_option maxRecDepth 100000
set_option maxHeartbeats 4000000
--NEW
--CUT law
--CUT _law_works
--EXPL _law_works
--LISTFN _law_works
--LIST law _law_done _law_off
namespace My
open PySem L2 PyProof.Rows
def top (i : Nat) : Stmt := PySem.Challenge.pw_leanmodes_k04_ends.main.body.getD i (.Pass ⟨0, 0, 0, 0⟩)
abbrev s_end_of : Stmt := top 1
abbrev s_ends : Stmt := top 2
abbrev s_uneven : Stmt := top 3
abbrev s_places : Stmt := top 4
abbrev s_is_round : Stmt := top 5
abbrev s_law_at : Stmt := top 7
abbrev s_law_mix : Stmt := top 8
abbrev s_law_draws : Stmt := top 9
abbrev s_law_row : Stmt := top 10
abbrev s_law_works : Stmt := top 11
abbrev s_law_whole : Stmt := top 12
abbrev s_law_row_is : Stmt := top 13
abbrev s_law_kept : Stmt := top 14
abbrev s_law_sums : Stmt := top 15
abbrev s_law : Stmt := top 16

structure Bi (mg : Str → Option Value) : Prop where
  bool : mg "bool" = none
  enumerate : mg "enumerate" = none
  int : mg "int" = none
  isinstance : mg "isinstance" = none
  len : mg "len" = none
  list : mg "list" = none
  range : mg "range" = none
  sum : mg "sum" = none
  zip : mg "zip" = none
structure Txt (K : PySem.W.Frag) (mg : Str → Option Value) : Prop where
  B : Bi mg
  end_of : TF K mg "end_of" s_end_of ["deeds", "counts", "ware"]
  ends : TF K mg "ends" s_ends ["width", "deeds", "counts"]
  uneven : TF K mg "uneven" s_uneven ["width", "deeds", "counts"]
  places : TF K mg "places" s_places ["counts"]
  is_round : TF K mg "is_round" s_is_round ["width", "deeds", "counts"]
  law_at : TF K mg "_law_at" s_law_at ["_law_script", "_law_k"]
  law_mix : TF K mg "_law_mix" s_law_mix ["_law_cell", "_law_k"]
  law_draws : TF K mg "_law_draws" s_law_draws ["_law_cell", "_law_many", "_law_size", "_law_mixed"]
  law_row : TF K mg "_law_row" s_law_row ["_law_cell", "_law_width", "_law_way"]
  law_works : TF K mg "_law_works" s_law_works ["_law_script"]
  law_whole : TF K mg "_law_whole" s_law_whole ["_law_found"]
  law_row_is : TF K mg "_law_row_is" s_law_row_is ["_law_found", "_law_due"]
  law_kept : TF K mg "_law_kept" s_law_kept ["_law_found", "_law_due"]
  law_sums : TF K mg "_law_sums" s_law_sums ["_law_width", "_law_deeds", "_law_counts"]
  law : TF K mg "law" s_law ["_law_script"]

def sp_d2 : Sp := fun vs H Q _ => ∃ a b, vs = [.int a, .int b] ∧ 0 ≤ a ∧ 0 ≤ b ∧ Q (.int (g a b)) H
def sp_div (K : PySem.W.Frag) : Sp := fun vs H Q _ => ∃ (l : Addr) (xs : List Int), vs = [.ref l] ∧ SqL K H l (xs.map V.int) ∧ Q (.int (ga xs)) H
def sp_at (K : PySem.W.Frag) : Sp := fun vs H Q _ => ∃ (l : Addr) (k : Int), vs = [.ref l, .int k] ∧ 0 ≤ k ∧ ∃ ns : List Int, SqL K H l (ns.map V.int) ∧ Q (.int (ns.getD k.toNat 0)) H
def sp_whole : Sp := fun vs H Q _ => ∃ i, vs = [.int i] ∧ Q (.bl true) H
def sp_row (K : PySem.W.Frag) : Sp := fun vs H Q _ => ∃ (a b : Addr) (xs ys : List Int), vs = [.ref a, .ref b] ∧ H a = some (.lst (xs.map V.int)) ∧ SqL K H b (ys.map V.int) ∧ ∀ H', Same H H' → Q (.bl (decide (xs = ys))) H'
theorem take_succ_of {α : Type} {xs : List α} {i : Nat} {x : α} (h : xs[i]? = some x) : xs.take (i + 1) = xs.take i ++ [x] := by
  rw [List.take_add_one, h]; rfl
theorem map_int {xs : List Int} {i : Nat} {y : V} (h : (xs.map V.int)[i]? = some y) : ∃ z, xs[i]? = some z ∧ y = V.int z := by
  rw [List.getElem?_map] at h
  cases e : xs[i]? with
  | none => rw [e] at h; cases h
  | some z => rw [e] at h; exact ⟨z, rfl, (Option.some.inj h).symm⟩
theorem gTup2 {K : PySem.W.Frag} {T : Addr} {v1 v2 : V} {i j : Nat} {σ : L2.St} {H : Hp} {Q : L2.St → Hp → Prop} (h : H T = some (.tup [v1, v2])) (q : Q ((σ.set i (some v1)).set j (some v2)) H) :
    gTup K 2 (gCons (gName i) (gCons (gName j) gNil)) (.ref T) σ H Q := ⟨T, _, rfl, SqT.of h, rfl, _, _, rfl, _, _, rfl, rfl, q⟩
theorem pick2 (x y n : Int) : ∃ z, atI [V.int x, V.int y] (n % 2) = some (V.int z) ∧ (z = x ∨ z = y) := by
  have h : n % 2 = 0 ∨ n % 2 = 1 := by omega
  rcases h with h | h
  · rw [h]; exact ⟨x, rfl, .inl rfl⟩
  · rw [h]; exact ⟨y, rfl, .inr rfl⟩
theorem e20 : (10 : Int) ^ Int.toNat 20 = 100000000000000000000 := by decide
theorem e39 : (10 : Int) ^ Int.toNat 39 = 1000000000000000000000000000000000000000 := by decide
theorem if_neg_of {c A B : Prop} [Decidable c] (h : ¬ c) (b : B) : if c then A else B := by rw [if_neg h]; exact b
theorem if_pos_of {c A B : Prop} [Decidable c] (h : c) (a : A) : if c then A else B := by rw [if_pos h]; exact a
/-- rows of ints: the list at d holds the lists rs, which hold the rows of m -/
def Mat (H : Hp) (d : Addr) (m : List (List Int)) : Prop := ∃ rs : List Addr, H d = some (.lst (rs.map V.ref)) ∧ Paired (fun r row => H r = some (.lst (List.map V.int row))) rs m ∧ d ∉ rs
theorem Paired.impL {α β : Type} {F G : α → β → Prop} : ∀ {l₁ : List α} {l₂ : List β}, Paired F l₁ l₂ → (∀ a b, F a b → G a b) → Paired G l₁ l₂
  | _, _, .nil, _ => .nil
  | _, _, .cons r t, f => .cons (f _ _ r) (Paired.impL t f)
theorem Mat.same {H H' : Hp} {d : Addr} {m : List (List Int)} (h : Mat H d m) (s : Same H H') : Mat H' d m := by
  obtain ⟨rs, h1, h2, h3⟩ := h
  exact ⟨rs, s _ _ h1, Paired.impL h2 fun a b e => s _ _ e, h3⟩
theorem Paired.getL {α β : Type} {F : α → β → Prop} : ∀ {l₁ : List α} {l₂ : List β} {i : Nat} {b : β}, Paired F l₁ l₂ → l₂[i]? = some b → ∃ a, l₁[i]? = some a ∧ F a b
  | _, _, _, _, .nil, e => by simp at e
  | _, _, 0, _, .cons r _, e => by simp at e; subst e; exact ⟨_, rfl, r⟩
  | _, _, i + 1, x, .cons _ t, e => by
    obtain ⟨u, h1, h2⟩ := Paired.getL (i := i) (b := x) t (by simpa using e)
    exact ⟨u, by simpa using h1, h2⟩
theorem Paired.snocL {α β : Type} {F : α → β → Prop} {a : α} {b : β} (h : F a b) : ∀ {l₁ : List α} {l₂ : List β}, Paired F l₁ l₂ → Paired F (l₁ ++ [a]) (l₂ ++ [b])
  | _, _, .nil => .cons h .nil
  | _, _, .cons r t => .cons r (Paired.snocL h t)
theorem Mat.nil {H : Hp} {d : Addr} (h : H d = some (.lst [])) : Mat H d [] := ⟨[], h, .nil, by simp⟩
theorem Paired.memL {α β : Type} {F : α → β → Prop} : ∀ {l₁ : List α} {l₂ : List β} {a : α}, Paired F l₁ l₂ → a ∈ l₁ → ∃ b, b ∈ l₂ ∧ F a b
  | _, _, _, .nil, h => nomatch h
  | _, _, a, .cons r t, h => by
    rcases List.mem_cons.mp h with rfl | h
    · exact ⟨_, .head _, r⟩
    · obtain ⟨b, h1, h2⟩ := Paired.memL t h
      exact ⟨b, .tail _ h1, h2⟩
theorem Paired.impM {α β : Type} {F G : α → β → Prop} : ∀ {l₁ : List α} {l₂ : List β}, Paired F l₁ l₂ → (∀ a b, a ∈ l₁ → F a b → G a b) → Paired G l₁ l₂
  | _, _, .nil, _ => .nil
  | _, _, .cons r t, f => .cons (f _ _ (.head _) r) (Paired.impM t fun a b h => f a b (.tail _ h))
/-- a row is put behind -/
theorem Mat.push {H : Hp} {d r : Addr} {m : List (List Int)} {row : List Int} (h : Mat H d m) (hr : H r = some (.lst (row.map V.int))) (hrd : r ≠ d) : ∃ zs, H d = some (.lst zs) ∧ zs.length = m.length ∧ Mat (upd H d (.lst (zs ++ [V.ref r]))) d (m ++ [row]) := by
  obtain ⟨rs, h1, h2, h3⟩ := h
  refine ⟨_, h1, by rw [List.length_map, h2.length], rs ++ [r], by rw [upd_same, List.map_append]; rfl, Paired.snocL (by rw [upd_ne hrd]; exact hr) (Paired.impM h2 fun a b ha e => ?_), ?_⟩
  · rw [upd_ne (by rintro rfl; exact h3 ha)]; exact e
  · intro z
    rcases List.mem_append.mp z with z | z
    · exact h3 z
    · exact hrd (List.mem_singleton.mp z).symm
/-- the row at a place -/
theorem Mat.row {K : PySem.W.Frag} {H : Hp} {d : Addr} {m : List (List Int)} {i : Nat} {row : List Int} (h : Mat H d m) (e : m[i]? = some row) : ∃ (rs : List Addr) (r : Addr), SqL K H d (rs.map V.ref) ∧ rs.length = m.length ∧ (rs.map V.ref)[i]? = some (V.ref r) ∧ H r = some (.lst (row.map V.int)) := by
  obtain ⟨rs, h1, h2, _⟩ := h
  obtain ⟨r, e1, e2⟩ := Paired.getL h2 e
  exact ⟨rs, r, SqL.of h1, h2.length, by rw [List.getElem?_map, e1]; rfl, e2⟩
theorem Mat.len {K : PySem.W.Frag} {H : Hp} {d : Addr} {m : List (List Int)} (h : Mat H d m) : ∃ rs : List Addr, SqL K H d (rs.map V.ref) ∧ rs.length = m.length := by
  obtain ⟨rs, h1, h2, _⟩ := h
  exact ⟨rs, SqL.of h1, h2.length⟩
theorem cut_take (xs : List V) (i : Nat) (h : i ≤ xs.length) : cutV xs none (some (i : Int)) = xs.take i := by
  unfold cutV
  have e1 : HT.sIx xs.length 0 none = 0 := by simp [HT.sIx]
  have e2 : HT.sIx xs.length xs.length (some (i : Int)) = i := by rw [HT.sIx_nat]; omega
  rw [e1, e2]; simp
theorem cut_drop (xs : List V) (i : Nat) (h : i ≤ xs.length) : cutV xs (some (i : Int)) none = xs.drop i := by
  unfold cutV
  have e1 : HT.sIx xs.length 0 (some (i : Int)) = i := by rw [HT.sIx_nat]; omega
  have e2 : HT.sIx xs.length xs.length none = xs.length := by simp [HT.sIx]
  rw [e1, e2]
  exact List.take_of_length_le (by rw [List.length_drop]; omega)
theorem Paired.takeL {α β : Type} {F : α → β → Prop} : ∀ {l₁ : List α} {l₂ : List β} (n : Nat), Paired F l₁ l₂ → Paired F (l₁.take n) (l₂.take n)
  | _, _, 0, _ => by simpa using Paired.nil
  | _, _, _ + 1, .nil => .nil
  | _, _, n + 1, .cons r t => .cons r (Paired.takeL n t)
theorem Paired.dropL {α β : Type} {F : α → β → Prop} : ∀ {l₁ : List α} {l₂ : List β} (n : Nat), Paired F l₁ l₂ → Paired F (l₁.drop n) (l₂.drop n)
  | _, _, 0, h => h
  | _, _, _ + 1, .nil => .nil
  | _, _, n + 1, .cons _ t => Paired.dropL n t
theorem Paired.appL {α β : Type} {F : α → β → Prop} : ∀ {l₁ l₃ : List α} {l₂ l₄ : List β}, Paired F l₁ l₂ → Paired F l₃ l₄ → Paired F (l₁ ++ l₃) (l₂ ++ l₄)
  | _, _, _, _, .nil, h => h
  | _, _, _, _, .cons r t, h => .cons r (Paired.appL t h)
theorem map_ref {xs : List Addr} {i : Nat} {y : V} (h : (xs.map V.ref)[i]? = some y) : ∃ z, xs[i]? = some z ∧ y = V.ref z := by
  rw [List.getElem?_map] at h
  cases e : xs[i]? with
  | none => rw [e] at h; cases h
  | some z => rw [e] at h; exact ⟨z, rfl, (Option.some.inj h).symm⟩
theorem cutV_take (xs : List V) (n : Nat) : cutV xs none (some (n : Int)) = xs.take n := by
  unfold cutV
  rw [HT.sIx_none, HT.sIx_nat, List.drop_zero, Nat.sub_zero, List.take_eq_take_iff]; omega
theorem cutV_take4 (xs : List V) : cutV xs none (some 4) = xs.take 4 := cutV_take xs 4
/-- a matrix of a width, its numbers small -/
structure Wk (w : Nat) (m : List (List Int)) : Prop where
  wid : ∀ row ∈ m, row.length = w
  num : ∀ row ∈ m, ∀ x ∈ row, -18 ≤ x ∧ x ≤ 18
  many : m.length ≤ 10
  w6 : w ≤ 6
/-- .. as the rows come, one by one -/
structure WkL (w : Nat) (m : List (List Int)) : Prop where
  wid : ∀ (j : Nat) row, m[j]? = some row → row.length = w
  num : ∀ (j : Nat) row, m[j]? = some row → ∀ x ∈ row, -18 ≤ x ∧ x ≤ 18
  nine : ∀ (j : Nat) row, m[j]? = some row → j % 3 ≠ 2 → ∀ x ∈ row, -9 ≤ x ∧ x ≤ 9
theorem WkL.nil {w : Nat} : WkL w [] := ⟨fun j row e => by simp at e, fun j row e => by simp at e, fun j row e => by simp at e⟩
theorem WkL.snoc {w : Nat} {m : List (List Int)} {row : List Int} (h : WkL w m) (h1 : row.length = w) (h2 : ∀ x ∈ row, -18 ≤ x ∧ x ≤ 18) (h3 : m.length % 3 ≠ 2 → ∀ x ∈ row, -9 ≤ x ∧ x ≤ 9) : WkL w (m ++ [row]) := by
  have key : ∀ (j : Nat) (r : List Int), (m ++ [row])[j]? = some r → m[j]? = some r ∨ (j = m.length ∧ r = row) := fun j r e => by
    by_cases hj : j < m.length
    · rw [List.getElem?_append_left hj] at e; exact .inl e
    · rw [List.getElem?_append_right (by omega)] at e
      by_cases hj2 : j - m.length = 0
      · rw [hj2] at e
        exact .inr ⟨by omega, by simpa using e.symm⟩
      · obtain ⟨k, hk⟩ : ∃ k, j - m.length = k + 1 := ⟨j - m.length - 1, by omega⟩
        rw [hk] at e; simp at e
  refine ⟨fun j r e => ?_, fun j r e => ?_, fun j r e hj => ?_⟩
  · rcases key j r e with e | ⟨_, rfl⟩
    · exact h.wid j r e
    · exact h1
  · rcases key j r e with e | ⟨_, rfl⟩
    · exact h.num j r e
    · exact h2
  · rcases key j r e with e | ⟨ej, rfl⟩
    · exact h.nine j r e hj
    · exact h3 (by rw [← ej]; exact hj)
theorem WkL.wk {w : Nat} {m : List (List Int)} (h : WkL w m) (h1 : m.length ≤ 10) (h2 : w ≤ 6) : Wk w m :=
  ⟨fun row hr => by obtain ⟨j, _, e⟩ := List.getElem_of_mem hr; exact h.wid j row (by rw [← e]; simp), fun row hr => by obtain ⟨j, _, e⟩ := List.getElem_of_mem hr; exact h.num j row (by rw [← e]; simp), h1, h2⟩
/-- the number of a deed for a ware -/
def num (m : List (List Int)) (k j : Nat) : Int := (m.getD k []).getD j 0
def sumsOf (w : Nat) (m : List (List Int)) (cs : List Int) : List Int := (List.range w).map fun j => sumTo m.length fun k => cs.getD k 0 * num m k j
def sp_mix : Sp := fun vs H Q _ => ∃ c k, vs = [.int c, .int k] ∧ ∀ z : Int, 0 ≤ z → z < 2147483647 → Q (.int z) H
def sp_draws : Sp := fun vs H Q _ => ∃ c many size b, vs = [.int c, .int many, .int size, .bl b] ∧ 0 ≤ many ∧ many ≤ 900 ∧ 0 < size ∧ size < 2 ^ 60 ∧
  ∀ p H' xs, H p = none → Same H H' → H' p = some (.lst (List.map V.int xs)) → (xs.length : Int) = many → (∀ x ∈ xs, 0 ≤ x ∧ x < size) → Q (.ref p) H'
def sp_rowl : Sp := fun vs H Q _ => ∃ c wd way, vs = [.int c, .int wd, .int way] ∧ 0 ≤ wd ∧ wd ≤ 6 ∧
  ∀ p H' xs, H p = none → Same H H' → H' p = some (.lst (List.map V.int xs)) → (xs.length : Int) = wd → (∀ x ∈ xs, -9 ≤ x ∧ x ≤ 9) → Q (.ref p) H'
def sp_works (K : PySem.W.Frag) : Sp := fun vs H Q _ => ∃ l, vs = [.ref l] ∧ ∃ ns : List Int, SqL K H l (ns.map V.int) ∧
  ∀ p d H' w m, H p = none → Same H H' → H' p = some (.lst [.int (w : Nat), .ref d]) → Mat H' d m → Wk w m → Q (.ref p) H'
def sp_kept (K : PySem.W.Frag) : Sp := fun vs H Q _ => ∃ a b, vs = [.ref a, .ref b] ∧ ∃ m1 m2, Mat H a m1 ∧ Mat H b m2 ∧ ∀ H', Same H H' → Q (.bl (decide (m1 = m2))) H'
def sp_sums (K : PySem.W.Frag) : Sp := fun vs H Q _ => ∃ wd d c, vs = [.int wd, .ref d, .ref c] ∧ ∃ (w : Nat) (m : List (List Int)) (cs : List Int), wd = (w : Int) ∧ w ≤ 6 ∧ Mat H d m ∧ m.length ≤ 20 ∧ (∀ row ∈ m, row.length = w) ∧ (∀ row ∈ m, ∀ x ∈ row, -(2 ^ 60) < x ∧ x < 2 ^ 60) ∧ SqL K H c (cs.map V.int) ∧ m.length ≤ cs.length ∧
  ∀ p H', H p = none → Same H H' → H' p = some (.lst ((sumsOf w m cs).map V.int)) → Q (.ref p) H'
theorem pick_list {xs : List Int} (hne : 0 < xs.length) (n : Int) : ∃ z, z ∈ xs ∧ atI (xs.map V.int) (n % (xs.length : Int)) = some (V.int z) := by
  have h0 := Int.emod_nonneg n (show (xs.length : Int) ≠ 0 by omega)
  have h1 := Int.emod_lt_of_pos n (show (0 : Int) < xs.length by omega)
  obtain ⟨k, hk⟩ := Int.eq_ofNat_of_zero_le h0
  have hk' : k < xs.length := by omega
  refine ⟨xs[k], List.getElem_mem _, ?_⟩
  rw [hk]
  exact atI_nat (by simp [hk'])
theorem at_list {xs : List Int} {n : Int} (h0 : 0 ≤ n) (h1 : n < xs.length) : ∃ z, z ∈ xs ∧ atI (xs.map V.int) n = some (V.int z) := by
  obtain ⟨k, hk⟩ := Int.eq_ofNat_of_zero_le h0
  have hk' : k < xs.length := by omega
  exact ⟨xs[k], List.getElem_mem _, by rw [hk]; exact atI_nat (by simp [hk'])⟩
/-- the places below n where the row is not nought -/
def offOf (n : Nat) (ss : List Int) : List Int := ((List.range n).filter fun j => decide (¬ ss.getD j 0 = 0)).map fun j : Nat => (j : Int)
theorem offOf_zero {ss : List Int} : offOf 0 ss = [] := rfl
theorem offOf_eq {n : Nat} {ss : List Int} (h : ss.getD n 0 = 0) : offOf (n + 1) ss = offOf n ss := by
  unfold offOf
  rw [List.range_succ, List.filter_append, List.map_append]
  simp only [List.filter_cons, h, not_true_eq_false, decide_false, Bool.false_eq_true, if_false, List.filter_nil, List.map_nil, List.append_nil]
theorem offOf_ne {n : Nat} {ss : List Int} (h : ¬ ss.getD n 0 = 0) : offOf (n + 1) ss = offOf n ss ++ [(n : Int)] := by
  unfold offOf
  rw [List.range_succ, List.filter_append, List.map_append]
  simp only [List.filter_cons, h, not_false_eq_true, decide_true, if_true, List.filter_nil, List.map_cons, List.map_nil]
theorem offOf_len (n : Nat) (ss : List Int) : (offOf n ss).length ≤ n := by
  unfold offOf
  rw [List.length_map]
  exact Nat.le_trans (List.length_filter_le _ _) (by rw [List.length_range]; exact Nat.le_refl _)
/-- works and counts as the laws hand them in -/
structure WIn (K : PySem.W.Frag) (H : Hp) (d c : Addr) (w : Nat) (m : List (List Int)) (cs : List Int) : Prop where
  w6 : w ≤ 6
  mat : Mat H d m
  many : m.length ≤ 10
  wid : ∀ row ∈ m, row.length = w
  num : ∀ row ∈ m, ∀ x ∈ row, -18 ≤ x ∧ x ≤ 18
  cnt : SqL K H c (cs.map V.int)
  len : cs.length = m.length
  pos : ∀ x ∈ cs, 0 ≤ x ∧ x < 1000000000000
theorem WIn.same {K : PySem.W.Frag} {H H' : Hp} {d c : Addr} {w : Nat} {m : List (List Int)} {cs : List Int} (h : WIn K H d c w m cs) (s : Same H H') : WIn K H' d c w m cs :=
  ⟨h.w6, h.mat.same s, h.many, h.wid, h.num, s.seq h.cnt, h.len, h.pos⟩
def sp_ends (K : PySem.W.Frag) : Sp := fun vs H Q _ => ∃ (wd : Int) (d c : Addr), vs = [.int wd, .ref d, .ref c] ∧ ∃ (w : Nat) (m : List (List Int)) (cs : List Int), wd = (w : Int) ∧ WIn K H d c w m cs ∧
  ∀ p H', H p = none → Same H H' → H' p = some (.lst ((sumsOf w m cs).map V.int)) → Q (.ref p) H'
def sp_uneven (K : PySem.W.Frag) : Sp := fun vs H Q _ => ∃ (wd : Int) (d c : Addr), vs = [.int wd, .ref d, .ref c] ∧ ∃ (w : Nat) (m : List (List Int)) (cs : List Int), wd = (w : Int) ∧ WIn K H d c w m cs ∧
  ∀ p H', H p = none → Same H H' → H' p = some (.lst ((offOf w (sumsOf w m cs)).map V.int)) → Q (.ref p) H'
def sp_places (K : PySem.W.Frag) : Sp := fun vs H Q _ => ∃ (c : Addr), vs = [.ref c] ∧ ∃ (cs : List Int), SqL K H c (cs.map V.int) ∧ cs.length ≤ 10 ∧ (∀ x ∈ cs, 0 ≤ x) ∧
  ∀ p H', H p = none → Same H H' → H' p = some (.lst ((offOf cs.length cs).map V.int)) → Q (.ref p) H'
def isRound (w : Nat) (m : List (List Int)) (cs : List Int) : Prop := offOf cs.length cs ≠ [] ∧ offOf w (sumsOf w m cs) = []
instance {w : Nat} {m : List (List Int)} {cs : List Int} : Decidable (isRound w m cs) := inferInstanceAs (Decidable (_ ∧ _))
def sp_isround (K : PySem.W.Frag) : Sp := fun vs H Q _ => ∃ (wd : Int) (d c : Addr), vs = [.int wd, .ref d, .ref c] ∧ ∃ (w : Nat) (m : List (List Int)) (cs : List Int), wd = (w : Int) ∧ WIn K H d c w m cs ∧
  ∀ H', Same H H' → Q (.bl (decide (isRound w m cs))) H'
theorem e12 : (10 : Int) ^ Int.toNat 12 = 1000000000000 := by decide
section
variable {P : Program} {w : World} {K : PySem.W.Frag} {mg : Str → Option Value} {base : Heap}
def TwoA (x : V) (σ : L2.St) : Prop := ∃ u v, σ = [u, v, some x]
theorem tw3 {u v : Option V} {x : V} : TwoA x [u, v, some x] := ⟨_, _, rfl⟩
def Two (σ : L2.St) : Prop := ∃ u v, σ = [u, v]
theorem two {u v : Option V} : Two [u, v] := ⟨_, _, rfl⟩
def sp_end (K : PySem.W.Frag) : Sp := fun vs H Q _ => ∃ (d c : Addr) (wr : Int), vs = [.ref d, .ref c, .int wr] ∧ ∃ (j w : Nat) (m : List (List Int)) (cs : List Int), wr = (j : Int) ∧ j < w ∧ Mat H d m ∧ m.length ≤ 20 ∧ (∀ row ∈ m, row.length = w) ∧ (∀ row ∈ m, ∀ x ∈ row, -(2 ^ 60) < x ∧ x < 2 ^ 60) ∧ SqL K H c (cs.map V.int) ∧ cs.length = m.length ∧
  ∀ H', Same H H' → Q (.int (sumTo m.length fun k => cs.getD k 0 * num m k j)) H'
theorem sum_sumTo (f : Nat → Int) : ∀ n, ((List.range n).map f).sum = sumTo n f
  | 0 => rfl
  | n + 1 => by
    rw [List.range_succ, List.map_append, List.sum_append, sum_sumTo f n]
    simp [sumTo]
theorem sc_end_of : FnScope ["deeds", "counts", "ware"] ["deeds", "counts", "ware"] (defScope s_end_of) := ⟨rfl, rfl, rfl, by decide +kernel, rfl, by decide +kernel, by decide +kernel⟩
theorem c_end_of (T : Txt K mg) : Cal P w K mg base "end_of" 1 ["deeds", "counts", "ware"] (sp_end K) := by
  refine T.end_of.ok sc_end_of (fun vs H Q E h => ?_) (fun f cdv A outer s H vs Q E hr h => ?_)
  · obtain ⟨d, c, wr, rfl, _⟩ := h; rfl
  · obtain ⟨d, c, _, rfl, j, wd, m, cs, rfl, hj, hm, hml, hwid, hnum, hc, hcl, k⟩ := h
    have B := T.B
    refine ⟨_, (pss_one (ps_ret (pe_callB (call_sumL rfl) rfl B.sum boot_sum (pa_cons (pe_lc (pi_zip rfl B.zip (pa_cons (pv 1) (pa_cons (pv 0) pa_nil))) (.cons rfl .nil) (.own (x := "count") (.own (x := "row") (.cap (x := "ware") (j := 2) rfl (Or.inl rfl) (Or.inl rfl) ⟨_, rfl⟩ .nil))) (fun _ _ _ _ => (pg_tupK (K := K) (n := 2) rfl rfl (pgs_cons (pg_name (i := 0) (show (["count", "row", "ware"] : List Str).Nodup from by decide +kernel) rfl (Or.inl rfl)) (pgs_cons (pg_name (i := 1) (show (["count", "row", "ware"] : List Str).Nodup from by decide +kernel) rfl (Or.inl rfl)) pgs_nil)))) (fun _ _ _ _ => ifs_nil) (fun _ _ _ _ => (pe_op op_mulA (pv 0) (pe_ix (ix_listK (K := K) rfl) (pv 1) (pv 2) (fun _ _ => rfl))))) pa_nil)))), ?_⟩
    change tRet _ _ [some (V.ref d), some (V.ref c), some (V.int j)] H
    simp only [tSeq, tNext, tAsg, gName, tVar, tC, tOp, rI, rI0, rEq, rNe, scal, tTest, tB, tIfS, tRet, tRetN, tDrop, tNot, tNotV, tOr, tAnd, tOrV, tAndV, tCons, tNil, tCall, tCB, tUn, rU, tPar, tIf, rIxL, rIxT, tTrue, tFor_eq, tComp_eq, tLst, tTup, rEqI, rEqA, rNeA, rCat, rRep, tSl, rSlL, tPart, tNoPart, tRev, gSub, rSetL, tInts, iList, iRng1, iRng2, iZip, iEnum, tBM, rAppend, List.getElem?_cons_zero, List.getElem?_cons_succ, Option.some.injEq, List.set_cons_zero, List.set_cons_succ, exists_and_left, exists_eq_left, exists_eq_left', V.int.injEq, V.ref.injEq, V.bl.injEq, V.ty.injEq, List.cons.injEq, and_true, true_and, List.append_nil, List.cons_append, List.nil_append, and_assoc, cxOf, ite_not, if_true, if_false, Bool.false_eq_true, Bool.true_eq_false, Bool.not_true, Bool.not_false, reduceIte, Bool.not_eq_true', decide_eq_false_iff_not, decide_eq_true_eq]
    obtain ⟨rs, h1, h2, h3⟩ := hm
    have hlen := h2.length
    refine ⟨⟨_, hc⟩, ⟨_, SqL.of h1⟩, lc_zip (K := K) (xs := cs.map V.int) (ys := rs.map V.ref) (fun i σ H2 zs => Same H H2 ∧ TwoA (V.int j) σ ∧ zs = ((List.range i).map fun k => cs.getD k 0 * num m k j).map V.int)
      ⟨Same.refl _, tw3, rfl⟩ (fun i σ H2 zs _ _ ⟨e, _⟩ => ⟨e.seq hc, SqL.of (e _ _ h1)⟩) ?_ ?_⟩
    · rintro i x y t σ H2 zs hx hy ⟨sm, ⟨u, v, rfl⟩, rfl⟩ ht
      obtain ⟨z, hz, rfl⟩ := map_int hx
      obtain ⟨r, hr, rfl⟩ := map_ref hy
      have hi : i < m.length := by rw [← hlen]; exact (List.getElem?_eq_some_iff.mp hr).1
      obtain ⟨row, hrow⟩ : ∃ row, m[i]? = some row := ⟨_, List.getElem?_eq_getElem hi⟩
      obtain ⟨r', g0, q0⟩ := Paired.getL h2 hrow
      obtain rfl : r = r' := Option.some.inj (hr.symm.trans g0)
      have hl : row.length = wd := hwid row (List.mem_of_getElem? hrow)
      have hnr : num m i j = row[j]'(by omega) := by
        unfold num
        simp only [List.getD_eq_getElem?_getD, hrow, Option.getD_some]
        rw [List.getElem?_eq_getElem (by omega)]; rfl
      have hcs : cs.getD i 0 = z := by rw [List.getD_eq_getElem?_getD, hz]; rfl
      have hb := hnum row (List.mem_of_getElem? hrow) _ (List.getElem_mem (show j < row.length by omega))
      refine gTup2 upd_same ?_
      simp only [tSeq, tNext, tAsg, gName, tVar, tC, tOp, rI, rI0, rEq, rNe, scal, tTest, tB, tIfS, tRet, tRetN, tDrop, tNot, tNotV, tOr, tAnd, tOrV, tAndV, tCons, tNil, tCall, tCB, tUn, rU, tPar, tIf, rIxL, rIxT, tTrue, tFor_eq, tComp_eq, tLst, tTup, rEqI, rEqA, rNeA, rCat, rRep, tSl, rSlL, tPart, tNoPart, tRev, gSub, rSetL, tInts, iList, iRng1, iRng2, iZip, iEnum, tBM, rAppend, List.getElem?_cons_zero, List.getElem?_cons_succ, Option.some.injEq, List.set_cons_zero, List.set_cons_succ, exists_and_left, exists_eq_left, exists_eq_left', V.int.injEq, V.ref.injEq, V.bl.injEq, V.ty.injEq, List.cons.injEq, and_true, true_and, List.append_nil, List.cons_append, List.nil_append, and_assoc, cxOf, ite_not, if_true, if_false, Bool.false_eq_true, Bool.true_eq_false, Bool.not_true, Bool.not_false, reduceIte, Bool.not_eq_true', decide_eq_false_iff_not, decide_eq_true_eq]
      refine ⟨_, SqL.of ((sm.trans (same_upd ht)) _ _ q0), _, atI_nat (by rw [List.getElem?_map, List.getElem?_eq_getElem (show j < row.length by omega)]; rfl), _, rfl, mulA_r (by omega) (by omega), ?_, sm.trans (same_upd ht), tw3, ?_⟩
      · rw [List.length_map, List.length_map, List.length_range]; exact small1000 (by omega)
      · rw [List.range_succ, List.map_append, List.map_append, ← hnr, ← hcs]; rfl
    · rintro σ H2 zs ⟨sm, _, rfl⟩
      have e : min (cs.map V.int).length (rs.map V.ref).length = m.length := by rw [List.length_map, List.length_map, hlen, hcl, Nat.min_self]
      rw [e]
      refine ⟨by rw [List.length_map, List.length_map, List.length_range]; exact Nat.le_of_lt (small1000 (by omega)), fun p hp => ⟨p, rfl, _, SqL.of upd_same, ?_⟩⟩
      rw [sum_sumTo]
      exact k _ (sm.trans (same_upd hp))
theorem sc_ends : FnScope ["width", "deeds", "counts"] ["width", "deeds", "counts"] (defScope s_ends) := ⟨rfl, rfl, rfl, by decide +kernel, rfl, by decide +kernel, by decide +kernel⟩
theorem c_ends (T : Txt K mg) : Cal P w K mg base "ends" 2 ["width", "deeds", "counts"] (sp_ends K) := by
  refine T.ends.ok sc_ends (fun vs H Q E h => ?_) (fun f cdv A outer s H vs Q E hr h => ?_)
  · obtain ⟨wd, d, c, rfl, _⟩ := h; rfl
  · obtain ⟨_, d, c, rfl, wd, m, cs, rfl, W, k⟩ := h
    have B := T.B
    have c_end_of := c_end_of (P := P) (w := w) (base := base) T
    refine ⟨_, (pss_one (ps_ret (pe_lc (pi_range1 rfl B.range (pa_cons (pv 0) pa_nil)) (.cons rfl (.cons rfl .nil)) (.own (x := "ware") (.cap (x := "deeds") (j := 1) rfl (Or.inl rfl) (Or.inl rfl) ⟨_, rfl⟩ (.cap (x := "counts") (j := 2) rfl (Or.inl rfl) (Or.inl rfl) ⟨_, rfl⟩ .nil))) (fun _ _ _ _ => (pg_name (i := 0) (show (["ware", "deeds", "counts"] : List Str).Nodup from by decide +kernel) rfl (Or.inl rfl))) (fun _ _ _ _ => ifs_nil) (fun _ _ _ _ => (pe_cal c_end_of (hr.mono (by decide)) (pa_cons (pv 1) (pa_cons (pv 2) (pa_cons (pv 0) pa_nil)))))))), ?_⟩
    change tRet _ _ [some (V.int wd), some (V.ref d), some (V.ref c)] H
    simp only [tSeq, tNext, tAsg, gName, tVar, tC, tOp, rI, rI0, rEq, rNe, scal, tTest, tB, tIfS, tRet, tRetN, tDrop, tNot, tNotV, tOr, tAnd, tOrV, tAndV, tCons, tNil, tCall, tCB, tUn, rU, tPar, tIf, rIxL, rIxT, tTrue, tFor_eq, tComp_eq, tLst, tTup, rEqI, rEqA, rNeA, rCat, rRep, tSl, rSlL, tPart, tNoPart, tRev, gSub, rSetL, tInts, iList, iRng1, iRng2, iZip, iEnum, tBM, rAppend, List.getElem?_cons_zero, List.getElem?_cons_succ, Option.some.injEq, List.set_cons_zero, List.set_cons_succ, exists_and_left, exists_eq_left, exists_eq_left', V.int.injEq, V.ref.injEq, V.bl.injEq, V.ty.injEq, List.cons.injEq, and_true, true_and, List.append_nil, List.cons_append, List.nil_append, and_assoc, cxOf, ite_not, if_true, if_false, Bool.false_eq_true, Bool.true_eq_false, Bool.not_true, Bool.not_false, reduceIte, Bool.not_eq_true', decide_eq_false_iff_not, decide_eq_true_eq]
    have w6 := W.w6
    refine ⟨by omega, by omega, ?_⟩
    rw [Int.toNat_natCast]
    refine lc_range (fun i σ H2 zs => Same H H2 ∧ (∃ u, σ = [u, some (V.ref d), some (V.ref c)]) ∧ zs = ((List.range i).map fun j => sumTo m.length fun k => cs.getD k 0 * num m k j).map V.int) ⟨Same.refl _, ⟨_, rfl⟩, rfl⟩ ?_ ?_
    · rintro i σ H2 zs hi ⟨sm, ⟨u, rfl⟩, rfl⟩
      have W2 := W.same sm
      simp only [tSeq, tNext, tAsg, gName, tVar, tC, tOp, rI, rI0, rEq, rNe, scal, tTest, tB, tIfS, tRet, tRetN, tDrop, tNot, tNotV, tOr, tAnd, tOrV, tAndV, tCons, tNil, tCall, tCB, tUn, rU, tPar, tIf, rIxL, rIxT, tTrue, tFor_eq, tComp_eq, tLst, tTup, rEqI, rEqA, rNeA, rCat, rRep, tSl, rSlL, tPart, tNoPart, tRev, gSub, rSetL, tInts, iList, iRng1, iRng2, iZip, iEnum, tBM, rAppend, List.getElem?_cons_zero, List.getElem?_cons_succ, Option.some.injEq, List.set_cons_zero, List.set_cons_succ, exists_and_left, exists_eq_left, exists_eq_left', V.int.injEq, V.ref.injEq, V.bl.injEq, V.ty.injEq, List.cons.injEq, and_true, true_and, List.append_nil, List.cons_append, List.nil_append, and_assoc, cxOf, ite_not, if_true, if_false, Bool.false_eq_true, Bool.true_eq_false, Bool.not_true, Bool.not_false, reduceIte, Bool.not_eq_true', decide_eq_false_iff_not, decide_eq_true_eq, sp_end]
      refine ⟨i, by omega, wd, hi, m, W2.mat, by have := W.many; omega, W.wid, fun row hr x hx => ?_, cs, W2.cnt, W.len, fun H3 s3 => ⟨?_, sm.trans s3, ⟨_, rfl⟩, ?_⟩⟩ -- by have := W.many; omega, W.wid, fun row hr x hx => ?_, W2.cnt, W.len, fun H3 s3 => ⟨?_, sm.trans s3, ⟨_, rfl⟩, ?_⟩⟩
      · have := W.num row hr x hx; omega
      · rw [List.length_map, List.length_map, List.length_range]; exact small1000 (by omega)
      · rw [List.range_succ, List.map_append, List.map_append]; rfl
    · rintro σ H2 zs ⟨sm, ⟨u, rfl⟩, rfl⟩
      refine ⟨by rw [List.length_map, List.length_map, List.length_range]; exact Nat.le_of_lt (small1000 (by omega)), fun p hp => k p _ (sm.free hp) (sm.trans (same_upd hp)) ?_⟩
      rw [upd_same]; rfl
theorem sc_uneven : FnScope ["width", "deeds", "counts"] ["width", "deeds", "counts"] (defScope s_uneven) := ⟨rfl, rfl, rfl, by decide +kernel, rfl, by decide +kernel, by decide +kernel⟩
theorem c_uneven (T : Txt K mg) : Cal P w K mg base "uneven" 3 ["width", "deeds", "counts"] (sp_uneven K) := by
  refine T.uneven.ok sc_uneven (fun vs H Q E h => ?_) (fun f cdv A outer s H vs Q E hr h => ?_)
  · obtain ⟨wd, d, c, rfl, _⟩ := h; rfl
  · obtain ⟨_, d, c, rfl, wd, m, cs, rfl, W, k⟩ := h
    have B := T.B
    have c_ends := c_ends (P := P) (w := w) (base := base) T
    refine ⟨_, (pss_one (ps_ret (pe_lc (pi_enum rfl B.enumerate (pa_cons (pe_cal c_ends (hr.mono (by decide)) (pa_cons (pv 0) (pa_cons (pv 1) (pa_cons (pv 2) pa_nil)))) pa_nil)) .nil (.own (x := "ware") (.own (x := "end") .nil)) (fun _ _ _ _ => (pg_tupK (K := K) (n := 2) rfl rfl (pgs_cons (pg_name (i := 0) (show (["ware", "end"] : List Str).Nodup from by decide +kernel) rfl (Or.inl rfl)) (pgs_cons (pg_name (i := 1) (show (["ware", "end"] : List Str).Nodup from by decide +kernel) rfl (Or.inl rfl)) pgs_nil)))) (fun _ _ _ _ => (ifs_one (pt_cmpR op_ne (pv 1) pe_int (nomark _)))) (fun _ _ _ _ => (pv 0))))), ?_⟩
    change tRet _ _ [some (V.int wd), some (V.ref d), some (V.ref c)] H
    simp only [tSeq, tNext, tAsg, gName, tVar, tC, tOp, rI, rI0, rEq, rNe, scal, tTest, tB, tIfS, tRet, tRetN, tDrop, tNot, tNotV, tOr, tAnd, tOrV, tAndV, tCons, tNil, tCall, tCB, tUn, rU, tPar, tIf, rIxL, rIxT, tTrue, tFor_eq, tComp_eq, tLst, tTup, rEqI, rEqA, rNeA, rCat, rRep, tSl, rSlL, tPart, tNoPart, tRev, gSub, rSetL, tInts, iList, iRng1, iRng2, iZip, iEnum, tBM, rAppend, List.getElem?_cons_zero, List.getElem?_cons_succ, Option.some.injEq, List.set_cons_zero, List.set_cons_succ, exists_and_left, exists_eq_left, exists_eq_left', V.int.injEq, V.ref.injEq, V.bl.injEq, V.ty.injEq, List.cons.injEq, and_true, true_and, List.append_nil, List.cons_append, List.nil_append, and_assoc, cxOf, ite_not, if_true, if_false, Bool.false_eq_true, Bool.true_eq_false, Bool.not_true, Bool.not_false, reduceIte, Bool.not_eq_true', decide_eq_false_iff_not, decide_eq_true_eq, sp_ends]
    have w6 := W.w6
    have sl : (sumsOf wd m cs).length = wd := by unfold sumsOf; rw [List.length_map, List.length_range]
    refine ⟨wd, rfl, m, cs, W, fun q H1 hq s1 e1 => ⟨⟨_, SqL.of e1⟩, ?_⟩⟩
    refine lc_enum (K := K) (xs := (sumsOf wd m cs).map V.int) (fun i σ H2 zs => Same H1 H2 ∧ Two σ ∧ zs = (offOf i (sumsOf wd m cs)).map V.int) ⟨Same.refl _, two, rfl⟩ (fun i σ H2 zs _ ⟨e, _⟩ => SqL.of (e _ _ e1)) ?_ ?_
    · rintro i x t σ H2 zs hx ⟨sm, ⟨u, v, rfl⟩, rfl⟩ ht
      obtain ⟨z, hz, rfl⟩ := map_int hx
      have hi : i < wd := by rw [← sl]; exact (List.getElem?_eq_some_iff.mp hz).1
      have hg : (sumsOf wd m cs).getD i 0 = z := by rw [List.getD_eq_getElem?_getD, hz]; rfl
      refine gTup2 upd_same ?_
      simp only [tSeq, tNext, tAsg, gName, tVar, tC, tOp, rI, rI0, rEq, rNe, scal, tTest, tB, tIfS, tRet, tRetN, tDrop, tNot, tNotV, tOr, tAnd, tOrV, tAndV, tCons, tNil, tCall, tCB, tUn, rU, tPar, tIf, rIxL, rIxT, tTrue, tFor_eq, tComp_eq, tLst, tTup, rEqI, rEqA, rNeA, rCat, rRep, tSl, rSlL, tPart, tNoPart, tRev, gSub, rSetL, tInts, iList, iRng1, iRng2, iZip, iEnum, tBM, rAppend, List.getElem?_cons_zero, List.getElem?_cons_succ, Option.some.injEq, List.set_cons_zero, List.set_cons_succ, exists_and_left, exists_eq_left, exists_eq_left', V.int.injEq, V.ref.injEq, V.bl.injEq, V.ty.injEq, List.cons.injEq, and_true, true_and, List.append_nil, List.cons_append, List.nil_append, and_assoc, cxOf, ite_not, if_true, if_false, Bool.false_eq_true, Bool.true_eq_false, Bool.not_true, Bool.not_false, reduceIte, Bool.not_eq_true', decide_eq_false_iff_not, decide_eq_true_eq]
      have hl := offOf_len i (sumsOf wd m cs)
      refine ite2 (fun h0 => ⟨sm.trans (same_upd ht), two, ?_⟩) fun h0 => ⟨?_, sm.trans (same_upd ht), two, ?_⟩
      · rw [offOf_eq (by rw [hg]; exact h0)]
      · rw [List.length_map]; exact small1000 (by omega)
      · rw [offOf_ne (by rw [hg]; exact h0), List.map_append]; rfl
    · rintro σ H2 zs ⟨sm, _, rfl⟩
      have e2 : ((sumsOf wd m cs).map V.int).length = wd := by rw [List.length_map, sl]
      rw [e2]
      have hl := offOf_len wd (sumsOf wd m cs)
      refine ⟨by rw [List.length_map]; exact Nat.le_of_lt (small1000 (by omega)), fun p hp => k p _ ((s1.trans sm).free hp) (s1.trans (sm.trans (same_upd hp))) upd_same⟩
theorem sc_places : FnScope ["counts"] ["counts"] (defScope s_places) := ⟨rfl, rfl, rfl, by decide +kernel, rfl, by decide +kernel, by decide +kernel⟩
theorem c_places (T : Txt K mg) : Cal P w K mg base "places" 1 ["counts"] (sp_places K) := by
  refine T.places.ok sc_places (fun vs H Q E h => ?_) (fun f cdv A outer s H vs Q E hr h => ?_)
  · obtain ⟨c, rfl, _⟩ := h; rfl
  · obtain ⟨c, rfl, cs, hc, hl, hpos, k⟩ := h
    have B := T.B
    refine ⟨_, (pss_one (ps_ret (pe_lc (pi_enum rfl B.enumerate (pa_cons (pv 0) pa_nil)) .nil (.own (x := "place") (.own (x := "count") .nil)) (fun _ _ _ _ => (pg_tupK (K := K) (n := 2) rfl rfl (pgs_cons (pg_name (i := 0) (show (["place", "count"] : List Str).Nodup from by decide +kernel) rfl (Or.inl rfl)) (pgs_cons (pg_name (i := 1) (show (["place", "count"] : List Str).Nodup from by decide +kernel) rfl (Or.inl rfl)) pgs_nil)))) (fun _ _ _ _ => (ifs_one (pt_cmpR op_gt (pv 1) pe_int (nomark _)))) (fun _ _ _ _ => (pv 0))))), ?_⟩
    change tRet _ _ [some (V.ref c)] H
    simp only [tSeq, tNext, tAsg, gName, tVar, tC, tOp, rI, rI0, rEq, rNe, scal, tTest, tB, tIfS, tRet, tRetN, tDrop, tNot, tNotV, tOr, tAnd, tOrV, tAndV, tCons, tNil, tCall, tCB, tUn, rU, tPar, tIf, rIxL, rIxT, tTrue, tFor_eq, tComp_eq, tLst, tTup, rEqI, rEqA, rNeA, rCat, rRep, tSl, rSlL, tPart, tNoPart, tRev, gSub, rSetL, tInts, iList, iRng1, iRng2, iZip, iEnum, tBM, rAppend, List.getElem?_cons_zero, List.getElem?_cons_succ, Option.some.injEq, List.set_cons_zero, List.set_cons_succ, exists_and_left, exists_eq_left, exists_eq_left', V.int.injEq, V.ref.injEq, V.bl.injEq, V.ty.injEq, List.cons.injEq, and_true, true_and, List.append_nil, List.cons_append, List.nil_append, and_assoc, cxOf, ite_not, if_true, if_false, Bool.false_eq_true, Bool.true_eq_false, Bool.not_true, Bool.not_false, reduceIte, Bool.not_eq_true', decide_eq_false_iff_not, decide_eq_true_eq]
    refine ⟨⟨_, hc⟩, ?_⟩
    refine lc_enum (K := K) (xs := cs.map V.int) (fun i σ H2 zs => Same H H2 ∧ Two σ ∧ zs = (offOf i cs).map V.int) ⟨Same.refl _, two, rfl⟩ (fun i σ H2 zs _ ⟨e, _⟩ => e.seq hc) ?_ ?_
    · rintro i x t σ H2 zs hx ⟨sm, ⟨u, v, rfl⟩, rfl⟩ ht
      obtain ⟨z, hz, rfl⟩ := map_int hx
      have hi : i < cs.length := (List.getElem?_eq_some_iff.mp hz).1
      have hg : cs.getD i 0 = z := by rw [List.getD_eq_getElem?_getD, hz]; rfl
      have h0 := hpos z (List.mem_of_getElem? hz)
      refine gTup2 upd_same ?_
      simp only [tSeq, tNext, tAsg, gName, tVar, tC, tOp, rI, rI0, rEq, rNe, scal, tTest, tB, tIfS, tRet, tRetN, tDrop, tNot, tNotV, tOr, tAnd, tOrV, tAndV, tCons, tNil, tCall, tCB, tUn, rU, tPar, tIf, rIxL, rIxT, tTrue, tFor_eq, tComp_eq, tLst, tTup, rEqI, rEqA, rNeA, rCat, rRep, tSl, rSlL, tPart, tNoPart, tRev, gSub, rSetL, tInts, iList, iRng1, iRng2, iZip, iEnum, tBM, rAppend, List.getElem?_cons_zero, List.getElem?_cons_succ, Option.some.injEq, List.set_cons_zero, List.set_cons_succ, exists_and_left, exists_eq_left, exists_eq_left', V.int.injEq, V.ref.injEq, V.bl.injEq, V.ty.injEq, List.cons.injEq, and_true, true_and, List.append_nil, List.cons_append, List.nil_append, and_assoc, cxOf, ite_not, if_true, if_false, Bool.false_eq_true, Bool.true_eq_false, Bool.not_true, Bool.not_false, reduceIte, Bool.not_eq_true', decide_eq_false_iff_not, decide_eq_true_eq]
      have hl := offOf_len i cs
      refine ite2 (fun h1 => ⟨?_, sm.trans (same_upd ht), two, ?_⟩) fun h1 => ⟨sm.trans (same_upd ht), two, ?_⟩
      · rw [List.length_map]; exact small1000 (by omega)
      · rw [offOf_ne (by rw [hg]; omega), List.map_append]; rfl
      · rw [offOf_eq (by rw [hg]; omega)]
    · rintro σ H2 zs ⟨sm, _, rfl⟩
      have e2 : (cs.map V.int).length = cs.length := List.length_map ..
      rw [e2]
      have hl := offOf_len cs.length cs
      refine ⟨by rw [List.length_map]; exact Nat.le_of_lt (small1000 (by omega)), fun p hp => k p _ (sm.free hp) (sm.trans (same_upd hp)) upd_same⟩
theorem sc_is_round : FnScope ["width", "deeds", "counts"] ["width", "deeds", "counts"] (defScope s_is_round) := ⟨rfl, rfl, rfl, by decide +kernel, rfl, by decide +kernel, by decide +kernel⟩
theorem c_is_round (T : Txt K mg) : Cal P w K mg base "is_round" 4 ["width", "deeds", "counts"] (sp_isround K) := by
  refine T.is_round.ok sc_is_round (fun vs H Q E h => ?_) (fun f cdv A outer s H vs Q E hr h => ?_)
  · obtain ⟨wd, d, c, rfl, _⟩ := h; rfl
  · obtain ⟨_, d, c, rfl, wd, m, cs, rfl, W, k⟩ := h
    have B := T.B
    have c_places := c_places (P := P) (w := w) (base := base) T
    have c_uneven := c_uneven (P := P) (w := w) (base := base) T
    refine ⟨_, (pss_one (ps_ret (pe_and (pe_cmpR op_gt (pe_callB call_len_seq rfl B.len PySem.boot_len (pa_cons (pe_cal c_places (hr.mono (by decide)) (pa_cons (pv 2) pa_nil)) pa_nil)) pe_int (nomark _)) (pe_one (pe_cmpR op_eq (pe_callB call_len_seq rfl B.len PySem.boot_len (pa_cons (pe_cal c_uneven (hr.mono (by decide)) (pa_cons (pv 0) (pa_cons (pv 1) (pa_cons (pv 2) pa_nil)))) pa_nil)) pe_int (nomark _)))))), ?_⟩
    change tRet _ _ [some (V.int wd), some (V.ref d), some (V.ref c)] H
    simp only [tSeq, tNext, tAsg, gName, tVar, tC, tOp, rI, rI0, rEq, rNe, scal, tTest, tB, tIfS, tRet, tRetN, tDrop, tNot, tNotV, tOr, tAnd, tOrV, tAndV, tCons, tNil, tCall, tCB, tUn, rU, tPar, tIf, rIxL, rIxT, tTrue, tFor_eq, tComp_eq, tLst, tTup, rEqI, rEqA, rNeA, rCat, rRep, tSl, rSlL, tPart, tNoPart, tRev, gSub, rSetL, tInts, iList, iRng1, iRng2, iZip, iEnum, tBM, rAppend, List.getElem?_cons_zero, List.getElem?_cons_succ, Option.some.injEq, List.set_cons_zero, List.set_cons_succ, exists_and_left, exists_eq_left, exists_eq_left', V.int.injEq, V.ref.injEq, V.bl.injEq, V.ty.injEq, List.cons.injEq, and_true, true_and, List.append_nil, List.cons_append, List.nil_append, and_assoc, cxOf, ite_not, if_true, if_false, Bool.false_eq_true, Bool.true_eq_false, Bool.not_true, Bool.not_false, reduceIte, Bool.not_eq_true', decide_eq_false_iff_not, decide_eq_true_eq, sp_places, sp_uneven]
    refine ⟨cs, W.cnt, by rw [W.len]; exact W.many, fun x hx => (W.pos x hx).1, fun p H1 hp s1 e1 => ⟨_, .inl (SqL.of e1), ?_⟩⟩
    rw [List.length_map]
    refine ite2 (fun h0 => ⟨wd, rfl, m, cs, W.same s1, fun p2 H2 hp2 s2 e2 => ⟨_, .inl (SqL.of e2), ?_⟩⟩) fun h0 => ?_
    · rw [List.length_map]
      have : decide (((offOf wd (sumsOf wd m cs)).length : Int) = 0) = decide (isRound wd m cs) := by
        rw [Bool.eq_iff_iff, decide_eq_true_eq, decide_eq_true_eq]
        unfold isRound
        rw [← List.length_eq_zero_iff (l := offOf wd _), ← List.length_pos_iff]
        omega
      rw [this]
      exact k _ (s1.trans s2)
    · have : (false : Bool) = decide (isRound wd m cs) := by
        symm
        rw [decide_eq_false_iff_not]
        unfold isRound
        rw [← List.length_pos_iff]
        omega
      rw [this]
      exact k _ s1
theorem sc_law_at : FnScope ["_law_script", "_law_k"] ["_law_script", "_law_k"] (defScope s_law_at) := ⟨rfl, rfl, rfl, by decide +kernel, rfl, by decide +kernel, by decide +kernel⟩
theorem c_law_at (T : Txt K mg) : Cal P w K mg base "_law_at" 1 ["_law_script", "_law_k"] (sp_at K) := by
  refine T.law_at.ok sc_law_at (fun vs H Q E h => ?_) (fun f cdv A outer s H vs Q E hr h => ?_)
  · obtain ⟨l, n, rfl, _⟩ := h; rfl
  · obtain ⟨l, n', rfl, hn0, xs, hS, k⟩ := h
    obtain ⟨n, rfl⟩ := Int.eq_ofNat_of_zero_le hn0
    rw [Int.toNat_natCast] at k
    have B := T.B
    refine ⟨_, (pss_cons (ps_if (pt_cmpR op_lt (pv 1) (pe_callB call_len_seq rfl B.len PySem.boot_len (pa_cons (pv 0) pa_nil)) (nomark _)) (pss_one (ps_ret (pe_ix ix_list (pv 0) (pv 1) (fun _ _ => rfl)))) pss_nil)
 (pss_one (ps_ret pe_int))), ?_⟩
    change tSeq _ _ _ [some (V.ref l), some (V.int n)] H
    simp only [tSeq, tNext, tAsg, gName, tVar, tC, tOp, rI, rI0, rEq, rNe, scal, tTest, tB, tIfS, tRet, tRetN, tDrop, tNot, tNotV, tOr, tAnd, tOrV, tAndV, tCons, tNil, tCall, tCB, tUn, rU, tPar, tIf, rIxL, rIxT, tTrue, tFor_eq, tComp_eq, tLst, tTup, rEqI, rEqA, rNeA, rCat, rRep, tSl, rSlL, tPart, tNoPart, tRev, gSub, rSetL, tInts, iList, iRng1, iRng2, iZip, iEnum, tBM, rAppend, List.getElem?_cons_zero, List.getElem?_cons_succ, Option.some.injEq, List.set_cons_zero, List.set_cons_succ, exists_and_left, exists_eq_left, exists_eq_left', V.int.injEq, V.ref.injEq, V.bl.injEq, V.ty.injEq, List.cons.injEq, and_true, true_and, List.append_nil, List.cons_append, List.nil_append, and_assoc, cxOf, ite_not, if_true, if_false, Bool.false_eq_true, Bool.true_eq_false, Bool.not_true, Bool.not_false, reduceIte, Bool.not_eq_true', decide_eq_false_iff_not, decide_eq_true_eq]
    refine ⟨_, .inl hS, ite2 (fun hn => ?_) fun hn => ?_⟩
    · rw [List.length_map] at hn
      have hn' : n < xs.length := by omega
      refine ⟨_, hS, V.int xs[n], atI_nat (by simp [hn']), ?_⟩
      rw [List.getD_eq_getElem?_getD, List.getElem?_eq_getElem hn'] at k
      exact k
    · rw [List.length_map] at hn
      have hn' : xs.length ≤ n := by omega
      rw [List.getD_eq_getElem?_getD, List.getElem?_eq_none hn'] at k
      exact k
theorem sc_law_whole : FnScope ["_law_found"] ["_law_found"] (defScope s_law_whole) := ⟨rfl, rfl, rfl, by decide +kernel, rfl, by decide +kernel, by decide +kernel⟩
theorem c_law_whole (T : Txt K mg) : Cal P w K mg base "_law_whole" 1 ["_law_found"] sp_whole := by
  refine T.law_whole.ok sc_law_whole (fun vs H Q E h => ?_) (fun f cdv A outer s H vs Q E hr h => ?_)
  · obtain ⟨i, rfl, _⟩ := h; rfl
  · obtain ⟨i, rfl, k⟩ := h
    have B := T.B
    refine ⟨_, (pss_one (ps_ret (pe_and (pe_callB call_isinst rfl B.isinstance boot_isinstance (pa_cons (pv 0) (pa_cons (pe_bltn (v := .ty "int") rfl B.int boot_int rfl) pa_nil))) (pe_one (pe_not (pe_callB call_isinst rfl B.isinstance boot_isinstance (pa_cons (pv 0) (pa_cons (pe_bltn (v := .ty "bool") rfl B.bool boot_bool rfl) pa_nil)))))))), ?_⟩
    change tRet _ _ [some (V.int i)] H
    simp only [tSeq, tNext, tAsg, gName, tVar, tC, tOp, rI, rI0, rEq, rNe, scal, tTest, tB, tIfS, tRet, tRetN, tDrop, tNot, tNotV, tOr, tAnd, tOrV, tAndV, tCons, tNil, tCall, tCB, tUn, rU, tPar, tIf, rIxL, rIxT, tTrue, tFor_eq, tComp_eq, tLst, tTup, rEqI, rEqA, rNeA, rCat, rRep, tSl, rSlL, tPart, tNoPart, tRev, gSub, rSetL, tInts, iList, iRng1, iRng2, iZip, iEnum, tBM, rAppend, List.getElem?_cons_zero, List.getElem?_cons_succ, Option.some.injEq, List.set_cons_zero, List.set_cons_succ, exists_and_left, exists_eq_left, exists_eq_left', V.int.injEq, V.ref.injEq, V.bl.injEq, V.ty.injEq, List.cons.injEq, and_true, true_and, List.append_nil, List.cons_append, List.nil_append, and_assoc, cxOf, ite_not, if_true, if_false, Bool.false_eq_true, Bool.true_eq_false, Bool.not_true, Bool.not_false, reduceIte, Bool.not_eq_true', decide_eq_false_iff_not, decide_eq_true_eq]
    exact ⟨_, .int i, true, rfl, iteT ⟨_, .int i, false, rfl, k⟩⟩
theorem sc_law_row_is : FnScope ["_law_found", "_law_due", "_law_one", "_law_other"] ["_law_found", "_law_due"] (defScope s_law_row_is) := ⟨rfl, rfl, rfl, by decide +kernel, rfl, by decide +kernel, by decide +kernel⟩
theorem c_law_row_is (T : Txt K mg) : Cal P w K mg base "_law_row_is" 2 ["_law_found", "_law_due"] (sp_row K) := by
  refine T.law_row_is.ok sc_law_row_is (fun vs H Q E h => ?_) (fun f cdv A outer s H vs Q E hr h => ?_)
  · obtain ⟨a, b, xs, ys, rfl, _⟩ := h; rfl
  · obtain ⟨a, b, xs, ys, rfl, h1, h2, k⟩ := h
    have B := T.B
    have c_law_whole := c_law_whole (P := P) (w := w) (base := base) T
    have h1s : SqL K H a (xs.map V.int) := SqL.of h1
    refine ⟨_, (pss_cons (ps_if (PW.pt (pw_or (pt_not (pt_val (pe_callB call_isinst rfl B.isinstance boot_isinstance (pa_cons (pv 0) (pa_cons (pe_bltn (v := .ty "list") rfl B.list boot_list rfl) pa_nil))))) (pw_or1 (pt_cmpR op_ne (pe_callB call_len_seq rfl B.len PySem.boot_len (pa_cons (pv 0) pa_nil)) (pe_callB call_len_seq rfl B.len PySem.boot_len (pa_cons (pv 1) pa_nil)) (nomark _))))) (pss_one (ps_ret pe_bl)) pss_nil)
 (pss_cons (ps_for PassesOwn.never rfl (pi_zip rfl B.zip (pa_cons (pv 0) (pa_cons (pv 1) pa_nil))) (pg_tup (n := 2) rfl (pgs_cons (pg_name (i := 2) sc_law_row_is.nd rfl (Or.inl rfl)) (pgs_cons (pg_name (i := 3) sc_law_row_is.nd rfl (Or.inl rfl)) pgs_nil))) (pss_one (ps_if (PW.pt (pw_or (pt_not (pt_val (pe_cal c_law_whole (hr.mono (by decide)) (pa_cons (pv 2) pa_nil)))) (pw_or1 (pt_cmpR op_ne (pv 2) (pv 3) (nomark _))))) (pss_one (ps_ret pe_bl)) pss_nil)))
 (pss_one (ps_ret pe_bl)))), ?_⟩
    change tSeq _ _ _ [some (V.ref a), some (V.ref b), none, none] H
    simp only [tSeq, tNext, tAsg, gName, tVar, tC, tOp, rI, rI0, rEq, rNe, scal, tTest, tB, tIfS, tRet, tRetN, tDrop, tNot, tNotV, tOr, tAnd, tOrV, tAndV, tCons, tNil, tCall, tCB, tUn, rU, tPar, tIf, rIxL, rIxT, tTrue, tFor_eq, tComp_eq, tLst, tTup, rEqI, rEqA, rNeA, rCat, rRep, tSl, rSlL, tPart, tNoPart, tRev, gSub, rSetL, tInts, iList, iRng1, iRng2, iZip, iEnum, tBM, rAppend, List.getElem?_cons_zero, List.getElem?_cons_succ, Option.some.injEq, List.set_cons_zero, List.set_cons_succ, exists_and_left, exists_eq_left, exists_eq_left', V.int.injEq, V.ref.injEq, V.bl.injEq, V.ty.injEq, List.cons.injEq, and_true, true_and, List.append_nil, List.cons_append, List.nil_append, and_assoc, cxOf, ite_not, if_true, if_false, Bool.false_eq_true, Bool.true_eq_false, Bool.not_true, Bool.not_false, reduceIte, Bool.not_eq_true', decide_eq_false_iff_not, decide_eq_true_eq]
    refine ⟨_, .lst h1, true, rfl, if_neg_of (by decide) ?_⟩
    refine ⟨_, .inl h1s, _, .inl h2, ite2 (fun hn => ?_) fun hn => ?_⟩
    · have hlen : xs.length = ys.length := by
        rw [List.length_map, List.length_map] at hn
        omega
      refine ⟨⟨_, h1s⟩, ⟨_, h2⟩, loop_zip (K := K) (xs := xs.map V.int) (ys := ys.map V.int)
        (fun i σ H2 => Same H H2 ∧ (∃ u v, σ = [some (.ref a), some (.ref b), u, v]) ∧ ∀ j, j < i → xs[j]? = ys[j]?) ⟨Same.refl H, ⟨_, _, rfl⟩, fun j hj => absurd hj (Nat.not_lt_zero j)⟩ (fun i σ H2 _ _ ⟨e, _⟩ => ⟨e.seq h1s, e.seq h2⟩) ?_ ?_⟩
      · rintro i x y T' σ H2 hx hy ⟨hs, ⟨u, v, rfl⟩, hj⟩ hT
        obtain ⟨x', hx', rfl⟩ := map_int hx
        obtain ⟨y', hy', rfl⟩ := map_int hy
        have hs' : Same H (upd H2 T' (.tup [V.int x', V.int y'])) := fun c o e => by rw [upd_ne (ne_of_none (hs c o e) hT)]; exact hs c o e
        refine gTup2 upd_same ?_
        simp only [tSeq, tNext, tAsg, gName, tVar, tC, tOp, rI, rI0, rEq, rNe, scal, tTest, tB, tIfS, tRet, tRetN, tDrop, tNot, tNotV, tOr, tAnd, tOrV, tAndV, tCons, tNil, tCall, tCB, tUn, rU, tPar, tIf, rIxL, rIxT, tTrue, tFor_eq, tComp_eq, tLst, tTup, rEqI, rEqA, rNeA, rCat, rRep, tSl, rSlL, tPart, tNoPart, tRev, gSub, rSetL, tInts, iList, iRng1, iRng2, iZip, iEnum, tBM, rAppend, List.getElem?_cons_zero, List.getElem?_cons_succ, Option.some.injEq, List.set_cons_zero, List.set_cons_succ, exists_and_left, exists_eq_left, exists_eq_left', V.int.injEq, V.ref.injEq, V.bl.injEq, V.ty.injEq, List.cons.injEq, and_true, true_and, List.append_nil, List.cons_append, List.nil_append, and_assoc, cxOf, ite_not, if_true, if_false, Bool.false_eq_true, Bool.true_eq_false, Bool.not_true, Bool.not_false, reduceIte, Bool.not_eq_true', decide_eq_false_iff_not, decide_eq_true_eq, sp_whole]
        refine ite2 (fun e => ?_) fun e => ?_
        · refine ⟨hs', ⟨_, rfl⟩, fun j hj' => ?_⟩
          rcases Nat.lt_succ_iff_lt_or_eq.mp hj' with h | h
          · exact hj j h
          · rw [h, hx', hy', e]
        · have : ¬ xs = ys := fun q => by
            rw [q, hy'] at hx'
            exact e (Option.some.inj hx').symm
          rw [← decide_eq_false this]
          exact k _ hs'
      · rintro σ H2 ⟨hs, ⟨u, v, rfl⟩, hj⟩
        have : xs = ys := by
          apply List.ext_getElem?
          intro j
          by_cases h : j < xs.length
          · exact hj j (by rw [List.length_map, List.length_map]; omega)
          · rw [List.getElem?_eq_none (by omega), List.getElem?_eq_none (by omega)]
        simp only [tSeq, tNext, tAsg, gName, tVar, tC, tOp, rI, rI0, rEq, rNe, scal, tTest, tB, tIfS, tRet, tRetN, tDrop, tNot, tNotV, tOr, tAnd, tOrV, tAndV, tCons, tNil, tCall, tCB, tUn, rU, tPar, tIf, rIxL, rIxT, tTrue, tFor_eq, tComp_eq, tLst, tTup, rEqI, rEqA, rNeA, rCat, rRep, tSl, rSlL, tPart, tNoPart, tRev, gSub, rSetL, tInts, iList, iRng1, iRng2, iZip, iEnum, tBM, rAppend, List.getElem?_cons_zero, List.getElem?_cons_succ, Option.some.injEq, List.set_cons_zero, List.set_cons_succ, exists_and_left, exists_eq_left, exists_eq_left', V.int.injEq, V.ref.injEq, V.bl.injEq, V.ty.injEq, List.cons.injEq, and_true, true_and, List.append_nil, List.cons_append, List.nil_append, and_assoc, cxOf, ite_not, if_true, if_false, Bool.false_eq_true, Bool.true_eq_false, Bool.not_true, Bool.not_false, reduceIte, Bool.not_eq_true', decide_eq_false_iff_not, decide_eq_true_eq]
        have := k H2 hs
        rw [decide_eq_true ‹xs = ys›] at this
        exact this
    · have : ¬ xs = ys := fun e => hn (by rw [e])
      rw [← decide_eq_false this]
      exact k H (Same.refl H)
theorem sc_law_mix : FnScope ["_law_cell", "_law_k", "_law_once"] ["_law_cell", "_law_k"] (defScope s_law_mix) := ⟨rfl, rfl, rfl, by decide +kernel, rfl, by decide +kernel, by decide +kernel⟩
theorem c_law_mix (T : Txt K mg) : Cal P w K mg base "_law_mix" 1 ["_law_cell", "_law_k"] sp_mix := by
  refine T.law_mix.ok sc_law_mix (fun vs H Q E h => ?_) (fun f cdv A outer s H vs Q E hr h => ?_)
  · obtain ⟨c, k, rfl, _⟩ := h; rfl
  · obtain ⟨c, n, rfl, k⟩ := h
    have B := T.B
    refine ⟨_, (pss_cons (ps_set (i := 2) sc_law_mix.nd rfl (Or.inl rfl) (pe_op op_mod (pe_op op_add (pe_op op_add (pe_op op_mulA (pv 0) pe_int) (pe_op op_mulA (pv 1) pe_int)) pe_int) pe_int))
 (pss_one (ps_ret (pe_op op_mod (pe_op op_mulA (pe_op op_mod (pe_op op_mulA (pv 2) (pv 2)) pe_int) pe_int) pe_int)))), ?_⟩
    change tSeq _ _ _ [some (V.int c), some (V.int n), none] H
    simp only [tSeq, tNext, tAsg, gName, tVar, tC, tOp, rI, rI0, rEq, rNe, scal, tTest, tB, tIfS, tRet, tRetN, tDrop, tNot, tNotV, tOr, tAnd, tOrV, tAndV, tCons, tNil, tCall, tCB, tUn, rU, tPar, tIf, rIxL, rIxT, tTrue, tFor_eq, tComp_eq, tLst, tTup, rEqI, rEqA, rNeA, rCat, rRep, tSl, rSlL, tPart, tNoPart, tRev, gSub, rSetL, tInts, iList, iRng1, iRng2, iZip, iEnum, tBM, rAppend, List.getElem?_cons_zero, List.getElem?_cons_succ, Option.some.injEq, List.set_cons_zero, List.set_cons_succ, exists_and_left, exists_eq_left, exists_eq_left', V.int.injEq, V.ref.injEq, V.bl.injEq, V.ty.injEq, List.cons.injEq, and_true, true_and, List.append_nil, List.cons_append, List.nil_append, and_assoc, cxOf, ite_not, if_true, if_false, Bool.false_eq_true, Bool.true_eq_false, Bool.not_true, Bool.not_false, reduceIte, Bool.not_eq_true', decide_eq_false_iff_not, decide_eq_true_eq]
    have h0 : ∀ x : Int, 0 ≤ x % 2147483647 ∧ x % 2147483647 < 2147483647 := fun x => ⟨Int.emod_nonneg _ (by decide), Int.emod_lt_of_pos _ (by decide)⟩
    have hx := h0 (c * 48271 + n * 7368787 + 1)
    refine ⟨mulA_r (by decide) (by decide), mulA_r (by decide) (by decide), by decide, mulA_l (by omega) (by omega), by decide, mulA_r (by decide) (by decide), by decide, k _ (h0 _).1 (h0 _).2⟩
theorem sc_law_draws : FnScope ["_law_cell", "_law_many", "_law_size", "_law_mixed", "_law_told", "_law_k"] ["_law_cell", "_law_many", "_law_size", "_law_mixed"] (defScope s_law_draws) := ⟨rfl, rfl, rfl, by decide +kernel, rfl, by decide +kernel, by decide +kernel⟩
theorem c_law_draws (T : Txt K mg) : Cal P w K mg base "_law_draws" 2 ["_law_cell", "_law_many", "_law_size", "_law_mixed"] sp_draws := by
  refine T.law_draws.ok sc_law_draws (fun vs H Q E h => ?_) (fun f cdv A outer s H vs Q E hr h => ?_)
  · obtain ⟨c, many, size, b, rfl, _⟩ := h; rfl
  · obtain ⟨c, many, size, b, rfl, hm0, hm1, hs0, hs1, k⟩ := h
    have B := T.B
    have c_law_mix := c_law_mix (P := P) (w := w) (base := base) T
    refine ⟨_, (pss_cons (ps_set (i := 4) sc_law_draws.nd rfl (Or.inl rfl) (pe_lst pa_nil))
 (pss_cons (ps_for PassesOwn.never rfl (pi_range1 rfl B.range (pa_cons (pv 1) pa_nil)) (pg_name (i := 5) sc_law_draws.nd rfl (Or.inl rfl)) (pss_one (ps_if (pt_val (pv 3)) (pss_one (ps_expr (pe_bm PySem.F.plainAttrs_list PySem.F.slot_list_append PySem.F.type_list_append mt_append (pv 4) (pa_cons (pe_op op_modN (pe_op op_fdiv (pe_cal c_law_mix (hr.mono (by decide)) (pa_cons (pv 0) (pa_cons (pv 5) pa_nil))) pe_int) (pv 2)) pa_nil)))) (pss_cons (ps_expr (pe_bm PySem.F.plainAttrs_list PySem.F.slot_list_append PySem.F.type_list_append mt_append (pv 4) (pa_cons (pe_op op_modN (pv 0) (pv 2)) pa_nil)))
 (pss_one (ps_set (i := 0) sc_law_draws.nd rfl (Or.inl rfl) (pe_op op_fdivB (pv 0) (pv 2))))))))
 (pss_one (ps_ret (pv 4))))), ?_⟩
    change tSeq _ _ _ [some (V.int c), some (V.int many), some (V.int size), some (V.bl b), none, none] H
    simp only [tSeq, tNext, tAsg, gName, tVar, tC, tOp, rI, rI0, rEq, rNe, scal, tTest, tB, tIfS, tRet, tRetN, tDrop, tNot, tNotV, tOr, tAnd, tOrV, tAndV, tCons, tNil, tCall, tCB, tUn, rU, tPar, tIf, rIxL, rIxT, tTrue, tFor_eq, tComp_eq, tLst, tTup, rEqI, rEqA, rNeA, rCat, rRep, tSl, rSlL, tPart, tNoPart, tRev, gSub, rSetL, tInts, iList, iRng1, iRng2, iZip, iEnum, tBM, rAppend, List.getElem?_cons_zero, List.getElem?_cons_succ, Option.some.injEq, List.set_cons_zero, List.set_cons_succ, exists_and_left, exists_eq_left, exists_eq_left', V.int.injEq, V.ref.injEq, V.bl.injEq, V.ty.injEq, List.cons.injEq, and_true, true_and, List.append_nil, List.cons_append, List.nil_append, and_assoc, cxOf, ite_not, if_true, if_false, Bool.false_eq_true, Bool.true_eq_false, Bool.not_true, Bool.not_false, reduceIte, Bool.not_eq_true', decide_eq_false_iff_not, decide_eq_true_eq]
    refine ⟨by show 0 ≤ sizeLine; decide, fun r hr0 => ⟨by omega, by omega, ?_⟩⟩
    refine loop_range (fun i σ H2 => Same H H2 ∧ ∃ (c' : Int) (u : Option V) (xs : List Int), H2 r = some (.lst (xs.map V.int)) ∧ xs.length = i ∧ (∀ x ∈ xs, 0 ≤ x ∧ x < size) ∧ σ = [some (V.int c'), some (V.int many), some (V.int size), some (V.bl b), some (V.ref r), u])
      ⟨same_upd hr0, c, none, [], upd_same, rfl, (fun _ h => nomatch h), rfl⟩ ?_ ?_
    · rintro i σ H2 hi ⟨sm, c', u, xs, hx, hl, hb, rfl⟩
      have hsz : (xs.map V.int).length < sizeLine := by rw [List.length_map]; exact small1000 (by omega)
      have fin : ∀ z : Int, 0 ≤ z → z < size → Same H (upd H2 r (.lst (xs.map V.int ++ [V.int z]))) ∧ ∃ ys : List Int, upd H2 r (.lst (xs.map V.int ++ [V.int z])) r = some (.lst (ys.map V.int)) ∧ ys.length = i + 1 ∧ ∀ x ∈ ys, 0 ≤ x ∧ x < size := fun z z0 z1 => by
        refine ⟨fun b o e => by rw [upd_ne (ne_of_none e hr0)]; exact sm b o e, xs ++ [z], by rw [upd_same, List.map_append]; rfl, by rw [List.length_append, hl]; rfl, fun x hx => ?_⟩
        rcases List.mem_append.mp hx with hx | hx
        · exact hb x hx
        · rw [List.mem_singleton.mp hx]; exact ⟨z0, z1⟩
      simp only [tSeq, tNext, tAsg, gName, tVar, tC, tOp, rI, rI0, rEq, rNe, scal, tTest, tB, tIfS, tRet, tRetN, tDrop, tNot, tNotV, tOr, tAnd, tOrV, tAndV, tCons, tNil, tCall, tCB, tUn, rU, tPar, tIf, rIxL, rIxT, tTrue, tFor_eq, tComp_eq, tLst, tTup, rEqI, rEqA, rNeA, rCat, rRep, tSl, rSlL, tPart, tNoPart, tRev, gSub, rSetL, tInts, iList, iRng1, iRng2, iZip, iEnum, tBM, rAppend, List.getElem?_cons_zero, List.getElem?_cons_succ, Option.some.injEq, List.set_cons_zero, List.set_cons_succ, exists_and_left, exists_eq_left, exists_eq_left', V.int.injEq, V.ref.injEq, V.bl.injEq, V.ty.injEq, List.cons.injEq, and_true, true_and, List.append_nil, List.cons_append, List.nil_append, and_assoc, cxOf, ite_not, if_true, if_false, Bool.false_eq_true, Bool.true_eq_false, Bool.not_true, Bool.not_false, reduceIte, Bool.not_eq_true', decide_eq_false_iff_not, decide_eq_true_eq, sp_mix]
      refine ite2 (fun _ => ?_) fun _ => ?_
      · refine ⟨.inl ⟨rfl, _, SqL.of hx⟩, fun z z0 z1 => ?_⟩
        have f0 := Int.fmod_nonneg_of_pos (z / 7) hs0
        have f1 := Int.fmod_lt_of_pos (z / 7) hs0
        obtain ⟨q0, ys, q1, q2, q3⟩ := fin _ f0 f1
        exact ⟨⟨by decide, by decide⟩, by omega, _, hx, hsz, q0, _, _, ys, q1, q2, q3, rfl, rfl⟩
      · have f0 := Int.fmod_nonneg_of_pos c' hs0
        have f1 := Int.fmod_lt_of_pos c' hs0
        obtain ⟨q0, ys, q1, q2, q3⟩ := fin _ f0 f1
        refine ⟨.inl ⟨rfl, _, SqL.of hx⟩, by omega, _, hx, hsz, ⟨by omega, Nat.lt_of_lt_of_le (show _ < 2 ^ 60 by omega) (by decide)⟩, q0, ?_⟩
        exact ⟨_, _, ys, q1, q2, q3, rfl, rfl⟩
    · rintro σ H2 ⟨sm, c', u, xs, hx, hl, hb, rfl⟩
      simp only [tSeq, tNext, tAsg, gName, tVar, tC, tOp, rI, rI0, rEq, rNe, scal, tTest, tB, tIfS, tRet, tRetN, tDrop, tNot, tNotV, tOr, tAnd, tOrV, tAndV, tCons, tNil, tCall, tCB, tUn, rU, tPar, tIf, rIxL, rIxT, tTrue, tFor_eq, tComp_eq, tLst, tTup, rEqI, rEqA, rNeA, rCat, rRep, tSl, rSlL, tPart, tNoPart, tRev, gSub, rSetL, tInts, iList, iRng1, iRng2, iZip, iEnum, tBM, rAppend, List.getElem?_cons_zero, List.getElem?_cons_succ, Option.some.injEq, List.set_cons_zero, List.set_cons_succ, exists_and_left, exists_eq_left, exists_eq_left', V.int.injEq, V.ref.injEq, V.bl.injEq, V.ty.injEq, List.cons.injEq, and_true, true_and, List.append_nil, List.cons_append, List.nil_append, and_assoc, cxOf, ite_not, if_true, if_false, Bool.false_eq_true, Bool.true_eq_false, Bool.not_true, Bool.not_false, reduceIte, Bool.not_eq_true', decide_eq_false_iff_not, decide_eq_true_eq]
      exact k r H2 xs hr0 sm hx (by omega) hb
theorem sc_law_row : FnScope ["_law_cell", "_law_width", "_law_way"] ["_law_cell", "_law_width", "_law_way"] (defScope s_law_row) := ⟨rfl, rfl, rfl, by decide +kernel, rfl, by decide +kernel, by decide +kernel⟩
theorem c_law_row (T : Txt K mg) : Cal P w K mg base "_law_row" 3 ["_law_cell", "_law_width", "_law_way"] sp_rowl := by
  refine T.law_row.ok sc_law_row (fun vs H Q E h => ?_) (fun f cdv A outer s H vs Q E hr h => ?_)
  · obtain ⟨c, wd, way, rfl, _⟩ := h; rfl
  · obtain ⟨c, wd, way, rfl, h0, h6, k⟩ := h
    have B := T.B
    have c_law_draws := c_law_draws (P := P) (w := w) (base := base) T
    refine ⟨_, (pss_cons (ps_if (pt_cmpR op_eq (pv 2) pe_int (nomark _)) (pss_one (ps_ret (pe_lc (pi_list (pe_cal c_law_draws (hr.mono (by decide)) (pa_cons (pv 0) (pa_cons (pv 1) (pa_cons pe_int (pa_cons pe_bl pa_nil)))))) .nil (.own (x := "_law_x") .nil) (fun _ _ _ _ => (pg_name (i := 0) (show (["_law_x"] : List Str).Nodup from by decide +kernel) rfl (Or.inl rfl))) (fun _ _ _ _ => ifs_nil) (fun _ _ _ _ => (pe_ix (ix_listK (K := K) rfl) (pe_lstC (ns := [0, 1, -1, 0, 2, -2, 1, -1, 3, -3, 0]) rfl) (pv 0) (fun _ _ => rfl)))))) pss_nil)
 (pss_cons (ps_if (pt_cmpR op_eq (pv 2) pe_int (nomark _)) (pss_one (ps_ret (pe_lc (pi_list (pe_cal c_law_draws (hr.mono (by decide)) (pa_cons (pv 0) (pa_cons (pv 1) (pa_cons pe_int (pa_cons pe_bl pa_nil)))))) .nil (.own (x := "_law_x") .nil) (fun _ _ _ _ => (pg_name (i := 0) (show (["_law_x"] : List Str).Nodup from by decide +kernel) rfl (Or.inl rfl))) (fun _ _ _ _ => ifs_nil) (fun _ _ _ _ => (pe_ix (ix_listK (K := K) rfl) (pe_lstC (ns := [0, 1, -1, 0]) rfl) (pv 0) (fun _ _ => rfl)))))) pss_nil)
 (pss_one (ps_ret (pe_lc (pi_list (pe_cal c_law_draws (hr.mono (by decide)) (pa_cons (pv 0) (pa_cons (pv 1) (pa_cons pe_int (pa_cons (pe_cmpR op_eq (pv 2) pe_int (nomark _)) pa_nil)))))) .nil (.own (x := "_law_x") .nil) (fun _ _ _ _ => (pg_name (i := 0) (show (["_law_x"] : List Str).Nodup from by decide +kernel) rfl (Or.inl rfl))) (fun _ _ _ _ => ifs_nil) (fun _ _ _ _ => (pe_op op_sub (pe_op op_mod (pe_op op_add (pv 0) pe_int) pe_int) pe_int))))))), ?_⟩
    change tSeq _ _ _ [some (V.int c), some (V.int wd), some (V.int way)] H
    simp only [tSeq, tNext, tAsg, gName, tVar, tC, tOp, rI, rI0, rEq, rNe, scal, tTest, tB, tIfS, tRet, tRetN, tDrop, tNot, tNotV, tOr, tAnd, tOrV, tAndV, tCons, tNil, tCall, tCB, tUn, rU, tPar, tIf, rIxL, rIxT, tTrue, tFor_eq, tComp_eq, tLst, tTup, rEqI, rEqA, rNeA, rCat, rRep, tSl, rSlL, tPart, tNoPart, tRev, gSub, rSetL, tInts, iList, iRng1, iRng2, iZip, iEnum, tBM, rAppend, List.getElem?_cons_zero, List.getElem?_cons_succ, Option.some.injEq, List.set_cons_zero, List.set_cons_succ, exists_and_left, exists_eq_left, exists_eq_left', V.int.injEq, V.ref.injEq, V.bl.injEq, V.ty.injEq, List.cons.injEq, and_true, true_and, List.append_nil, List.cons_append, List.nil_append, and_assoc, cxOf, ite_not, if_true, if_false, Bool.false_eq_true, Bool.true_eq_false, Bool.not_true, Bool.not_false, reduceIte, Bool.not_eq_true', decide_eq_false_iff_not, decide_eq_true_eq, sp_draws]
    have pickC : ∀ (menu : List Int), (∀ y ∈ menu, -9 ≤ y ∧ y ≤ 9) → 0 < menu.length → menu.length ≤ 20 → ∀ (p : Addr) (H1 : Hp) (xs : List Int), H p = none → Same H H1 → H1 p = some (.lst (xs.map V.int)) → (xs.length : Int) = wd → (∀ x ∈ xs, 0 ≤ x ∧ x < (menu.length : Int)) →
        ∀ (te : TE), (∀ x : Int, ∀ H2 (Q' : VK), (∀ q, H2 q = none → ∀ z, z ∈ menu → Q' (.int z) (upd H2 q (.lst (menu.map V.int)))) → 0 ≤ x → x < (menu.length : Int) → te [some (V.int x)] H2 Q') →
        CompOk (Itl K p) (gName 0) tTrue te Q [none] H1 := by
      intro menu hm1 hm2 hm3 p H1 xs hp sm hx hl hb te hte
      refine lc_list (K := K) (xs := xs.map V.int) (fun i σ H2 ys => Same H1 H2 ∧ (∃ v, σ = [v]) ∧ ∃ zs : List Int, ys = zs.map V.int ∧ zs.length = i ∧ ∀ z ∈ zs, -9 ≤ z ∧ z ≤ 9) ⟨Same.refl _, ⟨_, rfl⟩, [], rfl, rfl, (fun _ h => nomatch h)⟩ (fun i σ H2 ys _ ⟨e, _⟩ => e.seq (SqL.of hx)) ?_ ?_
      · rintro i y σ H2 ys hi ⟨sm2, ⟨v, rfl⟩, zs, rfl, hzl, hz⟩
        obtain ⟨x, hx1, rfl⟩ := map_int hi
        have hlt : i < xs.length := (List.getElem?_eq_some_iff.mp hx1).1
        have hxb := hb x (List.mem_of_getElem? hx1)
        simp only [tSeq, tNext, tAsg, gName, tVar, tC, tOp, rI, rI0, rEq, rNe, scal, tTest, tB, tIfS, tRet, tRetN, tDrop, tNot, tNotV, tOr, tAnd, tOrV, tAndV, tCons, tNil, tCall, tCB, tUn, rU, tPar, tIf, rIxL, rIxT, tTrue, tFor_eq, tComp_eq, tLst, tTup, rEqI, rEqA, rNeA, rCat, rRep, tSl, rSlL, tPart, tNoPart, tRev, gSub, rSetL, tInts, iList, iRng1, iRng2, iZip, iEnum, tBM, rAppend, List.getElem?_cons_zero, List.getElem?_cons_succ, Option.some.injEq, List.set_cons_zero, List.set_cons_succ, exists_and_left, exists_eq_left, exists_eq_left', V.int.injEq, V.ref.injEq, V.bl.injEq, V.ty.injEq, List.cons.injEq, and_true, true_and, List.append_nil, List.cons_append, List.nil_append, and_assoc, cxOf, ite_not, if_true, if_false, Bool.false_eq_true, Bool.true_eq_false, Bool.not_true, Bool.not_false, reduceIte, Bool.not_eq_true', decide_eq_false_iff_not, decide_eq_true_eq]
        refine hte x H2 _ (fun q hq z hzm => ⟨?_, sm2.trans (same_upd hq), ⟨_, rfl⟩, zs ++ [z], by rw [List.map_append]; rfl, by rw [List.length_append, hzl]; rfl, fun y hy => ?_⟩) hxb.1 hxb.2
        · rw [List.length_map]; exact small1000 (by omega)
        · rcases List.mem_append.mp hy with hy | hy
          · exact hz y hy
          · rw [List.mem_singleton.mp hy]; exact hm1 z hzm
      · rintro σ H2 ys ⟨sm2, ⟨v, rfl⟩, zs, rfl, hzl, hz⟩
        rw [List.length_map] at hzl
        refine ⟨by rw [List.length_map]; exact Nat.le_of_lt (small1000 (by omega)), fun q hq => k q _ zs (sm.free (sm2.free hq)) (sm.trans (sm2.trans (same_upd hq))) upd_same (by omega) hz⟩
    refine ite2 (fun _ => ?_) fun _ => ite2 (fun _ => ?_) fun _ => ?_
    · refine ⟨h0, by omega, by decide, by decide, fun p H1 xs hp sm hx hl hb => ⟨⟨_, SqL.of hx⟩, ?_⟩⟩
      refine pickC [0, 1, -1, 0, 2, -2, 1, -1, 3, -3, 0] (by decide) (by decide) (by decide) p H1 xs hp sm hx hl hb _ fun x H2 Q' hq x0 x1 => ?_
      simp only [tSeq, tNext, tAsg, gName, tVar, tC, tOp, rI, rI0, rEq, rNe, scal, tTest, tB, tIfS, tRet, tRetN, tDrop, tNot, tNotV, tOr, tAnd, tOrV, tAndV, tCons, tNil, tCall, tCB, tUn, rU, tPar, tIf, rIxL, rIxT, tTrue, tFor_eq, tComp_eq, tLst, tTup, rEqI, rEqA, rNeA, rCat, rRep, tSl, rSlL, tPart, tNoPart, tRev, gSub, rSetL, tInts, iList, iRng1, iRng2, iZip, iEnum, tBM, rAppend, List.getElem?_cons_zero, List.getElem?_cons_succ, Option.some.injEq, List.set_cons_zero, List.set_cons_succ, exists_and_left, exists_eq_left, exists_eq_left', V.int.injEq, V.ref.injEq, V.bl.injEq, V.ty.injEq, List.cons.injEq, and_true, true_and, List.append_nil, List.cons_append, List.nil_append, and_assoc, cxOf, ite_not, if_true, if_false, Bool.false_eq_true, Bool.true_eq_false, Bool.not_true, Bool.not_false, reduceIte, Bool.not_eq_true', decide_eq_false_iff_not, decide_eq_true_eq]
      refine ⟨by show 11 ≤ sizeLine; decide, fun q hq' => ⟨_, SqL.of upd_same, ?_⟩⟩
      obtain ⟨z, hz, e⟩ := at_list (xs := [0, 1, -1, 0, 2, -2, 1, -1, 3, -3, 0]) x0 x1
      exact ⟨_, e, hq q hq' z hz⟩
    · refine ⟨h0, by omega, by decide, by decide, fun p H1 xs hp sm hx hl hb => ⟨⟨_, SqL.of hx⟩, ?_⟩⟩
      refine pickC [0, 1, -1, 0] (by decide) (by decide) (by decide) p H1 xs hp sm hx hl hb _ fun x H2 Q' hq x0 x1 => ?_
      simp only [tSeq, tNext, tAsg, gName, tVar, tC, tOp, rI, rI0, rEq, rNe, scal, tTest, tB, tIfS, tRet, tRetN, tDrop, tNot, tNotV, tOr, tAnd, tOrV, tAndV, tCons, tNil, tCall, tCB, tUn, rU, tPar, tIf, rIxL, rIxT, tTrue, tFor_eq, tComp_eq, tLst, tTup, rEqI, rEqA, rNeA, rCat, rRep, tSl, rSlL, tPart, tNoPart, tRev, gSub, rSetL, tInts, iList, iRng1, iRng2, iZip, iEnum, tBM, rAppend, List.getElem?_cons_zero, List.getElem?_cons_succ, Option.some.injEq, List.set_cons_zero, List.set_cons_succ, exists_and_left, exists_eq_left, exists_eq_left', V.int.injEq, V.ref.injEq, V.bl.injEq, V.ty.injEq, List.cons.injEq, and_true, true_and, List.append_nil, List.cons_append, List.nil_append, and_assoc, cxOf, ite_not, if_true, if_false, Bool.false_eq_true, Bool.true_eq_false, Bool.not_true, Bool.not_false, reduceIte, Bool.not_eq_true', decide_eq_false_iff_not, decide_eq_true_eq]
      refine ⟨by show 4 ≤ sizeLine; decide, fun q hq' => ⟨_, SqL.of upd_same, ?_⟩⟩
      obtain ⟨z, hz, e⟩ := at_list (xs := [0, 1, -1, 0]) x0 x1
      exact ⟨_, e, hq q hq' z hz⟩
    · refine ⟨h0, by omega, by decide, by decide, fun p H1 xs hp sm hx hl hb => ⟨⟨_, SqL.of hx⟩, ?_⟩⟩
      refine lc_list (K := K) (xs := xs.map V.int) (fun i σ H2 ys => H1 = H2 ∧ (∃ v, σ = [v]) ∧ ∃ zs : List Int, ys = zs.map V.int ∧ zs.length = i ∧ ∀ z ∈ zs, -9 ≤ z ∧ z ≤ 9) ⟨rfl, ⟨_, rfl⟩, [], rfl, rfl, (fun _ h => nomatch h)⟩ (fun i σ H2 ys _ ⟨e, _⟩ => e ▸ SqL.of hx) ?_ ?_
      · rintro i y σ _ ys hi ⟨rfl, ⟨v, rfl⟩, zs, rfl, hzl, hz⟩
        obtain ⟨x, hx1, rfl⟩ := map_int hi
        have hlt : i < xs.length := (List.getElem?_eq_some_iff.mp hx1).1
        simp only [tSeq, tNext, tAsg, gName, tVar, tC, tOp, rI, rI0, rEq, rNe, scal, tTest, tB, tIfS, tRet, tRetN, tDrop, tNot, tNotV, tOr, tAnd, tOrV, tAndV, tCons, tNil, tCall, tCB, tUn, rU, tPar, tIf, rIxL, rIxT, tTrue, tFor_eq, tComp_eq, tLst, tTup, rEqI, rEqA, rNeA, rCat, rRep, tSl, rSlL, tPart, tNoPart, tRev, gSub, rSetL, tInts, iList, iRng1, iRng2, iZip, iEnum, tBM, rAppend, List.getElem?_cons_zero, List.getElem?_cons_succ, Option.some.injEq, List.set_cons_zero, List.set_cons_succ, exists_and_left, exists_eq_left, exists_eq_left', V.int.injEq, V.ref.injEq, V.bl.injEq, V.ty.injEq, List.cons.injEq, and_true, true_and, List.append_nil, List.cons_append, List.nil_append, and_assoc, cxOf, ite_not, if_true, if_false, Bool.false_eq_true, Bool.true_eq_false, Bool.not_true, Bool.not_false, reduceIte, Bool.not_eq_true', decide_eq_false_iff_not, decide_eq_true_eq]
        refine ⟨by decide, by rw [List.length_map]; exact small1000 (by omega), ⟨_, rfl⟩, zs ++ [(x + 9) % 19 - 9], by rw [List.map_append]; rfl, by rw [List.length_append, hzl]; rfl, fun y hy => ?_⟩
        rcases List.mem_append.mp hy with hy | hy
        · exact hz y hy
        · rw [List.mem_singleton.mp hy]; omega
      · rintro σ _ ys ⟨rfl, ⟨v, rfl⟩, zs, rfl, hzl, hz⟩
        rw [List.length_map] at hzl
        exact ⟨by rw [List.length_map]; exact Nat.le_of_lt (small1000 (by omega)), fun q hq => k q _ zs (sm.free hq) (sm.trans (same_upd hq)) upd_same (by omega) hz⟩
theorem sc_law_works : FnScope ["_law_script", "_law_way", "_law_turned", "_law_width", "_law_many", "_law_deeds", "_law_k", "_law_cell", "_law_row_here"] ["_law_script"] (defScope s_law_works) := ⟨rfl, rfl, rfl, by decide +kernel, rfl, by decide +kernel, by decide +kernel⟩
theorem c_law_works (T : Txt K mg) : Cal P w K mg base "_law_works" 4 ["_law_script"] (sp_works K) := by
  refine T.law_works.ok sc_law_works (fun vs H Q E h => ?_) (fun f cdv A outer s H vs Q E hr h => ?_)
  · obtain ⟨l, rfl, _⟩ := h; rfl
  · obtain ⟨l, rfl, ns, hS, k⟩ := h
    have B := T.B
    have c_law_row := c_law_row (P := P) (w := w) (base := base) T
    have c_law_at := c_law_at (P := P) (w := w) (base := base) T
    refine ⟨_, (@pss_cut _ _ _ _ _ (@ps_set _ _ (1) _ _ _ _ sc_law_works.nd rfl (Or.inl rfl) (@pe_ix _ _ _ _ _ _ _ ix_list (@pe_lstC _ _ _ ([0, 1, 0, 2, 0, 3, 0, 1]) rfl) (@pe_op _ _ _ _ _ _ _ _ op_mod (@pe_cal _ _ _ _ _ _ _ _ _ _ c_law_at (hr.mono (by decide)) (@pa_cons _ _ _ _ _ (@pv _ 0 _ _ (by rfl) (by first | exact Or.inl rfl | exact Or.inr (Or.inl rfl) | exact Or.inr (Or.inr rfl)) (by decide) (by decide)) (@pa_cons _ _ _ _ _ (@pe_int _ _ _ _) (@pa_nil _) (by rfl)) (by rfl)) (by rfl) (by decide) (by rfl) (by rfl)) (@pe_int _ _ _ _)) (fun _ _ => rfl)) (by rfl) (by first | exact .inl rfl | exact .inr rfl)) (@pss_cut _ _ _ _ _ (@ps_set _ _ (2) _ _ _ _ sc_law_works.nd rfl (Or.inl rfl) (@pe_cmpR _ _ _ _ _ _ _ _ op_eq (@pe_op _ _ _ _ _ _ _ _ op_mod (@pe_cal _ _ _ _ _ _ _ _ _ _ c_law_at (hr.mono (by decide)) (@pa_cons _ _ _ _ _ (@pv _ 0 _ _ (by rfl) (by first | exact Or.inl rfl | exact Or.inr (Or.inl rfl) | exact Or.inr (Or.inr rfl)) (by decide) (by decide)) (@pa_cons _ _ _ _ _ (@pe_int _ _ _ _) (@pa_nil _) (by rfl)) (by rfl)) (by rfl) (by decide) (by rfl) (by rfl)) (@pe_int _ _ _ _)) (@pe_int _ _ _ _) (nomark _)) (by rfl) (by first | exact .inl rfl | exact .inr rfl)) (@pss_cut _ _ _ _ _ (@ps_set _ _ (3) _ _ _ _ sc_law_works.nd rfl (Or.inl rfl) (@pe_ix _ _ _ _ _ _ _ ix_list (@pe_lstC _ _ _ ([2, 3, 1, 2, 4, 3, 0, 5, 2, 6, 3, 1]) rfl) (@pe_op _ _ _ _ _ _ _ _ op_mod (@pe_cal _ _ _ _ _ _ _ _ _ _ c_law_at (hr.mono (by decide)) (@pa_cons _ _ _ _ _ (@pv _ 0 _ _ (by rfl) (by first | exact Or.inl rfl | exact Or.inr (Or.inl rfl) | exact Or.inr (Or.inr rfl)) (by decide) (by decide)) (@pa_cons _ _ _ _ _ (@pe_int _ _ _ _) (@pa_nil _) (by rfl)) (by rfl)) (by rfl) (by decide) (by rfl) (by rfl)) (@pe_int _ _ _ _)) (fun _ _ => rfl)) (by rfl) (by first | exact .inl rfl | exact .inr rfl)) (@pss_cut _ _ _ _ _ (@ps_set _ _ (4) _ _ _ _ sc_law_works.nd rfl (Or.inl rfl) (@pe_ix _ _ _ _ _ _ _ ix_list (@pe_lstC _ _ _ ([4, 5, 6, 5, 3, 6, 7, 4, 5, 6, 2, 8, 1, 0, 9, 10]) rfl) (@pe_op _ _ _ _ _ _ _ _ op_mod (@pe_cal _ _ _ _ _ _ _ _ _ _ c_law_at (hr.mono (by decide)) (@pa_cons _ _ _ _ _ (@pv _ 0 _ _ (by rfl) (by first | exact Or.inl rfl | exact Or.inr (Or.inl rfl) | exact Or.inr (Or.inr rfl)) (by decide) (by decide)) (@pa_cons _ _ _ _ _ (@pe_int _ _ _ _) (@pa_nil _) (by rfl)) (by rfl)) (by rfl) (by decide) (by rfl) (by rfl)) (@pe_int _ _ _ _)) (fun _ _ => rfl)) (by rfl) (by first | exact .inl rfl | exact .inr rfl)) (@pss_cut _ _ _ _ _ (@ps_set _ _ (5) _ _ _ _ sc_law_works.nd rfl (Or.inl rfl) (@pe_lst _ _ _ _ (@pa_nil _)) (by rfl) (by first | exact .inl rfl | exact .inr rfl)) (@pss_cut _ _ _ _ _ (@ps_for _ _ _ _ _ _ _ _ PassesOwn.never rfl (@pi_range1 _ _ _ _ _ _ rfl B.range (@pa_cons _ _ _ _ _ (@pv _ 4 _ _ (by rfl) (by first | exact Or.inl rfl | exact Or.inr (Or.inl rfl) | exact Or.inr (Or.inr rfl)) (by decide) (by decide)) (@pa_nil _) (by rfl)) (by rfl)) (@pg_name _ _ (6) _ sc_law_works.nd rfl (Or.inl rfl) (by first | exact .inl rfl | exact .inr rfl)) (@pss_cons _ _ _ _ _ (@ps_set _ _ (7) _ _ _ _ sc_law_works.nd rfl (Or.inl rfl) (@pe_cal _ _ _ _ _ _ _ _ _ _ c_law_at (hr.mono (by decide)) (@pa_cons _ _ _ _ _ (@pv _ 0 _ _ (by rfl) (by first | exact Or.inl rfl | exact Or.inr (Or.inl rfl) | exact Or.inr (Or.inr rfl)) (by decide) (by decide)) (@pa_cons _ _ _ _ _ (@pe_op _ _ _ _ _ _ _ _ op_add (@pe_int _ _ _ _) (@pv _ 6 _ _ (by rfl) (by first | exact Or.inl rfl | exact Or.inr (Or.inl rfl) | exact Or.inr (Or.inr rfl)) (by decide) (by decide))) (@pa_nil _) (by rfl)) (by rfl)) (by rfl) (by decide) (by rfl) (by rfl)) (by rfl) (by first | exact .inl rfl | exact .inr rfl)) (@pss_cons _ _ _ _ _ (@ps_set _ _ (8) _ _ _ _ sc_law_works.nd rfl (Or.inl rfl) (@pe_cal _ _ _ _ _ _ _ _ _ _ c_law_row (hr.mono (by decide)) (@pa_cons _ _ _ _ _ (@pe_op _ _ _ _ _ _ _ _ op_add (@pv _ 7 _ _ (by rfl) (by first | exact Or.inl rfl | exact Or.inr (Or.inl rfl) | exact Or.inr (Or.inr rfl)) (by decide) (by decide)) (@pe_ix _ _ _ _ _ _ _ ix_list (@pe_lst _ _ _ _ (@pa_cons _ _ _ _ _ (@pe_int _ _ _ _) (@pa_cons _ _ _ _ _ (@pe_op _ _ _ _ _ _ _ _ op_mulA (@pe_int _ _ _ _) (@pv _ 6 _ _ (by rfl) (by first | exact Or.inl rfl | exact Or.inr (Or.inl rfl) | exact Or.inr (Or.inr rfl)) (by decide) (by decide))) (@pa_nil _) (by rfl)) (by rfl))) (@pe_callTy _ _ _ _ _ _ _ _ _ call_int1 rfl B.int boot_int (@pa_cons _ _ _ _ _ (@pe_cmpR _ _ _ _ _ _ _ _ op_gt (@pv _ 1 _ _ (by rfl) (by first | exact Or.inl rfl | exact Or.inr (Or.inl rfl) | exact Or.inr (Or.inr rfl)) (by decide) (by decide)) (@pe_int _ _ _ _) (nomark _)) (@pa_nil _) (by rfl)) (by decide) (by decide) (by rfl) (by rfl)) (fun _ _ => rfl))) (@pa_cons _ _ _ _ _ (@pv _ 3 _ _ (by rfl) (by first | exact Or.inl rfl | exact Or.inr (Or.inl rfl) | exact Or.inr (Or.inr rfl)) (by decide) (by decide)) (@pa_cons _ _ _ _ _ (@pv _ 1 _ _ (by rfl) (by first | exact Or.inl rfl | exact Or.inr (Or.inl rfl) | exact Or.inr (Or.inr rfl)) (by decide) (by decide)) (@pa_nil _) (by rfl)) (by rfl)) (by rfl)) (by rfl) (by decide) (by rfl) (by rfl)) (by rfl) (by first | exact .inl rfl | exact .inr rfl)) (@pss_cons _ _ _ _ _ (@ps_if _ _ _ _ _ _ _ _ (@PW.pt _ _ _ (@pw_and _ _ _ _ _ _ _ (@pt_val _ _ _ (@pv _ 2 _ _ (by rfl) (by first | exact Or.inl rfl | exact Or.inr (Or.inl rfl) | exact Or.inr (Or.inr rfl)) (by decide) (by decide)) (by intro _; rfl)) (@pw_and1 _ _ _ _ (@pt_cmpR _ _ _ _ _ _ _ _ op_eq (@pe_op _ _ _ _ _ _ _ _ op_mod (@pv _ 6 _ _ (by rfl) (by first | exact Or.inl rfl | exact Or.inr (Or.inl rfl) | exact Or.inr (Or.inr rfl)) (by decide) (by decide)) (@pe_int _ _ _ _)) (@pe_int _ _ _ _) (nomark _))))) (@pss_one _ _ _ (@ps_lc _ _ _ _ _ _ _ _ _ _ _ _ _ _ (8) _ _ _ sc_law_works.nd rfl (@pi_zip _ _ _ _ _ _ _ _ _ rfl B.zip (@pa_cons _ _ _ _ _ (@pe_ix _ _ _ _ _ _ _ ix_list (@pv _ 5 _ _ (by rfl) (by first | exact Or.inl rfl | exact Or.inr (Or.inl rfl) | exact Or.inr (Or.inr rfl)) (by decide) (by decide)) (@pe_op _ _ _ _ _ _ _ _ op_sub (@pv _ 6 _ _ (by rfl) (by first | exact Or.inl rfl | exact Or.inr (Or.inl rfl) | exact Or.inr (Or.inr rfl)) (by decide) (by decide)) (@pe_int _ _ _ _)) (fun _ _ => rfl)) (@pa_cons _ _ _ _ _ (@pe_ix _ _ _ _ _ _ _ ix_list (@pv _ 5 _ _ (by rfl) (by first | exact Or.inl rfl | exact Or.inr (Or.inl rfl) | exact Or.inr (Or.inr rfl)) (by decide) (by decide)) (@pe_op _ _ _ _ _ _ _ _ op_sub (@pv _ 6 _ _ (by rfl) (by first | exact Or.inl rfl | exact Or.inr (Or.inl rfl) | exact Or.inr (Or.inr rfl)) (by decide) (by decide)) (@pe_int _ _ _ _)) (fun _ _ => rfl)) (@pa_nil _) (by rfl)) (by rfl)) (by rfl) (by rfl)) .nil (.own (x := "_law_x") (.own (x := "_law_y") .nil)) (fun _ _ _ _ => (@pg_tupK _ (K) _ _ _ _ (2) rfl rfl (@pgs_cons _ _ _ _ _ (@pg_name _ _ (0) _ (show (["_law_x", "_law_y"] : List Str).Nodup from by decide +kernel) rfl (Or.inl rfl) (by first | exact .inl rfl | exact .inr rfl)) (@pgs_cons _ _ _ _ _ (@pg_name _ _ (1) _ (show (["_law_x", "_law_y"] : List Str).Nodup from by decide +kernel) rfl (Or.inl rfl) (by first | exact .inl rfl | exact .inr rfl)) (@pgs_nil _) (by rfl)) (by rfl)) (by rfl) (by rfl))) (fun _ _ _ _ => (@ifs_nil _)) (fun _ _ _ _ => (@pe_op _ _ _ _ _ _ _ _ op_sub (@pe_un _ _ _ _ _ _ un_neg (@pv _ 0 _ _ (by rfl) (by first | exact Or.inl rfl | exact Or.inr (Or.inl rfl) | exact Or.inr (Or.inr rfl)) (by decide) (by decide))) (@pv _ 1 _ _ (by rfl) (by first | exact Or.inl rfl | exact Or.inr (Or.inl rfl) | exact Or.inr (Or.inr rfl)) (by decide) (by decide)))) (by rfl) (by rfl) (by rfl) (by rfl) (by rfl) (by rfl) (by rfl) (by rfl) (by intro _; rfl))) (@pss_nil _)) (@pss_one _ _ _ (@ps_expr _ _ _ _ (pe_bm PySem.F.plainAttrs_list PySem.F.slot_list_append PySem.F.type_list_append mt_append (pv 5) (pa_cons (pv 8) pa_nil)) (by rfl)))))) (by intro _; rfl)) (@pss_one _ _ _ (@ps_ret _ _ _ _ (@pe_lst _ _ _ _ (@pa_cons _ _ _ _ _ (@pv _ 3 _ _ (by rfl) (by first | exact Or.inl rfl | exact Or.inr (Or.inl rfl) | exact Or.inr (Or.inr rfl)) (by decide) (by decide)) (@pa_cons _ _ _ _ _ (@pv _ 5 _ _ (by rfl) (by first | exact Or.inl rfl | exact Or.inr (Or.inl rfl) | exact Or.inr (Or.inr rfl)) (by decide) (by decide)) (@pa_nil _) (by rfl)) (by rfl))))))))))), ?_⟩
    change tCut _ _ _ [some (V.ref l), none, none, none, none, none, none, none, none] H
    refine cut (fun σ H1 => Same H H1 ∧ ∃ way : Int, σ = [some (V.ref l), some (V.int way), none, none, none, none, none, none, none]) ?_ ?_
    · simp only [tSeq, tNext, tAsg, gName, tVar, tC, tOp, rI, rI0, rEq, rNe, scal, tTest, tB, tIfS, tRet, tRetN, tDrop, tNot, tNotV, tOr, tAnd, tOrV, tAndV, tCons, tNil, tCall, tCB, tUn, rU, tPar, tIf, rIxL, rIxT, tTrue, tFor_eq, tComp_eq, tLst, tTup, rEqI, rEqA, rNeA, rCat, rRep, tSl, rSlL, tPart, tNoPart, tRev, gSub, rSetL, tInts, iList, iRng1, iRng2, iZip, iEnum, tBM, rAppend, List.getElem?_cons_zero, List.getElem?_cons_succ, Option.some.injEq, List.set_cons_zero, List.set_cons_succ, exists_and_left, exists_eq_left, exists_eq_left', V.int.injEq, V.ref.injEq, V.bl.injEq, V.ty.injEq, List.cons.injEq, and_true, true_and, List.append_nil, List.cons_append, List.nil_append, and_assoc, cxOf, ite_not, if_true, if_false, Bool.false_eq_true, Bool.true_eq_false, Bool.not_true, Bool.not_false, reduceIte, Bool.not_eq_true', decide_eq_false_iff_not, decide_eq_true_eq, sp_at]
      refine ⟨by show 8 ≤ sizeLine; decide, fun p hp => ⟨by decide, ns, (same_upd hp).seq hS, by decide, _, SqL.of upd_same, ?_⟩⟩
      obtain ⟨z, hz, e⟩ := pick_list (xs := [0, 1, 0, 2, 0, 3, 0, 1]) (by decide) (ns.getD (Int.toNat 0) 0)
      exact ⟨_, e, same_upd hp, z, rfl⟩
    rintro σ1 H1 ⟨sm1, way, rfl⟩
    refine cut (fun σ H2 => H1 = H2 ∧ ∃ b, σ = [some (V.ref l), some (V.int way), some (V.bl b), none, none, none, none, none, none]) ?_ ?_
    · simp only [tSeq, tNext, tAsg, gName, tVar, tC, tOp, rI, rI0, rEq, rNe, scal, tTest, tB, tIfS, tRet, tRetN, tDrop, tNot, tNotV, tOr, tAnd, tOrV, tAndV, tCons, tNil, tCall, tCB, tUn, rU, tPar, tIf, rIxL, rIxT, tTrue, tFor_eq, tComp_eq, tLst, tTup, rEqI, rEqA, rNeA, rCat, rRep, tSl, rSlL, tPart, tNoPart, tRev, gSub, rSetL, tInts, iList, iRng1, iRng2, iZip, iEnum, tBM, rAppend, List.getElem?_cons_zero, List.getElem?_cons_succ, Option.some.injEq, List.set_cons_zero, List.set_cons_succ, exists_and_left, exists_eq_left, exists_eq_left', V.int.injEq, V.ref.injEq, V.bl.injEq, V.ty.injEq, List.cons.injEq, and_true, true_and, List.append_nil, List.cons_append, List.nil_append, and_assoc, cxOf, ite_not, if_true, if_false, Bool.false_eq_true, Bool.true_eq_false, Bool.not_true, Bool.not_false, reduceIte, Bool.not_eq_true', decide_eq_false_iff_not, decide_eq_true_eq, sp_at]
      exact ⟨by decide, ns, sm1.seq hS, by decide, _, rfl⟩
    rintro σ2 _ ⟨rfl, tu, rfl⟩
    refine cut (fun σ H2 => Same H H2 ∧ ∃ wd : Nat, wd ≤ 6 ∧ σ = [some (V.ref l), some (V.int way), some (V.bl tu), some (V.int wd), none, none, none, none, none]) ?_ ?_
    · simp only [tSeq, tNext, tAsg, gName, tVar, tC, tOp, rI, rI0, rEq, rNe, scal, tTest, tB, tIfS, tRet, tRetN, tDrop, tNot, tNotV, tOr, tAnd, tOrV, tAndV, tCons, tNil, tCall, tCB, tUn, rU, tPar, tIf, rIxL, rIxT, tTrue, tFor_eq, tComp_eq, tLst, tTup, rEqI, rEqA, rNeA, rCat, rRep, tSl, rSlL, tPart, tNoPart, tRev, gSub, rSetL, tInts, iList, iRng1, iRng2, iZip, iEnum, tBM, rAppend, List.getElem?_cons_zero, List.getElem?_cons_succ, Option.some.injEq, List.set_cons_zero, List.set_cons_succ, exists_and_left, exists_eq_left, exists_eq_left', V.int.injEq, V.ref.injEq, V.bl.injEq, V.ty.injEq, List.cons.injEq, and_true, true_and, List.append_nil, List.cons_append, List.nil_append, and_assoc, cxOf, ite_not, if_true, if_false, Bool.false_eq_true, Bool.true_eq_false, Bool.not_true, Bool.not_false, reduceIte, Bool.not_eq_true', decide_eq_false_iff_not, decide_eq_true_eq, sp_at]
      refine ⟨by show 12 ≤ sizeLine; decide, fun p hp => ⟨by decide, ns, (sm1.trans (same_upd hp)).seq hS, by decide, _, SqL.of upd_same, ?_⟩⟩
      obtain ⟨z, hz, e⟩ := pick_list (xs := [2, 3, 1, 2, 4, 3, 0, 5, 2, 6, 3, 1]) (by decide) (ns.getD (Int.toNat 1) 0)
      have hz' : 0 ≤ z ∧ z ≤ 6 := (show ∀ y ∈ ([2, 3, 1, 2, 4, 3, 0, 5, 2, 6, 3, 1] : List Int), 0 ≤ y ∧ y ≤ 6 by decide) z hz
      exact ⟨_, e, sm1.trans (same_upd hp), z.toNat, by omega, by congr 1; omega⟩
    rintro σ3 H3 ⟨sm3, wd, wd6, rfl⟩
    refine cut (fun σ H2 => Same H H2 ∧ ∃ mn : Nat, mn ≤ 10 ∧ σ = [some (V.ref l), some (V.int way), some (V.bl tu), some (V.int wd), some (V.int mn), none, none, none, none]) ?_ ?_
    · simp only [tSeq, tNext, tAsg, gName, tVar, tC, tOp, rI, rI0, rEq, rNe, scal, tTest, tB, tIfS, tRet, tRetN, tDrop, tNot, tNotV, tOr, tAnd, tOrV, tAndV, tCons, tNil, tCall, tCB, tUn, rU, tPar, tIf, rIxL, rIxT, tTrue, tFor_eq, tComp_eq, tLst, tTup, rEqI, rEqA, rNeA, rCat, rRep, tSl, rSlL, tPart, tNoPart, tRev, gSub, rSetL, tInts, iList, iRng1, iRng2, iZip, iEnum, tBM, rAppend, List.getElem?_cons_zero, List.getElem?_cons_succ, Option.some.injEq, List.set_cons_zero, List.set_cons_succ, exists_and_left, exists_eq_left, exists_eq_left', V.int.injEq, V.ref.injEq, V.bl.injEq, V.ty.injEq, List.cons.injEq, and_true, true_and, List.append_nil, List.cons_append, List.nil_append, and_assoc, cxOf, ite_not, if_true, if_false, Bool.false_eq_true, Bool.true_eq_false, Bool.not_true, Bool.not_false, reduceIte, Bool.not_eq_true', decide_eq_false_iff_not, decide_eq_true_eq, sp_at]
      refine ⟨by show 16 ≤ sizeLine; decide, fun p hp => ⟨by decide, ns, (sm3.trans (same_upd hp)).seq hS, by decide, _, SqL.of upd_same, ?_⟩⟩
      obtain ⟨z, hz, e⟩ := pick_list (xs := [4, 5, 6, 5, 3, 6, 7, 4, 5, 6, 2, 8, 1, 0, 9, 10]) (by decide) (ns.getD (Int.toNat 2) 0)
      have hz' : 0 ≤ z ∧ z ≤ 10 := (show ∀ y ∈ ([4, 5, 6, 5, 3, 6, 7, 4, 5, 6, 2, 8, 1, 0, 9, 10] : List Int), 0 ≤ y ∧ y ≤ 10 by decide) z hz
      exact ⟨_, e, sm3.trans (same_upd hp), z.toNat, by omega, by congr 1; omega⟩
    rintro σ4 H4 ⟨sm4, mn, mn10, rfl⟩
    refine cut (fun σ H2 => Same H H2 ∧ ∃ d, H d = none ∧ H2 d = some (.lst []) ∧ σ = [some (V.ref l), some (V.int way), some (V.bl tu), some (V.int wd), some (V.int mn), some (V.ref d), none, none, none]) ?_ ?_
    · simp only [tSeq, tNext, tAsg, gName, tVar, tC, tOp, rI, rI0, rEq, rNe, scal, tTest, tB, tIfS, tRet, tRetN, tDrop, tNot, tNotV, tOr, tAnd, tOrV, tAndV, tCons, tNil, tCall, tCB, tUn, rU, tPar, tIf, rIxL, rIxT, tTrue, tFor_eq, tComp_eq, tLst, tTup, rEqI, rEqA, rNeA, rCat, rRep, tSl, rSlL, tPart, tNoPart, tRev, gSub, rSetL, tInts, iList, iRng1, iRng2, iZip, iEnum, tBM, rAppend, List.getElem?_cons_zero, List.getElem?_cons_succ, Option.some.injEq, List.set_cons_zero, List.set_cons_succ, exists_and_left, exists_eq_left, exists_eq_left', V.int.injEq, V.ref.injEq, V.bl.injEq, V.ty.injEq, List.cons.injEq, and_true, true_and, List.append_nil, List.cons_append, List.nil_append, and_assoc, cxOf, ite_not, if_true, if_false, Bool.false_eq_true, Bool.true_eq_false, Bool.not_true, Bool.not_false, reduceIte, Bool.not_eq_true', decide_eq_false_iff_not, decide_eq_true_eq]
      exact ⟨by show 0 ≤ sizeLine; decide, fun p hp => ⟨sm4.trans (same_upd hp), p, sm4.free hp, upd_same, rfl⟩⟩
    rintro σ5 H5 ⟨sm5, d, nd, hd5, rfl⟩
    refine cut (fun σ H2 => Same H H2 ∧ ∃ m, Mat H2 d m ∧ Wk wd m ∧ ∃ u v x, σ = [some (V.ref l), some (V.int way), some (V.bl tu), some (V.int wd), some (V.int mn), some (V.ref d), u, v, x]) ?_ ?_
    · simp only [tSeq, tNext, tAsg, gName, tVar, tC, tOp, rI, rI0, rEq, rNe, scal, tTest, tB, tIfS, tRet, tRetN, tDrop, tNot, tNotV, tOr, tAnd, tOrV, tAndV, tCons, tNil, tCall, tCB, tUn, rU, tPar, tIf, rIxL, rIxT, tTrue, tFor_eq, tComp_eq, tLst, tTup, rEqI, rEqA, rNeA, rCat, rRep, tSl, rSlL, tPart, tNoPart, tRev, gSub, rSetL, tInts, iList, iRng1, iRng2, iZip, iEnum, tBM, rAppend, List.getElem?_cons_zero, List.getElem?_cons_succ, Option.some.injEq, List.set_cons_zero, List.set_cons_succ, exists_and_left, exists_eq_left, exists_eq_left', V.int.injEq, V.ref.injEq, V.bl.injEq, V.ty.injEq, List.cons.injEq, and_true, true_and, List.append_nil, List.cons_append, List.nil_append, and_assoc, cxOf, ite_not, if_true, if_false, Bool.false_eq_true, Bool.true_eq_false, Bool.not_true, Bool.not_false, reduceIte, Bool.not_eq_true', decide_eq_false_iff_not, decide_eq_true_eq]
      refine ⟨by omega, by omega, ?_⟩
      have e1 : (mn : Int).toNat = mn := by omega
      rw [e1]
      refine loop_range (fun i σ H2 => Same H H2 ∧ (∃ m, Mat H2 d m ∧ WkL wd m ∧ m.length = i) ∧ ∃ u v x, σ = [some (V.ref l), some (V.int way), some (V.bl tu), some (V.int wd), some (V.int mn), some (V.ref d), u, v, x])
        ⟨sm5, ⟨[], Mat.nil hd5, WkL.nil, rfl⟩, none, none, none, rfl⟩ ?_ ?_
      · rintro i σ H2 hi ⟨sm2, ⟨m, hm, wk, hl⟩, u, v, x, rfl⟩
        simp only [tSeq, tNext, tAsg, gName, tVar, tC, tOp, rI, rI0, rEq, rNe, scal, tTest, tB, tIfS, tRet, tRetN, tDrop, tNot, tNotV, tOr, tAnd, tOrV, tAndV, tCons, tNil, tCall, tCB, tUn, rU, tPar, tIf, rIxL, rIxT, tTrue, tFor_eq, tComp_eq, tLst, tTup, rEqI, rEqA, rNeA, rCat, rRep, tSl, rSlL, tPart, tNoPart, tRev, gSub, rSetL, tInts, iList, iRng1, iRng2, iZip, iEnum, tBM, rAppend, List.getElem?_cons_zero, List.getElem?_cons_succ, Option.some.injEq, List.set_cons_zero, List.set_cons_succ, exists_and_left, exists_eq_left, exists_eq_left', V.int.injEq, V.ref.injEq, V.bl.injEq, V.ty.injEq, List.cons.injEq, and_true, true_and, List.append_nil, List.cons_append, List.nil_append, and_assoc, cxOf, ite_not, if_true, if_false, Bool.false_eq_true, Bool.true_eq_false, Bool.not_true, Bool.not_false, reduceIte, Bool.not_eq_true', decide_eq_false_iff_not, decide_eq_true_eq, sp_at, sp_rowl]
        refine ⟨by omega, ns, sm2.seq hS, mulA_l (by decide) (by decide), by show 2 ≤ sizeLine; decide, fun q hq => .inr ⟨_, SqL.of upd_same, ?_⟩⟩
        have sm2' := sm2.trans (same_upd (o := HO.lst [V.int 0, V.int (977 * (0 + (i : Int)))]) hq)
        have hm' := hm.same (same_upd (o := HO.lst [V.int 0, V.int (977 * (0 + (i : Int)))]) hq)
        have fin : ∀ (H3 : Hp) (r : Addr) (row : List Int), Same H H3 → Mat H3 d m → H3 r = some (.lst (row.map V.int)) → r ≠ d → row.length = wd → (∀ y ∈ row, -18 ≤ y ∧ y ≤ 18) → (i % 3 ≠ 2 → ∀ y ∈ row, -9 ≤ y ∧ y ≤ 9) →
            tyV K "list" (V.ref d) H3 ∧ ∃ zs, H3 d = some (.lst zs) ∧ zs.length < sizeLine ∧ Same H (upd H3 d (.lst (zs ++ [V.ref r]))) ∧ (∃ m', Mat (upd H3 d (.lst (zs ++ [V.ref r]))) d m' ∧ WkL wd m' ∧ m'.length = i + 1) ∧ ∃ x, some (V.ref r) = x := by
          intro H3 r row sm3 hm3 hr hrd hrl hr18 hr9
          obtain ⟨zs, e2, e3, e4⟩ := hm3.push hr hrd
          exact ⟨.inl ⟨rfl, _, SqL.of e2⟩, zs, e2, small1000 (by omega), fun b o e => by rw [upd_ne (ne_of_none e nd)]; exact sm3 b o e, ⟨m ++ [row], e4, wk.snoc hrl hr18 (by rw [hl]; exact hr9), by rw [List.length_append, hl]; rfl⟩, _, rfl⟩
        have hpick : ∃ z, atI [V.int 0, V.int (977 * (0 + (i : Int)))] (if 0 < way then 1 else 0) = some (V.int z) := by
          split
          · exact ⟨_, rfl⟩
          · exact ⟨_, rfl⟩
        obtain ⟨z, hz⟩ := hpick
        refine ⟨_, hz, z, rfl, by omega, by omega, fun p H3 xs hp sm3 hx hxl hx9 => ?_⟩
        have hm3 := hm'.same sm3
        have smH3 := sm2'.trans sm3
        have npd : p ≠ d := by
          rintro rfl
          obtain ⟨rs, e2, _⟩ := hm'
          rw [e2] at hp; cases hp
        have plain := fin H3 p xs smH3 hm3 hx npd (by omega) (fun y hy => by have := hx9 y hy; omega) fun _ => hx9
        refine ite2 (fun _ => ⟨by decide, ite2 (fun h2 => ?_) fun _ => plain⟩) fun _ => plain
        obtain ⟨a, ha⟩ : ∃ a, m[i - 1]? = some a := ⟨_, List.getElem?_eq_getElem (by omega)⟩
        obtain ⟨b, hb⟩ : ∃ b, m[i - 2]? = some b := ⟨_, List.getElem?_eq_getElem (by omega)⟩
        obtain ⟨rs1, r1, s1, l1, g1, hr1⟩ := hm3.row (K := K) ha
        obtain ⟨rs2, r2, s2, l2, g2, hr2⟩ := hm3.row (K := K) hb
        have i1 : (0 : Int) + (i : Int) - 1 = ((i - 1 : Nat) : Int) := by omega
        have i2 : (0 : Int) + (i : Int) - 2 = ((i - 2 : Nat) : Int) := by omega
        rw [i1, i2]
        refine ⟨_, s1, _, atI_nat g1, _, s2, _, atI_nat g2, _, rfl, _, rfl, ⟨_, SqL.of hr1⟩, ⟨_, SqL.of hr2⟩, ?_⟩
        have a9 := wk.nine _ _ ha (by omega)
        have b9 := wk.nine _ _ hb (by omega)
        have al := wk.wid _ _ ha
        have bl := wk.wid _ _ hb
        refine lc_zip (K := K) (xs := a.map V.int) (ys := b.map V.int) (fun j σ H4 zs => Same H3 H4 ∧ (∃ u v, σ = [u, v]) ∧ ∃ ts : List Int, zs = ts.map V.int ∧ ts.length = j ∧ ∀ t ∈ ts, -18 ≤ t ∧ t ≤ 18)
          ⟨Same.refl _, ⟨_, _, rfl⟩, [], rfl, rfl, (fun _ h => nomatch h)⟩ (fun j σ H4 zs _ _ ⟨e, _⟩ => ⟨e.seq (SqL.of hr1), e.seq (SqL.of hr2)⟩) ?_ ?_
        · rintro j vx vy T' σ H4 zs hvx hvy ⟨sm4, ⟨u, v, rfl⟩, ts, rfl, htl, ht⟩ hT
          obtain ⟨x', hx', rfl⟩ := map_int hvx
          obtain ⟨y', hy', rfl⟩ := map_int hvy
          have bx := a9 x' (List.mem_of_getElem? hx')
          have bY := b9 y' (List.mem_of_getElem? hy')
          have hj : j < a.length := (List.getElem?_eq_some_iff.mp hx').1
          refine gTup2 upd_same ?_
          simp only [tSeq, tNext, tAsg, gName, tVar, tC, tOp, rI, rI0, rEq, rNe, scal, tTest, tB, tIfS, tRet, tRetN, tDrop, tNot, tNotV, tOr, tAnd, tOrV, tAndV, tCons, tNil, tCall, tCB, tUn, rU, tPar, tIf, rIxL, rIxT, tTrue, tFor_eq, tComp_eq, tLst, tTup, rEqI, rEqA, rNeA, rCat, rRep, tSl, rSlL, tPart, tNoPart, tRev, gSub, rSetL, tInts, iList, iRng1, iRng2, iZip, iEnum, tBM, rAppend, List.getElem?_cons_zero, List.getElem?_cons_succ, Option.some.injEq, List.set_cons_zero, List.set_cons_succ, exists_and_left, exists_eq_left, exists_eq_left', V.int.injEq, V.ref.injEq, V.bl.injEq, V.ty.injEq, List.cons.injEq, and_true, true_and, List.append_nil, List.cons_append, List.nil_append, and_assoc, cxOf, ite_not, if_true, if_false, Bool.false_eq_true, Bool.true_eq_false, Bool.not_true, Bool.not_false, reduceIte, Bool.not_eq_true', decide_eq_false_iff_not, decide_eq_true_eq]
          refine ⟨by rw [List.length_map]; exact small1000 (by omega), sm4.trans (same_upd hT), ⟨_, rfl⟩, ts ++ [-x' - y'], by rw [List.map_append]; rfl, by rw [List.length_append, htl]; rfl, fun t h => ?_⟩
          rcases List.mem_append.mp h with h | h
          · exact ht t h
          · rw [List.mem_singleton.mp h]; omega
        · rintro σ H4 zs ⟨sm4, ⟨u, v, rfl⟩, ts, rfl, htl, ht⟩
          rw [List.length_map, List.length_map] at htl
          refine ⟨by rw [List.length_map]; exact Nat.le_of_lt (small1000 (by omega)), fun q2 hq2 => ?_⟩
          have nqd : q2 ≠ d := by
            rintro rfl
            obtain ⟨rs, e2, _⟩ := hm3.same sm4
            rw [e2] at hq2; cases hq2
          exact fin _ q2 ts (smH3.trans (sm4.trans (same_upd hq2))) (hm3.same (sm4.trans (same_upd hq2))) upd_same nqd (by omega) ht fun h => absurd (show i % 3 = 2 by omega) h
      · rintro σ H2 ⟨sm2, ⟨m, hm, wk, hl⟩, u, v, x, rfl⟩
        exact ⟨sm2, m, hm, wk.wk (by omega) wd6, u, v, x, rfl⟩
    rintro σ6 H6 ⟨sm6, m, hm, wk, u, v, x, rfl⟩
    simp only [tSeq, tNext, tAsg, gName, tVar, tC, tOp, rI, rI0, rEq, rNe, scal, tTest, tB, tIfS, tRet, tRetN, tDrop, tNot, tNotV, tOr, tAnd, tOrV, tAndV, tCons, tNil, tCall, tCB, tUn, rU, tPar, tIf, rIxL, rIxT, tTrue, tFor_eq, tComp_eq, tLst, tTup, rEqI, rEqA, rNeA, rCat, rRep, tSl, rSlL, tPart, tNoPart, tRev, gSub, rSetL, tInts, iList, iRng1, iRng2, iZip, iEnum, tBM, rAppend, List.getElem?_cons_zero, List.getElem?_cons_succ, Option.some.injEq, List.set_cons_zero, List.set_cons_succ, exists_and_left, exists_eq_left, exists_eq_left', V.int.injEq, V.ref.injEq, V.bl.injEq, V.ty.injEq, List.cons.injEq, and_true, true_and, List.append_nil, List.cons_append, List.nil_append, and_assoc, cxOf, ite_not, if_true, if_false, Bool.false_eq_true, Bool.true_eq_false, Bool.not_true, Bool.not_false, reduceIte, Bool.not_eq_true', decide_eq_false_iff_not, decide_eq_true_eq]
    exact ⟨by show 2 ≤ sizeLine; decide, fun p hp => k p d _ wd m (sm6.free hp) (sm6.trans (same_upd hp)) upd_same (hm.same (same_upd hp)) wk⟩
theorem sc_law_kept : FnScope ["_law_found", "_law_due", "_law_one", "_law_other"] ["_law_found", "_law_due"] (defScope s_law_kept) := ⟨rfl, rfl, rfl, by decide +kernel, rfl, by decide +kernel, by decide +kernel⟩
theorem c_law_kept (T : Txt K mg) : Cal P w K mg base "_law_kept" 3 ["_law_found", "_law_due"] (sp_kept K) := by
  refine T.law_kept.ok sc_law_kept (fun vs H Q E h => ?_) (fun f cdv A outer s H vs Q E hr h => ?_)
  · obtain ⟨a, b, rfl, _⟩ := h; rfl
  · obtain ⟨a, b, rfl, m1, m2, h1, h2, k⟩ := h
    have B := T.B
    have c_law_row_is := c_law_row_is (P := P) (w := w) (base := base) T
    obtain ⟨rs1, e1, p1, _⟩ := id h1
    obtain ⟨rs2, e2, p2, _⟩ := id h2
    have l1 := p1.length
    have l2 := p2.length
    refine ⟨_, (pss_cons (ps_if (PW.pt (pw_or (pt_not (pt_val (pe_callB call_isinst rfl B.isinstance boot_isinstance (pa_cons (pv 0) (pa_cons (pe_bltn (v := .ty "list") rfl B.list boot_list rfl) pa_nil))))) (pw_or1 (pt_cmpR op_ne (pe_callB call_len_seq rfl B.len PySem.boot_len (pa_cons (pv 0) pa_nil)) (pe_callB call_len_seq rfl B.len PySem.boot_len (pa_cons (pv 1) pa_nil)) (nomark _))))) (pss_one (ps_ret pe_bl)) pss_nil)
 (pss_cons (ps_for PassesOwn.never rfl (pi_zip rfl B.zip (pa_cons (pv 0) (pa_cons (pv 1) pa_nil))) (pg_tup (n := 2) rfl (pgs_cons (pg_name (i := 2) sc_law_kept.nd rfl (Or.inl rfl)) (pgs_cons (pg_name (i := 3) sc_law_kept.nd rfl (Or.inl rfl)) pgs_nil))) (pss_one (ps_if (pt_not (pt_val (pe_cal c_law_row_is (hr.mono (by decide)) (pa_cons (pv 2) (pa_cons (pv 3) pa_nil))))) (pss_one (ps_ret pe_bl)) pss_nil)))
 (pss_one (ps_ret pe_bl)))), ?_⟩
    change tSeq _ _ _ [some (V.ref a), some (V.ref b), none, none] H
    simp only [tSeq, tNext, tAsg, gName, tVar, tC, tOp, rI, rI0, rEq, rNe, scal, tTest, tB, tIfS, tRet, tRetN, tDrop, tNot, tNotV, tOr, tAnd, tOrV, tAndV, tCons, tNil, tCall, tCB, tUn, rU, tPar, tIf, rIxL, rIxT, tTrue, tFor_eq, tComp_eq, tLst, tTup, rEqI, rEqA, rNeA, rCat, rRep, tSl, rSlL, tPart, tNoPart, tRev, gSub, rSetL, tInts, iList, iRng1, iRng2, iZip, iEnum, tBM, rAppend, List.getElem?_cons_zero, List.getElem?_cons_succ, Option.some.injEq, List.set_cons_zero, List.set_cons_succ, exists_and_left, exists_eq_left, exists_eq_left', V.int.injEq, V.ref.injEq, V.bl.injEq, V.ty.injEq, List.cons.injEq, and_true, true_and, List.append_nil, List.cons_append, List.nil_append, and_assoc, cxOf, ite_not, if_true, if_false, Bool.false_eq_true, Bool.true_eq_false, Bool.not_true, Bool.not_false, reduceIte, Bool.not_eq_true', decide_eq_false_iff_not, decide_eq_true_eq]
    refine ⟨_, .lst e1, true, rfl, if_neg_of (by decide) ⟨_, .inl (SqL.of e1), _, .inl (SqL.of e2), ite2 (fun hn => ?_) fun hn => ?_⟩⟩
    · rw [List.length_map, List.length_map] at hn
      have hlen : m1.length = m2.length := by omega
      refine ⟨⟨_, SqL.of e1⟩, ⟨_, SqL.of e2⟩, loop_zip (K := K) (xs := rs1.map V.ref) (ys := rs2.map V.ref)
        (fun i σ H2 => Same H H2 ∧ (∃ u v, σ = [some (.ref a), some (.ref b), u, v]) ∧ ∀ j, j < i → m1[j]? = m2[j]?) ⟨Same.refl H, ⟨_, _, rfl⟩, fun j hj => absurd hj (Nat.not_lt_zero j)⟩ (fun i σ H2 _ _ ⟨e, _⟩ => ⟨e.seq (SqL.of e1), e.seq (SqL.of e2)⟩) ?_ ?_⟩
      · rintro i x y T' σ H2 hx hy ⟨hs, ⟨u, v, rfl⟩, hj⟩ hT
        have hi : i < m1.length := by
          have := (List.getElem?_eq_some_iff.mp hx).1
          rw [List.length_map] at this; omega
        obtain ⟨w1, hw1⟩ : ∃ w1, m1[i]? = some w1 := ⟨_, List.getElem?_eq_getElem hi⟩
        obtain ⟨w2, hw2⟩ : ∃ w2, m2[i]? = some w2 := ⟨_, List.getElem?_eq_getElem (by omega)⟩
        obtain ⟨r1, g1, q1⟩ := Paired.getL p1 hw1
        obtain ⟨r2, g2, q2⟩ := Paired.getL p2 hw2
        rw [List.getElem?_map, g1] at hx
        rw [List.getElem?_map, g2] at hy
        obtain rfl : V.ref r1 = x := Option.some.inj hx
        obtain rfl : V.ref r2 = y := Option.some.inj hy
        have hs' : Same H (upd H2 T' (.tup [V.ref r1, V.ref r2])) := hs.trans (same_upd hT)
        refine gTup2 upd_same ?_
        simp only [tSeq, tNext, tAsg, gName, tVar, tC, tOp, rI, rI0, rEq, rNe, scal, tTest, tB, tIfS, tRet, tRetN, tDrop, tNot, tNotV, tOr, tAnd, tOrV, tAndV, tCons, tNil, tCall, tCB, tUn, rU, tPar, tIf, rIxL, rIxT, tTrue, tFor_eq, tComp_eq, tLst, tTup, rEqI, rEqA, rNeA, rCat, rRep, tSl, rSlL, tPart, tNoPart, tRev, gSub, rSetL, tInts, iList, iRng1, iRng2, iZip, iEnum, tBM, rAppend, List.getElem?_cons_zero, List.getElem?_cons_succ, Option.some.injEq, List.set_cons_zero, List.set_cons_succ, exists_and_left, exists_eq_left, exists_eq_left', V.int.injEq, V.ref.injEq, V.bl.injEq, V.ty.injEq, List.cons.injEq, and_true, true_and, List.append_nil, List.cons_append, List.nil_append, and_assoc, cxOf, ite_not, if_true, if_false, Bool.false_eq_true, Bool.true_eq_false, Bool.not_true, Bool.not_false, reduceIte, Bool.not_eq_true', decide_eq_false_iff_not, decide_eq_true_eq, sp_row]
        refine ⟨w1, hs' _ _ q1, w2, SqL.of (hs' _ _ q2), fun H3 sm3 => ite2 (fun e => ?_) fun e => ?_⟩
        · refine ⟨hs'.trans sm3, ⟨_, rfl⟩, fun j hj' => ?_⟩
          rcases Nat.lt_succ_iff_lt_or_eq.mp hj' with h | h
          · exact hj j h
          · rw [h, hw1, hw2, e]
        · have ne : ¬ m1 = m2 := fun q => by
            rw [q, hw2] at hw1
            exact e (Option.some.inj hw1).symm
          rw [← decide_eq_false ne]
          exact k _ (hs'.trans sm3)
      · rintro σ H2 ⟨hs, ⟨u, v, rfl⟩, hj⟩
        have eq : m1 = m2 := by
          apply List.ext_getElem?
          intro j
          by_cases h : j < m1.length
          · exact hj j (by rw [List.length_map, List.length_map]; omega)
          · rw [List.getElem?_eq_none (by omega), List.getElem?_eq_none (by omega)]
        simp only [tSeq, tNext, tAsg, gName, tVar, tC, tOp, rI, rI0, rEq, rNe, scal, tTest, tB, tIfS, tRet, tRetN, tDrop, tNot, tNotV, tOr, tAnd, tOrV, tAndV, tCons, tNil, tCall, tCB, tUn, rU, tPar, tIf, rIxL, rIxT, tTrue, tFor_eq, tComp_eq, tLst, tTup, rEqI, rEqA, rNeA, rCat, rRep, tSl, rSlL, tPart, tNoPart, tRev, gSub, rSetL, tInts, iList, iRng1, iRng2, iZip, iEnum, tBM, rAppend, List.getElem?_cons_zero, List.getElem?_cons_succ, Option.some.injEq, List.set_cons_zero, List.set_cons_succ, exists_and_left, exists_eq_left, exists_eq_left', V.int.injEq, V.ref.injEq, V.bl.injEq, V.ty.injEq, List.cons.injEq, and_true, true_and, List.append_nil, List.cons_append, List.nil_append, and_assoc, cxOf, ite_not, if_true, if_false, Bool.false_eq_true, Bool.true_eq_false, Bool.not_true, Bool.not_false, reduceIte, Bool.not_eq_true', decide_eq_false_iff_not, decide_eq_true_eq]
        have := k H2 hs
        rw [decide_eq_true eq] at this
        exact this
    · rw [List.length_map, List.length_map] at hn
      have ne : ¬ m1 = m2 := fun e => hn (by rw [l1, l2, e])
      rw [← decide_eq_false ne]
      exact k H (Same.refl H)
theorem sc_law_sums : FnScope ["_law_width", "_law_deeds", "_law_counts", "_law_told", "_law_ware", "_law_total", "_law_k"] ["_law_width", "_law_deeds", "_law_counts"] (defScope s_law_sums) := ⟨rfl, rfl, rfl, by decide +kernel, rfl, by decide +kernel, by decide +kernel⟩
theorem c_law_sums (T : Txt K mg) : Cal P w K mg base "_law_sums" 1 ["_law_width", "_law_deeds", "_law_counts"] (sp_sums K) := by
  refine T.law_sums.ok sc_law_sums (fun vs H Q E h => ?_) (fun f cdv A outer s H vs Q E hr h => ?_)
  · obtain ⟨wd, d, c, rfl, _⟩ := h; rfl
  · obtain ⟨_, d, c, rfl, wd, m, cs, rfl, w6, hm, hml, hwid, hnum, hc, hcl, k⟩ := h
    have B := T.B
    refine ⟨_, (pss_cons (ps_set (i := 3) sc_law_sums.nd rfl (Or.inl rfl) (pe_lst pa_nil))
 (pss_cons (ps_for PassesOwn.never rfl (pi_range1 rfl B.range (pa_cons (pv 0) pa_nil)) (pg_name (i := 4) sc_law_sums.nd rfl (Or.inl rfl)) (pss_cons (ps_set (i := 5) sc_law_sums.nd rfl (Or.inl rfl) pe_int)
 (pss_cons (ps_for PassesOwn.never rfl (pi_range1 rfl B.range (pa_cons (pe_callB call_len_seq rfl B.len PySem.boot_len (pa_cons (pv 1) pa_nil)) pa_nil)) (pg_name (i := 6) sc_law_sums.nd rfl (Or.inl rfl)) (pss_one (ps_set (i := 5) sc_law_sums.nd rfl (Or.inl rfl) (pe_op op_add (pv 5) (pe_op op_mulA (pe_ix ix_list (pv 2) (pv 6) (fun _ _ => rfl)) (pe_ix ix_list (pe_ix ix_list (pv 1) (pv 6) (fun _ _ => rfl)) (pv 4) (fun _ _ => rfl)))))))
 (pss_one (ps_expr (pe_bm PySem.F.plainAttrs_list PySem.F.slot_list_append PySem.F.type_list_append mt_append (pv 3) (pa_cons (pv 5) pa_nil)))))))
 (pss_one (ps_ret (pv 3))))), ?_⟩
    change tSeq _ _ _ [some (V.int wd), some (V.ref d), some (V.ref c), none, none, none, none] H
    simp only [tSeq, tNext, tAsg, gName, tVar, tC, tOp, rI, rI0, rEq, rNe, scal, tTest, tB, tIfS, tRet, tRetN, tDrop, tNot, tNotV, tOr, tAnd, tOrV, tAndV, tCons, tNil, tCall, tCB, tUn, rU, tPar, tIf, rIxL, rIxT, tTrue, tFor_eq, tComp_eq, tLst, tTup, rEqI, rEqA, rNeA, rCat, rRep, tSl, rSlL, tPart, tNoPart, tRev, gSub, rSetL, tInts, iList, iRng1, iRng2, iZip, iEnum, tBM, rAppend, List.getElem?_cons_zero, List.getElem?_cons_succ, Option.some.injEq, List.set_cons_zero, List.set_cons_succ, exists_and_left, exists_eq_left, exists_eq_left', V.int.injEq, V.ref.injEq, V.bl.injEq, V.ty.injEq, List.cons.injEq, and_true, true_and, List.append_nil, List.cons_append, List.nil_append, and_assoc, cxOf, ite_not, if_true, if_false, Bool.false_eq_true, Bool.true_eq_false, Bool.not_true, Bool.not_false, reduceIte, Bool.not_eq_true', decide_eq_false_iff_not, decide_eq_true_eq]
    refine ⟨by show 0 ≤ sizeLine; decide, fun r hr0 => ⟨by omega, by omega, ?_⟩⟩
    have e0 : (wd : Int).toNat = wd := by omega
    rw [e0]
    refine loop_range (fun i σ H2 => Same H H2 ∧ (∃ u v x, σ = [some (V.int wd), some (V.ref d), some (V.ref c), some (V.ref r), u, v, x]) ∧ H2 r = some (.lst ((sumsOf i m cs).map V.int)))
      ⟨same_upd hr0, ⟨_, _, _, rfl⟩, upd_same⟩ ?_ ?_
    · rintro i σ H2 hi ⟨sm, ⟨u, v, x, rfl⟩, hr2⟩
      obtain ⟨rs, hrs, hrl⟩ := (hm.same sm).len (K := K)
      simp only [tSeq, tNext, tAsg, gName, tVar, tC, tOp, rI, rI0, rEq, rNe, scal, tTest, tB, tIfS, tRet, tRetN, tDrop, tNot, tNotV, tOr, tAnd, tOrV, tAndV, tCons, tNil, tCall, tCB, tUn, rU, tPar, tIf, rIxL, rIxT, tTrue, tFor_eq, tComp_eq, tLst, tTup, rEqI, rEqA, rNeA, rCat, rRep, tSl, rSlL, tPart, tNoPart, tRev, gSub, rSetL, tInts, iList, iRng1, iRng2, iZip, iEnum, tBM, rAppend, List.getElem?_cons_zero, List.getElem?_cons_succ, Option.some.injEq, List.set_cons_zero, List.set_cons_succ, exists_and_left, exists_eq_left, exists_eq_left', V.int.injEq, V.ref.injEq, V.bl.injEq, V.ty.injEq, List.cons.injEq, and_true, true_and, List.append_nil, List.cons_append, List.nil_append, and_assoc, cxOf, ite_not, if_true, if_false, Bool.false_eq_true, Bool.true_eq_false, Bool.not_true, Bool.not_false, reduceIte, Bool.not_eq_true', decide_eq_false_iff_not, decide_eq_true_eq]
      refine ⟨_, .inl hrs, ?_, ?_, ?_⟩
      · rw [List.length_map]; omega
      · rw [List.length_map]; omega
      rw [List.length_map, hrl, Int.toNat_natCast]
      refine loop_range (fun j σ H3 => H2 = H3 ∧ ∃ x, σ = [some (V.int wd), some (V.ref d), some (V.ref c), some (V.ref r), some (V.int (0 + (i : Int))), some (V.int (sumTo j fun k => cs.getD k 0 * num m k i)), x]) ⟨rfl, _, rfl⟩ ?_ ?_
      · rintro j σ _ hj ⟨rfl, x, rfl⟩
        obtain ⟨row, hrow⟩ : ∃ row, m[j]? = some row := ⟨_, List.getElem?_eq_getElem hj⟩
        obtain ⟨rs', r', s1, l1, g1, q1⟩ := (hm.same sm).row (K := K) hrow
        have hlen : row.length = wd := hwid row (List.mem_of_getElem? hrow)
        have hnr : num m j i = row[i]'(by omega) := by
          unfold num
          simp only [List.getD_eq_getElem?_getD, hrow, Option.getD_some]
          rw [List.getElem?_eq_getElem (by omega)]; rfl
        have hcs : cs.getD j 0 = cs[j]'(by omega) := by
          rw [List.getD_eq_getElem?_getD, List.getElem?_eq_getElem (by omega)]; rfl
        have hb := hnum row (List.mem_of_getElem? hrow) _ (List.getElem_mem (show i < row.length by omega))
        simp only [tSeq, tNext, tAsg, gName, tVar, tC, tOp, rI, rI0, rEq, rNe, scal, tTest, tB, tIfS, tRet, tRetN, tDrop, tNot, tNotV, tOr, tAnd, tOrV, tAndV, tCons, tNil, tCall, tCB, tUn, rU, tPar, tIf, rIxL, rIxT, tTrue, tFor_eq, tComp_eq, tLst, tTup, rEqI, rEqA, rNeA, rCat, rRep, tSl, rSlL, tPart, tNoPart, tRev, gSub, rSetL, tInts, iList, iRng1, iRng2, iZip, iEnum, tBM, rAppend, List.getElem?_cons_zero, List.getElem?_cons_succ, Option.some.injEq, List.set_cons_zero, List.set_cons_succ, exists_and_left, exists_eq_left, exists_eq_left', V.int.injEq, V.ref.injEq, V.bl.injEq, V.ty.injEq, List.cons.injEq, and_true, true_and, List.append_nil, List.cons_append, List.nil_append, and_assoc, cxOf, ite_not, if_true, if_false, Bool.false_eq_true, Bool.true_eq_false, Bool.not_true, Bool.not_false, reduceIte, Bool.not_eq_true', decide_eq_false_iff_not, decide_eq_true_eq, Int.zero_add]
        refine ⟨_, sm.seq hc, _, atI_nat (by rw [List.getElem?_map, List.getElem?_eq_getElem (by omega)]; rfl), _, s1, _, atI_nat g1, _, rfl, _, SqL.of q1, _, atI_nat (by rw [List.getElem?_map, List.getElem?_eq_getElem (show i < row.length by omega)]; rfl), _, rfl, _, rfl, mulA_r (by omega) (by omega), ?_, _, rfl⟩
        rw [← hnr, ← hcs]; rfl
      · rintro σ _ ⟨rfl, x, rfl⟩
        simp only [tSeq, tNext, tAsg, gName, tVar, tC, tOp, rI, rI0, rEq, rNe, scal, tTest, tB, tIfS, tRet, tRetN, tDrop, tNot, tNotV, tOr, tAnd, tOrV, tAndV, tCons, tNil, tCall, tCB, tUn, rU, tPar, tIf, rIxL, rIxT, tTrue, tFor_eq, tComp_eq, tLst, tTup, rEqI, rEqA, rNeA, rCat, rRep, tSl, rSlL, tPart, tNoPart, tRev, gSub, rSetL, tInts, iList, iRng1, iRng2, iZip, iEnum, tBM, rAppend, List.getElem?_cons_zero, List.getElem?_cons_succ, Option.some.injEq, List.set_cons_zero, List.set_cons_succ, exists_and_left, exists_eq_left, exists_eq_left', V.int.injEq, V.ref.injEq, V.bl.injEq, V.ty.injEq, List.cons.injEq, and_true, true_and, List.append_nil, List.cons_append, List.nil_append, and_assoc, cxOf, ite_not, if_true, if_false, Bool.false_eq_true, Bool.true_eq_false, Bool.not_true, Bool.not_false, reduceIte, Bool.not_eq_true', decide_eq_false_iff_not, decide_eq_true_eq]
        refine ⟨.inl ⟨rfl, _, SqL.of hr2⟩, _, hr2, ?_, fun b o e => by rw [upd_ne (ne_of_none e hr0)]; exact sm b o e, ⟨_, rfl⟩, ?_⟩
        · rw [List.length_map]; unfold sumsOf; rw [List.length_map, List.length_range]; exact small1000 (by omega)
        · rw [upd_same]
          unfold sumsOf
          rw [List.range_succ, List.map_append, List.map_append]; rfl
    · rintro σ H2 ⟨sm, ⟨u, v, x, rfl⟩, hr2⟩
      simp only [tSeq, tNext, tAsg, gName, tVar, tC, tOp, rI, rI0, rEq, rNe, scal, tTest, tB, tIfS, tRet, tRetN, tDrop, tNot, tNotV, tOr, tAnd, tOrV, tAndV, tCons, tNil, tCall, tCB, tUn, rU, tPar, tIf, rIxL, rIxT, tTrue, tFor_eq, tComp_eq, tLst, tTup, rEqI, rEqA, rNeA, rCat, rRep, tSl, rSlL, tPart, tNoPart, tRev, gSub, rSetL, tInts, iList, iRng1, iRng2, iZip, iEnum, tBM, rAppend, List.getElem?_cons_zero, List.getElem?_cons_succ, Option.some.injEq, List.set_cons_zero, List.set_cons_succ, exists_and_left, exists_eq_left, exists_eq_left', V.int.injEq, V.ref.injEq, V.bl.injEq, V.ty.injEq, List.cons.injEq, and_true, true_and, List.append_nil, List.cons_append, List.nil_append, and_assoc, cxOf, ite_not, if_true, if_false, Bool.false_eq_true, Bool.true_eq_false, Bool.not_true, Bool.not_false, reduceIte, Bool.not_eq_true', decide_eq_false_iff_not, decide_eq_true_eq]
      exact k r H2 hr0 sm hr2
def sp_law (K : PySem.W.Frag) : Sp := fun vs H Q _ => ∃ (a : Addr) (ns : List Int), vs = [.ref a] ∧ SqL K H a (ns.map V.int) ∧ ns.length ≤ 63 ∧ ∀ H', Q (.bl true) H'
theorem sc_law : FnScope ["_law_script", "_law_width", "_law_deeds", "_law_kind", "_law_counts", "_law_k", "_law_cell", "_law_due", "_law_off", "_law_done", "_law_works_here", "_law_handed", "_law_found"] ["_law_script"] (defScope s_law) := ⟨rfl, rfl, rfl, by decide +kernel, rfl, by decide +kernel, by decide +kernel⟩
theorem ok_law {f : Addr} {fd : FuncData} (T : Txt K mg) (F : Fun K "law" "law" s_law f fd) :
    FnOk P w K mg base CX0 5 f fd ["_law_script"] (sp_law K) := by
  refine F.ok sc_law (fun vs H Q E h => ?_) (fun cdv A outer s H vs Q E hr h => ?_)
  · obtain ⟨a, ns, rfl, _⟩ := h; rfl
  · obtain ⟨a, ns, rfl, hS, hlen, k⟩ := h
    have B := T.B
    have c_ends := c_ends (P := P) (w := w) (base := base) T
    have c_uneven := c_uneven (P := P) (w := w) (base := base) T
    have c_places := c_places (P := P) (w := w) (base := base) T
    have c_is_round := c_is_round (P := P) (w := w) (base := base) T
    have c_law_works := c_law_works (P := P) (w := w) (base := base) T
    have c_law_at := c_law_at (P := P) (w := w) (base := base) T
    have c_law_row_is := c_law_row_is (P := P) (w := w) (base := base) T
    have c_law_kept := c_law_kept (P := P) (w := w) (base := base) T
    have c_law_sums := c_law_sums (P := P) (w := w) (base := base) T
    refine ⟨_, (pss_cut (ps_asg (pe_cal c_law_works (hr.mono (by decide)) (pa_cons (pv 0) pa_nil)) (pg_tupL (n := 2) rfl (pgs_cons (pg_name (i := 1) sc_law.nd rfl (Or.inl rfl)) (pgs_cons (pg_name (i := 2) sc_law.nd rfl (Or.inl rfl)) pgs_nil))))
 (pss_cut (ps_set (i := 3) sc_law.nd rfl (Or.inl rfl) (pe_cal c_law_at (hr.mono (by decide)) (pa_cons (pv 0) (pa_cons pe_int pa_nil))))
 (pss_cut (ps_set (i := 4) sc_law.nd rfl (Or.inr rfl) (pe_lst pa_nil))
 (pss_cut (ps_for PassesOwn.never rfl (pi_range1 rfl B.range (pa_cons (pe_callB call_len_seq rfl B.len PySem.boot_len (pa_cons (pv 2) pa_nil)) pa_nil)) (pg_name (i := 5) sc_law.nd rfl (Or.inl rfl)) (pss_cons (ps_set (i := 6) sc_law.nd rfl (Or.inl rfl) (pe_cal c_law_at (hr.mono (by decide)) (pa_cons (pv 0) (pa_cons (pe_op op_add pe_int (pv 5)) pa_nil))))
 (pss_one (ps_expr (pe_bm PySem.F.plainAttrs_list PySem.F.slot_list_append PySem.F.type_list_append mt_append (pv 4) (pa_cons (pe_ix ix_list (pe_lst (pa_cons (pe_op op_mod (pv 6) pe_int) (pa_cons (pe_op op_modN (pv 6) (pe_op op_pow pe_int pe_int)) (pa_cons (pe_op op_sub (pe_op op_pow pe_int pe_int) pe_int) pa_nil)))) (pe_ix ix_list (pe_lstC (ns := [0, 0, 1, 1, 2]) rfl) (pe_op op_mod (pe_op op_fdiv (pv 3) pe_int) pe_int) (fun _ _ => rfl)) (fun _ _ => rfl)) pa_nil))))))
 (pss_cut (ps_if (pt_cmpR op_eq (pe_op op_mod (pv 3) pe_int) pe_int (nomark _)) (pss_cons (ps_set (i := 2) sc_law.nd rfl (Or.inl rfl) (pe_slice sl_list (pv 2) po_none (po_some pe_int)))
 (pss_cons (ps_set (i := 4) sc_law.nd rfl (Or.inr rfl) (pe_op op_cat (pe_slice sl_list (pv 4) po_none (po_some pe_int)) (pe_slice sl_list (pv 4) po_none (po_some (pe_callB call_len_seq rfl B.len PySem.boot_len (pa_cons (pv 2) pa_nil))))))
 (pss_one (ps_set (i := 2) sc_law.nd rfl (Or.inl rfl) (pe_op op_cat (pv 2) (pe_lc (pi_list (pv 2)) .nil (.own (x := "_law_row_here") .nil) (fun _ _ _ _ => (pg_name (i := 0) (show (["_law_row_here"] : List Str).Nodup from by decide +kernel) rfl (Or.inl rfl))) (fun _ _ _ _ => ifs_nil) (fun _ _ _ _ => (pe_lc (pi_listK (K := K) rfl (pv 0)) .nil (.own (x := "_law_x") .nil) (fun _ _ _ _ => (pg_name (i := 0) (show (["_law_x"] : List Str).Nodup from by decide +kernel) rfl (Or.inl rfl))) (fun _ _ _ _ => ifs_nil) (fun _ _ _ _ => (pe_un un_neg (pv 0))))))))))) pss_nil)
 (pss_cut (ps_set (i := 7) sc_law.nd rfl (Or.inr rfl) (pe_cal c_law_sums (hr.mono (by decide)) (pa_cons (pv 1) (pa_cons (pv 2) (pa_cons (pv 4) pa_nil)))))
 (pss_cut (ps_lc (i := 8) sc_law.nd rfl (pi_range1 rfl B.range (pa_cons (pv 1) pa_nil)) (.cons rfl .nil) (.own (x := "_law_k") (.cap (x := "_law_due") (j := 7) rfl (Or.inl rfl) (Or.inl rfl) ⟨_, rfl⟩ .nil)) (fun _ _ _ _ => (pg_name (i := 0) (show (["_law_k", "_law_due"] : List Str).Nodup from by decide +kernel) rfl (Or.inl rfl))) (fun _ _ _ _ => (ifs_one (pt_cmpR op_ne (pe_ix (ix_listK (K := K) rfl) (pv 1) (pv 0) (fun _ _ => rfl)) pe_int (nomark _)))) (fun _ _ _ _ => (pv 0)))
 (pss_cut (ps_lc (i := 9) sc_law.nd rfl (pi_range1 rfl B.range (pa_cons (pe_callB call_len_seq rfl B.len PySem.boot_len (pa_cons (pv 4) pa_nil)) pa_nil)) (.cons rfl .nil) (.own (x := "_law_k") (.cap (x := "_law_counts") (j := 4) rfl (Or.inl rfl) (Or.inl rfl) ⟨_, rfl⟩ .nil)) (fun _ _ _ _ => (pg_name (i := 0) (show (["_law_k", "_law_counts"] : List Str).Nodup from by decide +kernel) rfl (Or.inl rfl))) (fun _ _ _ _ => (ifs_one (pt_cmpR op_ne (pe_ix (ix_listK (K := K) rfl) (pv 1) (pv 0) (fun _ _ => rfl)) pe_int (nomark _)))) (fun _ _ _ _ => (pv 0)))
 (pss_cut (ps_lc (i := 10) sc_law.nd rfl (pi_list (pv 2)) .nil (.own (x := "_law_row_here") .nil) (fun _ _ _ _ => (pg_name (i := 0) (show (["_law_row_here"] : List Str).Nodup from by decide +kernel) rfl (Or.inl rfl))) (fun _ _ _ _ => ifs_nil) (fun _ _ _ _ => (pe_callTy (call_list_ofK (K := K) rfl) rfl B.list boot_list (pa_cons (pv 0) pa_nil))))
 (pss_cut (ps_set (i := 11) sc_law.nd rfl (Or.inl rfl) (pe_callTy call_list_of rfl B.list boot_list (pa_cons (pv 4) pa_nil)))
 (pss_cut (ps_if (pt_not (pt_val (pe_cal c_law_row_is (hr.mono (by decide)) (pa_cons (pe_cal c_ends (hr.mono (by decide)) (pa_cons (pv 1) (pa_cons (pv 10) (pa_cons (pv 11) pa_nil)))) (pa_cons (pv 7) pa_nil))))) (pss_one (ps_ret pe_bl)) pss_nil)
 (pss_cut (ps_if (pt_not (pt_val (pe_cal c_law_row_is (hr.mono (by decide)) (pa_cons (pe_cal c_uneven (hr.mono (by decide)) (pa_cons (pv 1) (pa_cons (pv 10) (pa_cons (pv 11) pa_nil)))) (pa_cons (pv 8) pa_nil))))) (pss_one (ps_ret pe_bl)) pss_nil)
 (pss_cut (ps_if (pt_not (pt_val (pe_cal c_law_row_is (hr.mono (by decide)) (pa_cons (pe_cal c_places (hr.mono (by decide)) (pa_cons (pv 11) pa_nil)) (pa_cons (pv 9) pa_nil))))) (pss_one (ps_ret pe_bl)) pss_nil)
 (pss_cut (ps_set (i := 12) sc_law.nd rfl (Or.inl rfl) (pe_cal c_is_round (hr.mono (by decide)) (pa_cons (pv 1) (pa_cons (pv 10) (pa_cons (pv 11) pa_nil)))))
 (pss_cut (ps_if (PW.pt (pw_or (pt_not (pt_val (pe_callB call_isinst rfl B.isinstance boot_isinstance (pa_cons (pv 12) (pa_cons (pe_bltn (v := .ty "bool") rfl B.bool boot_bool rfl) pa_nil))))) (pw_or1 (pt_cmpR op_ne (pv 12) (pe_and (pe_cmpR (op_neA hr.units0) (pv 9) (pe_lst pa_nil) (nomark _)) (pe_one (pe_cmpR (op_eqA hr.units0) (pv 8) (pe_lst pa_nil) (nomark _)))) (nomark _))))) (pss_one (ps_ret pe_bl)) pss_nil)
 (pss_one (ps_ret (pe_and (pe_cal c_law_kept (hr.mono (by decide)) (pa_cons (pv 10) (pa_cons (pv 2) pa_nil))) (pe_one (pe_cal c_law_row_is (hr.mono (by decide)) (pa_cons (pv 11) (pa_cons (pv 4) pa_nil)))))))))))))))))))))), ?_⟩
    change tCut _ _ _ [some (V.ref a), none, none, none, none, none, none, none, none, none, none, none, none] H
    -- works
    refine cut (fun σ H1 => Same H H1 ∧ ∃ (wd : Nat) (d : Addr) (m : List (List Int)), Mat H1 d m ∧ Wk wd m ∧ σ = [some (V.ref a), some (V.int wd), some (V.ref d), none, none, none, none, none, none, none, none, none, none]) ?_ ?_
    · simp only [tSeq, tNext, tAsg, gName, tVar, tC, tOp, rI, rI0, rEq, rNe, scal, tTest, tB, tIfS, tRet, tRetN, tDrop, tNot, tNotV, tOr, tAnd, tOrV, tAndV, tCons, tNil, tCall, tCB, tUn, rU, tPar, tIf, rIxL, rIxT, tTrue, tFor_eq, tComp_eq, tLst, tTup, rEqI, rEqA, rNeA, rCat, rRep, tSl, rSlL, tPart, tNoPart, tRev, gSub, rSetL, tInts, iList, iRng1, iRng2, iZip, iEnum, tBM, rAppend, List.getElem?_cons_zero, List.getElem?_cons_succ, Option.some.injEq, List.set_cons_zero, List.set_cons_succ, exists_and_left, exists_eq_left, exists_eq_left', V.int.injEq, V.ref.injEq, V.bl.injEq, V.ty.injEq, List.cons.injEq, and_true, true_and, List.append_nil, List.cons_append, List.nil_append, and_assoc, cxOf, ite_not, if_true, if_false, Bool.false_eq_true, Bool.true_eq_false, Bool.not_true, Bool.not_false, reduceIte, Bool.not_eq_true', decide_eq_false_iff_not, decide_eq_true_eq, sp_works]
      refine ⟨ns, hS, fun p d H1 wd m hp sm e hm wk => gTupL2 (SqL.of e) ⟨sm, wd, d, m, hm, wk, rfl⟩⟩
    rintro σ1 H1 ⟨sm1, wd, d, m, hm, wk, rfl⟩
    replace hS := sm1.seq hS
    clear sm1
    -- kind
    refine cut (fun σ H2 => H1 = H2 ∧ ∃ kd : Int, σ = [some (V.ref a), some (V.int wd), some (V.ref d), some (V.int kd), none, none, none, none, none, none, none, none, none]) ?_ ?_
    · simp only [tSeq, tNext, tAsg, gName, tVar, tC, tOp, rI, rI0, rEq, rNe, scal, tTest, tB, tIfS, tRet, tRetN, tDrop, tNot, tNotV, tOr, tAnd, tOrV, tAndV, tCons, tNil, tCall, tCB, tUn, rU, tPar, tIf, rIxL, rIxT, tTrue, tFor_eq, tComp_eq, tLst, tTup, rEqI, rEqA, rNeA, rCat, rRep, tSl, rSlL, tPart, tNoPart, tRev, gSub, rSetL, tInts, iList, iRng1, iRng2, iZip, iEnum, tBM, rAppend, List.getElem?_cons_zero, List.getElem?_cons_succ, Option.some.injEq, List.set_cons_zero, List.set_cons_succ, exists_and_left, exists_eq_left, exists_eq_left', V.int.injEq, V.ref.injEq, V.bl.injEq, V.ty.injEq, List.cons.injEq, and_true, true_and, List.append_nil, List.cons_append, List.nil_append, and_assoc, cxOf, ite_not, if_true, if_false, Bool.false_eq_true, Bool.true_eq_false, Bool.not_true, Bool.not_false, reduceIte, Bool.not_eq_true', decide_eq_false_iff_not, decide_eq_true_eq, sp_at]
      exact ⟨by decide, ns, hS, _, rfl⟩
    rintro σ2 _ ⟨rfl, kd, rfl⟩
    -- counts
    refine cut (fun σ H2 => Same H1 H2 ∧ ∃ r, H1 r = none ∧ H2 r = some (.lst []) ∧ σ = [some (V.ref a), some (V.int wd), some (V.ref d), some (V.int kd), some (V.ref r), none, none, none, none, none, none, none, none]) ?_ ?_
    · simp only [tSeq, tNext, tAsg, gName, tVar, tC, tOp, rI, rI0, rEq, rNe, scal, tTest, tB, tIfS, tRet, tRetN, tDrop, tNot, tNotV, tOr, tAnd, tOrV, tAndV, tCons, tNil, tCall, tCB, tUn, rU, tPar, tIf, rIxL, rIxT, tTrue, tFor_eq, tComp_eq, tLst, tTup, rEqI, rEqA, rNeA, rCat, rRep, tSl, rSlL, tPart, tNoPart, tRev, gSub, rSetL, tInts, iList, iRng1, iRng2, iZip, iEnum, tBM, rAppend, List.getElem?_cons_zero, List.getElem?_cons_succ, Option.some.injEq, List.set_cons_zero, List.set_cons_succ, exists_and_left, exists_eq_left, exists_eq_left', V.int.injEq, V.ref.injEq, V.bl.injEq, V.ty.injEq, List.cons.injEq, and_true, true_and, List.append_nil, List.cons_append, List.nil_append, and_assoc, cxOf, ite_not, if_true, if_false, Bool.false_eq_true, Bool.true_eq_false, Bool.not_true, Bool.not_false, reduceIte, Bool.not_eq_true', decide_eq_false_iff_not, decide_eq_true_eq]
      exact ⟨by show 0 ≤ sizeLine; decide, fun p hp => ⟨same_upd hp, p, hp, upd_same, rfl⟩⟩
    rintro σ3 H3 ⟨sm3, r, nr, hr3, rfl⟩
    refine cut (fun σ H2 => Same H1 H2 ∧ ∃ (cs : List Int), H2 r = some (.lst (cs.map V.int)) ∧ cs.length = m.length ∧ (∀ x ∈ cs, 0 ≤ x ∧ x < 1000000000000) ∧ ∃ (u v : Option V), σ = [some (V.ref a), some (V.int wd), some (V.ref d), some (V.int kd), some (V.ref r), u, v, none, none, none, none, none, none]) ?_ ?_
    · obtain ⟨rs, hrs, hrl⟩ := (hm.same sm3).len (K := K)
      have m10 := wk.many
      simp only [tSeq, tNext, tAsg, gName, tVar, tC, tOp, rI, rI0, rEq, rNe, scal, tTest, tB, tIfS, tRet, tRetN, tDrop, tNot, tNotV, tOr, tAnd, tOrV, tAndV, tCons, tNil, tCall, tCB, tUn, rU, tPar, tIf, rIxL, rIxT, tTrue, tFor_eq, tComp_eq, tLst, tTup, rEqI, rEqA, rNeA, rCat, rRep, tSl, rSlL, tPart, tNoPart, tRev, gSub, rSetL, tInts, iList, iRng1, iRng2, iZip, iEnum, tBM, rAppend, List.getElem?_cons_zero, List.getElem?_cons_succ, Option.some.injEq, List.set_cons_zero, List.set_cons_succ, exists_and_left, exists_eq_left, exists_eq_left', V.int.injEq, V.ref.injEq, V.bl.injEq, V.ty.injEq, List.cons.injEq, and_true, true_and, List.append_nil, List.cons_append, List.nil_append, and_assoc, cxOf, ite_not, if_true, if_false, Bool.false_eq_true, Bool.true_eq_false, Bool.not_true, Bool.not_false, reduceIte, Bool.not_eq_true', decide_eq_false_iff_not, decide_eq_true_eq]
      refine ⟨_, .inl hrs, by rw [List.length_map]; omega, by rw [List.length_map]; omega, ?_⟩
      rw [List.length_map, hrl, Int.toNat_natCast]
      refine loop_range (fun i σ H2 => Same H1 H2 ∧ ∃ (cs : List Int) (u v : Option V), H2 r = some (.lst (cs.map V.int)) ∧ cs.length = i ∧ (∀ x ∈ cs, 0 ≤ x ∧ x < 1000000000000) ∧ σ = [some (V.ref a), some (V.int wd), some (V.ref d), some (V.int kd), some (V.ref r), u, v, none, none, none, none, none, none])
        ⟨sm3, [], _, _, hr3, rfl, (fun _ h => nomatch h), rfl⟩ ?_ ?_
      · rintro i σ H4 hi ⟨sm4, cs, u, v, hr4, hl4, hp4, rfl⟩
        have hsz : (cs.map V.int).length < sizeLine := by rw [List.length_map]; exact small1000 (by omega)
        simp only [tSeq, tNext, tAsg, gName, tVar, tC, tOp, rI, rI0, rEq, rNe, scal, tTest, tB, tIfS, tRet, tRetN, tDrop, tNot, tNotV, tOr, tAnd, tOrV, tAndV, tCons, tNil, tCall, tCB, tUn, rU, tPar, tIf, rIxL, rIxT, tTrue, tFor_eq, tComp_eq, tLst, tTup, rEqI, rEqA, rNeA, rCat, rRep, tSl, rSlL, tPart, tNoPart, tRev, gSub, rSetL, tInts, iList, iRng1, iRng2, iZip, iEnum, tBM, rAppend, List.getElem?_cons_zero, List.getElem?_cons_succ, Option.some.injEq, List.set_cons_zero, List.set_cons_succ, exists_and_left, exists_eq_left, exists_eq_left', V.int.injEq, V.ref.injEq, V.bl.injEq, V.ty.injEq, List.cons.injEq, and_true, true_and, List.append_nil, List.cons_append, List.nil_append, and_assoc, cxOf, ite_not, if_true, if_false, Bool.false_eq_true, Bool.true_eq_false, Bool.not_true, Bool.not_false, reduceIte, Bool.not_eq_true', decide_eq_false_iff_not, decide_eq_true_eq, sp_at, e12]
        refine ⟨by omega, ns, sm4.seq hS, ?_⟩
        generalize ns.getD (14 + (0 + (i : Int))).toNat 0 = c
        have b1 := Int.fmod_nonneg_of_pos c (show (0 : Int) < 1000000000000 by decide)
        have b2 := Int.fmod_lt_of_pos c (show (0 : Int) < 1000000000000 by decide)
        refine ⟨.inl ⟨rfl, _, SqL.of hr4⟩, by decide, ⟨by decide, by decide, by decide⟩, by decide, ⟨by decide, by decide, by decide⟩, by show 3 ≤ sizeLine; decide, fun p hp => ⟨by show 5 ≤ sizeLine; decide, fun q hq => ⟨⟨by decide, by decide⟩, by decide, _, SqL.of upd_same, ?_⟩⟩⟩
        obtain ⟨z, hz, e⟩ := pick_list (xs := [0, 0, 1, 1, 2]) (by decide) (kd / 3)
        have hz' : 0 ≤ z ∧ z < 3 := (show ∀ y ∈ ([0, 0, 1, 1, 2] : List Int), 0 ≤ y ∧ y < 3 by decide) z hz
        have npq : p ≠ q := by rintro rfl; rw [upd_same] at hq; cases hq
        have hpp : upd (upd H4 p (.lst [V.int (c % 4), V.int (c.fmod 1000000000000), V.int (1000000000000 - 1)])) q (.lst (([0, 0, 1, 1, 2] : List Int).map V.int)) p = some (.lst (([c % 4, c.fmod 1000000000000, 1000000000000 - 1] : List Int).map V.int)) := by rw [upd_ne npq, upd_same]; rfl
        obtain ⟨y, hy, e2⟩ := at_list (xs := [c % 4, c.fmod 1000000000000, 1000000000000 - 1]) hz'.1 hz'.2
        have hyb : 0 ≤ y ∧ y < 1000000000000 := by
          simp only [List.mem_cons, List.not_mem_nil, or_false] at hy
          omega
        have npr : r ≠ p := ne_of_none hr4 hp
        have nqr : r ≠ q := by
          intro e; subst e
          rw [upd_ne npr, hr4] at hq; cases hq
        refine ⟨_, e, _, z, rfl, SqL.of hpp, _, e2, _, by rw [upd_ne nqr, upd_ne npr]; exact hr4, hsz, ?_, cs ++ [y], by rw [upd_same, List.map_append]; rfl, by rw [List.length_append, hl4]; rfl, fun x hx => ?_, _, rfl⟩
        · intro b o e
          have nb : b ≠ r := ne_of_none e nr
          rw [upd_ne nb]
          exact ((same_upd hp).trans (same_upd hq)) b o (sm4 b o e)
        · rcases List.mem_append.mp hx with hx | hx
          · exact hp4 x hx
          · rw [List.mem_singleton.mp hx]; exact hyb
      · rintro σ H4 ⟨sm4, cs, u, v, hr4, hl4, hp4, rfl⟩
        exact ⟨sm4, cs, hr4, hl4, hp4, u, v, rfl⟩
    rintro σ4 H4 ⟨sm4, cs, hr4, hl4, hp4, u, v, rfl⟩
    replace hS := sm4.seq hS
    replace hm := hm.same sm4
    clear sm3 hr3 nr
    -- turned
    refine cut (fun σ H2 => SqL K H2 a (ns.map V.int) ∧ ∃ (r' : Addr) (cs' : List Int), H2 r' = some (.lst (cs'.map V.int)) ∧ ∃ (d' : Addr) (m' : List (List Int)), WIn K H2 d' r' wd m' cs' ∧ σ = [some (V.ref a), some (V.int wd), some (V.ref d'), some (V.int kd), some (V.ref r'), u, v, none, none, none, none, none, none]) ?_ ?_
    · simp only [tSeq, tNext, tAsg, gName, tVar, tC, tOp, rI, rI0, rEq, rNe, scal, tTest, tB, tIfS, tRet, tRetN, tDrop, tNot, tNotV, tOr, tAnd, tOrV, tAndV, tCons, tNil, tCall, tCB, tUn, rU, tPar, tIf, rIxL, rIxT, tTrue, tFor_eq, tComp_eq, tLst, tTup, rEqI, rEqA, rNeA, rCat, rRep, tSl, rSlL, tPart, tNoPart, tRev, gSub, rSetL, tInts, iList, iRng1, iRng2, iZip, iEnum, tBM, rAppend, List.getElem?_cons_zero, List.getElem?_cons_succ, Option.some.injEq, List.set_cons_zero, List.set_cons_succ, exists_and_left, exists_eq_left, exists_eq_left', V.int.injEq, V.ref.injEq, V.bl.injEq, V.ty.injEq, List.cons.injEq, and_true, true_and, List.append_nil, List.cons_append, List.nil_append, and_assoc, cxOf, ite_not, if_true, if_false, Bool.false_eq_true, Bool.true_eq_false, Bool.not_true, Bool.not_false, reduceIte, Bool.not_eq_true', decide_eq_false_iff_not, decide_eq_true_eq]
      refine ⟨by decide, ite2 (fun _ => ?_) fun _ => ?_⟩
      · obtain ⟨rs, h1, h2, h3⟩ := id hm
        have hl := h2.length
        simp only [cutV_take4, cutV_take]
        have sz : ∀ {n : Nat}, n ≤ 20 → n ≤ sizeLine := fun h => Nat.le_of_lt (small1000 (by omega))
        have m10 := wk.many
        refine ⟨_, SqL.of h1, fun p hp => ⟨_, SqL.of (same_upd hp _ _ hr4), fun p1 hp1 => ⟨_, .inl (SqL.of (same_upd hp1 _ _ upd_same)), _, SqL.of (same_upd hp1 _ _ (same_upd hp _ _ hr4)), fun p2 hp2 => ⟨_, same_upd hp2 _ _ upd_same, _, upd_same, ?_, fun p3 hp3 => ⟨⟨_, SqL.of (same_upd hp3 _ _ (same_upd hp2 _ _ (same_upd hp1 _ _ upd_same)))⟩, ?_⟩⟩⟩⟩⟩
        · simp only [List.length_take, List.length_map]; exact sz (by omega)
        have sm7 : Same H4 (upd (upd (upd (upd H4 p (.lst ((rs.map V.ref).take 4))) p1 (.lst ((cs.map V.int).take 4))) p2 (.lst ((cs.map V.int).take ((rs.map V.ref).take 4).length))) p3 (.lst ((cs.map V.int).take 4 ++ (cs.map V.int).take ((rs.map V.ref).take 4).length))) := (same_upd hp).trans ((same_upd hp1).trans ((same_upd hp2).trans (same_upd hp3)))
        have e7 : (upd (upd (upd (upd H4 p (.lst ((rs.map V.ref).take 4))) p1 (.lst ((cs.map V.int).take 4))) p2 (.lst ((cs.map V.int).take ((rs.map V.ref).take 4).length))) p3 (.lst ((cs.map V.int).take 4 ++ (cs.map V.int).take ((rs.map V.ref).take 4).length))) p = some (.lst ((rs.take 4).map V.ref)) := by rw [List.map_take]; exact same_upd hp3 _ _ (same_upd hp2 _ _ (same_upd hp1 _ _ upd_same))
        have c7 : (upd (upd (upd (upd H4 p (.lst ((rs.map V.ref).take 4))) p1 (.lst ((cs.map V.int).take 4))) p2 (.lst ((cs.map V.int).take ((rs.map V.ref).take 4).length))) p3 (.lst ((cs.map V.int).take 4 ++ (cs.map V.int).take ((rs.map V.ref).take 4).length))) p3 = some (.lst ((cs.take 4 ++ cs.take (min 4 rs.length)).map V.int)) := by rw [upd_same, List.map_append, List.map_take, List.map_take, List.length_take, List.length_map]
        generalize upd (upd (upd (upd H4 p (.lst ((rs.map V.ref).take 4))) p1 (.lst ((cs.map V.int).take 4))) p2 (.lst ((cs.map V.int).take ((rs.map V.ref).take 4).length))) p3 (.lst ((cs.map V.int).take 4 ++ (cs.map V.int).take ((rs.map V.ref).take 4).length)) = H7 at sm7 e7 c7 ⊢
        clear hp1 hp2 hp3
        have p4 := Paired.takeL 4 h2
        have l4 := p4.length
        refine lc_list (K := K) (xs := (rs.take 4).map V.ref) (fun i σ H2 ys => Same H7 H2 ∧ (∃ v, σ = [v]) ∧ ∃ qs : List Addr, ys = qs.map V.ref ∧ Paired (fun r row => H2 r = some (.lst (List.map V.int row))) qs (((m.take 4).take i).map fun row => row.map fun x => -x))
          ⟨Same.refl _, ⟨_, rfl⟩, [], rfl, .nil⟩ (fun i σ H2 ys _ ⟨e, _⟩ => SqL.of (e _ _ e7)) ?_ ?_
        · rintro i y σ H2 ys hi ⟨sm, ⟨v', rfl⟩, qs, rfl, hq⟩
          obtain ⟨r0, hr0, rfl⟩ := map_ref hi
          have hi4 : i < (m.take 4).length := by rw [← l4]; exact (List.getElem?_eq_some_iff.mp hr0).1
          obtain ⟨row, hrow⟩ : ∃ row, (m.take 4)[i]? = some row := ⟨_, List.getElem?_eq_getElem hi4⟩
          obtain ⟨r0', g0, q0⟩ := Paired.getL p4 hrow
          obtain rfl : r0 = r0' := Option.some.inj (hr0.symm.trans g0)
          have hrowm : row ∈ m := List.mem_of_mem_take (List.mem_of_getElem? hrow)
          have hrl := wk.wid row hrowm
          have w6 := wk.w6
          have ql := hq.length
          rw [List.length_map, List.length_take] at ql
          simp only [tSeq, tNext, tAsg, gName, tVar, tC, tOp, rI, rI0, rEq, rNe, scal, tTest, tB, tIfS, tRet, tRetN, tDrop, tNot, tNotV, tOr, tAnd, tOrV, tAndV, tCons, tNil, tCall, tCB, tUn, rU, tPar, tIf, rIxL, rIxT, tTrue, tFor_eq, tComp_eq, tLst, tTup, rEqI, rEqA, rNeA, rCat, rRep, tSl, rSlL, tPart, tNoPart, tRev, gSub, rSetL, tInts, iList, iRng1, iRng2, iZip, iEnum, tBM, rAppend, List.getElem?_cons_zero, List.getElem?_cons_succ, Option.some.injEq, List.set_cons_zero, List.set_cons_succ, exists_and_left, exists_eq_left, exists_eq_left', V.int.injEq, V.ref.injEq, V.bl.injEq, V.ty.injEq, List.cons.injEq, and_true, true_and, List.append_nil, List.cons_append, List.nil_append, and_assoc, cxOf, ite_not, if_true, if_false, Bool.false_eq_true, Bool.true_eq_false, Bool.not_true, Bool.not_false, reduceIte, Bool.not_eq_true', decide_eq_false_iff_not, decide_eq_true_eq]
          refine ⟨⟨_, SqL.of (sm _ _ (sm7 _ _ q0))⟩, ?_⟩
          refine lc_list (K := K) (xs := row.map V.int) (fun j σ H3 zs => H2 = H3 ∧ (∃ v, σ = [v]) ∧ zs = ((row.take j).map fun x => -x).map V.int) ⟨rfl, ⟨_, rfl⟩, rfl⟩ (fun j σ H3 zs _ ⟨e, _⟩ => e ▸ SqL.of (sm _ _ (sm7 _ _ q0))) ?_ ?_
          · rintro j x σ _ zs hx ⟨rfl, ⟨v2, rfl⟩, rfl⟩
            obtain ⟨x', hx', rfl⟩ := map_int hx
            simp only [tSeq, tNext, tAsg, gName, tVar, tC, tOp, rI, rI0, rEq, rNe, scal, tTest, tB, tIfS, tRet, tRetN, tDrop, tNot, tNotV, tOr, tAnd, tOrV, tAndV, tCons, tNil, tCall, tCB, tUn, rU, tPar, tIf, rIxL, rIxT, tTrue, tFor_eq, tComp_eq, tLst, tTup, rEqI, rEqA, rNeA, rCat, rRep, tSl, rSlL, tPart, tNoPart, tRev, gSub, rSetL, tInts, iList, iRng1, iRng2, iZip, iEnum, tBM, rAppend, List.getElem?_cons_zero, List.getElem?_cons_succ, Option.some.injEq, List.set_cons_zero, List.set_cons_succ, exists_and_left, exists_eq_left, exists_eq_left', V.int.injEq, V.ref.injEq, V.bl.injEq, V.ty.injEq, List.cons.injEq, and_true, true_and, List.append_nil, List.cons_append, List.nil_append, and_assoc, cxOf, ite_not, if_true, if_false, Bool.false_eq_true, Bool.true_eq_false, Bool.not_true, Bool.not_false, reduceIte, Bool.not_eq_true', decide_eq_false_iff_not, decide_eq_true_eq]
            refine ⟨?_, ⟨_, rfl⟩, ?_⟩
            · rw [List.length_map, List.length_map, List.length_take]; exact small1000 (by omega)
            · rw [take_succ_of hx', List.map_append, List.map_append]; rfl
          · rintro σ _ zs ⟨rfl, ⟨v2, rfl⟩, rfl⟩
            refine ⟨?_, fun q hqn => ⟨?_, sm.trans (same_upd hqn), ⟨_, rfl⟩, qs ++ [q], by rw [List.map_append]; rfl, ?_⟩⟩
            · rw [List.length_map, List.length_map, List.length_take]; exact sz (by omega)
            · have t4 : (m.take 4).length ≤ 4 := by rw [List.length_take]; omega
              rw [List.length_map]; exact small1000 (by omega)
            · rw [take_succ_of hrow, List.map_append]
              refine Paired.snocL ?_ (Paired.impL hq fun _ _ e => same_upd hqn _ _ e)
              rw [upd_same, List.length_map, List.take_length]
        · rintro σ H2 ys ⟨sm, ⟨v', rfl⟩, qs, rfl, hq⟩
          rw [List.length_map, l4, List.take_length] at hq
          have ql := hq.length
          rw [List.length_map, List.length_take] at ql
          refine ⟨by rw [List.length_map]; exact sz (by omega), fun q hqn => ⟨q, rfl, _, same_upd hqn _ _ (sm _ _ e7), _, upd_same, ?_, fun p' hp' => ?_⟩⟩
          · rw [List.length_map, List.length_map, l4, List.length_take]; exact sz (by omega)
          have s9 := (same_upd (o := .lst (qs.map V.ref)) hqn).trans (same_upd (o := .lst ((rs.take 4).map V.ref ++ qs.map V.ref)) hp')
          have s8 := sm7.trans (sm.trans s9)
          refine ⟨s8.seq hS, p3, cs.take 4 ++ cs.take (min 4 rs.length), s9 _ _ (sm _ _ c7), p', m.take 4 ++ (m.take 4).map (fun row => row.map fun x => -x), ⟨wk.w6, ⟨rs.take 4 ++ qs, by rw [upd_same, List.map_append], Paired.appL (Paired.impL p4 fun _ _ e => s8 _ _ e) (Paired.impL hq fun _ _ e => s9 _ _ e), ?_⟩, ?_, ?_, ?_, SqL.of (s9 _ _ (sm _ _ c7)), ?_, ?_⟩, rfl, rfl⟩
          · intro hin
            have hsome : ∃ u, (upd H2 q (.lst (qs.map V.ref))) p' = some u := by
              rcases List.mem_append.mp hin with h | h
              · obtain ⟨b, _, e⟩ := Paired.memL p4 h
                exact ⟨_, same_upd hqn _ _ (sm _ _ (sm7 _ _ e))⟩
              · obtain ⟨b, _, e⟩ := Paired.memL hq h
                exact ⟨_, same_upd hqn _ _ e⟩
            obtain ⟨u', hu'⟩ := hsome
            rw [hu'] at hp'; cases hp'
          · rw [List.length_append, List.length_map, List.length_take]; omega
          · intro row hrow
            rcases List.mem_append.mp hrow with h | h
            · exact wk.wid row (List.mem_of_mem_take h)
            · obtain ⟨row', h', rfl⟩ := List.mem_map.mp h
              rw [List.length_map]; exact wk.wid row' (List.mem_of_mem_take h')
          · intro row hrow x hx
            rcases List.mem_append.mp hrow with h | h
            · exact wk.num row (List.mem_of_mem_take h) x hx
            · obtain ⟨row', h', rfl⟩ := List.mem_map.mp h
              obtain ⟨x', hx', rfl⟩ := List.mem_map.mp hx
              have := wk.num row' (List.mem_of_mem_take h') x' hx'
              omega
          · simp only [List.length_append, List.length_take, List.length_map]; omega
          · intro x hx
            rcases List.mem_append.mp hx with h | h
            · exact hp4 x (List.mem_of_mem_take h)
            · exact hp4 x (List.mem_of_mem_take h)
      · exact ⟨hS, r, cs, hr4, d, m, ⟨wk.w6, hm, wk.many, wk.wid, wk.num, SqL.of hr4, hl4, hp4⟩, rfl, rfl⟩
    rintro σ5 H5 ⟨hS5, r5, cs5, hr5, d5, m5, I5, rfl⟩
    clear hm hS sm4 hr4 hl4 hp4 wk
    obtain ⟨w6, hm, m10, hwid, hnum, hc, hcl, hpos⟩ := id I5
    refine cut (fun σ H2 => Same H5 H2 ∧ ∃ du, H2 du = some (.lst ((sumsOf wd m5 cs5).map V.int)) ∧ σ = [some (V.ref a), some (V.int wd), some (V.ref d5), some (V.int kd), some (V.ref r5), u, v, some (V.ref du), none, none, none, none, none]) ?_ ?_
    · simp only [tSeq, tNext, tAsg, gName, tVar, tC, tOp, rI, rI0, rEq, rNe, scal, tTest, tB, tIfS, tRet, tRetN, tDrop, tNot, tNotV, tOr, tAnd, tOrV, tAndV, tCons, tNil, tCall, tCB, tUn, rU, tPar, tIf, rIxL, rIxT, tTrue, tFor_eq, tComp_eq, tLst, tTup, rEqI, rEqA, rNeA, rCat, rRep, tSl, rSlL, tPart, tNoPart, tRev, gSub, rSetL, tInts, iList, iRng1, iRng2, iZip, iEnum, tBM, rAppend, List.getElem?_cons_zero, List.getElem?_cons_succ, Option.some.injEq, List.set_cons_zero, List.set_cons_succ, exists_and_left, exists_eq_left, exists_eq_left', V.int.injEq, V.ref.injEq, V.bl.injEq, V.ty.injEq, List.cons.injEq, and_true, true_and, List.append_nil, List.cons_append, List.nil_append, and_assoc, cxOf, ite_not, if_true, if_false, Bool.false_eq_true, Bool.true_eq_false, Bool.not_true, Bool.not_false, reduceIte, Bool.not_eq_true', decide_eq_false_iff_not, decide_eq_true_eq, sp_sums]
      refine ⟨wd, rfl, w6, m5, hm, by omega, hwid, fun row h x hx => by have := hnum row h x hx; omega, cs5, hc, by omega, fun p H' hp sm e => ⟨sm, p, e, rfl⟩⟩
    rintro σ6 H6 ⟨sm6, du, hdu, rfl⟩
    have fo : ∀ (n : Nat) (ss : List Int) (t : Addr) (Hx : Hp) (Q' : VK), n ≤ 10 → n ≤ ss.length → SqL K Hx t (ss.map V.int) → (∀ q, Hx q = none → Q' (.ref q) (upd Hx q (.lst ((offOf n ss).map V.int)))) →
        CompOk (Itr 0 n) (gName 0) (tTest (tOp rNe (tOp (rIxL K) (tVar 1) (tVar 0)) (tC (V.int 0)))) (tVar 0) Q' [none, some (V.ref t)] Hx := by
      intro n ss t Hx Q' hn hns ht q'
      refine lc_range (fun i σ H2 ys => Hx = H2 ∧ (∃ v, σ = [v, some (V.ref t)]) ∧ ys = (offOf i ss).map V.int) ⟨rfl, ⟨_, rfl⟩, rfl⟩ ?_ ?_
      · rintro i σ _ ys hi ⟨rfl, ⟨v, rfl⟩, rfl⟩
        have hlt : i < ss.length := by omega
        have hg : ss.getD i 0 = ss[i] := by rw [List.getD_eq_getElem?_getD, List.getElem?_eq_getElem hlt]; rfl
        simp only [tSeq, tNext, tAsg, gName, tVar, tC, tOp, rI, rI0, rEq, rNe, scal, tTest, tB, tIfS, tRet, tRetN, tDrop, tNot, tNotV, tOr, tAnd, tOrV, tAndV, tCons, tNil, tCall, tCB, tUn, rU, tPar, tIf, rIxL, rIxT, tTrue, tFor_eq, tComp_eq, tLst, tTup, rEqI, rEqA, rNeA, rCat, rRep, tSl, rSlL, tPart, tNoPart, tRev, gSub, rSetL, tInts, iList, iRng1, iRng2, iZip, iEnum, tBM, rAppend, List.getElem?_cons_zero, List.getElem?_cons_succ, Option.some.injEq, List.set_cons_zero, List.set_cons_succ, exists_and_left, exists_eq_left, exists_eq_left', V.int.injEq, V.ref.injEq, V.bl.injEq, V.ty.injEq, List.cons.injEq, and_true, true_and, List.append_nil, List.cons_append, List.nil_append, and_assoc, cxOf, ite_not, if_true, if_false, Bool.false_eq_true, Bool.true_eq_false, Bool.not_true, Bool.not_false, reduceIte, Bool.not_eq_true', decide_eq_false_iff_not, decide_eq_true_eq, Int.zero_add]
        refine ⟨_, ht, V.int ss[i], atI_nat (by simp [hlt]), rfl, ite2 (fun h => ?_) fun h => ?_⟩
        · have h' : ss.getD i 0 = 0 := by rw [hg]; simpa using h
          exact ⟨⟨_, rfl⟩, by rw [offOf_eq h']⟩
        · have h' : ¬ ss.getD i 0 = 0 := by rw [hg]; simpa using h
          refine ⟨?_, ⟨_, rfl⟩, by rw [offOf_ne h', List.map_append]; rfl⟩
          have := offOf_len i ss
          rw [List.length_map]; exact small1000 (by omega)
      · rintro σ _ ys ⟨rfl, ⟨v, rfl⟩, rfl⟩
        have := offOf_len n ss
        exact ⟨by rw [List.length_map]; exact Nat.le_of_lt (small1000 (by omega)), q'⟩
    refine cut (fun σ H2 => Same H6 H2 ∧ ∃ o, H2 o = some (.lst ((offOf wd (sumsOf wd m5 cs5)).map V.int)) ∧ σ = [some (V.ref a), some (V.int wd), some (V.ref d5), some (V.int kd), some (V.ref r5), u, v, some (V.ref du), some (V.ref o), none, none, none, none]) ?_ ?_
    · simp only [tSeq, tNext, tAsg, gName, tVar, tC, tOp, rI, rI0, rEq, rNe, scal, tTest, tB, tIfS, tRet, tRetN, tDrop, tNot, tNotV, tOr, tAnd, tOrV, tAndV, tCons, tNil, tCall, tCB, tUn, rU, tPar, tIf, rIxL, rIxT, tTrue, tFor_eq, tComp_eq, tLst, tTup, rEqI, rEqA, rNeA, rCat, rRep, tSl, rSlL, tPart, tNoPart, tRev, gSub, rSetL, tInts, iList, iRng1, iRng2, iZip, iEnum, tBM, rAppend, List.getElem?_cons_zero, List.getElem?_cons_succ, Option.some.injEq, List.set_cons_zero, List.set_cons_succ, exists_and_left, exists_eq_left, exists_eq_left', V.int.injEq, V.ref.injEq, V.bl.injEq, V.ty.injEq, List.cons.injEq, and_true, true_and, List.append_nil, List.cons_append, List.nil_append, and_assoc, cxOf, ite_not, if_true, if_false, Bool.false_eq_true, Bool.true_eq_false, Bool.not_true, Bool.not_false, reduceIte, Bool.not_eq_true', decide_eq_false_iff_not, decide_eq_true_eq]
      refine ⟨by omega, by omega, ?_⟩
      rw [Int.toNat_natCast]
      refine fo wd _ du H6 _ (by omega) (by unfold sumsOf; rw [List.length_map, List.length_range]; exact Nat.le_refl _) (SqL.of hdu) fun q hq => ?_
      exact ⟨same_upd hq, q, upd_same, rfl⟩
    rintro σ7 H7 ⟨sm7, o, ho, rfl⟩
    refine cut (fun σ H2 => Same H7 H2 ∧ ∃ dn, H2 dn = some (.lst ((offOf cs5.length cs5).map V.int)) ∧ σ = [some (V.ref a), some (V.int wd), some (V.ref d5), some (V.int kd), some (V.ref r5), u, v, some (V.ref du), some (V.ref o), some (V.ref dn), none, none, none]) ?_ ?_
    · simp only [tSeq, tNext, tAsg, gName, tVar, tC, tOp, rI, rI0, rEq, rNe, scal, tTest, tB, tIfS, tRet, tRetN, tDrop, tNot, tNotV, tOr, tAnd, tOrV, tAndV, tCons, tNil, tCall, tCB, tUn, rU, tPar, tIf, rIxL, rIxT, tTrue, tFor_eq, tComp_eq, tLst, tTup, rEqI, rEqA, rNeA, rCat, rRep, tSl, rSlL, tPart, tNoPart, tRev, gSub, rSetL, tInts, iList, iRng1, iRng2, iZip, iEnum, tBM, rAppend, List.getElem?_cons_zero, List.getElem?_cons_succ, Option.some.injEq, List.set_cons_zero, List.set_cons_succ, exists_and_left, exists_eq_left, exists_eq_left', V.int.injEq, V.ref.injEq, V.bl.injEq, V.ty.injEq, List.cons.injEq, and_true, true_and, List.append_nil, List.cons_append, List.nil_append, and_assoc, cxOf, ite_not, if_true, if_false, Bool.false_eq_true, Bool.true_eq_false, Bool.not_true, Bool.not_false, reduceIte, Bool.not_eq_true', decide_eq_false_iff_not, decide_eq_true_eq]
      have hc7 := (sm6.trans sm7).seq hc
      refine ⟨_, .inl hc7, by rw [List.length_map]; omega, by rw [List.length_map]; omega, ?_⟩
      rw [List.length_map, Int.toNat_natCast]
      refine fo cs5.length _ r5 H7 _ (by omega) (Nat.le_refl _) hc7 fun q hq => ?_
      exact ⟨same_upd hq, q, upd_same, rfl⟩
    rintro σ8 H8 ⟨sm8, dn, hdn, rfl⟩
    have smA := sm6.trans (sm7.trans sm8)
    replace hm := hm.same smA
    replace hc := smA.seq hc
    replace hr5 := smA _ _ hr5
    replace hdu := (sm7.trans sm8) _ _ hdu
    replace ho := sm8 _ _ ho
    clear sm6 sm7 sm8 smA I5
    -- a copy of the works
    refine cut (fun σ H2 => Same H8 H2 ∧ ∃ wh, Mat H2 wh m5 ∧ σ = [some (V.ref a), some (V.int wd), some (V.ref d5), some (V.int kd), some (V.ref r5), u, v, some (V.ref du), some (V.ref o), some (V.ref dn), some (V.ref wh), none, none]) ?_ ?_
    · obtain ⟨rs, h1, h2, h3⟩ := id hm
      have hl := h2.length
      simp only [tSeq, tNext, tAsg, gName, tVar, tC, tOp, rI, rI0, rEq, rNe, scal, tTest, tB, tIfS, tRet, tRetN, tDrop, tNot, tNotV, tOr, tAnd, tOrV, tAndV, tCons, tNil, tCall, tCB, tUn, rU, tPar, tIf, rIxL, rIxT, tTrue, tFor_eq, tComp_eq, tLst, tTup, rEqI, rEqA, rNeA, rCat, rRep, tSl, rSlL, tPart, tNoPart, tRev, gSub, rSetL, tInts, iList, iRng1, iRng2, iZip, iEnum, tBM, rAppend, List.getElem?_cons_zero, List.getElem?_cons_succ, Option.some.injEq, List.set_cons_zero, List.set_cons_succ, exists_and_left, exists_eq_left, exists_eq_left', V.int.injEq, V.ref.injEq, V.bl.injEq, V.ty.injEq, List.cons.injEq, and_true, true_and, List.append_nil, List.cons_append, List.nil_append, and_assoc, cxOf, ite_not, if_true, if_false, Bool.false_eq_true, Bool.true_eq_false, Bool.not_true, Bool.not_false, reduceIte, Bool.not_eq_true', decide_eq_false_iff_not, decide_eq_true_eq]
      refine ⟨⟨_, SqL.of h1⟩, ?_⟩
      refine lc_list (K := K) (xs := rs.map V.ref) (fun i σ H2 ys => Same H8 H2 ∧ (∃ v, σ = [v]) ∧ ∃ qs : List Addr, ys = qs.map V.ref ∧ Paired (fun r row => H2 r = some (.lst (List.map V.int row))) qs (m5.take i))
        ⟨Same.refl _, ⟨_, rfl⟩, [], rfl, .nil⟩ (fun i σ H2 ys _ ⟨e, _⟩ => SqL.of (e _ _ h1)) ?_ ?_
      · rintro i y σ H2 ys hi ⟨sm, ⟨v', rfl⟩, qs, rfl, hq⟩
        obtain ⟨r0, hr0, rfl⟩ := map_ref hi
        have hi4 : i < m5.length := by rw [← hl]; exact (List.getElem?_eq_some_iff.mp hr0).1
        obtain ⟨row, hrow⟩ : ∃ row, m5[i]? = some row := ⟨_, List.getElem?_eq_getElem hi4⟩
        obtain ⟨r0', g0, q0⟩ := Paired.getL h2 hrow
        obtain rfl : r0 = r0' := Option.some.inj (hr0.symm.trans g0)
        have ql := hq.length
        rw [List.length_take] at ql
        simp only [tSeq, tNext, tAsg, gName, tVar, tC, tOp, rI, rI0, rEq, rNe, scal, tTest, tB, tIfS, tRet, tRetN, tDrop, tNot, tNotV, tOr, tAnd, tOrV, tAndV, tCons, tNil, tCall, tCB, tUn, rU, tPar, tIf, rIxL, rIxT, tTrue, tFor_eq, tComp_eq, tLst, tTup, rEqI, rEqA, rNeA, rCat, rRep, tSl, rSlL, tPart, tNoPart, tRev, gSub, rSetL, tInts, iList, iRng1, iRng2, iZip, iEnum, tBM, rAppend, List.getElem?_cons_zero, List.getElem?_cons_succ, Option.some.injEq, List.set_cons_zero, List.set_cons_succ, exists_and_left, exists_eq_left, exists_eq_left', V.int.injEq, V.ref.injEq, V.bl.injEq, V.ty.injEq, List.cons.injEq, and_true, true_and, List.append_nil, List.cons_append, List.nil_append, and_assoc, cxOf, ite_not, if_true, if_false, Bool.false_eq_true, Bool.true_eq_false, Bool.not_true, Bool.not_false, reduceIte, Bool.not_eq_true', decide_eq_false_iff_not, decide_eq_true_eq]
        refine ⟨_, .inl (SqL.of (sm _ _ q0)), fun q hqn => ⟨?_, sm.trans (same_upd hqn), ⟨_, rfl⟩, qs ++ [q], by rw [List.map_append]; rfl, ?_⟩⟩
        · rw [List.length_map]; exact small1000 (by omega)
        · rw [take_succ_of hrow]
          refine Paired.snocL ?_ (Paired.impL hq fun _ _ e => same_upd hqn _ _ e)
          exact upd_same
      · rintro σ H2 ys ⟨sm, ⟨v', rfl⟩, qs, rfl, hq⟩
        rw [List.length_map, hl, List.take_length] at hq
        have ql := hq.length
        refine ⟨by rw [List.length_map]; exact Nat.le_of_lt (small1000 (by omega)), fun q hqn => ⟨sm.trans (same_upd hqn), q, ⟨qs, upd_same, Paired.impL hq fun _ _ e => same_upd hqn _ _ e, ?_⟩, rfl⟩⟩
        intro hin
        obtain ⟨b, _, e⟩ := Paired.memL hq hin
        rw [e] at hqn; cases hqn
    rintro σ9 H9 ⟨sm9, wh, hw, rfl⟩
    refine cut (fun σ H2 => Same H9 H2 ∧ ∃ hd, H2 hd = some (.lst (cs5.map V.int)) ∧ σ = [some (V.ref a), some (V.int wd), some (V.ref d5), some (V.int kd), some (V.ref r5), u, v, some (V.ref du), some (V.ref o), some (V.ref dn), some (V.ref wh), some (V.ref hd), none]) ?_ ?_
    · simp only [tSeq, tNext, tAsg, gName, tVar, tC, tOp, rI, rI0, rEq, rNe, scal, tTest, tB, tIfS, tRet, tRetN, tDrop, tNot, tNotV, tOr, tAnd, tOrV, tAndV, tCons, tNil, tCall, tCB, tUn, rU, tPar, tIf, rIxL, rIxT, tTrue, tFor_eq, tComp_eq, tLst, tTup, rEqI, rEqA, rNeA, rCat, rRep, tSl, rSlL, tPart, tNoPart, tRev, gSub, rSetL, tInts, iList, iRng1, iRng2, iZip, iEnum, tBM, rAppend, List.getElem?_cons_zero, List.getElem?_cons_succ, Option.some.injEq, List.set_cons_zero, List.set_cons_succ, exists_and_left, exists_eq_left, exists_eq_left', V.int.injEq, V.ref.injEq, V.bl.injEq, V.ty.injEq, List.cons.injEq, and_true, true_and, List.append_nil, List.cons_append, List.nil_append, and_assoc, cxOf, ite_not, if_true, if_false, Bool.false_eq_true, Bool.true_eq_false, Bool.not_true, Bool.not_false, reduceIte, Bool.not_eq_true', decide_eq_false_iff_not, decide_eq_true_eq]
      exact ⟨_, .inl (sm9.seq hc), fun q hq => ⟨same_upd hq, q, upd_same, rfl⟩⟩
    rintro σ10 H10 ⟨sm10, hd, hhd, rfl⟩
    have smA := sm9.trans sm10
    replace hm := hm.same smA
    replace hc := smA.seq hc
    replace hdu := smA _ _ hdu
    replace ho := smA _ _ ho
    replace hdn := smA _ _ hdn
    replace hw := hw.same sm10
    clear sm9 sm10 smA hS5
    have I10 : WIn K H10 wh hd wd m5 cs5 := ⟨w6, hw, m10, hwid, hnum, SqL.of hhd, hcl, hpos⟩
    refine cut (fun σ H2 => Same H10 H2 ∧ σ = [some (V.ref a), some (V.int wd), some (V.ref d5), some (V.int kd), some (V.ref r5), u, v, some (V.ref du), some (V.ref o), some (V.ref dn), some (V.ref wh), some (V.ref hd), none]) ?_ ?_
    · simp only [tSeq, tNext, tAsg, gName, tVar, tC, tOp, rI, rI0, rEq, rNe, scal, tTest, tB, tIfS, tRet, tRetN, tDrop, tNot, tNotV, tOr, tAnd, tOrV, tAndV, tCons, tNil, tCall, tCB, tUn, rU, tPar, tIf, rIxL, rIxT, tTrue, tFor_eq, tComp_eq, tLst, tTup, rEqI, rEqA, rNeA, rCat, rRep, tSl, rSlL, tPart, tNoPart, tRev, gSub, rSetL, tInts, iList, iRng1, iRng2, iZip, iEnum, tBM, rAppend, List.getElem?_cons_zero, List.getElem?_cons_succ, Option.some.injEq, List.set_cons_zero, List.set_cons_succ, exists_and_left, exists_eq_left, exists_eq_left', V.int.injEq, V.ref.injEq, V.bl.injEq, V.ty.injEq, List.cons.injEq, and_true, true_and, List.append_nil, List.cons_append, List.nil_append, and_assoc, cxOf, ite_not, if_true, if_false, Bool.false_eq_true, Bool.true_eq_false, Bool.not_true, Bool.not_false, reduceIte, Bool.not_eq_true', decide_eq_false_iff_not, decide_eq_true_eq, sp_ends, sp_row]
      refine ⟨wd, rfl, m5, cs5, I10, fun p H' hp sm e => ⟨_, e, _, SqL.of (sm _ _ hdu), fun H'' sm' => if_pos_of rfl (sm.trans sm')⟩⟩
    rintro σ11 H11 ⟨sm11, rfl⟩
    refine cut (fun σ H2 => Same H10 H2 ∧ σ = [some (V.ref a), some (V.int wd), some (V.ref d5), some (V.int kd), some (V.ref r5), u, v, some (V.ref du), some (V.ref o), some (V.ref dn), some (V.ref wh), some (V.ref hd), none]) ?_ ?_
    · simp only [tSeq, tNext, tAsg, gName, tVar, tC, tOp, rI, rI0, rEq, rNe, scal, tTest, tB, tIfS, tRet, tRetN, tDrop, tNot, tNotV, tOr, tAnd, tOrV, tAndV, tCons, tNil, tCall, tCB, tUn, rU, tPar, tIf, rIxL, rIxT, tTrue, tFor_eq, tComp_eq, tLst, tTup, rEqI, rEqA, rNeA, rCat, rRep, tSl, rSlL, tPart, tNoPart, tRev, gSub, rSetL, tInts, iList, iRng1, iRng2, iZip, iEnum, tBM, rAppend, List.getElem?_cons_zero, List.getElem?_cons_succ, Option.some.injEq, List.set_cons_zero, List.set_cons_succ, exists_and_left, exists_eq_left, exists_eq_left', V.int.injEq, V.ref.injEq, V.bl.injEq, V.ty.injEq, List.cons.injEq, and_true, true_and, List.append_nil, List.cons_append, List.nil_append, and_assoc, cxOf, ite_not, if_true, if_false, Bool.false_eq_true, Bool.true_eq_false, Bool.not_true, Bool.not_false, reduceIte, Bool.not_eq_true', decide_eq_false_iff_not, decide_eq_true_eq, sp_uneven, sp_row]
      refine ⟨wd, rfl, m5, cs5, I10.same sm11, fun p H' hp sm e => ⟨_, e, _, SqL.of (sm _ _ (sm11 _ _ ho)), fun H'' sm' => if_pos_of rfl (sm11.trans (sm.trans sm'))⟩⟩
    rintro σ12 H12 ⟨sm12, rfl⟩
    refine cut (fun σ H2 => Same H10 H2 ∧ σ = [some (V.ref a), some (V.int wd), some (V.ref d5), some (V.int kd), some (V.ref r5), u, v, some (V.ref du), some (V.ref o), some (V.ref dn), some (V.ref wh), some (V.ref hd), none]) ?_ ?_
    · simp only [tSeq, tNext, tAsg, gName, tVar, tC, tOp, rI, rI0, rEq, rNe, scal, tTest, tB, tIfS, tRet, tRetN, tDrop, tNot, tNotV, tOr, tAnd, tOrV, tAndV, tCons, tNil, tCall, tCB, tUn, rU, tPar, tIf, rIxL, rIxT, tTrue, tFor_eq, tComp_eq, tLst, tTup, rEqI, rEqA, rNeA, rCat, rRep, tSl, rSlL, tPart, tNoPart, tRev, gSub, rSetL, tInts, iList, iRng1, iRng2, iZip, iEnum, tBM, rAppend, List.getElem?_cons_zero, List.getElem?_cons_succ, Option.some.injEq, List.set_cons_zero, List.set_cons_succ, exists_and_left, exists_eq_left, exists_eq_left', V.int.injEq, V.ref.injEq, V.bl.injEq, V.ty.injEq, List.cons.injEq, and_true, true_and, List.append_nil, List.cons_append, List.nil_append, and_assoc, cxOf, ite_not, if_true, if_false, Bool.false_eq_true, Bool.true_eq_false, Bool.not_true, Bool.not_false, reduceIte, Bool.not_eq_true', decide_eq_false_iff_not, decide_eq_true_eq, sp_places, sp_row]
      refine ⟨cs5, SqL.of (sm12 _ _ hhd), by omega, fun x hx => (hpos x hx).1, fun p H' hp sm e => ⟨_, e, _, SqL.of (sm _ _ (sm12 _ _ hdn)), fun H'' sm' => if_pos_of rfl (sm12.trans (sm.trans sm'))⟩⟩
    rintro σ13 H13 ⟨sm13, rfl⟩
    refine cut (fun σ H2 => Same H10 H2 ∧ σ = [some (V.ref a), some (V.int wd), some (V.ref d5), some (V.int kd), some (V.ref r5), u, v, some (V.ref du), some (V.ref o), some (V.ref dn), some (V.ref wh), some (V.ref hd), some (V.bl (decide (isRound wd m5 cs5)))]) ?_ ?_
    · simp only [tSeq, tNext, tAsg, gName, tVar, tC, tOp, rI, rI0, rEq, rNe, scal, tTest, tB, tIfS, tRet, tRetN, tDrop, tNot, tNotV, tOr, tAnd, tOrV, tAndV, tCons, tNil, tCall, tCB, tUn, rU, tPar, tIf, rIxL, rIxT, tTrue, tFor_eq, tComp_eq, tLst, tTup, rEqI, rEqA, rNeA, rCat, rRep, tSl, rSlL, tPart, tNoPart, tRev, gSub, rSetL, tInts, iList, iRng1, iRng2, iZip, iEnum, tBM, rAppend, List.getElem?_cons_zero, List.getElem?_cons_succ, Option.some.injEq, List.set_cons_zero, List.set_cons_succ, exists_and_left, exists_eq_left, exists_eq_left', V.int.injEq, V.ref.injEq, V.bl.injEq, V.ty.injEq, List.cons.injEq, and_true, true_and, List.append_nil, List.cons_append, List.nil_append, and_assoc, cxOf, ite_not, if_true, if_false, Bool.false_eq_true, Bool.true_eq_false, Bool.not_true, Bool.not_false, reduceIte, Bool.not_eq_true', decide_eq_false_iff_not, decide_eq_true_eq, sp_isround]
      exact ⟨wd, rfl, m5, cs5, I10.same sm13, fun H' sm => ⟨sm13.trans sm, rfl⟩⟩
    rintro σ14 H14 ⟨sm14, rfl⟩
    refine cut (fun σ H2 => Same H10 H2 ∧ σ = [some (V.ref a), some (V.int wd), some (V.ref d5), some (V.int kd), some (V.ref r5), u, v, some (V.ref du), some (V.ref o), some (V.ref dn), some (V.ref wh), some (V.ref hd), some (V.bl (decide (isRound wd m5 cs5)))]) ?_ ?_
    · simp only [tSeq, tNext, tAsg, gName, tVar, tC, tOp, rI, rI0, rEq, rNe, scal, tTest, tB, tIfS, tRet, tRetN, tDrop, tNot, tNotV, tOr, tAnd, tOrV, tAndV, tCons, tNil, tCall, tCB, tUn, rU, tPar, tIf, rIxL, rIxT, tTrue, tFor_eq, tComp_eq, tLst, tTup, rEqI, rEqA, rNeA, rCat, rRep, tSl, rSlL, tPart, tNoPart, tRev, gSub, rSetL, tInts, iList, iRng1, iRng2, iZip, iEnum, tBM, rAppend, List.getElem?_cons_zero, List.getElem?_cons_succ, Option.some.injEq, List.set_cons_zero, List.set_cons_succ, exists_and_left, exists_eq_left, exists_eq_left', V.int.injEq, V.ref.injEq, V.bl.injEq, V.ty.injEq, List.cons.injEq, and_true, true_and, List.append_nil, List.cons_append, List.nil_append, and_assoc, cxOf, ite_not, if_true, if_false, Bool.false_eq_true, Bool.true_eq_false, Bool.not_true, Bool.not_false, reduceIte, Bool.not_eq_true', decide_eq_false_iff_not, decide_eq_true_eq]
      refine ⟨_, .bl _, true, rfl, if_neg_of (by decide) ⟨by show 0 ≤ sizeLine; decide, fun p hp => ⟨_, SqL.of (same_upd hp _ _ (sm14 _ _ hdn)), _, SqL.of upd_same, .inr (.inl rfl), ?_⟩⟩⟩
      refine ite2 (fun h => ?_) fun h => ?_
      · have h' : offOf cs5.length cs5 = [] := by simpa using h
        exact if_neg_of (fun q => q.1 h') (sm14.trans (same_upd hp))
      · have h' : offOf cs5.length cs5 ≠ [] := by simpa using h
        refine ⟨by show 0 ≤ sizeLine; decide, fun q hq => ⟨_, SqL.of (same_upd hq _ _ (same_upd hp _ _ (sm14 _ _ ho))), _, SqL.of upd_same, .inr (.inl rfl), if_pos_of ?_ (sm14.trans ((same_upd hp).trans (same_upd hq)))⟩⟩
        rw [Bool.eq_iff_iff]
        simp only [decide_eq_true_eq, List.map_eq_nil_iff]
        exact ⟨fun q => q.2, fun q => ⟨h', q⟩⟩
    rintro σ15 H15 ⟨sm15, rfl⟩
    simp only [tSeq, tNext, tAsg, gName, tVar, tC, tOp, rI, rI0, rEq, rNe, scal, tTest, tB, tIfS, tRet, tRetN, tDrop, tNot, tNotV, tOr, tAnd, tOrV, tAndV, tCons, tNil, tCall, tCB, tUn, rU, tPar, tIf, rIxL, rIxT, tTrue, tFor_eq, tComp_eq, tLst, tTup, rEqI, rEqA, rNeA, rCat, rRep, tSl, rSlL, tPart, tNoPart, tRev, gSub, rSetL, tInts, iList, iRng1, iRng2, iZip, iEnum, tBM, rAppend, List.getElem?_cons_zero, List.getElem?_cons_succ, Option.some.injEq, List.set_cons_zero, List.set_cons_succ, exists_and_left, exists_eq_left, exists_eq_left', V.int.injEq, V.ref.injEq, V.bl.injEq, V.ty.injEq, List.cons.injEq, and_true, true_and, List.append_nil, List.cons_append, List.nil_append, and_assoc, cxOf, ite_not, if_true, if_false, Bool.false_eq_true, Bool.true_eq_false, Bool.not_true, Bool.not_false, reduceIte, Bool.not_eq_true', decide_eq_false_iff_not, decide_eq_true_eq, sp_kept, sp_row]
    exact ⟨m5, hw.same sm15, m5, hm.same sm15, fun H' sm => if_pos_of rfl ⟨cs5, sm _ _ (sm15 _ _ hhd), cs5, sm.seq (sm15.seq hc), fun H'' _ => by rw [decide_eq_true rfl]; exact k H''⟩⟩
theorem law_fn {fa : Addr} {fd : FuncData} (T : Txt K mg) (F : Fun K "law" "law" s_law fa fd) :
    ∃ fd : FuncData, (∀ (s : Shared) (u : Value), BindsTo s fd ⟨[u], []⟩ [("_law_script", u)]) ∧ ∀ base : Heap, K.In base → base.Ns mainGlobals mg → FnOk P w K mg base CX0 5 fa fd ["_law_script"] (sp_law K) := by
  refine ⟨fd, fun s u => ?_, fun base _ _ => ok_law T F⟩
  obtain ⟨oc, od, kV, doc, pm, an, cdv, ct, osl, rfl, lk, hcd⟩ := F.ex
  exact .of_eq rfl
end
theorem law_sp {K : PySem.W.Frag} {H : Hp} {a : Addr} {ns : List Int} (hl : ns.length ≤ 63) (hS : SqL K H a (ns.map V.int)) : sp_law K [.ref a] H (fun v _ => v = .bl true) fun _ _ _ => False := ⟨a, ns, rfl, hS, hl, fun _ => rfl⟩
theorem txt_mk {K : PySem.W.Frag} {h : Heap} {mg : Str → Option Value} (X : K.In h) (G : h.Ns mainGlobals mg)
    {f1 : Addr} {od1 an1 : Option Addr} {sl1 : Array (Option Value)} {oc1 kV1 dc1 pm1 cd1 ct1 : Value}
    (a1 : PySem.W.nsIn K mainGlobals "end_of" = some (some (.ref f1))) (l1 : K.lookup f1 = some ⟨oc1, od1, .func (PySem.W.fnOf "end_of" "end_of" (defArgs s_end_of) (defBody s_end_of) (defScope s_end_of) .none kV1 dc1 pm1 an1 cd1 ct1), sl1⟩) (c1 : PySem.W.codeIn K cd1 "end_of" = true) (k1 : PySem.W.keepIn K (.ref f1) = true)
    {f2 : Addr} {od2 an2 : Option Addr} {sl2 : Array (Option Value)} {oc2 kV2 dc2 pm2 cd2 ct2 : Value}
    (a2 : PySem.W.nsIn K mainGlobals "ends" = some (some (.ref f2))) (l2 : K.lookup f2 = some ⟨oc2, od2, .func (PySem.W.fnOf "ends" "ends" (defArgs s_ends) (defBody s_ends) (defScope s_ends) .none kV2 dc2 pm2 an2 cd2 ct2), sl2⟩) (c2 : PySem.W.codeIn K cd2 "ends" = true) (k2 : PySem.W.keepIn K (.ref f2) = true)
    {f3 : Addr} {od3 an3 : Option Addr} {sl3 : Array (Option Value)} {oc3 kV3 dc3 pm3 cd3 ct3 : Value}
    (a3 : PySem.W.nsIn K mainGlobals "uneven" = some (some (.ref f3))) (l3 : K.lookup f3 = some ⟨oc3, od3, .func (PySem.W.fnOf "uneven" "uneven" (defArgs s_uneven) (defBody s_uneven) (defScope s_uneven) .none kV3 dc3 pm3 an3 cd3 ct3), sl3⟩) (c3 : PySem.W.codeIn K cd3 "uneven" = true) (k3 : PySem.W.keepIn K (.ref f3) = true)
    {f4 : Addr} {od4 an4 : Option Addr} {sl4 : Array (Option Value)} {oc4 kV4 dc4 pm4 cd4 ct4 : Value}
    (a4 : PySem.W.nsIn K mainGlobals "places" = some (some (.ref f4))) (l4 : K.lookup f4 = some ⟨oc4, od4, .func (PySem.W.fnOf "places" "places" (defArgs s_places) (defBody s_places) (defScope s_places) .none kV4 dc4 pm4 an4 cd4 ct4), sl4⟩) (c4 : PySem.W.codeIn K cd4 "places" = true) (k4 : PySem.W.keepIn K (.ref f4) = true)
    {f5 : Addr} {od5 an5 : Option Addr} {sl5 : Array (Option Value)} {oc5 kV5 dc5 pm5 cd5 ct5 : Value}
    (a5 : PySem.W.nsIn K mainGlobals "is_round" = some (some (.ref f5))) (l5 : K.lookup f5 = some ⟨oc5, od5, .func (PySem.W.fnOf "is_round" "is_round" (defArgs s_is_round) (defBody s_is_round) (defScope s_is_round) .none kV5 dc5 pm5 an5 cd5 ct5), sl5⟩) (c5 : PySem.W.codeIn K cd5 "is_round" = true) (k5 : PySem.W.keepIn K (.ref f5) = true)
    {f6 : Addr} {od6 an6 : Option Addr} {sl6 : Array (Option Value)} {oc6 kV6 dc6 pm6 cd6 ct6 : Value}
    (a6 : PySem.W.nsIn K mainGlobals "_law_at" = some (some (.ref f6))) (l6 : K.lookup f6 = some ⟨oc6, od6, .func (PySem.W.fnOf "_law_at" "_law_at" (defArgs s_law_at) (defBody s_law_at) (defScope s_law_at) .none kV6 dc6 pm6 an6 cd6 ct6), sl6⟩) (c6 : PySem.W.codeIn K cd6 "_law_at" = true) (k6 : PySem.W.keepIn K (.ref f6) = true)
    {f7 : Addr} {od7 an7 : Option Addr} {sl7 : Array (Option Value)} {oc7 kV7 dc7 pm7 cd7 ct7 : Value}
    (a7 : PySem.W.nsIn K mainGlobals "_law_mix" = some (some (.ref f7))) (l7 : K.lookup f7 = some ⟨oc7, od7, .func (PySem.W.fnOf "_law_mix" "_law_mix" (defArgs s_law_mix) (defBody s_law_mix) (defScope s_law_mix) .none kV7 dc7 pm7 an7 cd7 ct7), sl7⟩) (c7 : PySem.W.codeIn K cd7 "_law_mix" = true) (k7 : PySem.W.keepIn K (.ref f7) = true)
    {f8 : Addr} {od8 an8 : Option Addr} {sl8 : Array (Option Value)} {oc8 kV8 dc8 pm8 cd8 ct8 : Value}
    (a8 : PySem.W.nsIn K mainGlobals "_law_draws" = some (some (.ref f8))) (l8 : K.lookup f8 = some ⟨oc8, od8, .func (PySem.W.fnOf "_law_draws" "_law_draws" (defArgs s_law_draws) (defBody s_law_draws) (defScope s_law_draws) .none kV8 dc8 pm8 an8 cd8 ct8), sl8⟩) (c8 : PySem.W.codeIn K cd8 "_law_draws" = true) (k8 : PySem.W.keepIn K (.ref f8) = true)
    {f9 : Addr} {od9 an9 : Option Addr} {sl9 : Array (Option Value)} {oc9 kV9 dc9 pm9 cd9 ct9 : Value}
    (a9 : PySem.W.nsIn K mainGlobals "_law_row" = some (some (.ref f9))) (l9 : K.lookup f9 = some ⟨oc9, od9, .func (PySem.W.fnOf "_law_row" "_law_row" (defArgs s_law_row) (defBody s_law_row) (defScope s_law_row) .none kV9 dc9 pm9 an9 cd9 ct9), sl9⟩) (c9 : PySem.W.codeIn K cd9 "_law_row" = true) (k9 : PySem.W.keepIn K (.ref f9) = true)
    {f10 : Addr} {od10 an10 : Option Addr} {sl10 : Array (Option Value)} {oc10 kV10 dc10 pm10 cd10 ct10 : Value}
    (a10 : PySem.W.nsIn K mainGlobals "_law_works" = some (some (.ref f10))) (l10 : K.lookup f10 = some ⟨oc10, od10, .func (PySem.W.fnOf "_law_works" "_law_works" (defArgs s_law_works) (defBody s_law_works) (defScope s_law_works) .none kV10 dc10 pm10 an10 cd10 ct10), sl10⟩) (c10 : PySem.W.codeIn K cd10 "_law_works" = true) (k10 : PySem.W.keepIn K (.ref f10) = true)
    {f11 : Addr} {od11 an11 : Option Addr} {sl11 : Array (Option Value)} {oc11 kV11 dc11 pm11 cd11 ct11 : Value}
    (a11 : PySem.W.nsIn K mainGlobals "_law_whole" = some (some (.ref f11))) (l11 : K.lookup f11 = some ⟨oc11, od11, .func (PySem.W.fnOf "_law_whole" "_law_whole" (defArgs s_law_whole) (defBody s_law_whole) (defScope s_law_whole) .none kV11 dc11 pm11 an11 cd11 ct11), sl11⟩) (c11 : PySem.W.codeIn K cd11 "_law_whole" = true) (k11 : PySem.W.keepIn K (.ref f11) = true)
    {f12 : Addr} {od12 an12 : Option Addr} {sl12 : Array (Option Value)} {oc12 kV12 dc12 pm12 cd12 ct12 : Value}
    (a12 : PySem.W.nsIn K mainGlobals "_law_row_is" = some (some (.ref f12))) (l12 : K.lookup f12 = some ⟨oc12, od12, .func (PySem.W.fnOf "_law_row_is" "_law_row_is" (defArgs s_law_row_is) (defBody s_law_row_is) (defScope s_law_row_is) .none kV12 dc12 pm12 an12 cd12 ct12), sl12⟩) (c12 : PySem.W.codeIn K cd12 "_law_row_is" = true) (k12 : PySem.W.keepIn K (.ref f12) = true)
    {f13 : Addr} {od13 an13 : Option Addr} {sl13 : Array (Option Value)} {oc13 kV13 dc13 pm13 cd13 ct13 : Value}
    (a13 : PySem.W.nsIn K mainGlobals "_law_kept" = some (some (.ref f13))) (l13 : K.lookup f13 = some ⟨oc13, od13, .func (PySem.W.fnOf "_law_kept" "_law_kept" (defArgs s_law_kept) (defBody s_law_kept) (defScope s_law_kept) .none kV13 dc13 pm13 an13 cd13 ct13), sl13⟩) (c13 : PySem.W.codeIn K cd13 "_law_kept" = true) (k13 : PySem.W.keepIn K (.ref f13) = true)
    {f14 : Addr} {od14 an14 : Option Addr} {sl14 : Array (Option Value)} {oc14 kV14 dc14 pm14 cd14 ct14 : Value}
    (a14 : PySem.W.nsIn K mainGlobals "_law_sums" = some (some (.ref f14))) (l14 : K.lookup f14 = some ⟨oc14, od14, .func (PySem.W.fnOf "_law_sums" "_law_sums" (defArgs s_law_sums) (defBody s_law_sums) (defScope s_law_sums) .none kV14 dc14 pm14 an14 cd14 ct14), sl14⟩) (c14 : PySem.W.codeIn K cd14 "_law_sums" = true) (k14 : PySem.W.keepIn K (.ref f14) = true)
    {f15 : Addr} {od15 an15 : Option Addr} {sl15 : Array (Option Value)} {oc15 kV15 dc15 pm15 cd15 ct15 : Value}
    (a15 : PySem.W.nsIn K mainGlobals "law" = some (some (.ref f15))) (l15 : K.lookup f15 = some ⟨oc15, od15, .func (PySem.W.fnOf "law" "law" (defArgs s_law) (defBody s_law) (defScope s_law) .none kV15 dc15 pm15 an15 cd15 ct15), sl15⟩) (c15 : PySem.W.codeIn K cd15 "law" = true) (k15 : PySem.W.keepIn K (.ref f15) = true)
    (z_bool : PySem.W.nsIn K mainGlobals "bool" = some none)
    (z_enumerate : PySem.W.nsIn K mainGlobals "enumerate" = some none)
    (z_int : PySem.W.nsIn K mainGlobals "int" = some none)
    (z_isinstance : PySem.W.nsIn K mainGlobals "isinstance" = some none)
    (z_len : PySem.W.nsIn K mainGlobals "len" = some none)
    (z_list : PySem.W.nsIn K mainGlobals "list" = some none)
    (z_range : PySem.W.nsIn K mainGlobals "range" = some none)
    (z_sum : PySem.W.nsIn K mainGlobals "sum" = some none)
    (z_zip : PySem.W.nsIn K mainGlobals "zip" = some none)
    : Txt K mg :=
  ⟨⟨PySem.W.mg_none_of X G z_bool, PySem.W.mg_none_of X G z_enumerate, PySem.W.mg_none_of X G z_int, PySem.W.mg_none_of X G z_isinstance, PySem.W.mg_none_of X G z_len, PySem.W.mg_none_of X G z_list, PySem.W.mg_none_of X G z_range, PySem.W.mg_none_of X G z_sum, PySem.W.mg_none_of X G z_zip⟩,
   ⟨_, _, fun_mk (st := s_end_of) l1 c1 k1, PySem.W.mg_of X G a1, (fun_mk (st := s_end_of) l1 c1 k1).binds (ps := ["deeds", "counts", "ware"]) fun _ _ _ _ _ _ us hl => match us, hl with | [_, _, _], _ => rfl⟩,
   ⟨_, _, fun_mk (st := s_ends) l2 c2 k2, PySem.W.mg_of X G a2, (fun_mk (st := s_ends) l2 c2 k2).binds (ps := ["width", "deeds", "counts"]) fun _ _ _ _ _ _ us hl => match us, hl with | [_, _, _], _ => rfl⟩,
   ⟨_, _, fun_mk (st := s_uneven) l3 c3 k3, PySem.W.mg_of X G a3, (fun_mk (st := s_uneven) l3 c3 k3).binds (ps := ["width", "deeds", "counts"]) fun _ _ _ _ _ _ us hl => match us, hl with | [_, _, _], _ => rfl⟩,
   ⟨_, _, fun_mk (st := s_places) l4 c4 k4, PySem.W.mg_of X G a4, (fun_mk (st := s_places) l4 c4 k4).binds (ps := ["counts"]) fun _ _ _ _ _ _ us hl => match us, hl with | [_], _ => rfl⟩,
   ⟨_, _, fun_mk (st := s_is_round) l5 c5 k5, PySem.W.mg_of X G a5, (fun_mk (st := s_is_round) l5 c5 k5).binds (ps := ["width", "deeds", "counts"]) fun _ _ _ _ _ _ us hl => match us, hl with | [_, _, _], _ => rfl⟩,
   ⟨_, _, fun_mk (st := s_law_at) l6 c6 k6, PySem.W.mg_of X G a6, (fun_mk (st := s_law_at) l6 c6 k6).binds (ps := ["_law_script", "_law_k"]) fun _ _ _ _ _ _ us hl => match us, hl with | [_, _], _ => rfl⟩,
   ⟨_, _, fun_mk (st := s_law_mix) l7 c7 k7, PySem.W.mg_of X G a7, (fun_mk (st := s_law_mix) l7 c7 k7).binds (ps := ["_law_cell", "_law_k"]) fun _ _ _ _ _ _ us hl => match us, hl with | [_, _], _ => rfl⟩,
   ⟨_, _, fun_mk (st := s_law_draws) l8 c8 k8, PySem.W.mg_of X G a8, (fun_mk (st := s_law_draws) l8 c8 k8).binds (ps := ["_law_cell", "_law_many", "_law_size", "_law_mixed"]) fun _ _ _ _ _ _ us hl => match us, hl with | [_, _, _, _], _ => rfl⟩,
   ⟨_, _, fun_mk (st := s_law_row) l9 c9 k9, PySem.W.mg_of X G a9, (fun_mk (st := s_law_row) l9 c9 k9).binds (ps := ["_law_cell", "_law_width", "_law_way"]) fun _ _ _ _ _ _ us hl => match us, hl with | [_, _, _], _ => rfl⟩,
   ⟨_, _, fun_mk (st := s_law_works) l10 c10 k10, PySem.W.mg_of X G a10, (fun_mk (st := s_law_works) l10 c10 k10).binds (ps := ["_law_script"]) fun _ _ _ _ _ _ us hl => match us, hl with | [_], _ => rfl⟩,
   ⟨_, _, fun_mk (st := s_law_whole) l11 c11 k11, PySem.W.mg_of X G a11, (fun_mk (st := s_law_whole) l11 c11 k11).binds (ps := ["_law_found"]) fun _ _ _ _ _ _ us hl => match us, hl with | [_], _ => rfl⟩,
   ⟨_, _, fun_mk (st := s_law_row_is) l12 c12 k12, PySem.W.mg_of X G a12, (fun_mk (st := s_law_row_is) l12 c12 k12).binds (ps := ["_law_found", "_law_due"]) fun _ _ _ _ _ _ us hl => match us, hl with | [_, _], _ => rfl⟩,
   ⟨_, _, fun_mk (st := s_law_kept) l13 c13 k13, PySem.W.mg_of X G a13, (fun_mk (st := s_law_kept) l13 c13 k13).binds (ps := ["_law_found", "_law_due"]) fun _ _ _ _ _ _ us hl => match us, hl with | [_, _], _ => rfl⟩,
   ⟨_, _, fun_mk (st := s_law_sums) l14 c14 k14, PySem.W.mg_of X G a14, (fun_mk (st := s_law_sums) l14 c14 k14).binds (ps := ["_law_width", "_law_deeds", "_law_counts"]) fun _ _ _ _ _ _ us hl => match us, hl with | [_, _, _], _ => rfl⟩,
   ⟨_, _, fun_mk (st := s_law) l15 c15 k15, PySem.W.mg_of X G a15, (fun_mk (st := s_law) l15 c15 k15).binds (ps := ["_law_script"]) fun _ _ _ _ _ _ us hl => match us, hl with | [_], _ => rfl⟩⟩

end My
open PySem PySem.W PyProof.Rows
set_option maxRecDepth 100000 in
set_option maxHeartbeats 0 in
theorem PySem.Challenge.cw_leanmodes_k04_ends_holds : PySem.Challenge.rw_leanmodes_k04_ends.Holds := by
  w_on; o_law; k_head; (case hw => w_witness2)
  k_fill
  refine L2.walk_ofK (l := PySem.Challenge.rw_leanmodes_k04_ends) (n := 63) (k := 5) (x := "_law_script") (CX := L2.CX0) (sp := My.sp_law) rfl (by decide) rfl ⟨rfl, by decide, by decide⟩ (fun w h Y => PySem.W.kIn_of Y) ?F ?S ?C
  case F =>
    intro w mg fa h KX G hmg
    have T : My.Txt (L2.KOf KX) mg := by
      dsimp only [L2.KOf]
      refine' My.txt_mk KX G ?a1 ?l1 ?c1 ?k1 ?a2 ?l2 ?c2 ?k2 ?a3 ?l3 ?c3 ?k3 ?a4 ?l4 ?c4 ?k4 ?a5 ?l5 ?c5 ?k5 ?a6 ?l6 ?c6 ?k6 ?a7 ?l7 ?c7 ?k7 ?a8 ?l8 ?c8 ?k8 ?a9 ?l9 ?c9 ?k9 ?a10 ?l10 ?c10 ?k10 ?a11 ?l11 ?c11 ?k11 ?a12 ?l12 ?c12 ?k12 ?a13 ?l13 ?c13 ?k13 ?a14 ?l14 ?c14 ?k14 ?a15 ?l15 ?c15 ?k15 ?z_bool ?z_enumerate ?z_int ?z_isinstance ?z_len ?z_list ?z_range ?z_sum ?z_zip
      (case a1 => k_is)
      (case l1 => k_is)
      (case c1 => k_is)
      (case k1 => k_is)
      (case a2 => k_is)
      (case l2 => k_is)
      (case c2 => k_is)
      (case k2 => k_is)
      (case a3 => k_is)
      (case l3 => k_is)
      (case c3 => k_is)
      (case k3 => k_is)
      (case a4 => k_is)
      (case l4 => k_is)
      (case c4 => k_is)
      (case k4 => k_is)
      (case a5 => k_is)
      (case l5 => k_is)
      (case c5 => k_is)
      (case k5 => k_is)
      (case a6 => k_is)
      (case l6 => k_is)
      (case c6 => k_is)
      (case k6 => k_is)
      (case a7 => k_is)
      (case l7 => k_is)
      (case c7 => k_is)
      (case k7 => k_is)
      (case a8 => k_is)
      (case l8 => k_is)
      (case c8 => k_is)
      (case k8 => k_is)
      (case a9 => k_is)
      (case l9 => k_is)
      (case c9 => k_is)
      (case k9 => k_is)
      (case a10 => k_is)
      (case l10 => k_is)
      (case c10 => k_is)
      (case k10 => k_is)
      (case a11 => k_is)
      (case l11 => k_is)
      (case c11 => k_is)
      (case k11 => k_is)
      (case a12 => k_is)
      (case l12 => k_is)
      (case c12 => k_is)
      (case k12 => k_is)
      (case a13 => k_is)
      (case l13 => k_is)
      (case c13 => k_is)
      (case k13 => k_is)
      (case a14 => k_is)
      (case l14 => k_is)
      (case c14 => k_is)
      (case k14 => k_is)
      (case a15 => k_is)
      (case l15 => k_is)
      (case c15 => k_is)
      (case k15 => k_is)
      (case z_bool => k_is)
      (case z_enumerate => k_is)
      (case z_int => k_is)
      (case z_isinstance => k_is)
      (case z_len => k_is)
      (case z_list => k_is)
      (case z_range => k_is)
      (case z_sum => k_is)
      (case z_zip => k_is)
    obtain ⟨fa2, fd, F, m, b⟩ := T.law.ex
    have e0 := hmg.symm.trans m
    cases e0
    exact My.law_fn T F
  case S => exact fun K H a ns hl hO hS => My.law_sp hl hS
  case C => exact fun _ _ _ _ z => z

