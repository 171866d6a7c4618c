import PyProof.Rows.All
import Wide.All
import OpenK.AllK
import Wide.FinOn
import Lean
import PyProof.EqAt
import PyProof.EqKinds
import PyProof.TupleCall
import PyProof.NeKinds
import KE.KSortKey
import PySem.Challenge.RW_leanmodes_k10_made_of
local macro_rules | `(tactic| omega) => `(tactic| first | assumption | exact Nat.le_refl _ | exact Nat.le_trans (by assumption) (by decide) | lia | omega +splitDisjunctions)
-- CHANGE: your row's module here, as the last of these rows
set_option Elab.async false
set_option linter.all false
set_option maxRecDepth 100000
namespace L2
open PySem PySem.Spec PyProof.Rows
noncomputable abbrev Key := Sum Int Str
noncomputable def keyIs : Key → Value → Bool
  | .inl k, v => Value.isInt k v
  | .inr x, v => Value.isStrOf x v
noncomputable def keyH (w : World) : Key → Int
  | .inl k => hashInt k
  | .inr x => hashStr w x
theorem keyIs_shape : ∀ {k : Key} {v : Value}, keyIs k v = true → (∃ i t, k = Sum.inl i ∧ v = Value.int i t) ∨ (∃ x t, k = Sum.inr x ∧ v = Value.str x t)
  | .inl i, v, h => by
    obtain ⟨t, e⟩ := Value.isInt_shape (k := i) (v := v) h
    exact .inl ⟨i, t, rfl, e⟩
  | .inr x, v, h => by
    obtain ⟨t, e⟩ := Value.isStrOf_shape (x := x) (v := v) h
    exact .inr ⟨x, t, rfl, e⟩
theorem key_ll (a b : Int) : decide ((Sum.inl a : Key) = Sum.inl b) = (a == b) := by
  by_cases e : a = b
  · subst e; simp
  · have h : ¬ (Sum.inl a : Key) = Sum.inl b := fun q => e (Sum.inl.inj q)
    rw [decide_eq_false h]
    exact (beq_eq_false_iff_ne.mpr e).symm
theorem key_rr (a b : Str) : decide ((Sum.inr a : Key) = Sum.inr b) = decide (a = b) := by
  by_cases e : a = b
  · subst e; simp
  · have h : ¬ (Sum.inr a : Key) = Sum.inr b := fun q => e (Sum.inr.inj q)
    rw [decide_eq_false h, decide_eq_false e]
theorem key_lr (a : Int) (b : Str) : decide ((Sum.inl a : Key) = Sum.inr b) = false := decide_eq_false (fun q => nomatch q)
theorem key_rl (a : Str) (b : Int) : decide ((Sum.inr a : Key) = Sum.inl b) = false := decide_eq_false (fun q => nomatch q)
noncomputable def mixKind (prog : Program) (w : World) : PySem.KeyKind prog w Key where
  is := keyIs
  hash := keyH w
  inj := fun v a b ha hb => by
    rcases keyIs_shape ha with ⟨i, t, rfl, rfl⟩ | ⟨x, t, rfl, rfl⟩
    · rcases keyIs_shape hb with ⟨j, u, rfl, e⟩ | ⟨y, u, rfl, e⟩
      · injection e with e1 _; rw [e1]
      · exact nomatch e
    · rcases keyIs_shape hb with ⟨j, u, rfl, e⟩ | ⟨y, u, rfl, e⟩
      · exact nomatch e
      · injection e with e1 _; rw [e1]
  byValue := fun k v h => by
    rcases keyIs_shape h with ⟨i, t, rfl, rfl⟩ | ⟨x, t, rfl, rfl⟩ <;> rfl
  pyHash := fun hv h => by
    rcases keyIs_shape hv with ⟨i, t, rfl, rfl⟩ | ⟨x, t, rfl, rfl⟩
    · exact wpAny_pyHash_int h
    · exact wpAny_pyHash_str h
  eqBool := fun hu hv h => by
    rcases keyIs_shape hu with ⟨i, t, rfl, rfl⟩ | ⟨x, t, rfl, rfl⟩
    · rcases keyIs_shape hv with ⟨j, u, rfl, rfl⟩ | ⟨y, u, rfl, rfl⟩
      · rw [key_ll] at h; exact wpAny_eqBool_int h
      · rw [key_lr] at h; exact SeqAt.EqAt.int_str i t y u _ _ _ _ h
    · rcases keyIs_shape hv with ⟨j, u, rfl, rfl⟩ | ⟨y, u, rfl, rfl⟩
      · rw [key_rl] at h; exact SeqAt.EqAt.str_int x t j u _ _ _ _ h
      · rw [key_rr] at h; exact wpAny_eqBool_str h
  «strs» := fun k x t v h => by
    rcases keyIs_shape h with ⟨i, u, rfl, e⟩ | ⟨y, u, rfl, e⟩
    · exact nomatch e
    · injection e with e1 _
      subst e1
      cases v <;> rfl
end L2
namespace L2
open PySem PySem.Spec PyProof.Rows
inductive V where
  | non | bl (b : Bool) | int (i : Int) | str (x : Str) | byt (b : Array UInt8) | flt (b : UInt64) | ref (a : Addr) | ty (n : String)
  deriving DecidableEq
noncomputable def RelV : V → Value → Prop
  | .non, u => u = Value.none
  | .bl b, u => u = Value.bool b
  | .int i, u => ∃ t, u = Value.int i t
  | .str x, u => ∃ t, u = Value.str x t
  | .byt b, u => ∃ t, u = Value.bytes b t
  | .flt b, u => ∃ t, u = Value.float b t
  | .ref a, u => u = Value.ref a
  | .ty n, u => u = Value.type n
noncomputable abbrev Vals : List V → List Value → Prop := Paired RelV
theorem Vals.length {xs : List V} {us : List Value} (r : Vals xs us) : xs.length = us.length := Paired.length r
theorem Vals.get : ∀ {xs : List V} {us : List Value} {i : Nat} {x : V}, Vals xs us → xs[i]? = some x → ∃ u, us[i]? = some u ∧ RelV x u
  | _, _, _, _, .nil, e => by simp at e
  | _, _, 0, _, .cons r _, e => by simp at e; subst e; exact ⟨_, rfl, r⟩
  | _, _, i + 1, x, .cons _ t, e => by
    obtain ⟨u, h1, h2⟩ := Vals.get (i := i) (x := x) t (by simpa using e)
    exact ⟨u, by simpa using h1, h2⟩
theorem Vals.set {x : V} {u : Value} (r : RelV x u) : ∀ {xs : List V} {us : List Value} (i : Nat), Vals xs us → Vals (xs.set i x) (us.set i u)
  | _, _, _, .nil => .nil
  | _, _, 0, .cons _ t => .cons r t
  | _, _, i + 1, .cons q t => .cons q (Vals.set r i t)
theorem Vals.append : ∀ {xs ys : List V} {us ws : List Value}, Vals xs us → Vals ys ws → Vals (xs ++ ys) (us ++ ws)
  | _, _, _, _, .nil, s => s
  | _, _, _, _, .cons r t, s => .cons r (Vals.append t s)
theorem Vals.take : ∀ {xs : List V} {us : List Value} (n : Nat), Vals xs us → Vals (xs.take n) (us.take n)
  | _, _, 0, _ => .nil
  | _, _, _ + 1, .nil => .nil
  | _, _, n + 1, .cons r t => .cons r (Vals.take n t)
theorem Vals.drop : ∀ {xs : List V} {us : List Value} (n : Nat), Vals xs us → Vals (xs.drop n) (us.drop n)
  | _, _, 0, r => r
  | _, _, _ + 1, .nil => .nil
  | _, _, n + 1, .cons _ t => Vals.drop n t
noncomputable def RelO : Option V → Option Value → Prop
  | some v, some u => RelV v u
  | none, none => True
  | _, _ => False
noncomputable def KV {κ : Type} : List (κ × V) → List (κ × Value) → Prop := Paired fun (p : κ × V) (q : κ × Value) => p.1 = q.1 ∧ RelV p.2 q.2
noncomputable def kV : Key → V
  | .inl i => .int i
  | .inr x => .str x
inductive HO where
  /-- a list -/
  | lst (xs : List V)
  /-- a tuple (never changes) -/
  | tup (xs : List V)
  /-- a dict whose keys are ints and texts; one whose keys are tuples of ints and texts (the empty one is both) -/
  | dK (kvs : List (Key × V)) | dT (kvs : List (List Key × V))
  /-- a set of ints: its members, its size -/
  | set (S : Int → Bool) (n : Nat)
  /-- an instance of the class at C, its dict at dx, its attributes -/
  | ins (C dx : Addr) (fs : List (Str × V))
  /-- the dict of the instance at x -/
  | own (x : Addr)
  /-- the dict of an exception -/
  | xd (fs : List (Str × V))
  /-- a bound method, f of x -/
  | met (f x : Addr)
  /-- a range object lo, lo + 1, .. below hi -/
  | rng (lo hi : Int)
  /-- a thing that is known to the object (the script; a dict while a loop walks it): read, never written while it is so -/
  | frz (o : Obj) (u : HO)
  /-- a code object's table -/
  | tbl (ps : Array Value)
  /-- any other thing, by what is true of its one object (a def of one's own: SetO a S n := HO.ext fun h => ..) -/
  | ext (φ : Heap → Prop)
noncomputable abbrev Hp := Addr → Option HO
noncomputable def upd (H : Hp) (a : Addr) (o : HO) : Hp := fun b => if b = a then some o else H b
theorem upd_same {H : Hp} {a : Addr} {o : HO} : upd H a o a = some o := by unfold upd; rw [if_pos rfl]
theorem upd_ne {H : Hp} {a b : Addr} {o : HO} (h : b ≠ a) : upd H a o b = H b := by unfold upd; rw [if_neg h]
theorem upd_upd {H : Hp} {a : Addr} {o u : HO} : upd (upd H a o) a u = upd H a u := by
  funext b; unfold upd; split <;> rfl
theorem ne_of_none {H : Hp} {a b : Addr} {o : HO} (h : H a = some o) (h' : H b = none) : a ≠ b := by
  intro e; subst e; rw [h] at h'; cases h'
section
variable (P : Program) (w : World)
noncomputable def ObjOk (H : Hp) (h : Heap) (a : Addr) : HO → Prop
  | .lst xs => xs.length ≤ sizeLine ∧ ∃ (its : List Value) (n : Nat), Vals xs its ∧ h.get? a = some { cls := .type "list", data := .seq its.toArray n }
  | .tup xs => xs.length ≤ sizeLine ∧ ∃ its : List Value, Vals xs its ∧ IsTup h a its.toArray
  | .dK kvs => kvs.length ≤ sizeLine ∧ (a == sysModules) = false ∧ ∃ vs, KV kvs vs ∧ h.DictOf (mixKind P w) a vs
  | .dT kvs => kvs.length ≤ sizeLine ∧ (a == sysModules) = false ∧ ∃ xs : List (List Key × Addr × Value),
      Paired (fun (p : List Key × V) (q : List Key × Addr × Value) => p.1 = q.1 ∧ H q.2.1 = some (.tup (p.1.map kV)) ∧ RelV p.2 q.2.2) kvs xs ∧
      ∃ o es ep, h.get? a = some o ∧ o.ExactDict ∧ o.data = .dict es ep ∧ es.toList = xs.map (entryOfKey (tupleKind (mixKind P w))) ∧ (xs.map (·.1)).Nodup
  | .set S n => h.SetOf (intKind P w) a S n
  | .ins C dx fs => H dx = some (.own a) ∧ fs.length ≤ 1000 ∧ dx ≠ a ∧ h.get? a = some (PySem.W.instObj C dx) ∧
      ∃ mA, h.Ns1 dx mA ∧ (∀ f, RelO (fs.lookup f) (mA f)) ∧ PySem.Within mA (fs.map (·.1))
  | .own _ => ∃ o, h.get? a = some o
  | .xd fs => ∃ mA, h.Ns1 a mA ∧ ∀ f, RelO (fs.lookup f) (mA f)
  | .rng lo hi => ∃ t u v, h.get? a = some { cls := .type "range", data := .fields #[.int lo t, .int hi u, .int 1 v] }
  | .frz o u => h.get? a = some o ∧ ObjOk H h a u
  | .tbl ps => h.get? a = some { cls := .none, data := .fields ps }
  | .met f x => h.get? a = some (PySem.W.methodObj (.ref f) (.ref x))
  | .ext φ => φ h ∧ (∃ o, h.get? a = some o) ∧ ∀ h1 h2 : Heap, φ h1 → (∀ o, h1.get? a = some o → h2.get? a = some o) → φ h2
noncomputable def HOk (H : Hp) (h : Heap) : Prop := ∀ a o, H a = some o → ObjOk P w H h a o
end
section
variable {P : Program} {w : World} {H H' : Hp} {h h' : Heap} {a : Addr} {o : HO}
theorem ObjOk.lt (x : ObjOk P w H h a o) : a < h.objs.size := by
  cases o with
  | lst xs => obtain ⟨_, _, _, _, e⟩ := x; exact Heap.lt_size e
  | tup xs => obtain ⟨_, _, _, p⟩ := x; exact p.lt
  | dK kvs => obtain ⟨_, _, _, _, o, _, _, e, _⟩ := x; exact Heap.lt_size e
  | dT kvs => obtain ⟨_, _, _, _, o, _, _, e, _⟩ := x; exact Heap.lt_size e
  | set S n => obtain ⟨o, _, _, _, e, _⟩ := x; exact Heap.lt_size e
  | ins C dx fs => obtain ⟨_, _, _, e, _⟩ := x; exact Heap.lt_size e
  | own y => obtain ⟨_, e⟩ := x; exact Heap.lt_size e
  | xd fs => obtain ⟨_, ⟨_, _, _, e, _⟩, _⟩ := x; exact Heap.lt_size e
  | rng lo hi => obtain ⟨_, _, _, e⟩ := x; exact Heap.lt_size e
  | frz ob u => obtain ⟨e, _⟩ := x; exact Heap.lt_size e
  | tbl ps => exact Heap.lt_size (show h.get? a = some _ from x)
  | met f y => exact Heap.lt_size (show h.get? a = some _ from x)
  | ext φ => obtain ⟨_, ⟨_, e⟩, _⟩ := x; exact Heap.lt_size e
theorem Paired.mapP {α β : Type} {F G : α → β → Prop} : ∀ {l₁ : List α} {l₂ : List β}, Paired F l₁ l₂ → (∀ a b, F a b → G a b) → Paired G l₁ l₂
  | _, _, .nil, _ => .nil
  | _, _, .cons r t, f => .cons (f _ _ r) (Paired.mapP t f)
theorem ObjOk.stay (x : ObjOk P w H h a o) (k : ∀ b u, (b = a ∨ H b = some (.own a)) → h.get? b = some u → h'.get? b = some u)
    (ho : ∀ b, H b = some (.own a) → H' b = some (.own a)) (ht : ∀ b xs, H b = some (.tup xs) → H' b = some (.tup xs)) : ObjOk P w H' h' a o := by
  induction o with
  | lst xs => obtain ⟨z, its, n, r, e⟩ := x; exact ⟨z, its, n, r, k _ _ (.inl rfl) e⟩
  | tup xs => obtain ⟨z, its, r, ob, e, c⟩ := x; exact ⟨z, its, r, ob, k _ _ (.inl rfl) e, c⟩
  | dK kvs => obtain ⟨z, y, vs, r, ob, es, ep, e, c⟩ := x; exact ⟨z, y, vs, r, ob, es, ep, k _ _ (.inl rfl) e, c⟩
  | dT kvs =>
    obtain ⟨z, y, xs, r, ob, es, ep, e, c⟩ := x
    exact ⟨z, y, xs, Paired.mapP r fun p q z => ⟨z.1, ht _ _ z.2.1, z.2.2⟩, ob, es, ep, k _ _ (.inl rfl) e, c⟩
  | set S n => obtain ⟨ob, es, ep, t, e, c⟩ := x; exact ⟨ob, es, ep, t, k _ _ (.inl rfl) e, c⟩
  | ins C dx fs =>
    obtain ⟨d, z, ne, e, mA, ⟨od, es, ep, e2, c⟩, r⟩ := x
    exact ⟨ho _ d, z, ne, k _ _ (.inl rfl) e, mA, ⟨od, es, ep, k _ _ (.inr d) e2, c⟩, r⟩
  | own y => obtain ⟨ob, e⟩ := x; exact ⟨ob, k _ _ (.inl rfl) e⟩
  | xd fs => obtain ⟨mA, ⟨od, es, ep, e, c⟩, r⟩ := x; exact ⟨mA, ⟨od, es, ep, k _ _ (.inl rfl) e, c⟩, r⟩
  | rng lo hi => obtain ⟨t, u, v, e⟩ := x; exact ⟨t, u, v, k _ _ (.inl rfl) e⟩
  | frz ob u ih => obtain ⟨e, q⟩ := x; exact ⟨k _ _ (.inl rfl) e, ih q⟩
  | tbl ps =>
    have e : h.get? a = some { cls := .none, data := .fields ps } := x
    show h'.get? a = some { cls := .none, data := .fields ps }
    exact k a _ (.inl rfl) e
  | met f y =>
    have e : h.get? a = some (PySem.W.methodObj (.ref f) (.ref y)) := x
    show h'.get? a = some (PySem.W.methodObj (.ref f) (.ref y))
    exact k a _ (.inl rfl) e
  | ext φ => obtain ⟨p, ⟨o, e⟩, st⟩ := x; exact ⟨st _ _ p fun o q => k _ _ (.inl rfl) q, ⟨o, k _ _ (.inl rfl) e⟩, st⟩
theorem HOk.lt (x : HOk P w H h) (e : H a = some o) : a < h.objs.size := (x a o e).lt
theorem HOk.fresh (x : HOk P w H h) (e : h.objs.size ≤ a) : H a = none := by
  cases q : H a with
  | none => rfl
  | some u => exact absurd (Nat.lt_of_lt_of_le (x.lt q) e) (Nat.lt_irrefl _)
theorem HOk.kept (x : HOk P w H h) (k : ∀ b u, h.get? b = some u → h'.get? b = some u) : HOk P w H h' := fun a o e =>
  (x a o e).stay (fun b u _ q => k b u q) (fun _ q => q) fun _ _ q => q
theorem HOk.laid (x : HOk P w H h) (k : ∀ b u, h.get? b = some u → h'.get? b = some u) (hp : h.objs.size ≤ a) (new : ObjOk P w (upd H a o) h' a o) : HOk P w (upd H a o) h' := fun b u e => by
  have hn := x.fresh hp
  by_cases hb : b = a
  · subst hb; rw [upd_same] at e; cases e; exact new
  · rw [upd_ne hb] at e
    exact (x b u e).stay (fun c v _ q => k c v q) (fun c q => by rw [upd_ne (ne_of_none q hn)]; exact q) fun c xs q => by rw [upd_ne (ne_of_none q hn)]; exact q
end
noncomputable def Rd (H : Hp) (a : Addr) (u : HO) : Prop := H a = some u ∨ ∃ o, H a = some (.frz o u)
theorem Rd.of {H : Hp} {a : Addr} {u : HO} (h : H a = some u) : Rd H a u := .inl h
theorem Rd.ok {P : Program} {w : World} {H : Hp} {h : Heap} {a : Addr} {u : HO} (r : Rd H a u) (x : HOk P w H h) : ObjOk P w H h a u := by
  rcases r with r | ⟨o, r⟩
  · exact x a u r
  · obtain ⟨_, q⟩ := x a _ r
    exact q
noncomputable def Mut : Option HO → Prop
  | some (.lst _) => True
  | some (.dK _) => True
  | some (.dT _) => True
  | some (.set _ _) => True
  | some (.ins _ _ _) => True
  | some (.ext _) => True
  | _ => False
section
variable {P : Program} {w : World} {H : Hp} {h h' : Heap} {x e : Addr} {o' : HO}
theorem HOk.write (ok : HOk P w H h) (mu : Mut (H x)) (he : e = x ∨ H e = some (.own x)) (k : ∀ b u, b ≠ e → h.get? b = some u → h'.get? b = some u) (heo : ∃ u, h'.get? e = some u)
    (new : ObjOk P w (upd H x o') h' x o') : HOk P w (upd H x o') h' := fun b u q => by
  have nown : ∀ c y, H c = some (.own y) → c ≠ x := fun c y r z => by subst z; rw [r] at mu; exact mu
  have ntup : ∀ c xs, H c = some (.tup xs) → c ≠ x := fun c xs r z => by subst z; rw [r] at mu; exact mu
  by_cases hb : b = x
  · subst hb; rw [upd_same] at q; cases q; exact new
  · rw [upd_ne hb] at q
    by_cases hbe : b = e
    · have q' : H b = some (.own x) := by
        rcases he with z | z
        · exact absurd (hbe.trans z) hb
        · rw [hbe]; exact z
      rw [q] at q'; cases q'
      obtain ⟨v, hv⟩ := heo
      exact ⟨v, by rw [hbe]; exact hv⟩
    · refine (ok b u q).stay (fun c v hc r => k c v ?_ r) (fun c r => by rw [upd_ne (nown c b r)]; exact r) fun c xs r => by rw [upd_ne (ntup c xs r)]; exact r
      rcases hc with rfl | hc
      · exact hbe
      · rintro rfl
        rcases he with z | z
        · exact nown c b hc z
        · rw [hc] at z; cases z; exact hb rfl
end
structure Un (fs ex : List Addr) (H H' : Hp) (h h' : Heap) : Prop where
  keep : ∀ b o, h.get? b = some o → H b = none → b ∉ fs → b ∉ ex → h'.get? b = some o
  slot : ∀ b o, h.get? b = some o → H b = none → b ∈ fs → b ∉ ex → ∃ sl, h'.get? b = some { o with slots := sl }
  free : ∀ b o, h.get? b = some o → H b = none → b ∉ ex → H' b = none
  there : ∀ b o, h.get? b = some o → b ∉ ex → ∃ o', h'.get? b = some o'
  tups : ∀ b xs, H b = some (.tup xs) → H' b = some (.tup xs)
  frzs : ∀ b o u, H b = some (.frz o u) → H' b = some (.frz o u)
  tbls : ∀ b ps, H b = some (.tbl ps) → ∃ more, H' b = some (.tbl (ps ++ more))
section
variable {fs fs' ex ex' : List Addr} {H H1 H2 : Hp} {h h1 h2 h' : Heap} {a x e : Addr} {o : HO}
theorem Un.any (u : Un fs ex H H1 h h1) {b : Addr} {ob : Obj} (q : h.get? b = some ob) (n : H b = none) (hx : b ∉ ex) : ∃ sl, h1.get? b = some { ob with slots := sl } := by
  by_cases hb : b ∈ fs
  · exact u.slot b ob q n hb hx
  · exact ⟨ob.slots, u.keep b ob q n hb hx⟩
theorem Un.trans (a : Un fs ex H H1 h h1) (b : Un fs ex H1 H2 h1 h2) : Un fs ex H H2 h h2 where
  keep := fun c ob q n hc hx => b.keep c ob (a.keep c ob q n hc hx) (a.free c ob q n hx) hc hx
  slot := fun c ob q n hc hx => by
    obtain ⟨sl, e1⟩ := a.slot c ob q n hc hx
    obtain ⟨sl', e2⟩ := b.slot c _ e1 (a.free c ob q n hx) hc hx
    exact ⟨sl', e2⟩
  free := fun c ob q n hx => by
    obtain ⟨o', e1⟩ := a.there c ob q hx
    exact b.free c o' e1 (a.free c ob q n hx) hx
  there := fun c ob q hx => by
    obtain ⟨o', e1⟩ := a.there c ob q hx
    exact b.there c o' e1 hx
  tups := fun c xs q => b.tups c xs (a.tups c xs q)
  frzs := fun c ob xs q => b.frzs c ob xs (a.frzs c ob xs q)
  tbls := fun c ps q => by
    obtain ⟨m1, e1⟩ := a.tbls c ps q
    obtain ⟨m2, e2⟩ := b.tbls c _ e1
    exact ⟨m1 ++ m2, by rw [e2, Array.append_assoc]⟩
theorem Un.kept (k : ∀ b u, h.get? b = some u → h'.get? b = some u) : Un fs ex H H h h' :=
  ⟨fun b ob q _ _ _ => k b ob q, fun b ob q _ _ _ => ⟨ob.slots, k b ob q⟩, fun _ _ _ n _ => n, fun b ob q _ => ⟨ob, k b ob q⟩, fun _ _ q => q, fun _ _ _ q => q, fun _ ps q => ⟨#[], by rw [q]; simp⟩⟩
theorem Un.refl : Un fs ex H H h h := Un.kept fun _ _ q => q
theorem Un.laid (k : ∀ b u, h.get? b = some u → h'.get? b = some u) (hp : h.objs.size ≤ a) (hn : H a = none) : Un fs ex H (upd H a o) h h' where
  keep := fun b u q _ _ _ => k b u q
  slot := fun b u q _ _ _ => ⟨u.slots, k b u q⟩
  free := fun b u q n _ => by rw [upd_ne (Nat.ne_of_lt (Nat.lt_of_lt_of_le (Heap.lt_size q) hp))]; exact n
  there := fun b u q _ => ⟨u, k b u q⟩
  tups := fun b xs q => by rw [upd_ne (ne_of_none q hn)]; exact q
  frzs := fun b u xs q => by rw [upd_ne (ne_of_none q hn)]; exact q
  tbls := fun b ps q => ⟨#[], by rw [upd_ne (ne_of_none q hn), q]; simp⟩
theorem Un.write (mu : Mut (H x)) (he : e = x ∨ H e = some (.own x)) (k : ∀ b u, b ≠ e → h.get? b = some u → h'.get? b = some u) (heo : ∃ u, h'.get? e = some u) : Un fs ex H (upd H x o) h h' := by
  have hx : ∀ b, H b = none → b ≠ x := fun b n z => by subst z; rw [n] at mu; exact mu
  have hb : ∀ b, H b = none → b ≠ e := fun b n z => by
    subst z
    rcases he with r | r
    · exact hx b n r
    · rw [n] at r; cases r
  have hm : ∀ b u, H b = some u → ¬ Mut (some u) → b ≠ x := fun b u q nm z => by subst z; rw [q] at mu; exact nm mu
  refine ⟨fun b u q n _ _ => k b u (hb b n) q, fun b u q n _ _ => ⟨u.slots, k b u (hb b n) q⟩, fun b u q n _ => by rw [upd_ne (hx b n)]; exact n, fun b u q _ => ?_,
    fun b xs q => by rw [upd_ne (hm b _ q fun z => z)]; exact q, fun b u xs q => by rw [upd_ne (hm b _ q fun z => z)]; exact q, fun b ps q => ⟨#[], by rw [upd_ne (hm b _ q fun z => z), q]; simp⟩⟩
  by_cases hbe : b = e
  · subst hbe; exact heo
  · exact ⟨u, k b u hbe q⟩
theorem Un.mono (u : Un fs ex H H1 h h1) (hs : ∀ b ∈ fs, b ∈ fs') (hx : ∀ b ∈ ex, b ∈ ex') : Un fs' ex' H H1 h h1 :=
  ⟨fun b ob q n hb he => u.keep b ob q n (fun z => hb (hs b z)) fun z => he (hx b z), fun _ _ q n _ he => u.any q n fun z => he (hx _ z), fun b ob q n he => u.free b ob q n fun z => he (hx b z), fun b ob q he => u.there b ob q fun z => he (hx b z), u.tups, u.frzs, u.tbls⟩
end
noncomputable def trk (h : Heap) (H : Hp) : List Addr := (List.range h.objs.size).filter fun a => (H a).isSome
noncomputable def hidT (h : Heap) (H : Hp) : Heap := PySem.W.hideAll h (trk h H)
theorem hidT_size (h : Heap) (H : Hp) : (hidT h H).objs.size = h.objs.size := PySem.W.hideAll_size _ _
theorem hidT_get {h : Heap} {H : Hp} {b : Addr} {o : Obj} (e : h.get? b = some o) (n : H b = none) : (hidT h H).get? b = some o :=
  PySem.W.hideAll_get _ e fun hm => by
    have q : (H b).isSome = true := (List.mem_filter.mp hm).2
    rw [n] at q; simp at q
theorem of_hidT {h : Heap} {H : Hp} {b : Addr} {o : Obj} (e : (hidT h H).get? b = some o) : h.get? b = some o ∧ H b = none := by
  have e' : h.get? b = some o := PySem.W.of_hideAll (trk h H) e
  refine ⟨e', ?_⟩
  cases q : H b with
  | none => rfl
  | some x =>
    have hm : b ∈ trk h H := List.mem_filter.mpr ⟨List.mem_range.mpr (Heap.lt_size e'), by simp [q]⟩
    have z : (hidT h H).get? b = none := PySem.W.hideAll_none (trk h H) hm
    rw [z] at e; cases e
noncomputable def allNews (g h : Heap) (L : Addr) : List (Addr × Obj) := (List.range h.objs.size).filterMap fun a => if a = L ∨ (g.get? a).isSome = true then none else (h.get? a).map fun o => (a, o)
noncomputable def rest (g h : Heap) (L d : Addr) : List (Addr × Obj) := (allNews g h L).filter fun p => decide (p.1 ≠ d)
end L2
namespace L2
open PySem PySem.Spec PyProof.Rows
structure Mod (K : PySem.W.Frag) (mg : Str → Option Value) (base : Heap) : Prop where
  kin : K.In base
  glob : base.Ns mainGlobals mg
  blt : ∃ mb, base.Ns builtinsNs mb ∧ ∀ x : Str, x ≠ "__name__" → mb x = bootBuiltins x
  nolimit : base.NoLimit
structure Cx where
  prog : Program
  w : World
  K : PySem.W.Frag
  mg : Str → Option Value
  base : Heap
  A : Around
  N : List Str
  s₀ : Shared
  H₀ : Hp
  env : Env
  outer : List Env
  stack : List Env
  ex : List Addr
  fn : Str → Bool
  calm : Bool
  pn : List (Addr × Obj)
  xe : Value → Shared → Prop
noncomputable def frs (l : List Env) : List Addr := l.filterMap (·.frame)
noncomputable abbrev Cx.fs (X : Cx) : List Addr := frs X.outer
noncomputable def Vis (sc : Scope) (x : Str) : Prop := sc.names.lookup x = some .local ∨ sc.names.lookup x = some .cell ∨ sc.names.lookup x = some .free
noncomputable def Loc (sc : Scope) (x : Str) : Prop := sc.names.lookup x = some .local ∨ sc.names.lookup x = some .cell
noncomputable def Look (env : Env) (h : Heap) (m : Str → Option Value) (x : Str) (u : Value) : Prop :=
  (env.kindOf x = some .local ∧ m x = some u) ∨ ((env.kindOf x = some .cell ∨ env.kindOf x = some .free) ∧ ∃ c, env.cells.lookup x = some c ∧ h.IsCell c (some u))
structure Cx.Ok (X : Cx) : Prop where
  mod : Mod X.K X.mg X.base
  kind : X.env.scope.kind = .function
  glob : X.env.globals = mainGlobals
  blt : X.env.builtins = builtinsNs
  above : X.s₀.heap.objs.size ≤ X.env.locals
  inj : ∀ x y c, X.env.cells.lookup x = some c → X.env.cells.lookup y = some c → x = y
  has : ∀ x, (X.env.kindOf x = some .cell ∨ X.env.kindOf x = some .free) → ∃ c, X.env.cells.lookup x = some c
  cab : ∀ x c, X.fn x = true → X.env.cells.lookup x = some c → X.s₀.heap.objs.size ≤ c
  hd : X.calm = true → X.A.handled = none
  frames : X.A.frames = some X.stack
  stk : X.stack = X.outer ∨ (X.stack = X.env :: X.outer ∧ X.env.frame = some X.env.locals)
  exf : ∀ b ∈ X.ex, b ≠ X.env.locals ∧ ∀ x c, X.env.cells.lookup x = some c → c ≠ b
  bs : ∀ b o, X.base.get? b = some o → X.s₀.heap.get? b = some o ∧ X.H₀ b = none
  bsz : X.base.objs.size ≤ X.s₀.heap.objs.size
  noex : ∀ b o, X.base.get? b = some o → b ∉ X.ex
  exfs : ∀ b ∈ X.ex, b ∉ X.fs
  funs : X.s₀.heap.FunFrames X.base X.outer
  frf : ∀ b ∈ X.fs, X.H₀ b = none
structure Inv (X : Cx) (pins : List (Addr × Obj)) (σ : List (Option V)) (H : Hp) (s : Shared) : Prop where
  ok : X.Ok
  os : s.os = X.s₀.os
  bare : AllBare s.gens
  base : Un X.fs X.ex X.H₀ H X.s₀.heap s.heap
  loc : ∃ m, s.heap.Ns X.env.locals m ∧ ∀ (i : Nat) (x : Str) (v : V), X.N[i]? = some x → σ[i]? = some (some v) → Vis X.env.scope x → ∃ u, RelV v u ∧ Look X.env s.heap m x u
  cell : ∀ x c, X.env.cells.lookup x = some c → ∃ v, s.heap.IsCell c v
  free : H X.env.locals = none
  freeC : ∀ x c, X.env.cells.lookup x = some c → H c = none
  pin : ∀ p ∈ X.pn ++ pins, s.heap.get? p.1 = some p.2 ∧ H p.1 = none ∧ p.1 ≠ X.env.locals ∧ p.1 ∉ X.fs ∧ ∀ v, p.2.data ≠ .cell v
  hok : HOk X.prog X.w H s.heap
  len : σ.length = X.N.length
section
variable {X : Cx} {pins : List (Addr × Obj)} {σ : List (Option V)} {H H' : Hp} {s : Shared} {h' : Heap}
theorem Cx.Ok.nofr (ok : X.Ok) {b : Addr} {o : Obj} (e : X.base.get? b = some o) : b ∉ X.fs := fun hb => by
  have := (ok.funs.mem hb).1
  rw [e] at this; cases this
theorem Inv.bs (I : Inv X pins σ H s) : ∀ b o, X.base.get? b = some o → s.heap.get? b = some o ∧ H b = none := fun b o e =>
  ⟨I.base.keep b o (I.ok.bs b o e).1 (I.ok.bs b o e).2 (I.ok.nofr e) (I.ok.noex b o e), I.base.free b o (I.ok.bs b o e).1 (I.ok.bs b o e).2 (I.ok.noex b o e)⟩
theorem Inv.bk (I : Inv X pins σ H s) : ∀ b o, X.base.get? b = some o → s.heap.get? b = some o := fun b o e => (I.bs b o e).1
theorem Inv.mod (I : Inv X pins σ H s) : Mod X.K X.mg X.base := I.ok.mod
theorem Inv.kIn (I : Inv X pins σ H s) : X.K.In s.heap := I.ok.mod.kin.keeps I.bk
theorem Inv.fr (I : Inv X pins σ H s) : ∃ m, Fr X.base X.env.locals s.heap m :=
  let ⟨m, hn, _⟩ := I.loc
  ⟨m, hn, I.bk, Nat.le_trans I.ok.bsz I.ok.above⟩
theorem Inv.lt (I : Inv X pins σ H s) : X.env.locals < s.heap.objs.size := let ⟨_, hn, _⟩ := I.loc; hn.lt
theorem Inv.sz (I : Inv X pins σ H s) : X.s₀.heap.objs.size ≤ s.heap.objs.size := Nat.le_trans I.ok.above (Nat.le_of_lt I.lt)
theorem Inv.nofs (I : Inv X pins σ H s) {a : Addr} (h : s.heap.objs.size ≤ a) : a ∉ X.fs := fun hb => by
  obtain ⟨_, o, ho, _⟩ := I.ok.funs.mem hb
  exact absurd (Nat.lt_of_lt_of_le (Heap.lt_size ho) (Nat.le_trans I.sz h)) (Nat.lt_irrefl _)
theorem Inv.cne (I : Inv X pins σ H s) : ∀ x c, X.env.cells.lookup x = some c → c ≠ X.env.locals := fun x c e z => by
  obtain ⟨v, o, ho, hd⟩ := I.cell x c e
  obtain ⟨m, ⟨o', es, ep, ho', hd', _⟩, _⟩ := I.loc
  rw [z, ho'] at ho; cases ho; rw [hd'] at hd; cases hd
theorem Inv.funs (I : Inv X pins σ H s) : s.heap.FunFrames X.base X.outer := by
  have all : ∀ (l : List Env), (∀ b ∈ frs l, b ∈ X.fs) → X.s₀.heap.FunFrames X.base l → s.heap.FunFrames X.base l := by
    intro l
    induction l with
    | nil => intro _ _; trivial
    | cons env r ih =>
      intro hs hl
      obtain ⟨hk, ⟨L, o, hf, hn, ho, hd⟩, hr⟩ := hl
      have hL : L ∈ X.fs := hs L (by unfold frs; rw [List.filterMap_cons, hf]; exact List.mem_cons_self)
      obtain ⟨sl, e⟩ := I.base.slot L o ho (I.ok.frf L hL) hL fun z => I.ok.exfs L z hL
      exact ⟨hk, ⟨L, _, hf, hn, e, hd⟩, ih (fun b hb => hs b (by unfold frs; rw [List.filterMap_cons, hf]; exact List.mem_cons_of_mem _ hb)) hr⟩
  exact all X.outer (fun _ hb => hb) I.ok.funs
theorem Inv.stack (I : Inv X pins σ H s) : s.heap.FunFrames X.base X.stack := by
  rcases I.ok.stk with e | ⟨e, hf⟩
  · rw [e]; exact I.funs
  · rw [e]
    obtain ⟨m, hn, _⟩ := I.loc
    refine .cons (by rw [I.ok.kind]; decide) hf hn ?_ I.funs
    exact Heap.get?_none_of_le (Nat.le_trans I.ok.bsz I.ok.above)
theorem Inv.stkSub (I : Inv X pins σ H s) : ∀ b ∈ frs X.stack, b ∈ X.env.locals :: X.fs := fun b hb => by
  rcases I.ok.stk with e | ⟨e, hf⟩
  · rw [e] at hb; exact List.mem_cons_of_mem _ hb
  · rw [e] at hb
    unfold frs at hb
    rw [List.filterMap_cons, hf] at hb
    exact hb
theorem Inv.stkFree (I : Inv X pins σ H s) : ∀ b ∈ frs X.stack, H b = none := fun b hb => by
  rcases List.mem_cons.mp (I.stkSub b hb) with e | hb
  · rw [e]; exact I.free
  · obtain ⟨_, o, ho, _⟩ := I.ok.funs.mem hb
    exact I.base.free b o ho (I.ok.frf b hb) fun z => I.ok.exfs b z hb
theorem Inv.step {g' : Array GenState} {t' : Nat} {d' : Drawn} {ch : List Addr} (I : Inv X pins σ H s)
    (hch : ∀ b ∈ ch, (b ∈ X.ex ∨ X.s₀.heap.objs.size ≤ b) ∧ b ≠ X.env.locals ∧ (∀ x c, X.env.cells.lookup x = some c → c ≠ b) ∧ ∀ p ∈ X.pn ++ pins, p.1 ≠ b)
    (keep : ∀ b o, b ≠ X.env.locals → b ∉ X.fs → b ∉ ch → s.heap.get? b = some o → H b = none → h'.get? b = some o)
    (slot : ∀ b o, b ≠ X.env.locals → b ∈ X.fs → b ∉ ch → s.heap.get? b = some o → H b = none → ∃ sl, h'.get? b = some { o with slots := sl }) (free : ∀ b o, b ∉ ch → s.heap.get? b = some o → H b = none → H' b = none)
    (there : ∀ b o, b ∉ ch → s.heap.get? b = some o → ∃ o', h'.get? b = some o')
    (tups : ∀ b xs, H b = some (.tup xs) → H' b = some (.tup xs)) (frzs : ∀ b o u, H b = some (.frz o u) → H' b = some (.frz o u)) (tbls : ∀ b ps, H b = some (.tbl ps) → ∃ more, H' b = some (.tbl (ps ++ more)))
    (ns : ∀ m, s.heap.Ns X.env.locals m → h'.Ns X.env.locals m) (hok : HOk X.prog X.w H' h') (hg : AllBare g') :
    Inv X pins σ H' { s with heap := h', gens := g', drawn := d', toks := t' } := by
  have neL : ∀ b o, X.s₀.heap.get? b = some o → b ≠ X.env.locals := fun b o e => Nat.ne_of_lt (Nat.lt_of_lt_of_le (Heap.lt_size e) I.ok.above)
  have neC : ∀ b o, X.s₀.heap.get? b = some o → b ∉ X.ex → b ∉ ch := fun b o e hx hb => by
    rcases (hch b hb).1 with z | z
    · exact hx z
    · exact absurd (Nat.lt_of_lt_of_le (Heap.lt_size e) z) (Nat.lt_irrefl _)
  have cellK : ∀ x c, X.env.cells.lookup x = some c → ∀ v, s.heap.IsCell c v → h'.IsCell c v := fun x c e v ⟨o, ho, hd⟩ => by
    have nch : c ∉ ch := fun z => (hch c z).2.2.1 x c e rfl
    by_cases hc : c ∈ X.fs
    · obtain ⟨sl, q⟩ := slot c o (I.cne x c e) hc nch ho (I.freeC x c e)
      exact ⟨_, q, hd⟩
    · exact ⟨o, keep c o (I.cne x c e) hc nch ho (I.freeC x c e), hd⟩
  refine ⟨I.ok, I.os, hg, ⟨fun b o e n hb hx => ?_, fun b o e n hb hx => ?_, fun b o e n hx => ?_, fun b o e hx => ?_, fun b xs e => tups b xs (I.base.tups b xs e), fun b o xs e => frzs b o xs (I.base.frzs b o xs e), fun b ps e => ?_⟩, ?_, fun x c e => ?_, ?_, fun x c e => ?_, fun p hp => ?_, hok, I.len⟩
  · exact keep b o (neL b o e) hb (neC b o e hx) (I.base.keep b o e n hb hx) (I.base.free b o e n hx)
  · obtain ⟨sl, e1⟩ := I.base.slot b o e n hb hx
    obtain ⟨sl', e2⟩ := slot b _ (neL b o e) hb (neC b o e hx) e1 (I.base.free b o e n hx)
    exact ⟨sl', e2⟩
  · obtain ⟨o', e1⟩ := I.base.there b o e hx
    exact free b o' (neC b o e hx) e1 (I.base.free b o e n hx)
  · obtain ⟨o', e1⟩ := I.base.there b o e hx
    exact there b o' (neC b o e hx) e1
  · obtain ⟨m1, e1⟩ := I.base.tbls b ps e
    obtain ⟨m2, e2⟩ := tbls b _ e1
    exact ⟨m1 ++ m2, by rw [e2, Array.append_assoc]⟩
  · obtain ⟨m, hn, hl⟩ := I.loc
    refine ⟨m, ns m hn, fun i x v e1 e2 e3 => ?_⟩
    obtain ⟨u, r, l⟩ := hl i x v e1 e2 e3
    refine ⟨u, r, ?_⟩
    rcases l with l | ⟨k, c, e, z⟩
    · exact .inl l
    · exact .inr ⟨k, c, e, cellK x c e _ z⟩
  · obtain ⟨v, z⟩ := I.cell x c e
    exact ⟨v, cellK x c e v z⟩
  · obtain ⟨m, ⟨o, _, _, ho, _⟩, _⟩ := I.loc
    exact free _ o (fun z => (hch _ z).2.1 rfl) ho I.free
  · obtain ⟨v, o, ho, hd⟩ := I.cell x c e
    exact free c o (fun z => (hch c z).2.2.1 x c e rfl) ho (I.freeC x c e)
  · obtain ⟨e, n, ne, nf, d⟩ := I.pin p hp
    have nch : p.1 ∉ ch := fun z => (hch p.1 z).2.2.2 p hp rfl
    exact ⟨keep p.1 p.2 ne nf nch e n, free p.1 p.2 nch e n, ne, nf, d⟩
theorem Inv.un {t' : Nat} (I : Inv X pins σ H s) (u : Un X.fs [] H H' s.heap h') (hok : HOk X.prog X.w H' h') : Inv X pins σ H' { s with heap := h', toks := t' } := by
  obtain ⟨m, ⟨o, es, ep, ho, r⟩, _⟩ := id I.loc
  obtain ⟨sl, hL⟩ := u.any ho I.free (by simp)
  exact I.step (g' := s.gens) (d' := s.drawn) (ch := []) (fun _ z => nomatch z) (fun b o _ hb _ e n => u.keep b o e n hb (by simp)) (fun b o _ hb _ e n => u.slot b o e n hb (by simp)) (fun b o _ e n => u.free b o e n (by simp)) (fun b o _ e => u.there b o e (by simp)) u.tups u.frzs u.tbls (fun m' hm => by
    obtain ⟨o', es', ep', ho', r'⟩ := hm
    rw [ho] at ho'; cases ho'
    exact ⟨_, es', ep', hL, r'⟩) hok I.bare
theorem Inv.call {g' : Array GenState} {t' : Nat} {d' : Drawn} {ch : List Addr} (I : Inv X pins σ H s) (u : Un (frs X.stack) ch H H' s.heap h') (hok : HOk X.prog X.w H' h') (hg : AllBare g')
    (hch : ∀ b ∈ ch, (b ∈ X.ex ∨ X.s₀.heap.objs.size ≤ b) ∧ b ≠ X.env.locals ∧ (∀ x c, X.env.cells.lookup x = some c → c ≠ b) ∧ ∀ p ∈ X.pn ++ pins, p.1 ≠ b) :
    Inv X pins σ H' { s with heap := h', gens := g', drawn := d', toks := t' } := by
  obtain ⟨m, ⟨o, es, ep, ho, r⟩, _⟩ := id I.loc
  obtain ⟨sl, hL⟩ := u.any ho I.free fun z => (hch _ z).2.1 rfl
  exact I.step (ch := ch) hch (fun b o hL hb hc e n => u.keep b o e n (fun z => (List.mem_cons.mp (I.stkSub b z)).elim hL hb) hc) (fun b o _ _ hc e n => u.any e n hc) (fun b o hc e n => u.free b o e n hc) (fun b o hc e => u.there b o e hc) u.tups u.frzs u.tbls (fun m' hm => by
    obtain ⟨o', es', ep', ho', r'⟩ := hm
    rw [ho] at ho'; cases ho'
    exact ⟨_, es', ep', hL, r'⟩) hok hg
theorem Inv.turned {t' : Nat} {it : Addr} (I : Inv X pins σ H s) (k : ∀ b o, b ≠ it → s.heap.get? b = some o → h'.get? b = some o) (hn : H it = none) (hL : it ≠ X.env.locals)
    (h1 : it ∈ X.ex ∨ X.s₀.heap.objs.size ≤ it) (h2 : ∀ x c, X.env.cells.lookup x = some c → c ≠ it) (h3 : ∀ p ∈ X.pn ++ pins, p.1 ≠ it) : Inv X pins σ H { s with heap := h', toks := t' } := by
  have nit : ∀ b u, H b = some u → b ≠ it := fun b u e z => by rw [z, hn] at e; cases e
  refine I.step (g' := s.gens) (d' := s.drawn) (ch := [it]) (fun b hb => ?_) (fun b o _ _ hc e _ => k b o (fun z => hc (by simp [z])) e) (fun b o _ _ hc e _ => ⟨o.slots, k b o (fun z => hc (by simp [z])) e⟩) (fun _ _ _ _ n => n)
    (fun b o hc e => ⟨o, k b o (fun z => hc (by simp [z])) e⟩) (fun _ _ e => e) (fun _ _ _ e => e) (fun b ps e => ⟨#[], by rw [e]; simp⟩) (fun m hm => ?_) (fun b u e => ?_) I.bare
  · have e : b = it := by simpa using hb
    subst e
    exact ⟨h1, hL, h2, h3⟩
  · obtain ⟨o, es, ep, ho, r⟩ := hm
    exact ⟨o, es, ep, k _ o (Ne.symm hL) ho, r⟩
  · refine (I.hok b u e).stay (fun c v hc q => k c v ?_ q) (fun _ q => q) fun _ _ q => q
    rcases hc with z | z
    · rw [z]; exact nit b u e
    · exact nit c _ z
theorem Inv.tok (I : Inv X pins σ H s) (t : Nat) : Inv X pins σ H { s with toks := t } := I.un (h' := s.heap) (t' := t) Un.refl I.hok
theorem Inv.kept {t' : Nat} (I : Inv X pins σ H s) (k : ∀ b u, s.heap.get? b = some u → h'.get? b = some u) : Inv X pins σ H { s with heap := h', toks := t' } := I.un (Un.kept k) (I.hok.kept k)
theorem Inv.laid {a : Addr} {o : HO} {t' : Nat} (I : Inv X pins σ H s) (k : ∀ b u, s.heap.get? b = some u → h'.get? b = some u) (hp : s.heap.objs.size ≤ a) (new : ObjOk X.prog X.w (upd H a o) h' a o) :
    Inv X pins σ (upd H a o) { s with heap := h', toks := t' } := I.un (Un.laid k hp (I.hok.fresh hp)) (I.hok.laid k hp new)
theorem Inv.write {x e : Addr} {o : HO} {t' : Nat} (I : Inv X pins σ H s) (mu : Mut (H x)) (he : e = x ∨ H e = some (.own x)) (k : ∀ b u, b ≠ e → s.heap.get? b = some u → h'.get? b = some u) (heo : ∃ u, h'.get? e = some u)
    (new : ObjOk X.prog X.w (upd H x o) h' x o) : Inv X pins σ (upd H x o) { s with heap := h', toks := t' } := I.un (Un.write mu he k heo) (I.hok.write mu he k heo new)
theorem Inv.pins_of {pins' : List (Addr × Obj)} (I : Inv X pins σ H s) (h : ∀ p ∈ pins', s.heap.get? p.1 = some p.2 ∧ H p.1 = none ∧ p.1 ≠ X.env.locals ∧ p.1 ∉ X.fs ∧ ∀ v, p.2.data ≠ .cell v) : Inv X pins' σ H s :=
  ⟨I.ok, I.os, I.bare, I.base, I.loc, I.cell, I.free, I.freeC, fun p hp => (List.mem_append.mp hp).elim (fun z => I.pin p (List.mem_append_left _ z)) (h p), I.hok, I.len⟩
theorem nodup_ix {N : List Str} (hN : N.Nodup) {i j : Nat} {x : Str} (a : N[i]? = some x) (b : N[j]? = some x) : i = j := by
  obtain ⟨h1, e1⟩ := List.getElem?_eq_some_iff.mp a
  obtain ⟨h2, e2⟩ := List.getElem?_eq_some_iff.mp b
  exact (List.getElem_inj hN).mp (e1.trans e2.symm)
theorem store_ok2 {M : Model} {A : Around} {E : Value → Shared → Prop} {i : Nat} {x : Str} {v : V} {u : Value} {Q : Unit → Shared → Prop} (I : Inv X pins σ H s) (hN : X.N.Nodup) (hi : X.N[i]? = some x) (hx : Loc X.env.scope x) (r : RelV v u)
    (h : ∀ s', Inv X pins (σ.set i (some v)) H s' → (∃ a, Heap.SameBut a s.heap s'.heap ∧ (a = X.env.locals ∨ X.env.cells.lookup x = some a)) → Q () s') (hf : X.fn x = true ∨ X.env.scope.names.lookup x = some .local := by first | exact .inl rfl | exact .inr rfl | assumption) : wpAny M A (storeName X.env x u) Q E s := by
  obtain ⟨m, hn, hl⟩ := id I.loc
  have hcls : (X.env.scope.kind == .class || (X.env.scope.kind == .module && X.env.locals != X.env.globals)) = false := by rw [I.ok.kind]; rfl
  have hiσ : i < σ.length := by rw [I.len]; exact (List.getElem?_eq_some_iff.mp hi).1
  have cne := I.cne
  have tracked : ∀ {a : Addr} {h' : Heap}, (∃ o, s.heap.get? a = some o ∧ H a = none) → Heap.SameBut a s.heap h' → HOk X.prog X.w H h' := fun {a h'} ha hs b ob e => by
    obtain ⟨_, _, hfree⟩ := ha
    refine (I.hok b ob e).stay (fun c w' hc q => (hs.2 c ?_).trans q) (fun _ q => q) fun _ _ q => q
    rintro rfl
    rcases hc with rfl | hc
    · rw [hfree] at e; cases e
    · rw [hfree] at hc; cases hc
  rcases hx with hk | hk
  · refine wpAny_storeName_local hk hn (fun h' hn' hs => ?_) hcls
    obtain ⟨oL, _, _, hoL, _⟩ := id hn
    refine h _ ⟨I.ok, I.os, I.bare, ⟨fun b o e n hb hx => ?_, fun b o e n hb hx => ?_, I.base.free, fun b o e hx => ?_, I.base.tups, I.base.frzs, I.base.tbls⟩, ⟨_, hn', fun j y v' e1 e2 e3 => ?_⟩, fun y c e => ?_, I.free, I.freeC, fun p hp => ?_, tracked ⟨oL, hoL, I.free⟩ hs, by simpa using I.len⟩ ⟨_, hs, .inl rfl⟩
    · exact (hs.2 b (Nat.ne_of_lt (Nat.lt_of_lt_of_le (Heap.lt_size e) I.ok.above))).trans (I.base.keep b o e n hb hx)
    · obtain ⟨sl, e1⟩ := I.base.slot b o e n hb hx
      exact ⟨sl, (hs.2 b (Nat.ne_of_lt (Nat.lt_of_lt_of_le (Heap.lt_size e) I.ok.above))).trans e1⟩
    · obtain ⟨o', e1⟩ := I.base.there b o e hx
      exact ⟨o', (hs.2 b (Nat.ne_of_lt (Nat.lt_of_lt_of_le (Heap.lt_size e) I.ok.above))).trans e1⟩
    · by_cases hj : j = i
      · subst hj
        rw [hi] at e1; cases e1
        rw [List.getElem?_set_self hiσ] at e2
        cases e2
        exact ⟨u, r, .inl ⟨hk, by simp⟩⟩
      · rw [List.getElem?_set_ne (Ne.symm hj)] at e2
        obtain ⟨u', r', q⟩ := hl j y v' e1 e2 e3
        refine ⟨u', r', ?_⟩
        rcases q with ⟨k, e⟩ | ⟨k, c, e, z⟩
        · refine .inl ⟨k, ?_⟩
          have : y ≠ x := fun e => hj (nodup_ix hN e1 (e ▸ hi))
          simp [this, e]
        · exact .inr ⟨k, c, e, z.sameBut hs (cne y c e)⟩
    · obtain ⟨w', z⟩ := I.cell y c e
      exact ⟨w', z.sameBut hs (cne y c e)⟩
    · obtain ⟨e, n, ne, nf, d⟩ := I.pin p hp
      exact ⟨(hs.2 p.1 ne).trans e, n, ne, nf, d⟩
  · have hfn : X.fn x = true := by
      rcases hf with z | z
      · exact z
      · rw [z] at hk; cases hk
    obtain ⟨c, hc⟩ := I.ok.has x (.inl hk)
    obtain ⟨w', z⟩ := I.cell x c hc
    refine wpAny_storeName_cell I.ok.kind hk hc z (fun h' hc' hs => ?_)
    obtain ⟨oc, hoc, hocd⟩ := id z
    refine h { s with heap := h' } ⟨I.ok, I.os, I.bare, ⟨fun b o e n hb hx => ?_, fun b o e n hb hx => ?_, I.base.free, fun b o e hx => ?_, I.base.tups, I.base.frzs, I.base.tbls⟩, ⟨m, hn.sameBut hs (Ne.symm (cne x c hc)), fun j y v' e1 e2 e3 => ?_⟩, fun y c' e => ?_, I.free, I.freeC, fun p hp => ?_, tracked ⟨oc, hoc, I.freeC x c hc⟩ hs, by simpa using I.len⟩ ⟨c, hs, .inr hc⟩
    · exact (hs.2 b (Nat.ne_of_lt (Nat.lt_of_lt_of_le (Heap.lt_size e) (I.ok.cab x c hfn hc)))).trans (I.base.keep b o e n hb hx)
    · obtain ⟨sl, e1⟩ := I.base.slot b o e n hb hx
      exact ⟨sl, (hs.2 b (Nat.ne_of_lt (Nat.lt_of_lt_of_le (Heap.lt_size e) (I.ok.cab x c hfn hc)))).trans e1⟩
    · obtain ⟨o', e1⟩ := I.base.there b o e hx
      exact ⟨o', (hs.2 b (Nat.ne_of_lt (Nat.lt_of_lt_of_le (Heap.lt_size e) (I.ok.cab x c hfn hc)))).trans e1⟩
    · by_cases hj : j = i
      · subst hj
        rw [hi] at e1; cases e1
        rw [List.getElem?_set_self hiσ] at e2
        cases e2
        exact ⟨u, r, .inr ⟨.inl hk, c, hc, hc'⟩⟩
      · rw [List.getElem?_set_ne (Ne.symm hj)] at e2
        obtain ⟨u', r', q⟩ := hl j y v' e1 e2 e3
        refine ⟨u', r', ?_⟩
        rcases q with q | ⟨k, c', e, z'⟩
        · exact .inl q
        · refine .inr ⟨k, c', e, z'.sameBut hs ?_⟩
          rintro rfl
          exact hj (nodup_ix hN e1 (I.ok.inj _ _ _ e hc ▸ hi))
    · by_cases hcc : c' = c
      · subst hcc; exact ⟨_, hc'⟩
      · obtain ⟨w2, z2⟩ := I.cell y c' e
        exact ⟨w2, z2.sameBut hs hcc⟩
    · obtain ⟨e, n, ne, nf, d⟩ := I.pin p hp
      refine ⟨(hs.2 p.1 ?_).trans e, n, ne, nf, d⟩
      intro q
      rw [q, hoc] at e
      have q' : oc = p.2 := Option.some.inj e
      exact d w' (by rw [← q']; exact hocd)
theorem store_ok {M : Model} {A : Around} {E : Value → Shared → Prop} {i : Nat} {x : Str} {v : V} {u : Value} {Q : Unit → Shared → Prop} (I : Inv X pins σ H s) (hN : X.N.Nodup) (hi : X.N[i]? = some x) (hx : Loc X.env.scope x) (r : RelV v u)
    (h : ∀ s', Inv X pins (σ.set i (some v)) H s' → Q () s') (hf : X.fn x = true ∨ X.env.scope.names.lookup x = some .local := by first | exact .inl rfl | exact .inr rfl | assumption) : wpAny M A (storeName X.env x u) Q E s :=
  store_ok2 I hN hi hx r (fun s' I' _ => h s' I') hf
theorem Inv.call' {s' : Shared} {ch : List Addr} (I : Inv X pins σ H s) (ho : s'.os = s.os) (u : Un (frs X.stack) ch H H' s.heap s'.heap) (hok : HOk X.prog X.w H' s'.heap) (hg : AllBare s'.gens)
    (hch : ∀ b ∈ ch, (b ∈ X.ex ∨ X.s₀.heap.objs.size ≤ b) ∧ b ≠ X.env.locals ∧ (∀ x c, X.env.cells.lookup x = some c → c ≠ b) ∧ ∀ p ∈ X.pn ++ pins, p.1 ≠ b) : Inv X pins σ H' s' := by
  obtain ⟨h', g', d', t', o'⟩ := s'
  have e : o' = s.os := ho
  subst e
  exact I.call (g' := g') (t' := t') (d' := d') u hok hg hch
end
noncomputable abbrev XK := Value → Option Addr → Hp → Prop
noncomputable abbrev St := List (Option V)
noncomputable abbrev VK := V → Hp → Prop
noncomputable abbrev TE := St → Hp → VK → Prop
noncomputable abbrev TT := St → Hp → (Bool → Hp → Prop) → Prop
noncomputable abbrev TA := St → Hp → (List V → Hp → Prop) → Prop
structure Ends where
  nx : St → Hp → Prop
  rt : VK
  bk : St → Hp → Prop := fun _ _ => False
  ct : St → Hp → Prop := fun _ _ => False
noncomputable abbrev TS := Ends → St → Hp → Prop
noncomputable def EP (X : Cx) (pins : List (Addr × Obj)) (σ : St) (Q : VK) (u : Value) (s' : Shared) : Prop := ∃ v H', Inv X pins σ H' s' ∧ RelV v u ∧ Q v H'
noncomputable def TP (X : Cx) (pins : List (Addr × Obj)) (σ : St) (Q : Bool → Hp → Prop) (b : Bool) (s' : Shared) : Prop := ∃ H', Inv X pins σ H' s' ∧ Q b H'
noncomputable def AP (X : Cx) (pins : List (Addr × Obj)) (σ : St) (Q : List V → Hp → Prop) (us : List Value) (s' : Shared) : Prop := ∃ vs H', Inv X pins σ H' s' ∧ Vals vs us ∧ Q vs H'
noncomputable def SP (X : Cx) (pins : List (Addr × Obj)) (D : Ends) (f : Flow) (s' : Shared) : Prop :=
  match f with
  | .next => ∃ σ' H', Inv X pins σ' H' s' ∧ D.nx σ' H'
  | .brk => ∃ σ' H', Inv X pins σ' H' s' ∧ D.bk σ' H'
  | .cont => ∃ σ' H', Inv X pins σ' H' s' ∧ D.ct σ' H'
  | .ret u => ∃ v σ' H', Inv X pins σ' H' s' ∧ RelV v u ∧ D.rt v H'
noncomputable def PE (X : Cx) (e : Expr) (t : TE) : Prop :=
  ∀ (pins : List (Addr × Obj)) (s : Shared) (σ : St) (H : Hp) (Q : VK), Inv X pins σ H s → t σ H Q → wpAny (model X.prog X.w) X.A (eval e X.env) (EP X pins σ Q) X.xe s
noncomputable def PT (X : Cx) (e : Expr) (t : TT) : Prop :=
  ∀ (pins : List (Addr × Obj)) (s : Shared) (σ : St) (H : Hp) (Q : Bool → Hp → Prop), Inv X pins σ H s → t σ H Q → wpAny (model X.prog X.w) X.A (isTrue e X.env (eval e X.env)) (TP X pins σ Q) X.xe s
noncomputable def PW (X : Cx) (e : Expr) (t : TT) : Prop :=
  ∀ (whole : Sem Value) (pins : List (Addr × Obj)) (s : Shared) (σ : St) (H : Hp) (Q : Bool → Hp → Prop), Inv X pins σ H s → t σ H Q → wpAny (model X.prog X.w) X.A (isTrue e X.env whole) (TP X pins σ Q) X.xe s
theorem PW.pt {X : Cx} {e : Expr} {t : TT} (h : PW X e t) : PT X e t := h _
noncomputable def PA (X : Cx) (es : List Expr) (t : TA) : Prop :=
  ∀ (pos : Pos) (pins : List (Addr × Obj)) (s : Shared) (σ : St) (H : Hp) (Q : List V → Hp → Prop), Inv X pins σ H s → t σ H Q → wpAny (model X.prog X.w) X.A (spliced (backTo pos (starEach es X.env))) (AP X pins σ Q) X.xe s
noncomputable def PS (X : Cx) (st : Stmt) (t : TS) : Prop :=
  ∀ (pins : List (Addr × Obj)) (s : Shared) (σ : St) (H : Hp) (D : Ends), Inv X pins σ H s → t D σ H → wpAny (model X.prog X.w) X.A (exec st X.env) (SP X pins D) X.xe s
noncomputable def PSs (X : Cx) (st : List Stmt) (t : TS) : Prop :=
  ∀ (pins : List (Addr × Obj)) (s : Shared) (σ : St) (H : Hp) (D : Ends), Inv X pins σ H s → t D σ H → wpAny (model X.prog X.w) X.A (execs st X.env) (SP X pins D) X.xe s
theorem thn {α : Type} {t : Sem α} {Q Q' : α → Shared → Prop} {M : Model} {A : Around} {E : Value → Shared → Prop} {s : Shared} (h : wpAny M A t Q E s) (hQ : ∀ a s, Q a s → Q' a s) : wpAny M A t Q' E s := wpAny_mono h hQ fun _ _ x => x
end L2
namespace L2
open PySem PySem.Spec PyProof.Rows
section
variable {X : Cx}
noncomputable def tVar (i : Nat) : TE := fun σ H Q => ∃ v, σ[i]? = some (some v) ∧ Q v H
noncomputable def tC (v : V) : TE := fun _ H Q => Q v H
theorem pe_var {i : Nat} {x : Str} {pos : Pos} (hN : X.N[i]? = some x) (hv : Vis X.env.scope x) (hd : (x == ("__debug__" : Str)) = false := by decide) (hcd : (x == ("__classdict__" : Str)) = false := by decide) : PE X (.Name x pos) (tVar i) := by
  intro pins s σ H Q I h
  obtain ⟨v, e, h⟩ := h
  obtain ⟨m, hn, hl⟩ := I.loc
  obtain ⟨u, r, l⟩ := hl i x v hN e hv
  have fin : EP X pins σ Q u s := ⟨v, H, I, r, h⟩
  rcases l with ⟨hk, hm⟩ | ⟨hk, c, hc, hcell⟩
  · exact wpAny_Name (wpAny_loadName_local I.ok.kind hk hn hm fin) hd
  · rcases hk with hk | hk
    · exact wpAny_Name (wpAny_loadName_cell I.ok.kind hk hc hcell fin) hd
    · exact wpAny_Name (wpAny_loadName_free I.ok.kind hk hc hcell fin hcd) hd
theorem pe_int {i j pos} : PE X (.Constant (.int i) j pos) (tC (.int i)) := fun _ _ _ H _ I h => wpAny_Constant_int ⟨.int i, H, I.tok _, ⟨_, rfl⟩, h⟩
theorem pe_bl {b j pos} : PE X (.Constant (.bool b) j pos) (tC (.bl b)) := fun _ _ _ H _ I h => Constant_bool ⟨.bl b, H, I, rfl, h⟩
theorem pe_non {j pos} : PE X (.Constant .none j pos) (tC .non) := fun _ _ _ H _ I h => Constant_none ⟨.non, H, I, rfl, h⟩
noncomputable def Gl (X : Cx) (x : Str) : Prop := X.env.kindOf x = some .globalImplicit
theorem ld_glob {E : Value → Shared → Prop} {pins : List (Addr × Obj)} {s : Shared} {σ : St} {H : Hp} {x : Str} {u : Value} {pos : Pos} {Q : Value → Shared → Prop} (I : Inv X pins σ H s) (hg : Gl X x) (hm : X.mg x = some u) (h : Q u s)
    (hd : (x == ("__debug__" : Str)) = false := by decide) : wpAny (model X.prog X.w) X.A (eval (.Name x pos) X.env) Q E s :=
  Calls.Name_function_global I.ok.kind hg (Calls.loadGlobal_global (by rw [I.ok.glob]; exact I.mod.glob.keeps I.bk) hm h) hd
theorem ld_blt {E : Value → Shared → Prop} {pins : List (Addr × Obj)} {s : Shared} {σ : St} {H : Hp} {x : Str} {u : Value} {pos : Pos} {Q : Value → Shared → Prop} (I : Inv X pins σ H s) (hg : Gl X x) (hm : X.mg x = none) (hv : bootBuiltins x = some u) (h : Q u s)
    (hn : x ≠ "__name__" := by decide) (hd : (x == ("__debug__" : Str)) = false := by decide) : wpAny (model X.prog X.w) X.A (eval (.Name x pos) X.env) Q E s := by
  obtain ⟨mb, h1, h2⟩ := I.mod.blt
  exact Calls.Name_function_global I.ok.kind hg (Calls.loadGlobal_builtin (by rw [I.ok.glob]; exact I.mod.glob.keeps I.bk) hm (by rw [I.ok.blt]; exact h1.keeps I.bk) ((h2 x hn).trans hv) h) hd
theorem pe_bltn {x : Str} {v : V} {u : Value} {pos : Pos} (hg : Gl X x) (hm : X.mg x = none) (hv : bootBuiltins x = some u) (r : RelV v u) (hn : x ≠ "__name__" := by decide) (hd : (x == ("__debug__" : Str)) = false := by decide) : PE X (.Name x pos) (tC v) :=
  fun _ _ _ H _ I h => ld_blt I hg hm hv ⟨v, H, I, r, h⟩ hn hd
noncomputable def t2I (ta tb : TE) (k : Int → Int → Hp → Prop) : St → Hp → Prop := fun σ H => ta σ H fun x H1 => tb σ H1 fun y H2 => ∃ i j, x = .int i ∧ y = .int j ∧ k i j H2
variable {a b : Expr} {ta tb : TE} {pos : Pos}
noncomputable def tCmp (p : Int → Int → Bool) (ta tb : TE) : TE := fun σ H Q => t2I ta tb (fun i j H2 => Q (.bl (p i j)) H2) σ H
noncomputable abbrev tLt : TE → TE → TE := tCmp fun i j => decide (i < j)
noncomputable abbrev tLe : TE → TE → TE := tCmp fun i j => decide (i ≤ j)
noncomputable abbrev tGt : TE → TE → TE := tCmp fun i j => decide (j < i)
noncomputable abbrev tGe : TE → TE → TE := tCmp fun i j => decide (j ≤ i)
noncomputable abbrev tEqI : TE → TE → TE := tCmp fun i j => decide (i = j)
noncomputable abbrev tNeI : TE → TE → TE := tCmp fun i j => !decide (i = j)
noncomputable def tB (t : TE) : TT := fun σ H Q => t σ H fun x H1 => ∃ c, x = .bl c ∧ Q c H1
theorem pt_val {e : Expr} {t : TE} (h : PE X e t) (he : ∀ whole, isTrue e X.env whole = (do let v ← whole; standAt e.pos; holding [v] (truthy v)) := by intro _; rfl) : PT X e (tB t) := by
  intro pins s σ H Q I hw
  refine isTrue_plain (thn (h pins s σ H _ I hw) fun v s1 ⟨x, H1, I1, r1, q1⟩ => ?_) (he _)
  obtain ⟨d, rfl, q⟩ := q1
  cases r1
  exact wpAny_truthy_bool ⟨H1, I1, q⟩
variable {tA tB' : TT} {rest : List Expr}
noncomputable def tAnd (t u : TT) : TT := fun σ H Q => t σ H fun c H1 => if c = true then u σ H1 Q else Q false H1
noncomputable def tOr (t u : TT) : TT := fun σ H Q => t σ H fun c H1 => if c = true then Q true H1 else u σ H1 Q
noncomputable def tNot (t : TT) : TT := fun σ H Q => t σ H fun c H1 => Q (!c) H1
theorem pw_and1 (ha : PT X a tA) : PW X (.BoolOp .And [a] pos) tA := by
  intro wh pins s σ H Q I h
  refine isTrue_and (thn (ha pins s σ H Q I h) fun c s1 e => ?_)
  cases c with
  | true => exact isTrue_and_nil e
  | false => exact e
theorem pw_or1 (ha : PT X a tA) : PW X (.BoolOp .Or [a] pos) tA := by
  intro wh pins s σ H Q I h
  refine isTrue_or (thn (ha pins s σ H Q I h) fun c s1 e => ?_)
  cases c with
  | false => exact isTrue_or_nil e
  | true => exact e
theorem pw_and (ha : PT X a tA) (hb : PW X (.BoolOp .And (b :: rest) pos) tB') : PW X (.BoolOp .And (a :: b :: rest) pos) (tAnd tA tB') := by
  intro wh pins s σ H Q I h
  refine isTrue_and (thn (ha pins s σ H _ I h) fun c s1 ⟨H1, I1, q1⟩ => ?_)
  cases c with
  | true => exact hb wh pins s1 σ H1 Q I1 q1
  | false => exact ⟨H1, I1, q1⟩
theorem pw_or (ha : PT X a tA) (hb : PW X (.BoolOp .Or (b :: rest) pos) tB') : PW X (.BoolOp .Or (a :: b :: rest) pos) (tOr tA tB') := by
  intro wh pins s σ H Q I h
  refine isTrue_or (thn (ha pins s σ H _ I h) fun c s1 ⟨H1, I1, q1⟩ => ?_)
  cases c with
  | true => exact ⟨H1, I1, q1⟩
  | false => exact hb wh pins s1 σ H1 Q I1 q1
theorem pt_not (ha : PT X a tA) : PT X (.UnaryOp .Not a pos) (tNot tA) := by
  intro pins s σ H Q I h
  exact isTrue_not (ha pins s σ H (fun c H1 => Q (!c) H1) I h)
noncomputable def tAndV (ta tb : TE) : TE := fun σ H Q => ta σ H fun x H1 => ∃ c, x = .bl c ∧ if c = true then tb σ H1 Q else Q (.bl false) H1
noncomputable def tOrV (ta tb : TE) : TE := fun σ H Q => ta σ H fun x H1 => ∃ c, x = .bl c ∧ if c = true then Q (.bl true) H1 else tb σ H1 Q
noncomputable def tNotV (ta : TE) : TE := fun σ H Q => ta σ H fun x H1 => ∃ c, x = .bl c ∧ Q (.bl (!c)) H1
theorem pe_one {op} {t : TE} (h : PE X a t) : PE X (.BoolOp op [a] pos) t := fun pins s σ H Q I hw => BoolOp_one (h pins s σ H Q I hw)
theorem pe_and (ha : PE X a ta) (hb : PE X (.BoolOp .And (b :: rest) pos) tb) : PE X (.BoolOp .And (a :: b :: rest) pos) (tAndV ta tb) := by
  intro pins s σ H Q I h
  refine BoolOp_and (thn (ha pins s σ H _ I h) fun v s1 ⟨x, H1, I1, r1, q1⟩ => ?_)
  obtain ⟨c, rfl, q1⟩ := q1
  cases r1
  refine wpAny_truthy_bool ?_
  cases c with
  | true => exact hb pins s1 σ H1 Q I1 q1
  | false => exact ⟨.bl false, H1, I1, rfl, q1⟩
theorem pe_not (ha : PE X a ta) : PE X (.UnaryOp .Not a pos) (tNotV ta) := by
  intro pins s σ H Q I h
  refine UnaryOp_ (thn (ha pins s σ H _ I h) fun v s1 ⟨x, H1, I1, r1, q1⟩ => ?_)
  obtain ⟨c, rfl, q1⟩ := q1
  cases r1
  exact not_of (wpAny_truthy_bool ⟨.bl (!c), H1, I1, rfl, q1⟩)
noncomputable def tIf (t : TT) (ta tb : TE) : TE := fun σ H Q => t σ H fun c H1 => if c = true then ta σ H1 Q else tb σ H1 Q
theorem pe_ifExp {c : Expr} (hc : PT X c tA) (ha : PE X a ta) (hb : PE X b tb) : PE X (.IfExp c a b pos) (tIf tA ta tb) := by
  intro pins s σ H Q I h
  refine wpAny_IfExp (thn (hc pins s σ H _ I h) fun d s1 ⟨H1, I1, q1⟩ => ?_)
  cases d with
  | true => exact ha pins s1 σ H1 Q I1 q1
  | false => exact hb pins s1 σ H1 Q I1 q1
end
end L2
namespace L2
open PySem PySem.Spec PyProof.Rows
noncomputable def SqL (K : PySem.W.Frag) (H : Hp) (a : Addr) (xs : List V) : Prop :=
  Rd H a (.lst xs) ∨
    ∃ (o : Obj) (its : Array Value) (n : Nat), K.lookup a = some o ∧ o.cls = .type "list" ∧ o.dict = none ∧ o.data = .seq its n ∧ its.size ≤ sizeLine ∧ Vals xs its.toList
noncomputable def SqT (K : PySem.W.Frag) (H : Hp) (a : Addr) (xs : List V) : Prop :=
  Rd H a (.tup xs) ∨
    ∃ (o : Obj) (its : Array Value) (n : Nat), K.lookup a = some o ∧ o.cls = .type "tuple" ∧ o.data = .seq its n ∧ its.size ≤ sizeLine ∧ Vals xs its.toList
noncomputable def absV : Value → Option V
  | .none => some .non
  | .bool b => some (.bl b)
  | .int i _ => some (.int i)
  | .str x _ => some (.str x)
  | .bytes b _ => some (.byt b)
  | .float b _ => some (.flt b)
  | .ref a => some (.ref a)
  | .type n => some (.ty n)
  | _ => none
theorem RelV.abs {x : V} {u : Value} (r : RelV x u) : absV u = some x := by
  cases x with
  | non => cases r; rfl
  | bl _ => cases r; rfl
  | int _ => obtain ⟨t, rfl⟩ := r; rfl
  | str _ => obtain ⟨t, rfl⟩ := r; rfl
  | byt _ => obtain ⟨t, rfl⟩ := r; rfl
  | flt _ => obtain ⟨t, rfl⟩ := r; rfl
  | ref _ => cases r; rfl
  | ty _ => cases r; rfl
theorem RelV.inj {x y : V} {u : Value} (r : RelV x u) (q : RelV y u) : x = y := Option.some.inj (r.abs.symm.trans q.abs)
theorem Vals.inj : ∀ {xs ys : List V} {us : List Value}, Vals xs us → Vals ys us → xs = ys
  | _, _, _, .nil, .nil => rfl
  | _, _, _, .cons r t, .cons r' t' => by rw [r.inj r', Vals.inj t t']
section
variable {X : Cx} {pins : List (Addr × Obj)} {σ : St} {H : Hp} {s : Shared} {a : Addr} {xs ys : List V}
theorem SqL.of {K : PySem.W.Frag} (h : H a = some (.lst xs)) : SqL K H a xs := .inl (.inl h)
theorem SqT.of {K : PySem.W.Frag} (h : H a = some (.tup xs)) : SqT K H a xs := .inl (.inl h)
theorem Inv.list (I : Inv X pins σ H s) (h : SqL X.K H a xs) : ∃ its : List Value, Vals xs its ∧ PlainL s.heap a its.toArray ∧ xs.length ≤ sizeLine := by
  rcases h with h | ⟨o, its, n, hk, hc, hd, hs, hz, r⟩
  · obtain ⟨z, its, n, r, e⟩ := h.ok I.hok
    exact ⟨its, r, ⟨_, n, e, rfl, rfl, rfl⟩, z⟩
  · refine ⟨its.toList, r, ⟨o, n, I.kIn a o hk, hc, hd, by simpa using hs⟩, ?_⟩
    have e := r.length
    simp only [Array.length_toList] at e
    omega
theorem Inv.tuple (I : Inv X pins σ H s) (h : SqT X.K H a xs) : ∃ its : List Value, Vals xs its ∧ IsTup s.heap a its.toArray ∧ xs.length ≤ sizeLine := by
  rcases h with h | ⟨o, its, n, hk, hc, hs, hz, r⟩
  · obtain ⟨z, its, r, p⟩ := h.ok I.hok
    exact ⟨its, r, p, z⟩
  · refine ⟨its.toList, r, ⟨o, I.kIn a o hk, hc, n, by simpa using hs⟩, ?_⟩
    have e := r.length
    simp only [Array.length_toList] at e
    omega
theorem Inv.list_inj (I : Inv X pins σ H s) (h : SqL X.K H a xs) (h' : SqL X.K H a ys) : xs = ys := by
  obtain ⟨its, r, ⟨o, n, e, _, _, d⟩, _⟩ := I.list h
  obtain ⟨its', r', ⟨o', n', e', _, _, d'⟩, _⟩ := I.list h'
  rw [e] at e'; cases e'
  rw [d] at d'
  injection d' with d1 _
  have : its = its' := by simpa using congrArg Array.toList d1
  subst this
  exact r.inj r'
end
noncomputable abbrev Cx.wish (X : Cx) (E : Value → Shared → Prop) : Cx := { X with xe := E }
noncomputable abbrev Cx.nox (X : Cx) : Cx := X.wish fun _ _ => False
theorem Cx.Ok.wish {X : Cx} (ok : X.Ok) (E : Value → Shared → Prop) : (X.wish E).Ok :=
  ⟨ok.mod, ok.kind, ok.glob, ok.blt, ok.above, ok.inj, ok.has, ok.cab, ok.hd, ok.frames, ok.stk, ok.exf, ok.bs, ok.bsz, ok.noex, ok.exfs, ok.funs, ok.frf⟩
theorem Cx.Ok.unwish {X : Cx} {E : Value → Shared → Prop} (ok : (X.wish E).Ok) : X.Ok :=
  ⟨ok.mod, ok.kind, ok.glob, ok.blt, ok.above, ok.inj, ok.has, ok.cab, ok.hd, ok.frames, ok.stk, ok.exf, ok.bs, ok.bsz, ok.noex, ok.exfs, ok.funs, ok.frf⟩
section
variable {X : Cx} {pins : List (Addr × Obj)} {σ : St} {H : Hp} {s : Shared} {E : Value → Shared → Prop}
theorem Inv.wish (I : Inv X pins σ H s) (E : Value → Shared → Prop) : Inv (X.wish E) pins σ H s := ⟨I.ok.wish E, I.os, I.bare, I.base, I.loc, I.cell, I.free, I.freeC, I.pin, I.hok, I.len⟩
theorem Inv.unwish (I : Inv (X.wish E) pins σ H s) : Inv X pins σ H s := ⟨I.ok.unwish, I.os, I.bare, I.base, I.loc, I.cell, I.free, I.freeC, I.pin, I.hok, I.len⟩
theorem SP.unwish {D : Ends} {f : Flow} {s' : Shared} (h : SP (X.wish E) pins D f s') : SP X pins D f s' := by
  cases f with
  | next => obtain ⟨σ', H', I, q⟩ := h; exact ⟨σ', H', I.unwish, q⟩
  | brk => obtain ⟨σ', H', I, q⟩ := h; exact ⟨σ', H', I.unwish, q⟩
  | cont => obtain ⟨σ', H', I, q⟩ := h; exact ⟨σ', H', I.unwish, q⟩
  | ret u => obtain ⟨v, σ', H', I, r, q⟩ := h; exact ⟨v, σ', H', I.unwish, r, q⟩
theorem PSs.nox {st : List Stmt} {t : TS} (h : PSs X.nox st t) : PSs X st t := fun pins s σ H D I hw =>
  wpAny_mono (h pins s σ H D (I.wish _) hw) (fun _ _ q => q.unwish) fun _ _ z => False.elim z
end
section
variable {X : Cx} {st : Stmt} {rest : List Stmt} {t u : TS} {e : Expr} {te : TE} {pos : Pos}
noncomputable def tNext : TS := fun D σ H => D.nx σ H
noncomputable def tSeq (t u : TS) : TS := fun D σ H => t { D with nx := u D } σ H
theorem pss_nil : PSs X [] tNext := fun _ _ σ H _ I h => wpAny_execs_nil ⟨σ, H, I, h⟩
theorem pss_cons (h1 : PS X st t) (h2 : PSs X rest u) : PSs X (st :: rest) (tSeq t u) := by
  intro pins s σ H D I h
  refine wpAny_execs_cons (thn (h1 pins s σ H { D with nx := u D } I h) fun f s1 q => ?_)
  cases f with
  | next =>
    obtain ⟨σ', H', I', q⟩ := q
    exact h2 pins s1 σ' H' D I' q
  | ret v => exact q
  | brk => exact q
  | cont => exact q
theorem pss_one (h1 : PS X st t) : PSs X [st] t := by
  intro pins s σ H D I h
  refine wpAny_execs_cons (thn (h1 pins s σ H D I h) fun f s1 q => ?_)
  cases f with
  | next => exact wpAny_execs_nil q
  | ret v => exact q
  | brk => exact q
  | cont => exact q
theorem Inv.quiet {pins : List (Addr × Obj)} {σ : St} {H : Hp} {s : Shared} (I : Inv X pins σ H s) : interactive X.env = false := by simp [interactive, I.ok.kind]
noncomputable def tDrop (te : TE) : TS := fun D σ H => te σ H fun _ H1 => D.nx σ H1
theorem ps_expr (he : PE X e te) (hs : swapsWith e none pos.line X.env = pure false := by rfl) : PS X (.Expr e pos) (tDrop te) := by
  intro pins s σ H D I h
  exact wpAny_Expr_any (thn (he pins s σ H _ I h) fun v s1 ⟨x, H1, I1, r1, q1⟩ => ⟨σ, H1, I1, q1⟩) I.quiet hs
noncomputable def tRet (te : TE) : TS := fun D σ H => te σ H D.rt
theorem ps_ret (he : PE X e te) : PS X (.Return (some e) pos) (tRet te) := by
  intro pins s σ H D I h
  exact wpAny_Return_some (thn (he pins s σ H _ I h) fun v s1 ⟨x, H1, I1, r1, q1⟩ => ⟨x, σ, H1, I1, r1, q1⟩)
noncomputable def tRetN : TS := fun D _ H => D.rt .non H
noncomputable def tIfS (c : TT) (t u : TS) : TS := fun D σ H => c σ H fun b H1 => if b = true then t D σ H1 else u D σ H1
theorem ps_if {c : Expr} {a b : List Stmt} {tc : TT} (hc : PT X c tc) (ha : PSs X a t) (hb : PSs X b u) : PS X (.If c a b pos) (tIfS tc t u) := by
  intro pins s σ H D I h
  refine wpAny_If (thn (hc pins s σ H _ I h) fun d s1 ⟨H1, I1, q1⟩ => ?_)
  cases d with
  | true => exact ha pins s1 σ H1 D I1 q1
  | false => exact hb pins s1 σ H1 D I1 q1
end
noncomputable abbrev TG := V → St → Hp → (St → Hp → Prop) → Prop
noncomputable abbrev TGs := List V → St → Hp → (St → Hp → Prop) → Prop
noncomputable def PG (X : Cx) (target : Expr) (t : TG) : Prop :=
  ∀ (pins : List (Addr × Obj)) (s : Shared) (σ : St) (H : Hp) (v : V) (u : Value) (Q : St → Hp → Prop), Inv X pins σ H s → RelV v u → t v σ H Q →
    wpAny (model X.prog X.w) X.A (assign target X.env u) (fun _ s' => ∃ σ' H', Inv X pins σ' H' s' ∧ Q σ' H') X.xe s
noncomputable def PGs (X : Cx) (ts : List Expr) (t : TGs) : Prop :=
  ∀ (pins : List (Addr × Obj)) (s : Shared) (σ : St) (H : Hp) (vs : List V) (us : List Value) (Q : St → Hp → Prop), Inv X pins σ H s → Vals vs us → t vs σ H Q →
    wpAny (model X.prog X.w) X.A (assignInOrder ((assignEach ts X.env).map (·.2)) us) (fun _ s' => ∃ σ' H', Inv X pins σ' H' s' ∧ Q σ' H') X.xe s
noncomputable abbrev TSet := V → V → V → Hp → (Hp → Prop) → Prop
noncomputable def PSet (X : Cx) (t : TSet) : Prop :=
  ∀ (pins : List (Addr × Obj)) (s : Shared) (σ : St) (H : Hp) (o i v : V) (ov iv u : Value) (Q : Hp → Prop), Inv X pins σ H s → RelV o ov → RelV i iv → RelV v u → t o i v H Q →
    wpAny (model X.prog X.w) X.A (setItem ov iv u) (fun _ s' => ∃ H', Inv X pins σ H' s' ∧ Q H') X.xe s
noncomputable abbrev TIp := V → V → Hp → VK → Prop
section
variable {X : Cx} {pos : Pos}
noncomputable def gName (i : Nat) : TG := fun v σ H Q => Q (σ.set i (some v)) H
theorem pg_name {i : Nat} {x : Str} (hN : X.N.Nodup) (hi : X.N[i]? = some x) (hx : Loc X.env.scope x) (hf : X.fn x = true ∨ X.env.scope.names.lookup x = some .local := by first | exact .inl rfl | exact .inr rfl | assumption) : PG X (.Name x pos) (gName i) := by
  intro pins s σ H v u Q I r h
  exact wpAny_assign_Name (store_ok I hN hi hx r (fun s' I' => ⟨_, H, I', h⟩) hf)
noncomputable def gNil : TGs := fun vs σ H Q => vs = [] ∧ Q σ H
noncomputable def gCons (t : TG) (u : TGs) : TGs := fun vs σ H Q => ∃ v r, vs = v :: r ∧ t v σ H fun σ' H' => u r σ' H' Q
theorem pgs_nil : PGs X [] gNil := by
  intro pins s σ H vs us Q I r h
  obtain ⟨e, h⟩ := h
  subst e
  cases r
  exact assignInOrder_nil ⟨σ, H, I, h⟩
theorem pgs_cons {e : Expr} {es : List Expr} {t : TG} {u : TGs} (h1 : PG X e t) (h2 : PGs X es u)
    (hs : (assignEach (e :: es) X.env).map (·.2) = assign e X.env :: (assignEach es X.env).map (·.2) := by rfl) : PGs X (e :: es) (gCons t u) := by
  intro pins s σ H vs us Q I r h
  obtain ⟨v, vr, e1, h⟩ := h
  subst e1
  cases r with
  | cons r rr =>
    rw [hs]
    refine assignInOrder_cons (thn (h1 pins s σ H _ _ _ I r h) fun _ s1 ⟨σ1, H1, I1, q1⟩ => ?_)
    exact h2 pins s1 σ1 H1 _ _ Q I1 rr q1
noncomputable def gTup (K : PySem.W.Frag) (n : Nat) (t : TGs) : TG := fun v σ H Q => ∃ a xs, v = .ref a ∧ SqT K H a xs ∧ xs.length = n ∧ t xs σ H Q
theorem pg_tup {es : List Expr} {k : Nat} {t : TGs} {n : Nat} (hc : X.calm = true) (h : PGs X es t)
    (hn : (assignEach es X.env).length = n := by rfl) (hst : (assignEach es X.env).findIdx? (·.1) = none := by rfl) : PG X (.Tuple es k pos) (gTup X.K n t) := by
  intro pins s σ H v u Q I r hw
  obtain ⟨a, xs, e1, hq, hl, hw⟩ := hw
  subst e1
  cases r
  obtain ⟨its, rv, ht, hz⟩ := I.tuple hq
  refine assign_Tuple_tuple (I.ok.hd hc) ht (by simp [hn, ← hl, rv.length]) hst fun h' hx => ?_
  have I1 : Inv X pins σ H { s with heap := h' } := I.kept (t' := s.toks) fun b o e => hx b o (Nat.ne_of_lt (Heap.lt_size e)) e
  exact h pins _ σ H xs _ Q I1 (by simpa using rv) hw
noncomputable def gSub (to ti : TE) (t : TSet) : TG := fun v σ H Q => to σ H fun o H1 => ti σ H1 fun i H2 => t o i v H2 fun H3 => Q σ H3
theorem pg_sub {o i : Expr} {to ti : TE} {t : TSet} (ho : PE X o to) (hi : PE X i ti) (hs : PSet X t)
    (ha : ∀ v, assign (.Subscript o i pos) X.env v = (do
      let ov ← holding [v] (eval o X.env)
      let iv ← holding [v, ov] (eval i X.env)
      standAt pos
      holding [v, ov, iv] (setItem ov iv v)
      release [v, ov, iv] []) := by intro _; rfl) : PG X (.Subscript o i pos) (gSub to ti t) := by
  intro pins s σ H v u Q I r h
  rw [ha]
  refine wpAny_bind (wpAny_holding (thn (ho pins s σ H _ I h) fun ov s1 ⟨x, H1, I1, r1, q1⟩ => ?_))
  refine wpAny_bind (wpAny_holding (thn (hi pins s1 σ H1 _ I1 q1) fun iv s2 ⟨y, H2, I2, r2, q2⟩ => ?_))
  refine wpAny_bind (wpAny_standAt (wpAny_bind (wpAny_holding (thn (hs pins s2 σ H2 x y v ov iv u _ I2 r1 r2 r q2) fun _ s3 ⟨H3, I3, q3⟩ => ?_))))
  exact wpAny_release ⟨σ, H3, I3, q3⟩
noncomputable def tAsg (te : TE) (g : TG) : TS := fun D σ H => te σ H fun x H1 => g x σ H1 D.nx
theorem ps_asg {tg e : Expr} {te : TE} {g : TG} (he : PE X e te) (hg : PG X tg g) (hs : swapsWithSole [tg] e pos.line X.env = pure false := by rfl) (hw : swappedStores [tg] e X.env = pure none := by rfl)
    (h1 : (assignEach [tg] X.env).map (·.2) = [assign tg X.env] := by rfl) : PS X (.Assign [tg] e pos) (tAsg te g) := by
  intro pins s σ H D I h
  refine wpAny_Assign_stores (thn (he pins s σ H _ I h) fun v s1 ⟨x, H1, I1, r1, q1⟩ => ?_) hs hw
  rw [h1]
  exact thn (hg pins s1 σ H1 x v _ I1 r1 q1) fun _ s2 q => q
theorem ps_set {i : Nat} {x : Str} {e : Expr} {te : TE} {pos' : Pos} (hN : X.N.Nodup) (hi : X.N[i]? = some x) (hx : Loc X.env.scope x) (he : PE X e te) (hs : swapsWith e (some (.Name x pos')) pos.line X.env = pure false := by rfl) (hf : X.fn x = true ∨ X.env.scope.names.lookup x = some .local := by first | exact .inl rfl | exact .inr rfl | assumption) :
    PS X (.Assign [.Name x pos'] e pos) (tAsg te (gName i)) := by
  intro pins s σ H D I h
  refine wpAny_Assign_Name (thn (he pins s σ H _ I h) fun v s1 ⟨y, H1, I1, r1, q1⟩ => ?_) hs
  exact store_ok I1 hN hi hx r1 (fun s2 I2 => ⟨_, H1, I2, q1⟩) hf
noncomputable def tPar (i j : Nat) (ta : TA) : TS := fun D σ H => ta σ H fun vs H1 => ∃ v w, vs = [v, w] ∧ D.nx ((σ.set i (some v)).set j (some w)) H1
theorem ps_par {i j : Nat} {x y : Str} {a b : Expr} {ta : TA} {px py pt : Pos} {kt k2 pt2} (hc : X.calm = true) (hN : X.N.Nodup) (hi : X.N[i]? = some x) (hj : X.N[j]? = some y) (hij : i ≠ j)
    (hx : X.env.scope.names.lookup x = some .local) (hy : X.env.scope.names.lookup y = some .local) (ha : PA X [a, b] ta)
    (hw : swappedStores [.Tuple [.Name x px, .Name y py] kt pt] (.Tuple [a, b] k2 pt2) X.env = pure (some [x, y]))
    (hs : swapsWithSole [.Tuple [.Name x px, .Name y py] kt pt] (.Tuple [a, b] k2 pt2) pos.line X.env = pure false := by rfl) :
    PS X (.Assign [.Tuple [.Name x px, .Name y py] kt pt] (.Tuple [a, b] k2 pt2) pos) (tPar i j ta) := by
  intro pins s σ H D I h
  rw [exec_Assign_arm]
  refine wpAny_bind (wpAny_standAt ?_)
  rw [hs]
  refine wpAny_bind (wpAny_pure ?_)
  rw [if_neg (by decide)]
  refine wpAny_bind (Tuple_ (thn (ha _ pins s σ H _ I h) fun us s1 ⟨vs, H1, I1, r1, q1⟩ => ?_))
  obtain ⟨v, w, e1, q1⟩ := q1
  subst e1
  obtain ⟨u1, u2, rfl, rv, rw'⟩ : ∃ u1 u2, us = [u1, u2] ∧ RelV v u1 ∧ RelV w u2 := by
    cases r1 with
    | cons p q =>
      cases q with
      | cons p' q' =>
        cases q'
        exact ⟨_, _, rfl, p, p'⟩
  refine wpAny_newObj_type ?_ (by show 2 ≤ sizeLine; decide)
  have I2 : Inv X pins σ H1 { s1 with heap := s1.heap.push { cls := .type "tuple", data := .seq [u1, u2].toArray } } := I1.kept (t' := s1.toks) fun b o e => Heap.get?_push_of_some _ e
  rw [hw]
  refine wpAny_bind (wpAny_pure ?_)
  show wpAny (model X.prog X.w) X.A (do rule "assign.swapped-stores"; let items ← unpackItems (.ref s1.heap.objs.size) 2 none; assignInOrder [fun v => bindName X.env y v, fun v => bindName X.env x v] items.reverse; pure Flow.next) _ _ _
  refine wpAny_bind (wpAny_rule (wpAny_bind (unpackItems_tuple (items := #[u1, u2]) (I.ok.hd hc) (IsTup.new s1.heap _) fun h' hx' => ?_)))
  have I3 := I2.kept (h' := h') (t' := s1.toks) fun b o e => hx' b o (Nat.ne_of_lt (Heap.lt_size e)) e
  show wpAny _ _ (assignInOrder [fun v => bindName X.env y v, fun v => bindName X.env x v] [u2, u1] >>= fun _ => pure Flow.next) _ _ _
  refine wpAny_bind (assignInOrder_cons (wpAny_bindName (store_ok I3 hN hj (.inl hy) rw' (fun s2 I4 => ?_) (.inr hy))))
  refine assignInOrder_cons (wpAny_bindName (store_ok I4 hN hi (.inl hx) rv (fun s3 I5 => assignInOrder_nil (wpAny_pure ?_)) (.inr hx)))
  rw [List.set_comm _ _ (Ne.symm hij)] at I5
  exact ⟨_, H1, I5, q1⟩
end
section
variable {X : Cx} {pos : Pos}
noncomputable def tWhile (c : TT) (tb : TS) : TS := fun D σ H => ∃ W : Nat → St → Hp → Prop, (∃ m, W m σ H) ∧ ∀ m σ H, W m σ H →
  c σ H fun b H1 => if b = true then ∃ N : St → Hp → Prop, (∀ σ' H', N σ' H' → ∃ m', m' < m ∧ W m' σ' H') ∧ tb { D with nx := N, ct := N, bk := D.nx } σ H1 else D.nx σ H1
theorem ps_while {c : Expr} {body : List Stmt} {tc : TT} {tb : TS} (hp : PassesOwn (model X.prog X.w) X.A X.env X.xe) (hc : PT X c tc) (hb : PSs X body tb) : PS X (.While c body [] pos) (tWhile tc tb) := by
  intro pins s σ H D I h
  obtain ⟨W, ⟨m0, w0⟩, turn⟩ := h
  refine wpAny_While (codeAny_whileLoop (fun n s' => ∃ σ' H', Inv X pins σ' H' s' ∧ W n σ' H') ?_ m0 ⟨σ, H, I, w0⟩)
  rintro n s1 ⟨σ1, H1, I1, w1⟩
  refine wpAny_passesOwn hp (thn (hc pins s1 σ1 H1 _ I1 (turn n σ1 H1 w1)) fun b s2 ⟨H2, I2, q2⟩ => ?_)
  cases b with
  | true =>
    obtain ⟨N, hN, q2⟩ := q2
    rw [if_pos rfl]
    refine wpAny_passesOwn hp (thn (hb pins s2 σ1 H2 _ I2 q2) fun f s3 q3 => ?_)
    cases f with
    | next =>
      obtain ⟨σ3, H3, I3, n3⟩ := q3
      obtain ⟨m', hm, w3⟩ := hN σ3 H3 n3
      exact ⟨m', hm, σ3, H3, I3, w3⟩
    | cont =>
      obtain ⟨σ3, H3, I3, n3⟩ := q3
      obtain ⟨m', hm, w3⟩ := hN σ3 H3 n3
      exact ⟨m', hm, σ3, H3, I3, w3⟩
    | brk => exact q3
    | ret v => exact q3
  | false =>
    rw [if_neg Bool.false_ne_true]
    exact wpAny_execs_nil ⟨σ1, H2, I2, q2⟩
end
structure It where
  go : Nat → Hp → Prop
  yld : Nat → Hp → V → Hp → Prop
  stop : Nat → Hp → Prop
noncomputable def FpOk (X : Cx) (pins : List (Addr × Obj)) (H : Hp) (b : Addr) : Prop :=
  H b = none ∧ b ≠ X.env.locals ∧ b ∉ X.fs ∧ (b ∈ X.ex ∨ X.s₀.heap.objs.size ≤ b) ∧ (∀ x c, X.env.cells.lookup x = some c → c ≠ b) ∧ ∀ p ∈ X.pn ++ pins, p.1 ≠ b
theorem Inv.fpOk {X : Cx} {pins : List (Addr × Obj)} {σ : St} {H H' : Hp} {s : Shared} {b : Addr} (I : Inv X pins σ H s) (hb : s.heap.objs.size ≤ b) (hn : H' b = none) : FpOk X pins H' b := by
  refine ⟨hn, Nat.ne_of_gt (Nat.lt_of_lt_of_le I.lt hb), I.nofs hb, .inr (Nat.le_trans I.sz hb), fun x c e z => ?_, fun p hp z => ?_⟩
  · obtain ⟨v, q⟩ := I.cell x c e
    exact absurd (Nat.lt_of_lt_of_le q.lt (by rw [z]; exact hb)) (Nat.lt_irrefl _)
  · exact absurd (Nat.lt_of_lt_of_le (Heap.lt_size (I.pin p hp).1) (by rw [z]; exact hb)) (Nat.lt_irrefl _)
structure Turn (P : Program) (w : World) (K : PySem.W.Frag) (tg : Expr) (J : It) (fp : List Addr) (it : Addr) (tn : Nat → Heap → Prop) : Prop where
  mem : it ∈ fp
  obj : ∀ i h, tn i h → ∀ b ∈ fp, ∃ o, h.get? b = some o ∧ ∀ v, o.data ≠ .cell v
  keep : ∀ i h h', tn i h → (∀ b ∈ fp, ∀ o, h.get? b = some o → h'.get? b = some o) → tn i h'
  item : ∀ (X : Cx), X.prog = P → X.w = w → X.K = K → X.calm = true → ∀ (i : Nat) (pins : List (Addr × Obj)) (s : Shared) (σ : St) (H : Hp) (E : Value → Shared → Prop), Inv X pins σ H s → (∀ b ∈ fp, FpOk X pins H b) → tn i s.heap → J.go i H →
    wpAny (model P w) X.A (pyNext (.ref it)) (fun r s1 => ∃ u, r = some u ∧
      wpAny (model P w) X.A (letOwnedTupleGo tg (.ref it) u) (fun _ s2 => ∃ x H', Inv X pins σ H' s2 ∧ RelV x u ∧ J.yld i H x H' ∧ tn (i + 1) s2.heap ∧ ∀ b ∈ fp, H' b = none) E s1) E s
  done : ∀ (X : Cx), X.prog = P → X.w = w → X.K = K → X.calm = true → ∀ (i : Nat) (pins : List (Addr × Obj)) (s : Shared) (σ : St) (H : Hp) (E : Value → Shared → Prop), Inv X pins σ H s → (∀ b ∈ fp, FpOk X pins H b) → tn i s.heap → J.stop i H →
    wpAny (model P w) X.A (pyNext (.ref it)) (fun r s1 => r = none ∧ Inv X pins σ H s1) E s
  self : ∀ (A : Around) (i : Nat) (s : Shared) (Q : Value → Shared → Prop) (E : Value → Shared → Prop), tn i s.heap → Q (.ref it) s → wpAny (model P w) A (pyIter (.ref it)) Q E s
noncomputable abbrev TI := St → Hp → (It → Hp → Prop) → Prop
noncomputable def PIE (X : Cx) (pins : List (Addr × Obj)) (σ : St) (tg : Expr) (R : It → Hp → Prop) (itv : Value) (s2 : Shared) : Prop :=
  ∃ (it : Addr) (fp : List Addr) (tn : Nat → Heap → Prop) (J : It) (H' : Hp), itv = .ref it ∧ Inv X pins σ H' s2 ∧ Turn X.prog X.w X.K tg J fp it tn ∧ tn 0 s2.heap ∧ (∀ b ∈ fp, FpOk X pins H' b) ∧ R J H'
noncomputable def PI (X : Cx) (tg iter : Expr) (wi : TI) : Prop :=
  ∀ (pins : List (Addr × Obj)) (s : Shared) (σ : St) (H : Hp) (R : It → Hp → Prop), Inv X pins σ H s → wi σ H R →
    wpAny (model X.prog X.w) X.A (eval iter X.env) (fun v s1 => wpAny (model X.prog X.w) X.A (pyIter v) (PIE X pins σ tg R) X.xe s1) X.xe s
theorem go_of {M : Model} {A : Around} {E : Value → Shared → Prop} {s : Shared} {tg : Expr} {it : Addr} {u : Value} {o : Obj} {n : String} {vs : Array Value} {Q : Unit → Shared → Prop} (ho : s.heap.get? it = some o) (hc : o.cls = .type n) (hd : o.data = .fields vs)
    (hn : ["enumerate", "zip", "dict_itemiterator", "dict_reverseitemiterator", "odict_iterator", "itertools.zip_longest", "itertools.pairwise"].contains n = false) (hQ : Q () s) : wpAny M A (letOwnedTupleGo tg (.ref it) u) Q E s := by
  unfold letOwnedTupleGo
  cases tg <;> first
    | exact wpAny_pure hQ
    | (cases u <;> first
        | exact wpAny_pure hQ
        | (refine wpAny_bind (wpAny_load ho ?_)
           rw [hc, hd]
           show wpAny M A (if (["enumerate", "zip", "dict_itemiterator", "dict_reverseitemiterator", "odict_iterator", "itertools.zip_longest", "itertools.pairwise"].contains n && vs[0]? == some (rawInt _)) = true then _ else _) Q E s
           rw [if_neg (by intro h; rw [hn, Bool.false_and] at h; cases h)]
           exact wpAny_pure hQ))
noncomputable def Itl (K : PySem.W.Frag) (a : Addr) : It :=
  ⟨fun i H => ∃ xs x, SqL K H a xs ∧ xs[i]? = some x, fun i H x H' => H' = H ∧ ∀ xs, SqL K H a xs → xs[i]? = some x, fun i H => ∃ xs, SqL K H a xs ∧ xs.length ≤ i⟩
noncomputable def Itr (lo : Int) (n : Nat) : It := ⟨fun i _ => i < n, fun i H x H' => H' = H ∧ x = .int (lo + i), fun i _ => n ≤ i⟩
theorem turn_list {P : Program} {w : World} {K : PySem.W.Frag} {tg : Expr} (a it : Addr) : Turn P w K tg (Itl K a) [it] it (fun i h => h.IsListIter it a i) where
  mem := by simp
  obj := fun i h st b hb => by
    have e : b = it := by simpa using hb
    subst e
    obtain ⟨o, e, c, d⟩ := st
    exact ⟨o, e, fun v z => by rw [d] at z; cases z⟩
  keep := fun i h h' st k => st.at fun o e => k it (by simp) o e
  item := by
    intro X hP hw hK hc i pins s σ H E I hf st hg
    subst hP hw hK
    obtain ⟨xs, x, hq, hx⟩ := hg
    obtain ⟨its, rv, p, hz⟩ := I.list hq
    obtain ⟨u, hu, ru⟩ := rv.get hx
    obtain ⟨f0, f1, f2, f3, f4, f5⟩ := hf it (by simp)
    refine wpAny_pyNext_list_item st p.isList (x := u) (by simpa using hu) fun h' st' sb => ?_
    have I1 : Inv X pins σ H { s with heap := h' } := I.turned (t' := s.toks) (fun b o hb e => (sb.2 b hb).trans e) f0 f1 f3 f4 f5
    obtain ⟨o, e, c, d⟩ := id st'
    exact ⟨u, rfl, go_of (s := { s with heap := h' }) e c d (by decide) ⟨x, H, I1, ru, ⟨rfl, fun ys hy => by rw [I.list_inj hy hq]; exact hx⟩, st', fun b hb => (hf b hb).1⟩⟩
  done := by
    intro X hP hw hK hc i pins s σ H E I hf st hg
    subst hP hw hK
    obtain ⟨xs, hq, hx⟩ := hg
    obtain ⟨its, rv, p, hz⟩ := I.list hq
    obtain ⟨f0, f1, f2, f3, f4, f5⟩ := hf it (by simp)
    have hl := rv.length
    exact wpAny_pyNext_list_end (I.ok.hd hc) st p.isList (by simp; omega) fun h' eb => ⟨rfl, I.turned (t' := s.toks) (fun b o hb e => eb b o hb e) f0 f1 f3 f4 f5⟩
  self := fun _ _ _ _ _ st h => wpAny_pyIter_listiter st h
theorem turn_range {P : Program} {w : World} {K : PySem.W.Frag} {tg : Expr} (it : Addr) (lo : Int) (n : Nat) : Turn P w K tg (Itr lo n) [it] it (fun i h => IsRangeIter h it (lo + (i : Nat) * 1) ((n : Int) - (i : Nat)) 1) where
  mem := by simp
  obj := fun i h st b hb => by
    have e : b = it := by simpa using hb
    subst e
    exact ⟨_, st, fun v z => by
      have z' : Data.fields _ = Data.cell v := z
      cases z'⟩
  keep := fun i h h' st k => k it (by simp) _ st
  item := by
    intro X hP hw hK hc i pins s σ H E I hf st hg
    subst hP hw hK
    obtain ⟨f0, f1, f2, f3, f4, f5⟩ := hf it (by simp)
    have W := Walks.range (prog := X.prog) (w := X.w) (I.ok.hd hc) it lo 1 n
    refine W.item i s _ _ hg st fun v h' tk hv st' kk => ?_
    obtain ⟨t, rfl⟩ := hv
    have I1 : Inv X pins σ H { s with heap := h', toks := tk } := I.turned (fun b o hb e => kk b o (by simpa using hb) e) f0 f1 f3 f4 f5
    refine ⟨_, rfl, go_of (s := { s with heap := h', toks := tk }) (n := "range_iterator") st' rfl rfl (by decide) ⟨.int (lo + i), H, I1, ⟨t, ?_⟩, ⟨rfl, rfl⟩, st', fun b hb => (hf b hb).1⟩⟩
    rw [Int.mul_one]
  done := by
    intro X hP hw hK hc i pins s σ H E I hf st hg
    subst hP hw hK
    obtain ⟨f0, f1, f2, f3, f4, f5⟩ := hf it (by simp)
    exact wpAny_pyNext_range_end (I.ok.hd hc) st (by have : n ≤ i := hg; omega) fun h' eb => ⟨rfl, I.turned (t' := s.toks) (fun b o hb e => eb b o hb e) f0 f1 f3 f4 f5⟩
  self := fun _ _ _ _ _ st h => wpAny_pyIter_rangeiter st h
end L2
namespace L2
open PySem PySem.Spec PyProof.Rows
section
variable {X : Cx} {tg : Expr}
noncomputable def iList (K : PySem.W.Frag) (tl : TE) : TI := fun σ H R => tl σ H fun x H1 => ∃ a, x = .ref a ∧ (∃ xs, SqL K H1 a xs) ∧ R (Itl K a) H1
theorem pi_list {l : Expr} {tl : TE} (hl : PE X l tl) : PI X tg l (iList X.K tl) := by
  intro pins s σ H R I h
  refine thn (hl pins s σ H _ I h) fun v s1 ⟨x, H1, I1, r1, q1⟩ => ?_
  obtain ⟨a, e, ⟨xs, hq⟩, q⟩ := q1
  subst e
  cases r1
  obtain ⟨its, rv, p, hz⟩ := I1.list hq
  refine wpAny_pyIter_list p.isList ?_
  refine ⟨s1.heap.objs.size, [s1.heap.objs.size], _, _, H1, rfl, I1.kept (t' := s1.toks) fun b o e => Heap.get?_push_of_some _ e, turn_list a _, ⟨_, Heap.get?_push_size _ rfl, rfl, rfl⟩, fun b hb => ?_, q⟩
  have e : b = s1.heap.objs.size := by simpa using hb
  subst e
  exact I1.fpOk (Nat.le_refl _) (I1.hok.fresh (Nat.le_refl _))
theorem range_it {pins : List (Addr × Obj)} {σ : St} {H : Hp} {s : Shared} {R : It → Hp → Prop} {E : Value → Shared → Prop} {lo hi : Int} {t u v : Tok} {tk : Nat} (I : Inv X pins σ H s) (h1 : -(2 ^ 62) ≤ lo) (h2 : lo < 2 ^ 62) (h3 : -(2 ^ 62) ≤ hi) (h4 : hi < 2 ^ 62)
    (q : R (Itr lo (hi - lo).toNat) H) : wpAny (model X.prog X.w) X.A (pyIter (.ref s.heap.objs.size)) (PIE X pins σ tg R) E { s with heap := s.heap.push { cls := .type "range", data := .fields #[.int lo t, .int hi u, .int 1 v] }, toks := tk } := by
  refine wpAny_pyIter_range (IsRange.new ..) (small_one h1 h2 h3 h4) ?_
  have I1 : Inv X pins σ H { s with heap := s.heap.push { cls := .type "range", data := .fields #[.int lo t, .int hi u, .int 1 v] }, toks := tk } := I.kept fun b o e => Heap.get?_push_of_some _ e
  refine ⟨(s.heap.push { cls := .type "range", data := .fields #[.int lo t, .int hi u, .int 1 v] }).objs.size, [(s.heap.push { cls := .type "range", data := .fields #[.int lo t, .int hi u, .int 1 v] }).objs.size], _, _, H, rfl,
    I1.kept (t' := tk) fun b o e => Heap.get?_push_of_some _ e, turn_range _ lo (hi - lo).toNat, ?_, fun b hb => ?_, q⟩
  · have e1 : lo + ((0 : Nat) : Int) * 1 = lo := by simp
    have e2 : (((hi - lo).toNat : Nat) : Int) - ((0 : Nat) : Int) = Builtin.Range.rangeSize lo hi 1 := by rw [rangeSize_one]; split <;> omega
    show IsRangeIter _ _ (lo + ((0 : Nat) : Int) * 1) ((((hi - lo).toNat : Nat) : Int) - ((0 : Nat) : Int)) 1
    rw [e1, e2]
    exact Heap.get?_push_size _ rfl
  · have e : b = (s.heap.push { cls := .type "range", data := .fields #[.int lo t, .int hi u, .int 1 v] }).objs.size := by simpa using hb
    subst e
    exact I1.fpOk (Nat.le_refl _) (I1.hok.fresh (Nat.le_refl _))
noncomputable def iRng1 (ta : TA) : TI := fun σ H R => ta σ H fun vs H1 => ∃ j : Int, vs = [.int j] ∧ -(2 ^ 62) ≤ j ∧ j < 2 ^ 62 ∧ R (Itr 0 j.toNat) H1
noncomputable def iRng2 (ta : TA) : TI := fun σ H R => ta σ H fun vs H1 => ∃ i j : Int, vs = [.int i, .int j] ∧ (-(2 ^ 62) ≤ i ∧ i < 2 ^ 62 ∧ -(2 ^ 62) ≤ j ∧ j < 2 ^ 62) ∧ R (Itr i (j - i).toNat) H1
theorem pi_range1 {a : Expr} {ta : TA} {p pos : Pos} (hg : Gl X "range") (hm : X.mg "range" = none) (ha : PA X [a] ta) (hs : starEach [a] X.env = [(false, eval a X.env)] := by rfl) : PI X tg (.Call (.Name "range" p) [a] [] pos) (iRng1 ta) := by
  intro pins s σ H R I h
  refine Call_ (ld_blt I hg hm boot_range (PyProof.Rows.callWith_type1 (thn (ha pos pins s σ H _ I h) fun us s1 ⟨vs, H1, I1, r1, q1⟩ => ?_) hs rfl))
  obtain ⟨j, e, q1, q2, q⟩ := q1
  subst e
  cases r1 with
  | cons r rr =>
    cases rr
    obtain ⟨t, rfl⟩ := r
    exact call_range_1 (range_it I1 (by omega) (by omega) q1 q2 (by simpa using q))
noncomputable def tFor (wi : TI) (g : TG) (tb : TS) : TS := fun D σ H => wi σ H fun J H1 => ∃ W : Nat → Nat → St → Hp → Prop, (∃ m, W 0 m σ H1) ∧ ∀ i m σ H, W i m σ H →
  (J.stop i H ∧ D.nx σ H) ∨ (J.go i H ∧ ∃ N : St → Hp → Prop, (∀ σ' H', N σ' H' → ∃ m', m' < m ∧ W (i + 1) m' σ' H') ∧ ∀ x H', J.yld i H x H' → g x σ H' fun σ2 H2 => tb { D with nx := N, ct := N, bk := D.nx } σ2 H2)
noncomputable def pinsAt (fp : List Addr) (h : Heap) : List (Addr × Obj) := fp.filterMap fun b => (h.get? b).map fun o => (b, o)
theorem mem_pinsAt {fp : List Addr} {h : Heap} {b : Addr} {o : Obj} (hb : b ∈ fp) (e : h.get? b = some o) : (b, o) ∈ pinsAt fp h := List.mem_filterMap.mpr ⟨b, hb, by rw [e]; rfl⟩
theorem of_pinsAt {fp : List Addr} {h : Heap} {p : Addr × Obj} (hp : p ∈ pinsAt fp h) : p.1 ∈ fp ∧ h.get? p.1 = some p.2 := by
  obtain ⟨b, hb, e⟩ := List.mem_filterMap.mp hp
  cases q : h.get? b with
  | none => rw [q] at e; cases e
  | some o =>
    rw [q] at e
    have e' : (b, o) = p := Option.some.inj e
    subst e'
    exact ⟨hb, q⟩
theorem Inv.pinned {pins : List (Addr × Obj)} {σ : St} {H : Hp} {s : Shared} {fp : List Addr} (I : Inv X pins σ H s) (hf : ∀ b ∈ fp, FpOk X pins H b) (ho : ∀ b ∈ fp, ∃ o, s.heap.get? b = some o ∧ ∀ v, o.data ≠ .cell v) : Inv X (pins ++ pinsAt fp s.heap) σ H s :=
  I.pins_of fun p hp => (List.mem_append.mp hp).elim (fun z => I.pin p (List.mem_append_right _ z)) fun z => by
    obtain ⟨hb, e⟩ := of_pinsAt z
    obtain ⟨f0, f1, f2, _⟩ := hf p.1 hb
    obtain ⟨o, e', d⟩ := ho p.1 hb
    rw [e] at e'; cases e'
    exact ⟨e, f0, f1, f2, d⟩
theorem Inv.unpinned {pins pl : List (Addr × Obj)} {σ : St} {H : Hp} {s : Shared} (I : Inv X (pins ++ pl) σ H s) : Inv X pins σ H s := I.pins_of fun p hp => I.pin p (List.mem_append_right _ (List.mem_append_left _ hp))
theorem ps_for {iter : Expr} {body : List Stmt} {wi : TI} {g : TG} {tb : TS} {pos : Pos} (hp : PassesOwn (model X.prog X.w) X.A X.env X.xe) (hc : X.calm = true) (hi : PI X tg iter wi) (hg : PG X tg g) (hb : PSs X body tb)
    (hs : ∀ x, foldedSetIterable iter X.env x = pure x := by intro _; rfl) : PS X (.For tg iter body [] pos) (tFor wi g tb) := by
  intro pins s σ H D I h
  refine wpAny_For (thn (hi pins s σ H _ I h) fun v s1 h1 => thn h1 fun itv s2 h2 => ?_) hs
  obtain ⟨it, fp, tn, J, H2, e, I2, T, st2, f2, W, ⟨m0, w0⟩, turn⟩ := h2
  subst e
  -- what stays true of the iterator's objects through the loop
  have stat : ∀ {H' : Hp}, (∀ b ∈ fp, H' b = none) → ∀ b ∈ fp, FpOk X pins H' b := fun hn b hb => ⟨hn b hb, (f2 b hb).2⟩
  refine codeAny_forLoop_any (fun n s' => ∃ i σ' H', Inv X pins σ' H' s' ∧ tn i s'.heap ∧ (∀ b ∈ fp, H' b = none) ∧ W i n σ' H') ?_ m0 ⟨0, σ, H2, I2, st2, fun b hb => (f2 b hb).1, w0⟩
  rintro n s3 ⟨i, σ3, H3, I3, st3, fr3, w3⟩
  rcases turn i n σ3 H3 w3 with ⟨stop, qn⟩ | ⟨go, N, hN, step⟩
  · refine wpAny_passesOwn hp (thn (T.done X rfl rfl rfl hc i pins s3 σ3 H3 X.xe I3 (stat fr3) st3 stop) fun r s4 ⟨hr, I4⟩ => ?_)
    subst hr
    exact wpAny_execs_nil ⟨σ3, H3, I4, qn⟩
  · refine wpAny_passesOwn hp (thn (T.item X rfl rfl rfl hc i pins s3 σ3 H3 X.xe I3 (stat fr3) st3 go) fun r s4 ⟨u, hr, h4⟩ => ?_)
    subst hr
    refine wpAny_passesOwn hp (thn h4 fun _ s5 ⟨x, H5, I5, r5, y5, st5, fr5⟩ => ?_)
    have I5' := I5.pinned (stat fr5) (T.obj _ _ st5)
    refine wpAny_passesOwn hp (thn (hg _ s5 σ3 H5 x u _ I5' r5 (step x H5 y5)) fun _ s6 ⟨σ6, H6, I6, q6⟩ => ?_)
    refine wpAny_passesOwn hp (thn (hb _ s6 σ6 H6 _ I6 q6) fun f s7 q7 => ?_)
    have again : ∀ {σ7 : St} {H7 : Hp}, Inv X (pins ++ pinsAt fp s5.heap) σ7 H7 s7 → N σ7 H7 → ∃ m, m < n ∧ ∃ i σ' H', Inv X pins σ' H' s7 ∧ tn i s7.heap ∧ (∀ b ∈ fp, H' b = none) ∧ W i m σ' H' := fun {σ7 H7} I7 n7 => by
      obtain ⟨m', hm, w7⟩ := hN σ7 H7 n7
      refine ⟨m', hm, i + 1, σ7, H7, I7.unpinned, T.keep _ _ _ st5 fun b hb o e => (I7.pin (b, o) (List.mem_append_right _ (List.mem_append_right _ (mem_pinsAt hb e)))).1, fun b hb => ?_, w7⟩
      obtain ⟨o, e, d⟩ := T.obj _ _ st5 b hb
      exact (I7.pin (b, o) (List.mem_append_right _ (List.mem_append_right _ (mem_pinsAt hb e)))).2.1
    cases f with
    | next => obtain ⟨σ7, H7, I7, n7⟩ := q7; exact again I7 n7
    | cont => obtain ⟨σ7, H7, I7, n7⟩ := q7; exact again I7 n7
    | brk => obtain ⟨σ7, H7, I7, q7⟩ := q7; exact ⟨σ7, H7, I7.unpinned, q7⟩
    | ret v => obtain ⟨x7, σ7, H7, I7, r7, q7⟩ := q7; exact ⟨x7, σ7, H7, I7.unpinned, r7, q7⟩
end
theorem for_list {K : PySem.W.Frag} {a : Addr} {xs : List V} {g : TG} {tb : TS} {D : Ends} {σ : St} {H : Hp} (Pv : Nat → St → Hp → Prop) (h0 : Pv 0 σ H) (hl : ∀ i σ H, i ≤ xs.length → Pv i σ H → SqL K H a xs)
    (hs : ∀ i x σ H, xs[i]? = some x → Pv i σ H → g x σ H fun σ2 H2 => tb { D with nx := Pv (i + 1), ct := Pv (i + 1), bk := D.nx } σ2 H2) (hd : ∀ σ H, Pv xs.length σ H → D.nx σ H) :
    ∃ W : Nat → Nat → St → Hp → Prop, (∃ m, W 0 m σ H) ∧ ∀ i m σ H, W i m σ H →
      ((Itl K a).stop i H ∧ D.nx σ H) ∨ ((Itl K a).go i H ∧ ∃ N : St → Hp → Prop, (∀ σ' H', N σ' H' → ∃ m', m' < m ∧ W (i + 1) m' σ' H') ∧ ∀ x H', (Itl K a).yld i H x H' → g x σ H' fun σ2 H2 => tb { D with nx := N, ct := N, bk := D.nx } σ2 H2) := by
  refine ⟨fun i m σ H => m = xs.length - i ∧ i ≤ xs.length ∧ Pv i σ H, ⟨xs.length, by simp, Nat.zero_le _, h0⟩, ?_⟩
  rintro i m σ H ⟨rfl, hi, p⟩
  have q := hl i σ H hi p
  by_cases hlt : i < xs.length
  · refine .inr ⟨⟨xs, xs[i], q, by simp [hlt]⟩, Pv (i + 1), fun σ' H' p' => ⟨xs.length - (i + 1), by omega, rfl, hlt, p'⟩, fun x H' y => ?_⟩
    obtain ⟨e, y⟩ := y
    subst e
    exact hs i x σ _ (y xs q) p
  · have e : i = xs.length := by omega
    subst e
    exact .inl ⟨⟨xs, q, Nat.le_refl _⟩, hd σ H p⟩
theorem for_range {lo : Int} {n : Nat} {g : TG} {tb : TS} {D : Ends} {σ : St} {H : Hp} (Pv : Nat → St → Hp → Prop) (h0 : Pv 0 σ H)
    (hs : ∀ i σ H, i < n → Pv i σ H → g (.int (lo + i)) σ H fun σ2 H2 => tb { D with nx := Pv (i + 1), ct := Pv (i + 1), bk := D.nx } σ2 H2) (hd : ∀ σ H, Pv n σ H → D.nx σ H) :
    ∃ W : Nat → Nat → St → Hp → Prop, (∃ m, W 0 m σ H) ∧ ∀ i m σ H, W i m σ H →
      ((Itr lo n).stop i H ∧ D.nx σ H) ∨ ((Itr lo n).go i H ∧ ∃ N : St → Hp → Prop, (∀ σ' H', N σ' H' → ∃ m', m' < m ∧ W (i + 1) m' σ' H') ∧ ∀ x H', (Itr lo n).yld i H x H' → g x σ H' fun σ2 H2 => tb { D with nx := N, ct := N, bk := D.nx } σ2 H2) := by
  refine ⟨fun i m σ H => m = n - i ∧ i ≤ n ∧ Pv i σ H, ⟨n, by simp, Nat.zero_le _, h0⟩, ?_⟩
  rintro i m σ H ⟨rfl, hi, p⟩
  by_cases hlt : i < n
  · refine .inr ⟨hlt, Pv (i + 1), fun σ' H' p' => ⟨n - (i + 1), by omega, rfl, hlt, p'⟩, fun x H' y => ?_⟩
    obtain ⟨e, y⟩ := y
    subst e y
    exact hs i σ _ hlt p
  · have e : i = n := by omega
    subst e
    exact .inl ⟨Nat.le_refl _, hd σ H p⟩
end L2
namespace L2
open PySem PySem.Spec PyProof.Rows
noncomputable abbrev R2 := V → V → Hp → VK → Prop
noncomputable def OpR (X : Cx) (f : Value → Value → Sem Value) (r : R2) : Prop :=
  ∀ (pins : List (Addr × Obj)) (s : Shared) (σ : St) (H : Hp) (x y : V) (v u : Value) (Q : VK), Inv X pins σ H s → RelV x v → RelV y u → r x y H Q →
    wpAny (model X.prog X.w) X.A (f v u) (EP X pins σ Q) X.xe s
noncomputable def UnR (X : Cx) (f : Value → Sem Value) (r : V → Hp → VK → Prop) : Prop :=
  ∀ (pins : List (Addr × Obj)) (s : Shared) (σ : St) (H : Hp) (x : V) (v : Value) (Q : VK), Inv X pins σ H s → RelV x v → r x H Q →
    wpAny (model X.prog X.w) X.A (f v) (EP X pins σ Q) X.xe s
noncomputable def CallR (X : Cx) (f : Value) (r : List V → Hp → VK → Prop) : Prop :=
  ∀ (pins : List (Addr × Obj)) (s : Shared) (σ : St) (H : Hp) (xs : List V) (us : List Value) (Q : VK), Inv X pins σ H s → Vals xs us → r xs H Q →
    wpAny (model X.prog X.w) X.A (call f us) (EP X pins σ Q) X.xe s
noncomputable def tOp (r : R2) (ta tb : TE) : TE := fun σ H Q => ta σ H fun x H1 => tb σ H1 fun y H2 => r x y H2 Q
noncomputable def tUn (r : V → Hp → VK → Prop) (ta : TE) : TE := fun σ H Q => ta σ H fun x H1 => r x H1 Q
noncomputable def rI (C : Int → Int → Prop) (g : Int → Int → V) : R2 := fun x y H Q => ∃ i j, x = .int i ∧ y = .int j ∧ C i j ∧ Q (g i j) H
noncomputable def rI0 (g : Int → Int → V) : R2 := fun x y H Q => ∃ i j, x = .int i ∧ y = .int j ∧ Q (g i j) H
noncomputable def rU (g : Int → V) : V → Hp → VK → Prop := fun x H Q => ∃ i, x = .int i ∧ Q (g i) H
section
variable {X : Cx} {a b c : Expr} {ta tb tc : TE} {pos : Pos}
theorem binT (ha : PE X a ta) (hb : PE X b tb) {pins : List (Addr × Obj)} {s : Shared} {σ : St} {H : Hp} {R : V → V → Hp → Prop} (I : Inv X pins σ H s)
    (h : ta σ H fun x H1 => tb σ H1 fun y H2 => R x y H2) {Q : Value → Shared → Prop} {f : Value → Value → Sem Value}
    (hf : ∀ v u s2 x y H2, Inv X pins σ H2 s2 → RelV x v → RelV y u → R x y H2 → wpAny (model X.prog X.w) X.A (f v u) Q X.xe s2) :
    wpAny (model X.prog X.w) X.A (eval a X.env) (fun v s₁ => wpAny (model X.prog X.w) X.A (eval b X.env) (fun u s₂ => wpAny (model X.prog X.w) X.A (f v u) Q X.xe s₂) X.xe s₁) X.xe s := by
  refine thn (ha pins s σ H _ I h) fun v s1 ⟨x, H1, I1, r1, q1⟩ => ?_
  refine thn (hb pins s1 σ H1 _ I1 q1) fun u s2 ⟨y, H2, I2, r2, q2⟩ => ?_
  exact hf v u s2 x y H2 I2 r1 r2 q2
theorem pe_op {op : Operator} {r : R2} (ho : OpR X (binaryOp op) r) (ha : PE X a ta) (hb : PE X b tb) : PE X (.BinOp a op b pos) (tOp r ta tb) := by
  intro pins s σ H Q I h
  exact wpAny_BinOp (binT ha hb I h fun v u s2 x y H2 I2 rx ry q => ho pins s2 σ H2 x y v u Q I2 rx ry q)
theorem pe_un {op : UnaryOp} {r : V → Hp → VK → Prop} (ho : UnR X (unaryOp op) r) (ha : PE X a ta) : PE X (.UnaryOp op a pos) (tUn r ta) := by
  intro pins s σ H Q I h
  exact UnaryOp_ (thn (ha pins s σ H _ I h) fun v s1 ⟨x, H1, I1, r1, q1⟩ => ho pins s1 σ H1 x v Q I1 r1 q1)
theorem opI {f : Value → Value → Sem Value} {C : Int → Int → Prop} {g : Int → Int → Int}
    (rule : ∀ (i j : Int) (t u : Tok) (s : Shared) (Q : Value → Shared → Prop) (E : Value → Shared → Prop), C i j → Q (.int (g i j) s.toks) { s with toks := s.toks + 1 } → wpAny (model X.prog X.w) X.A (f (.int i t) (.int j u)) Q E s) :
    OpR X f (rI C fun i j => .int (g i j)) := by
  intro pins s σ H x y v u Q I rx ry h
  obtain ⟨i, j, rfl, rfl, hc, q⟩ := h
  obtain ⟨t, rfl⟩ := rx
  obtain ⟨t', rfl⟩ := ry
  exact rule i j t t' s _ _ hc ⟨.int (g i j), H, I.tok _, ⟨_, rfl⟩, q⟩
theorem opI0 {f : Value → Value → Sem Value} {g : Int → Int → Int}
    (rule : ∀ (i j : Int) (t u : Tok) (s : Shared) (Q : Value → Shared → Prop) (E : Value → Shared → Prop), Q (.int (g i j) s.toks) { s with toks := s.toks + 1 } → wpAny (model X.prog X.w) X.A (f (.int i t) (.int j u)) Q E s) :
    OpR X f (rI0 fun i j => .int (g i j)) := by
  intro pins s σ H x y v u Q I rx ry h
  obtain ⟨i, j, rfl, rfl, q⟩ := h
  obtain ⟨t, rfl⟩ := rx
  obtain ⟨t', rfl⟩ := ry
  exact rule i j t t' s _ _ ⟨.int (g i j), H, I.tok _, ⟨_, rfl⟩, q⟩
theorem opB0 {f : Value → Value → Sem Value} {g : Int → Int → Bool}
    (rule : ∀ (i j : Int) (t u : Tok) (s : Shared) (Q : Value → Shared → Prop) (E : Value → Shared → Prop), Q (.bool (g i j)) s → wpAny (model X.prog X.w) X.A (f (.int i t) (.int j u)) Q E s) :
    OpR X f (rI0 fun i j => .bl (g i j)) := by
  intro pins s σ H x y v u Q I rx ry h
  obtain ⟨i, j, rfl, rfl, q⟩ := h
  obtain ⟨t, rfl⟩ := rx
  obtain ⟨t', rfl⟩ := ry
  exact rule i j t t' s _ _ ⟨.bl (g i j), H, I, rfl, q⟩
noncomputable def CDiv (i j : Int) : Prop := 0 < j ∧ j < 1073741824
noncomputable def CPow (i j : Int) : Prop := 0 ≤ j ∧ j ≤ 1000000 ∧ i.natAbs < 2 ^ 64
noncomputable def CMul (i j : Int) : Prop := (-(2 ^ 64) < i ∧ i < 2 ^ 64) ∨ (-(2 ^ 64) < j ∧ j < 2 ^ 64)
theorem CMul.ok {i j : Int} (h : CMul i j) : IntMulOk i j := by
  rcases h with ⟨h1, h2⟩ | ⟨h1, h2⟩
  · exact .of_left (intBits_le_64 h1 h2)
  · exact .of_right (intBits_le_64 h1 h2)
theorem op_add : OpR X (binaryOp .Add) (rI0 fun i j => .int (i + j)) := opI0 fun _ _ _ _ _ _ _ q => add_int q
theorem op_sub : OpR X (binaryOp .Sub) (rI0 fun i j => .int (i - j)) := opI0 fun _ _ _ _ _ _ _ q => sub_int q
theorem op_fdiv : OpR X (binaryOp .FloorDiv) (rI CDiv fun i j => .int (i / j)) := opI fun i j _ _ _ _ _ hc q => by
  have h1 : (0 : Int) < j := hc.1
  have h2 : j < 1073741824 := hc.2
  exact floordiv_int (by omega) (by rw [Int.fdiv_eq_ediv_of_nonneg i (by omega)]; exact q) (.inl (PyProof.noPylong_small (by omega)))
theorem op_mod : OpR X (binaryOp .Mod) (rI (fun _ j => 0 < j) fun i j => .int (i % j)) := opI fun i j _ _ _ _ _ hc q => by
  have h1 : (0 : Int) < j := hc
  exact mod_int' (by omega) (by rw [Int.fmod_eq_emod_of_nonneg i (by omega)]; exact q)
theorem op_modN : OpR X (binaryOp .Mod) (rI (fun _ j => j ≠ 0) fun i j => .int (i.fmod j)) := opI fun _ _ _ _ _ _ _ hc q => mod_int' hc q
theorem op_pow : OpR X (binaryOp .Pow) (rI CPow fun i j => .int (i ^ j.toNat)) := opI fun _ _ _ _ _ _ _ hc q => pow_int_small hc.1 hc.2.1 hc.2.2 q
theorem op_and : OpR X (binaryOp .BitAnd) (rI0 fun i j => .int (Builtin.bitAnd i j)) := opI0 fun _ _ _ _ _ _ _ q => and_int q
theorem op_or : OpR X (binaryOp .BitOr) (rI0 fun i j => .int (Builtin.bitOr i j)) := opI0 fun _ _ _ _ _ _ _ q => or_int q
theorem unI {f : Value → Sem Value} {g : Int → Int}
    (rule : ∀ (i : Int) (t : Tok) (s : Shared) (Q : Value → Shared → Prop) (E : Value → Shared → Prop), Q (.int (g i) s.toks) { s with toks := s.toks + 1 } → wpAny (model X.prog X.w) X.A (f (.int i t)) Q E s) :
    UnR X f (rU fun i => .int (g i)) := by
  intro pins s σ H x v Q I rx h
  obtain ⟨i, rfl, q⟩ := h
  obtain ⟨t, rfl⟩ := rx
  exact rule i t s _ _ ⟨.int (g i), H, I.tok _, ⟨_, rfl⟩, q⟩
theorem un_neg : UnR X (unaryOp .USub) (rU fun i => .int (-i)) := unI fun _ _ _ _ _ q => neg_int q
end
noncomputable def scal : V → V → Bool
  | .non, .non => true | .non, .int _ => true | .int _, .non => true | .non, .bl _ => true | .bl _, .non => true | .non, .str _ => true | .str _, .non => true
  | .int _, .int _ => true | .bl _, .bl _ => true | .str _, .str _ => true | .byt _, .byt _ => true
  | .int _, .str _ => true | .str _, .int _ => true | .bl _, .str _ => true | .str _, .bl _ => true
  | _, _ => false
noncomputable def rEq : R2 := fun x y H Q => scal x y = true ∧ Q (.bl (decide (x = y))) H
noncomputable def rNe : R2 := fun x y H Q => scal x y = true ∧ Q (.bl (!decide (x = y))) H
theorem dec_int {i j : Int} : decide (V.int i = V.int j) = (i == j) := by
  rw [Bool.eq_iff_iff]
  simp
theorem dec_bl {i j : Bool} : decide (V.bl i = V.bl j) = (i == j) := by
  rw [Bool.eq_iff_iff]
  simp
theorem dec_str {i j : Str} : decide (V.str i = V.str j) = (i == j) := by
  rw [Bool.eq_iff_iff]
  simp
theorem dec_byt {i j : Array UInt8} : decide (V.byt i = V.byt j) = (i.toList == j.toList) := by
  rw [Bool.eq_iff_iff]
  cases i
  cases j
  simp
section
variable {X : Cx} {a b c : Expr} {ta tb tc : TE} {pos : Pos}
theorem fin_bl {pins : List (Addr × Obj)} {σ : St} {H : Hp} {s : Shared} {Q : VK} {k k' : Bool} (I : Inv X pins σ H s) (q : Q (.bl k) H) (e : k = k') : EP X pins σ Q (.bool k') s := by
  subst e
  exact ⟨.bl k, H, I, rfl, q⟩
theorem op_eq : OpR X (compareOp .Eq) rEq := by
  intro pins s σ H x y v u Q I rx ry h
  obtain ⟨hs, q⟩ := h
  cases x with
  | non =>
    cases rx
    cases y with
    | non => cases ry; exact PySem.EqNone.eq_none_none (fin_bl I q (by simp))
    | bl j => cases ry; exact PySem.EqNone.eq_none_bool (fin_bl I q (by simp))
    | int j => obtain ⟨t', rfl⟩ := ry; exact PySem.EqNone.eq_none_int (fin_bl I q (by simp))
    | str j => obtain ⟨t', rfl⟩ := ry; exact PySem.EqNone.eq_none_str (fin_bl I q (by simp))
    | _ => exact absurd (show false = true from hs) Bool.false_ne_true
  | bl i =>
    cases rx
    cases y with
    | non => cases ry; exact PySem.EqNone.eq_bool_none (fin_bl I q (by simp))
    | bl j => cases ry; exact eq_bool (fin_bl I q dec_bl)
    | str j => obtain ⟨t', rfl⟩ := ry; exact PySem.EqMixed.eq_bool_str (fin_bl I q (by simp))
    | _ => exact absurd (show false = true from hs) Bool.false_ne_true
  | int i =>
    obtain ⟨t, rfl⟩ := rx
    cases y with
    | non => cases ry; exact PySem.EqNone.eq_int_none (fin_bl I q (by simp))
    | int j => obtain ⟨t', rfl⟩ := ry; exact eq_int (fin_bl I q dec_int)
    | str j => obtain ⟨t', rfl⟩ := ry; exact PySem.EqMixed.eq_int_str (fin_bl I q (by simp))
    | _ => exact absurd (show false = true from hs) Bool.false_ne_true
  | str i =>
    obtain ⟨t, rfl⟩ := rx
    cases y with
    | non => cases ry; exact PySem.EqNone.eq_str_none (fin_bl I q (by simp))
    | bl j => cases ry; exact PySem.EqMixed.eq_str_bool (fin_bl I q (by simp))
    | int j => obtain ⟨t', rfl⟩ := ry; exact PySem.EqMixed.eq_str_int (fin_bl I q (by simp))
    | str j => obtain ⟨t', rfl⟩ := ry; exact eq_str (fin_bl I q dec_str)
    | _ => exact absurd (show false = true from hs) Bool.false_ne_true
  | byt i =>
    obtain ⟨t, rfl⟩ := rx
    cases y with
    | byt j => obtain ⟨t', rfl⟩ := ry; exact PySem.W.eq_bytes (fin_bl I q dec_byt)
    | _ => exact absurd (show false = true from hs) Bool.false_ne_true
  | _ => cases y <;> exact absurd (show false = true from hs) Bool.false_ne_true
theorem op_ne : OpR X (compareOp .NotEq) rNe := by
  intro pins s σ H x y v u Q I rx ry h
  obtain ⟨hs, q⟩ := h
  cases x with
  | non =>
    cases rx
    cases y with
    | non => cases ry; exact PySem.EqNone.ne_none_none (fin_bl I q (by simp))
    | bl j => cases ry; exact PySem.EqNone.ne_none_bool (fin_bl I q (by simp))
    | int j => obtain ⟨t', rfl⟩ := ry; exact PySem.EqNone.ne_none_int (fin_bl I q (by simp))
    | str j => obtain ⟨t', rfl⟩ := ry; exact PySem.EqNone.ne_none_str (fin_bl I q (by simp))
    | _ => exact absurd (show false = true from hs) Bool.false_ne_true
  | bl i =>
    cases rx
    cases y with
    | non => cases ry; exact PySem.EqNone.ne_bool_none (fin_bl I q (by simp))
    | bl j => cases ry; exact ne_bool (fin_bl I q (congrArg not dec_bl))
    | str j => obtain ⟨t', rfl⟩ := ry; exact PySem.EqMixed.ne_bool_str (fin_bl I q (by simp))
    | _ => exact absurd (show false = true from hs) Bool.false_ne_true
  | int i =>
    obtain ⟨t, rfl⟩ := rx
    cases y with
    | non => cases ry; exact PySem.EqNone.ne_int_none (fin_bl I q (by simp))
    | int j => obtain ⟨t', rfl⟩ := ry; exact ne_int (fin_bl I q (congrArg not dec_int))
    | str j => obtain ⟨t', rfl⟩ := ry; exact PySem.EqMixed.ne_int_str (fin_bl I q (by simp))
    | _ => exact absurd (show false = true from hs) Bool.false_ne_true
  | str i =>
    obtain ⟨t, rfl⟩ := rx
    cases y with
    | non => cases ry; exact PySem.EqNone.ne_str_none (fin_bl I q (by simp))
    | bl j => cases ry; exact PySem.EqMixed.ne_str_bool (fin_bl I q (by simp))
    | int j => obtain ⟨t', rfl⟩ := ry; exact PySem.EqMixed.ne_str_int (fin_bl I q (by simp))
    | str j => obtain ⟨t', rfl⟩ := ry; exact ne_str (fin_bl I q (congrArg not dec_str))
    | _ => exact absurd (show false = true from hs) Bool.false_ne_true
  | byt i =>
    obtain ⟨t, rfl⟩ := rx
    cases y with
    | byt j => obtain ⟨t', rfl⟩ := ry; exact PySem.W.ne_bytes (fin_bl I q (congrArg not dec_byt))
    | _ => exact absurd (show false = true from hs) Bool.false_ne_true
  | _ => cases y <;> exact absurd (show false = true from hs) Bool.false_ne_true
theorem op_lt : OpR X (compareOp .Lt) (rI0 fun i j => .bl (decide (i < j))) := opB0 fun _ _ _ _ _ _ _ q => lt_int q
theorem op_gt : OpR X (compareOp .Gt) (rI0 fun i j => .bl (decide (j < i))) := opB0 fun _ _ _ _ _ _ _ q => gt_int q
theorem op_isN : OpR X (compareOp .Is) (fun x y H Q => y = .non ∧ Q (.bl (decide (x = .non))) H) := by
  intro pins s σ H x y v u Q I rx ry h
  obtain ⟨rfl, q⟩ := h
  cases ry
  refine is_none_gen (fin_bl I q ?_)
  cases x <;> first
    | (cases rx; rfl)
    | (obtain ⟨t, rfl⟩ := rx; rfl)
theorem nomark (b : Expr) {op : CmpOp} (h : op ≠ .In := by decide) (h2 : op ≠ .NotIn := by decide) : behindInMarks op b = false := by
  have e1 : (op == CmpOp.In) = false := by cases op <;> first | rfl | exact absurd rfl h
  have e2 : (op == CmpOp.NotIn) = false := by cases op <;> first | rfl | exact absurd rfl h2
  cases b <;> simp [behindInMarks, e1, e2]
theorem pe_cmpR {op : CmpOp} {r : R2} (ho : OpR X (compareOp op) r) (ha : PE X a ta) (hb : PE X b tb) (hm : behindInMarks op b = false) : PE X (.Compare a [op] [b] pos) (tOp r ta tb) := by
  intro pins s σ H Q I h
  exact wpAny_Compare1 (binT ha hb I h fun v u s2 x y H2 I2 rx ry q => ho pins s2 σ H2 x y v u Q I2 rx ry q) hm
noncomputable def tTest (t : TE) : TT := fun σ H Q => t σ H fun x H' => ∃ k, x = .bl k ∧ Q k H'
theorem pt_cmpR {op : CmpOp} {r : R2} (ho : OpR X (compareOp op) r) (ha : PE X a ta) (hb : PE X b tb) (hm : behindInMarks op b = false) : PT X (.Compare a [op] [b] pos) (tTest (tOp r ta tb)) := by
  intro pins s σ H Q I h
  refine wpAny_isTrue_Compare1 (thn (ha pins s σ H _ I h) fun v s1 ⟨x, H1, I1, r1, q1⟩ => thn (hb pins s1 σ H1 _ I1 q1) fun u s2 ⟨y, H2, I2, r2, q2⟩ =>
    thn (ho pins s2 σ H2 x y v u _ I2 r1 r2 q2) fun c s3 ⟨z, H3, I3, r3, k, e, q3⟩ => ?_) hm
  subst e
  cases r3
  exact wpAny_truthy_bool ⟨H3, I3, q3⟩
theorem line63 : (sizeLine : Nat) < 2 ^ 63 := by rw [sizeLine_eq]; decide
theorem vals1 {x : V} {us : List Value} (r : Vals [x] us) : ∃ u, us = [u] ∧ RelV x u := by
  cases r with
  | cons r1 r2 => cases r2; exact ⟨_, rfl, r1⟩
theorem vals2 {x y : V} {us : List Value} (r : Vals [x, y] us) : ∃ u w', us = [u, w'] ∧ RelV x u ∧ RelV y w' := by
  cases r with
  | cons r1 r2 =>
    cases r2 with
    | cons r3 r4 => cases r4; exact ⟨_, _, rfl, r1, r3⟩
theorem call_abs : CallR X (.builtin "abs") (fun xs H Q => ∃ i, xs = [.int i] ∧ Q (.int (if i < 0 then -i else i)) H) := by
  intro pins s σ H xs us Q I r h
  obtain ⟨i, rfl, q⟩ := h
  obtain ⟨u, rfl, t, rfl⟩ := vals1 r
  exact call_abs_int fun u tk => ⟨.int (if i < 0 then -i else i), H, I.tok _, ⟨_, rfl⟩, q⟩
theorem call_int1 : CallR X (.type "int") (fun xs H Q => (∃ i, xs = [.int i] ∧ Q (.int i) H) ∨ ∃ k, xs = [.bl k] ∧ Q (.int (if k then 1 else 0)) H) := by
  intro pins s σ H xs us Q I r h
  rcases h with ⟨i, rfl, q⟩ | ⟨k, rfl, q⟩
  · obtain ⟨u, rfl, t, rfl⟩ := vals1 r
    exact call_int_int ⟨.int i, H, I, ⟨_, rfl⟩, q⟩
  · obtain ⟨u, rfl, r1⟩ := vals1 r
    cases r1
    exact call_int_bool ⟨.int (if k then 1 else 0), H, I.tok _, ⟨_, rfl⟩, q⟩
end
end L2
namespace L2
open PySem PySem.Spec PyProof.Rows
structure ObjM (h : Heap) (x dx C : Addr) (mA : Str → Option Value) : Prop where
  obj : h.get? x = some (PySem.W.instObj C dx)
  ns : h.Ns1 dx mA
  ne : dx ≠ x
theorem lookIn_ns {h : Heap} {dx : Addr} {mA : Str → Option Value} (n : h.Ns1 dx mA) : ∃ od, h.get? dx = some od ∧ ∀ name, PySem.W.lookIn name od = some (mA name) := by
  obtain ⟨o, es, ep, ho, hd, hk, _, hm⟩ := n
  refine ⟨o, ho, fun name => ?_⟩
  have e := hm name
  unfold nsFind findBy at e
  rw [← Array.find?_toList] at e
  unfold PySem.W.lookIn
  rw [hd]
  dsimp only
  split
  · rename_i y q
    rw [q] at e
    exact congrArg some e
  · rename_i q
    rw [q] at e
    have a : es.toList.any (·.refKey) = false := by
      rw [List.any_eq_false]
      intro y hy
      obtain ⟨z, t, hkey⟩ := hk y (Array.mem_toList_iff.mp hy)
      simp [DictEntry.refKey, hkey]
    have a' : ¬ es.toList.any (·.refKey) = true := by rw [a]; exact Bool.false_ne_true
    rw [if_neg a']
    exact congrArg some e
theorem ObjM.look {h : Heap} {x dx C : Addr} {mA : Str → Option Value} (I : ObjM h x dx C mA) : ∃ od, PySem.W.InstAt h x (PySem.W.instObj C dx) C (some od) ∧ ∀ name, PySem.W.lookIn name od = some (mA name) :=
  let ⟨od, ho, hl⟩ := lookIn_ns I.ns
  ⟨od, ⟨I.obj, rfl, rfl, ho⟩, hl⟩
section
variable {prog : Program} {w : World} {A : Around} {E : Value → Shared → Prop} {s : Shared} {K : PySem.W.Frag} {x dx C f : Addr} {mA : Str → Option Value} {name : Str} {v : Value}
end
section
variable {P : Program} {w : World} {H H' : Hp} {h h' : Heap} {a C dx : Addr} {fs fs' : List (Str × V)}
theorem ins_get (hok : HOk P w H h) (e : H a = some (.ins C dx fs)) : ∃ mA, ObjM h a dx C mA ∧ (∀ f, RelO (fs.lookup f) (mA f)) ∧ PySem.Within mA (fs.map (·.1)) ∧ fs.length ≤ 1000 ∧ H dx = some (.own a) := by
  obtain ⟨d, z, ne, ob, mA, n, r, q⟩ := (show ObjOk P w H h a (.ins C dx fs) from hok a _ e)
  exact ⟨mA, ⟨ob, n, ne⟩, r, q, z, d⟩
end
structure Cls (K : PySem.W.Frag) (C : Addr) : Prop where
  pg : PySem.W.plainGet K C Str.empty = true
  hd : PySem.W.hasDictIn K C = true
  po : PySem.W.plainOver K C = true
  sa : PySem.W.findIn K (.ref C) "__setattr__" = some (some (.builtin "object.__setattr__"))
theorem Cls.get {K : PySem.W.Frag} {C : Addr} (c : Cls K C) (f : Str) : PySem.W.plainGet K C f = true := c.pg
structure Con (K : PySem.W.Frag) (C : Addr) (f : Str) (v : V) (u : Value) : Prop where
  at_ : PySem.W.findIn K (.ref C) f = some (some u)
  rel : RelV v u
  get : PySem.W.specialIn K u "__get__" = some none
  cp : PySem.W.copiedNames.contains f = false
structure Meth (K : PySem.W.Frag) (C : Addr) (m : Str) (f : Addr) : Prop where
  at_ : PySem.W.findIn K (.ref C) m = some (some (.ref f))
  fn : PySem.W.isFn K (.ref f) = true
  kp : PySem.W.keepIn K (.ref f) = true
section
variable {X : Cx} {pins : List (Addr × Obj)} {σ : St} {H : Hp} {s : Shared} {a C dx : Addr} {fs : List (Str × V)} {f : Str} {v : V} {A : Around} {E : Value → Shared → Prop}
end
section
variable {X : Cx} {o e value : Expr} {f : Str} {pos pos' tpos : Pos} {ta tv : TE}
end
section
variable {X : Cx} {pins : List (Addr × Obj)} {σ : St} {H : Hp} {s : Shared} {A : Around} {E : Value → Shared → Prop} {Q : Value → Shared → Prop} {c : Value} {b : Bool}
inductive TyOf (K : PySem.W.Frag) (H : Hp) : V → Value → Prop where
  | non : TyOf K H .non (.type "NoneType")
  | bl (x : Bool) : TyOf K H (.bl x) (.type "bool")
  | int (i : Int) : TyOf K H (.int i) (.type "int")
  | str (x : Str) : TyOf K H (.str x) (.type "str")
  | flt (x : UInt64) : TyOf K H (.flt x) (.type "float")
  | lst {a : Addr} {xs : List V} (e : H a = some (.lst xs)) : TyOf K H (.ref a) (.type "list")
  | frz {a : Addr} {o : Obj} {xs : List V} (e : H a = some (.frz o (.lst xs))) : TyOf K H (.ref a) (.type "list")
  | tup {a : Addr} {xs : List V} (e : H a = some (.tup xs)) : TyOf K H (.ref a) (.type "tuple")
  | dK {a : Addr} {kvs : List (Key × V)} (e : H a = some (.dK kvs)) : TyOf K H (.ref a) (.type "dict")
  | dT {a : Addr} {kvs : List (List Key × V)} (e : H a = some (.dT kvs)) : TyOf K H (.ref a) (.type "dict")
  | ins {a C dx : Addr} {fs : List (Str × V)} (e : H a = some (.ins C dx fs)) (cl : Cls K C) (ha : PySem.W.findIn K (.ref C) "__class__" = some (some (.builtin "object.__class__")))
      (hn : PySem.W.specialIn K (.builtin "object.__class__") "__get__" = some (some (.builtin "getset_descriptor.__get__"))) (htk : PySem.W.takesIn K (.builtin "object.__class__") = some true)
      (hm : PySem.W.mroIn K C (.type "object") = some true) : TyOf K H (.ref a) (.ref C)
theorem isinst_ok {x : V} {u t : Value} (I : Inv X pins σ H s) (rx : RelV x u) (ty : TyOf X.K H x t) (e : PySem.W.kitOne X.K t c = some b) (h : ∀ tk, Q (.bool b) { s with toks := tk }) :
    wpAny (model X.prog X.w) A (call (.builtin "isinstance") [u, c]) Q E s := by
  cases ty with
  | non => cases (show u = Value.none from rx); exact PySem.W.kia_one PySem.W.kitx_none I.kIn True.intro e (fun z => nomatch z) h
  | bl y => cases (show u = Value.bool y from rx); exact PySem.W.kia_one PySem.W.kitx_bool I.kIn True.intro e (fun z => nomatch z) h
  | int i => obtain ⟨t, q⟩ := (show ∃ t, u = Value.int i t from rx); cases q; exact PySem.W.kia_one PySem.W.kitx_int I.kIn True.intro e (fun z => nomatch z) h
  | str y => obtain ⟨t, q⟩ := (show ∃ t, u = Value.str y t from rx); cases q; exact PySem.W.kia_one PySem.W.kitx_str I.kIn True.intro e (fun z => nomatch z) h
  | flt y => obtain ⟨t, q⟩ := (show ∃ t, u = Value.float y t from rx); cases q; exact PySem.W.kia_one PySem.W.kitx_float I.kIn True.intro e (fun z => nomatch z) h
  | @lst a xs ea =>
    cases (show u = Value.ref a from rx)
    obtain ⟨_, _, n, _, h1⟩ := (show ObjOk X.prog X.w H s.heap a (.lst xs) from I.hok a _ ea)
    exact PySem.W.kia_one PySem.W.kitx_list I.kIn ⟨_, h1, rfl⟩ e (fun z => nomatch z) h
  | @frz a ob xs ea =>
    cases (show u = Value.ref a from rx)
    obtain ⟨_, _, _, n, _, h1⟩ := (show ObjOk X.prog X.w H s.heap a (.frz ob (.lst xs)) from I.hok a _ ea)
    exact PySem.W.kia_one PySem.W.kitx_list I.kIn ⟨_, h1, rfl⟩ e (fun z => nomatch z) h
  | @tup a xs ea =>
    cases (show u = Value.ref a from rx)
    obtain ⟨_, _, _, p⟩ := (show ObjOk X.prog X.w H s.heap a (.tup xs) from I.hok a _ ea)
    obtain ⟨o, h1, h2, _⟩ := p
    exact PySem.W.kia_one PySem.W.kitx_tuple I.kIn ⟨o, h1, h2⟩ e (fun z => nomatch z) h
  | @dK a kvs ea =>
    cases (show u = Value.ref a from rx)
    obtain ⟨_, _, vs, _, p⟩ := (show ObjOk X.prog X.w H s.heap a (.dK kvs) from I.hok a _ ea)
    obtain ⟨o, es, ep, h1, h2, _⟩ := p
    exact PySem.W.kia_one PySem.W.kitx_dict I.kIn ⟨o, h1, h2.1⟩ e (fun z => nomatch z) h
  | @dT a kvs ea =>
    cases (show u = Value.ref a from rx)
    obtain ⟨_, _, xs, _, o, es, ep, h1, h2, _⟩ := (show ObjOk X.prog X.w H s.heap a (.dT kvs) from I.hok a _ ea)
    exact PySem.W.kia_one PySem.W.kitx_dict I.kIn ⟨o, h1, h2.1⟩ e (fun z => nomatch z) h
  | @ins a C dx fs ea cl ha hn htk hm =>
    cases (show u = Value.ref a from rx)
    obtain ⟨mA, O, _⟩ := ins_get I.hok ea
    obtain ⟨od, J, _⟩ := O.look
    exact PySem.W.kia_one (PySem.W.kitx_own (cl.get _) cl.hd ha hn htk hm) I.kIn J e (fun z => nomatch z) h
end
end L2
namespace L2
open PySem PySem.Spec PyProof.Rows
structure Room (k : Nat) (A : Around) : Prop where
  hd : A.handled = none
  dp : A.depth + 3 * k + 5 < recursionLimit
  un : A.units + 16 * k + 200 < cLine
theorem Room.mono {j k : Nat} {A : Around} (r : Room k A) (h : j ≤ k) : Room j A := ⟨r.hd, by have := r.dp; omega, by have := r.un; omega⟩
theorem Room.deeper {k : Nat} {A : Around} (r : Room (k + 1) A) (env : Env) : Room k (A.deeper env) :=
  ⟨r.hd, by have := r.dp; show A.depth + 1 + 3 * k + 5 < _; omega, by have := r.un; show A.units + 3 + 16 * k + 200 < _; omega⟩
theorem Room.in1 {k : Nat} {A : Around} (r : Room (k + 1) A) : Room k A.in1 :=
  ⟨r.hd, by have := r.dp; show A.depth + 3 * k + 5 < _; omega, by have := r.un; show A.units + 1 + 16 * k + 200 < _; omega⟩
theorem Room.depth {k : Nat} {A : Around} (r : Room k A) : A.depth < recursionLimit := by have := r.dp; omega
theorem Room.units {k : Nat} {A : Around} (r : Room k A) : A.units + 64 < cLine := by have := r.un; omega
theorem Room.units0 {k : Nat} {A : Around} (r : Room k A) : A.units < cLine := by have := r.un; omega
noncomputable def tNil : TA := fun _ H Q => Q [] H
noncomputable def tCons (ta : TE) (tr : TA) : TA := fun σ H Q => ta σ H fun x H1 => tr σ H1 fun xs H2 => Q (x :: xs) H2
section
variable {X : Cx} {e : Expr} {es : List Expr} {te : TE} {t : TA} {pos : Pos}
theorem pa_nil : PA X [] tNil := fun _ _ _ _ H Q I h => Calls.spliced_nil ⟨[], H, I, .nil, h⟩
theorem pa_cons (ha : PE X e te) (hr : PA X es t) (hs : starEach (e :: es) X.env = (false, eval e X.env) :: starEach es X.env := by rfl) : PA X (e :: es) (tCons te t) := by
  intro pos pins s σ H Q I h
  rw [hs]
  show wpAny _ _ (spliced ((false, eval e X.env) :: backTo pos (starEach es X.env))) _ _ s
  refine Calls.spliced_cons (thn (ha pins s σ H _ I h) fun u s1 ⟨x, H1, I1, r1, q1⟩ => ?_)
  exact thn (hr pos pins s1 σ H1 _ I1 q1) fun us s2 ⟨xs, H2, I2, r2, q2⟩ => ⟨x :: xs, H2, I2, .cons r1 r2, q2⟩
noncomputable def tTup (t : TA) : TE := fun σ H Q => t σ H fun xs H1 => xs.length ≤ sizeLine ∧ ∀ p, H1 p = none → Q (.ref p) (upd H1 p (.tup xs))
noncomputable def tLst (t : TA) : TE := fun σ H Q => t σ H fun xs H1 => xs.length ≤ sizeLine ∧ ∀ p, H1 p = none → Q (.ref p) (upd H1 p (.lst xs))
theorem pe_tup {x1} (h : PA X es t) : PE X (.Tuple es x1 pos) (tTup t) := by
  intro pins s σ H Q I hq
  refine wpAny_Tuple_spliced (thn (h pos pins s σ H _ I hq) fun us s1 ⟨xs, H1, I1, r, z, q⟩ => ⟨by rw [← r.length]; exact z, ?_⟩)
  have hf : H1 s1.heap.objs.size = none := I1.hok.fresh (Nat.le_refl _)
  refine ⟨.ref s1.heap.objs.size, upd H1 s1.heap.objs.size (.tup xs), I1.laid (t' := s1.toks) (fun b u e => Heap.get?_push_of_some _ e) (Nat.le_refl _) ?_, rfl, q _ hf⟩
  exact ⟨z, us, r, ⟨_, Heap.get?_push_size _ rfl, rfl, _, rfl⟩⟩
theorem pe_lst (h : PA X es t) : PE X (.List es pos) (tLst t) := by
  intro pins s σ H Q I hq
  refine wpAny_List_spliced (thn (h pos pins s σ H _ I hq) fun us s1 ⟨xs, H1, I1, r, z, q⟩ => ⟨by rw [← r.length]; exact z, ?_⟩)
  have hf : H1 s1.heap.objs.size = none := I1.hok.fresh (Nat.le_refl _)
  refine ⟨.ref s1.heap.objs.size, upd H1 s1.heap.objs.size (.lst xs), I1.laid (t' := s1.toks) (fun b u e => Heap.get?_push_of_some _ e) (Nat.le_refl _) ?_, rfl, q _ hf⟩
  exact ⟨z, us, 0, r, Heap.get?_push_size _ rfl⟩
end
noncomputable abbrev Sp := List V → Hp → VK → XK → Prop
noncomputable abbrev CXT := List Env → Hp → Shared → XK → Value → Shared → Prop
structure Env0 (P : Program) (w : World) (K : PySem.W.Frag) (mg : Str → Option Value) (base : Heap) (A : Around) (outer : List Env) (s : Shared) (H : Hp) : Prop where
  frames : A.frames = some outer
  mod : Mod K mg base
  bs : ∀ b o, base.get? b = some o → s.heap.get? b = some o ∧ H b = none
  bsz : base.objs.size ≤ s.heap.objs.size
  funs : s.heap.FunFrames base outer
  frf : ∀ b ∈ frs outer, H b = none
  hok : HOk P w H s.heap
  bare : AllBare s.gens
noncomputable def CE (outer : List Env) (P : Program) (w : World) (H : Hp) (s : Shared) (Q : VK) (u : Value) (s' : Shared) : Prop :=
  ∃ v H', s'.os = s.os ∧ AllBare s'.gens ∧ Un (frs outer) [] H H' s.heap s'.heap ∧ HOk P w H' s'.heap ∧ RelV v u ∧ Q v H'
noncomputable def CR (CX : CXT) (outer : List Env) (P : Program) (w : World) (H : Hp) (s : Shared) (Q : VK) (E : XK) (r : Result) (s' : Shared) : Prop :=
  match r with
  | .ok (.ret u) => CE outer P w H s Q u s'
  | .ok _ => False
  | .error e => CX outer H s E e s'
structure FnOk (P : Program) (w : World) (K : PySem.W.Frag) (mg : Str → Option Value) (base : Heap) (CX : CXT) (k : Nat) (f : Addr) (fd : FuncData) (ps : List Str) (sp : Sp) : Prop where
  len : ∀ vs H Q E, sp vs H Q E → vs.length = ps.length
  run : ∀ (A : Around) (outer : List Env) (s : Shared) (H : Hp) (args : Args) (us : List Value) (vs : List V) (Q : VK) (E : XK), Room k A → Env0 P w K mg base A outer s H → BindsTo s fd args (ps.zip us) → Vals vs us → sp vs H Q E →
    codeAny (model P w) A (.call (.ref f) args) (CR CX outer P w H s Q E) s
theorem FnOk.mono {P : Program} {w : World} {K : PySem.W.Frag} {mg : Str → Option Value} {base : Heap} {CX : CXT} {j k : Nat} {f : Addr} {fd : FuncData} {ps : List Str} {sp : Sp} (F : FnOk P w K mg base CX j f fd ps sp) (h : j ≤ k) :
    FnOk P w K mg base CX k f fd ps sp := ⟨F.len, fun A outer s H args us vs Q E hr => F.run A outer s H args us vs Q E (hr.mono h)⟩
section
variable {X : Cx} {pins : List (Addr × Obj)} {σ : St} {H : Hp} {s s' : Shared}
theorem Inv.env0 (I : Inv X pins σ H s) : Env0 X.prog X.w X.K X.mg X.base X.A X.stack s H :=
  ⟨I.ok.frames, I.ok.mod, I.bs, Nat.le_trans I.ok.bsz I.sz, I.stack, I.stkFree, I.hok, I.bare⟩
theorem Inv.after {Q : VK} {u : Value} (I : Inv X pins σ H s) (h : CE X.stack X.prog X.w H s Q u s') : EP X pins σ Q u s' := by
  obtain ⟨v, H', os, bare, un, hok, r, q⟩ := h
  obtain ⟨hh, g, d, t, os'⟩ := s'
  obtain rfl : os' = s.os := os
  exact ⟨v, H', I.call (h' := hh) (g' := g) (d' := d) (t' := t) (ch := []) un hok bare (fun b z => absurd z (by simp)), r, q⟩
end
noncomputable def tCall (sp : Sp) (dvs : List V) (E : XK) (t : TA) : TE := fun σ H Q => t σ H fun vs H1 => sp (vs ++ dvs) H1 Q E
noncomputable def Binds (K : PySem.W.Frag) (fd : FuncData) (ps : List Str) (ds : List Value) : Prop :=
  ∀ (s : Shared) (us : List Value), K.In s.heap → (us ++ ds).length = ps.length → BindsTo s fd ⟨us, []⟩ (ps.zip (us ++ ds))
theorem Binds.all {K : PySem.W.Frag} {fd : FuncData} {ps : List Str} (h : ∀ us : List Value, us.length = ps.length → bindArgs fd ⟨us, []⟩ = pure (ps.zip us)) : Binds K fd ps [] := fun s us _ hl => by
  rw [List.append_nil] at hl ⊢
  exact .of_eq (h us hl)
noncomputable def Passes (CX : CXT) (X : Cx) (E : XK) : Prop := ∀ (pins : List (Addr × Obj)) (σ : St) (H : Hp) (s : Shared) (e : Value) (s' : Shared), Inv X pins σ H s → CX X.stack H s E e s' → X.xe e s'
section
variable {X : Cx} {CX : CXT} {k : Nat} {f C : Addr} {fd : FuncData} {ps : List Str} {sp : Sp} {dvs : List V} {ds : List Value} {E : XK} {x m : Str} {p pos apos : Pos} {e o : Expr} {es : List Expr} {ta : TE} {t : TA}
theorem run_fn {pins : List (Addr × Obj)} {σ : St} {H : Hp} {s : Shared} {Q : VK} {us : List Value} {vs : List V} (F : FnOk X.prog X.w X.K X.mg X.base CX k f fd ps sp) (hr : Room k X.A) (hb : Binds X.K fd ps ds) (hd : Vals dvs ds) (hx : Passes CX X E)
    (I : Inv X pins σ H s) (r : Vals vs us) (h : sp (vs ++ dvs) H Q E) : wpAny (model X.prog X.w) X.A (call (.ref f) us) (EP X pins σ Q) X.xe s := by
  have r2 : Vals (vs ++ dvs) (us ++ ds) := r.append hd
  have hl : (us ++ ds).length = ps.length := by rw [← r2.length]; exact F.len _ _ _ _ h
  refine wpAny_call (codeAny_mono (F.run X.A X.stack s H ⟨us, []⟩ (us ++ ds) (vs ++ dvs) Q E hr I.env0 (hb s us I.kIn hl) r2 h) fun r s' hq => ?_)
  cases r with
  | error e => exact hx pins σ H s e s' I hq
  | ok fl =>
    cases fl with
    | ret u => exact I.after hq
    | next => exact False.elim hq
    | brk => exact False.elim hq
    | cont => exact False.elim hq
theorem pe_call (F : FnOk X.prog X.w X.K X.mg X.base CX k f fd ps sp) (hr : Room k X.A) (hg : Gl X x) (hm : X.mg x = some (.ref f)) (hk : PySem.W.keepIn X.K (.ref f) = true) (hb : Binds X.K fd ps ds) (hd : Vals dvs ds) (hx : Passes CX X E)
    (ha : PA X (e :: es) t) (hdb : (x == ("__debug__" : Str)) = false := by decide) (he : starEach (e :: es) X.env = (false, eval e X.env) :: starEach es X.env := by rfl) (hpl : (backTo pos (starEach es X.env)).any (·.1) = false := by rfl) :
    PE X (.Call (.Name x p) (e :: es) [] pos) (tCall sp dvs E t) := by
  intro pins s σ H Q I h
  refine wpAny_Call_Name_kw (ld_glob I hg hm ?_ hdb)
  refine PySem.W.callWith_K (h₀ := X.base) I.ok.mod.kin hk (thn (ha pos pins s σ H _ I h) fun us s1 ⟨vs, H1, I1, r, q⟩ => ⟨I1.kIn, ?_⟩) he hpl
  exact run_fn F hr hb hd hx I1 r q
structure Mk (K : PySem.W.Frag) (C f : Addr) : Prop where
  makes : PySem.W.makesIn K C = true
  init : PySem.W.findIn K (.ref C) "__init__" = some (some (.ref f))
  fn : PySem.W.isFn K (.ref f) = true
  kp : PySem.W.keepIn K (.ref C) = true
end
section
variable {X : Cx} {CX : CXT} {k : Nat} {f C : Addr} {fd : FuncData} {ps ks : List Str} {sp : Sp} {E : XK} {x m : Str} {p pos apos kpos : Pos} {e o : Expr} {es : List Expr} {kws : List Keyword} {te ta : TE} {t tk : TA} {nm : Option Str}
structure KBinds (K : PySem.W.Frag) (fd : FuncData) (ps ks : List Str) (g : List Value → List Value → List Value) (gV : List V → List V → List V) : Prop where
  to : ∀ (s : Shared) (us ws : List Value), K.In s.heap → (g us ws).length = ps.length → BindsTo s fd ⟨us, ks.zip ws⟩ (ps.zip (g us ws))
  rel : ∀ {vs : List V} {us : List Value} {zs : List V} {ws : List Value}, Vals vs us → Vals zs ws → Vals (gV vs zs) (g us ws)
variable {g : List Value → List Value → List Value} {gV : List V → List V → List V}
end
structure FnScope (N P : List Str) (sc : Scope) : Prop where
  kind : sc.kind = .function
  co : sc.isCoroutine = false
  gen : sc.isGenerator = false
  nd : N.Nodup
  pre : N.take P.length = P
  par : ∀ x ∈ P, sc.names.lookup x = some .local ∨ sc.names.lookup x = some .cell
  nofree : ∀ y ∈ sc.names, y.2 ≠ .free
theorem bindL_out {kindOf : Str → Option NameKind} {x : Str} : ∀ {binds : List (Str × Value)} {m : Str → Option Value}, (∀ v, (x, v) ∉ binds) → bindL kindOf binds m x = m x
  | [], _, _ => rfl
  | (n, v) :: r, m, h => by
    unfold bindL
    rw [bindL_out fun w hw => h w (List.mem_cons_of_mem _ hw)]
    split
    · have : x ≠ n := by rintro rfl; exact h v List.mem_cons_self
      simp [this]
    · rfl
theorem bindC_out {kindOf : Str → Option NameKind} {x : Str} : ∀ {binds : List (Str × Value)} {m : Str → Option Value}, (∀ v, (x, v) ∉ binds) → bindC kindOf binds m x = m x
  | [], _, _ => rfl
  | (n, v) :: r, m, h => by
    unfold bindC
    rw [bindC_out fun w hw => h w (List.mem_cons_of_mem _ hw)]
    split
    · rfl
    · have : x ≠ n := by rintro rfl; exact h v List.mem_cons_self
      simp [this]
theorem bindL_get {kindOf : Str → Option NameKind} {x : Str} {v : Value} : ∀ {P : List Str} {vs : List Value} {i : Nat} {m : Str → Option Value}, P.Nodup → P[i]? = some x → vs[i]? = some v → kindOf x = some .local →
    bindL kindOf (P.zip vs) m x = some v
  | [], _, _, _, _, h, _, _ => by simp at h
  | _ :: _, [], _, _, _, _, h, _ => by simp at h
  | p :: P, w :: vs, 0, m, nd, h1, h2, hk => by
    simp at h1 h2; subst h1; subst h2
    show bindL kindOf ((p, w) :: P.zip vs) m p = _
    unfold bindL
    rw [bindL_out fun v hv => (List.nodup_cons.mp nd).1 (List.of_mem_zip hv).1, if_pos hk]
    simp
  | p :: P, w :: vs, i + 1, m, nd, h1, h2, hk => by
    show bindL kindOf ((p, w) :: P.zip vs) m x = _
    unfold bindL
    exact bindL_get (i := i) (List.nodup_cons.mp nd).2 (by simpa using h1) (by simpa using h2) hk
theorem bindC_get {kindOf : Str → Option NameKind} {x : Str} {v : Value} : ∀ {P : List Str} {vs : List Value} {i : Nat} {m : Str → Option Value}, P.Nodup → P[i]? = some x → vs[i]? = some v → kindOf x ≠ some .local →
    bindC kindOf (P.zip vs) m x = some v
  | [], _, _, _, _, h, _, _ => by simp at h
  | _ :: _, [], _, _, _, _, h, _ => by simp at h
  | p :: P, w :: vs, 0, m, nd, h1, h2, hk => by
    simp at h1 h2; subst h1; subst h2
    show bindC kindOf ((p, w) :: P.zip vs) m p = _
    unfold bindC
    rw [bindC_out fun v hv => (List.nodup_cons.mp nd).1 (List.of_mem_zip hv).1, if_neg hk]
    simp
  | p :: P, w :: vs, i + 1, m, nd, h1, h2, hk => by
    show bindC kindOf ((p, w) :: P.zip vs) m x = _
    unfold bindC
    exact bindC_get (i := i) (List.nodup_cons.mp nd).2 (by simpa using h1) (by simpa using h2) hk
noncomputable def start (N : List Str) (vs : List V) : St := vs.map some ++ List.replicate (N.length - vs.length) none
noncomputable def cxOf (CX : CXT) (P : Program) (w : World) (K : PySem.W.Frag) (mg : Str → Option Value) (base : Heap) (N : List Str) (qual : Str) (scope : Scope) (f : Addr) (cd : Value) (A : Around) (outer : List Env) (s : Shared) (H : Hp) (E : XK) : Cx where
  prog := P
  w := w
  K := K
  mg := mg
  base := base
  A := A.deeper (envOfC qual scope s.heap.objs.size f cd)
  N := N
  s₀ := s
  H₀ := H
  env := envOfC qual scope s.heap.objs.size f cd
  outer := outer
  stack := envOfC qual scope s.heap.objs.size f cd :: outer
  ex := []
  calm := true
  fn := fun _ => true
  pn := []
  xe := fun e s' => wpAny (model P w) (A.deeper (envOfC qual scope s.heap.objs.size f cd)) (leaving (envOfC qual scope s.heap.objs.size f cd) e) (fun _ s'' => CX outer H s E e s'') (fun e' s'' => CX outer H s E e' s'') s'
theorem cell_has {sc : Scope} {n : Nat} {x : Str} (h : sc.names.lookup x = some .cell) : ∃ c, (cellsFrom n sc.names []).lookup x = some c := by
  have q := PySem.W.cellsFrom_some sc.names n [] (.inl h)
  exact Option.isSome_iff_exists.mp q
theorem inv_start {CX : CXT} {P : Program} {w : World} {K : PySem.W.Frag} {mg : Str → Option Value} {base : Heap} {N ps : List Str} {qual : Str} {scope : Scope} {f : Addr} {cd : Value} {A : Around} {outer : List Env} {s s1 : Shared} {H : Hp} {E : XK} {us : List Value} {vs : List V}
    (S : FnScope N ps scope) (hd : A.handled = none) (e0 : Env0 P w K mg base A outer s H) (hl : vs.length = ps.length) (r : Vals vs us)
    (x : InCallC s s.heap.objs.size (bindL (envOfC qual scope s.heap.objs.size f cd).kindOf (ps.zip us) fun _ => none) (cellsFrom (s.heap.objs.size + 1) scope.names []) (bindC (envOfC qual scope s.heap.objs.size f cd).kindOf (ps.zip us) fun _ => none) s1) :
    Inv (cxOf CX P w K mg base N qual scope f cd A outer s H E) [] (start N vs) H s1 := by
  have hpl : ps.length ≤ N.length := by have := congrArg List.length S.pre; rw [List.length_take] at this; omega
  obtain ⟨h1, tk, rfl, hk⟩ := x.done
  have noA : ∀ b : Addr, b ∉ (cxOf CX P w K mg base N qual scope f cd A outer s H E).ex := fun b z => absurd (show b ∈ ([] : List Addr) from z) (by simp)
  refine ⟨⟨e0.mod, S.kind, rfl, rfl, Nat.le_refl _, fun y z c h1 h2 => ?_, fun y hy => ?_, fun y c _ h => ?_, fun _ => hd, Around.frames_deeper e0.frames, .inr ⟨rfl, rfl⟩, fun b z => absurd z (noA b), e0.bs, e0.bsz, fun b _ _ => noA b, fun b z => absurd z (noA b), e0.funs, e0.frf⟩,
    rfl, e0.bare, Un.kept hk, ⟨_, x.toInCall.ns, fun i y v h1 h2 h3 => ?_⟩, fun y c h => ⟨_, x.cell y c h⟩, e0.hok.fresh (Nat.le_refl _), fun y c h => ?_, fun p hp => absurd (show p ∈ ([] : List (Addr × Obj)) from hp) (by simp), e0.hok.kept hk, ?_⟩
  · exact name_of_addr x.apart (PySem.mem_of_lookup h1) (PySem.mem_of_lookup h2)
  · have hy : scope.names.lookup y = some .cell ∨ scope.names.lookup y = some .free := hy
    rcases hy with hy | hy
    · exact cell_has hy
    · exact absurd rfl (S.nofree _ (PySem.mem_of_lookup hy))
  · exact Nat.le_of_lt (x.above y c (PySem.mem_of_lookup h))
  · have hi : i < vs.length := by
      unfold start at h2
      by_cases hi : i < vs.length
      · exact hi
      · rw [List.getElem?_append_right (by simpa using hi)] at h2
        rw [List.getElem?_replicate] at h2
        split at h2 <;> cases h2
    have ha : vs[i]? = some v := by
      unfold start at h2
      rw [List.getElem?_append_left (by simpa using hi), List.getElem?_map] at h2
      cases e : vs[i]? with
      | none => rw [e] at h2; cases h2
      | some a => rw [e] at h2; cases h2; rfl
    obtain ⟨u, hu, rv⟩ := r.get ha
    have hp : ps[i]? = some y := by
      rw [← S.pre, List.getElem?_take_of_lt (by omega)]; exact h1
    have ndP : ps.Nodup := by rw [← S.pre]; exact S.nd.sublist (List.take_sublist _ _)
    refine ⟨u, rv, ?_⟩
    rcases S.par y (List.mem_of_getElem? hp) with k | k
    · exact .inl ⟨k, bindL_get ndP hp hu k⟩
    · obtain ⟨c, e⟩ := cell_has (n := s.heap.objs.size + 1) k
      refine .inr ⟨.inl k, c, e, ?_⟩
      have q := x.cell y c e
      rw [bindC_get ndP hp hu (by show scope.names.lookup y ≠ _; rw [k]; decide)] at q
      exact q
  · exact e0.hok.fresh (Nat.le_of_lt (x.above y c (PySem.mem_of_lookup h)))
  · unfold start
    show _ = N.length
    rw [List.length_append, List.length_map, List.length_replicate]
    omega
theorem fn_of {CX : CXT} {P : Program} {w : World} {K : PySem.W.Frag} {mg : Str → Option Value} {base : Heap} {k : Nat} {f : Addr} {name qual : Str} {params : Arguments} {body : List Stmt} {scope : Scope} {dV kV doc pm cdv ct oc : Value} {an od : Option Addr}
    {osl : Array (Option Value)} {N ps : List Str} {sp : Sp} (lk : K.lookup f = some ⟨oc, od, .func (PySem.W.fnOf name qual params body scope dV kV doc pm an cdv ct), osl⟩) (hcd : PySem.W.codeIn K cdv qual = true) (S : FnScope N ps scope)
    (len : ∀ vs H Q E, sp vs H Q E → vs.length = ps.length)
    (hbody : ∀ (A : Around) (outer : List Env) (s : Shared) (H : Hp) (vs : List V) (Q : VK) (E : XK), Room k (A.deeper (envOfC qual scope s.heap.objs.size f cdv)) → sp vs H Q E →
      ∃ t, PSs (cxOf CX P w K mg base N qual scope f cdv A outer s H E) body t ∧ t { nx := fun _ H' => Q .non H', rt := Q } (start N vs) H) :
    FnOk P w K mg base CX (k + 1) f (PySem.W.fnOf name qual params body scope dV kV doc pm an cdv ct) ps sp := by
  refine ⟨len, fun A outer s H args us vs Q E hr e0 hb r hsp => ?_⟩
  have hl := len _ _ _ _ hsp
  have KX : K.In s.heap := e0.mod.kin.keeps fun b o e => (e0.bs b o e).1
  have lim : s.heap.NoLimit := e0.mod.nolimit.keeps fun b o e => (e0.bs b o e).1
  have hkind : ∀ y ∈ ps.zip us, scope.names.lookup y.1 = some .local ∨ (scope.names.lookup y.1 = some .cell ∧ ((cellsFrom (s.heap.objs.size + 1) scope.names []).lookup y.1).isSome = true) := fun ⟨n, v⟩ hy => by
    rcases S.par n (List.of_mem_zip hy).1 with q | q
    · exact .inl q
    · exact .inr ⟨q, PySem.W.cellsFrom_some _ _ _ (.inl q)⟩
  refine codeAny_call_function hr.depth (KX _ _ lk) rfl S.co S.gen rfl (PySem.W.codeRec_of KX hcd) (hb _ _ _ _ ?_)
  refine wpAny_newFunctionEnv_cells S.kind hkind fun env he s1 x => ?_
  subst he
  refine ⟨lim.keeps x.toInCall.keep, codeAny_func ?_⟩
  obtain ⟨t, ht, hq⟩ := hbody A outer s H vs Q E (hr.deeper _) hsp
  have I : Inv (cxOf CX P w K mg base N qual scope f cdv A outer s H E) [] (start N vs) H s1 := inv_start S hr.hd e0 hl r x
  refine wpAny_mono (ht [] s1 (start N vs) H _ I hq) (fun fl s' hs => ?_) fun e s' hs => hs
  have fin : ∀ {σ' : St} {H' : Hp} {v : V} {u : Value}, Inv (cxOf CX P w K mg base N qual scope f cdv A outer s H E) [] σ' H' s' → RelV v u → Q v H' → CE outer P w H s Q u s' :=
    fun {σ' H' v u} J rv q => ⟨v, H', J.os, J.bare, J.base, J.hok, rv, q⟩
  cases fl with
  | ret u =>
    obtain ⟨v, σ', H', J, rv, q⟩ := hs
    exact fin J rv q
  | next =>
    obtain ⟨σ', H', J, q⟩ := hs
    exact fin (v := V.non) (u := Value.none) J rfl q
  | brk =>
    obtain ⟨_, _, _, q⟩ := hs
    exact False.elim q
  | cont =>
    obtain ⟨_, _, _, q⟩ := hs
    exact False.elim q
end L2
namespace L2
open PySem PySem.Spec PyProof.Rows
section
variable {X : Cx} {x : Str} {p pos : Pos} {e : Expr} {es : List Expr} {t : TA} {id T : String} {r : List V → Hp → VK → Prop}
noncomputable def tCB (r : List V → Hp → VK → Prop) (t : TA) : TE := fun σ H Q => t σ H fun vs H1 => r vs H1 Q
theorem pe_callB (hc : CallR X (.builtin id) r) (hg : Gl X x) (hm : X.mg x = none) (hv : bootBuiltins x = some (.builtin id)) (ha : PA X (e :: es) t) (hn : x ≠ "__name__" := by decide) (hdb : (x == ("__debug__" : Str)) = false := by decide)
    (he : starEach (e :: es) X.env = (false, eval e X.env) :: starEach es X.env := by rfl) (hpl : (backTo pos (starEach es X.env)).any (·.1) = false := by rfl) : PE X (.Call (.Name x p) (e :: es) [] pos) (tCB r t) := by
  intro pins s σ H Q I h
  refine wpAny_Call_Name_kw (ld_blt I hg hm hv ?_ hn hdb)
  exact PyProof.Rows.callWith_builtin1 (thn (ha pos pins s σ H _ I h) fun us s1 ⟨vs, H1, I1, r1, q1⟩ => hc pins s1 σ H1 vs us Q I1 r1 q1) he hpl
theorem pe_callTy (hc : CallR X (.type T) r) (hg : Gl X x) (hm : X.mg x = none) (hv : bootBuiltins x = some (.type T)) (ha : PA X (e :: es) t) (hn : x ≠ "__name__" := by decide) (hdb : (x == ("__debug__" : Str)) = false := by decide)
    (he : starEach (e :: es) X.env = (false, eval e X.env) :: starEach es X.env := by rfl) (hpl : (backTo pos (starEach es X.env)).any (·.1) = false := by rfl) : PE X (.Call (.Name x p) (e :: es) [] pos) (tCB r t) := by
  intro pins s σ H Q I h
  refine wpAny_Call_Name_kw (ld_blt I hg hm hv ?_ hn hdb)
  exact PyProof.Rows.callWith_type1 (thn (ha pos pins s σ H _ I h) fun us s1 ⟨vs, H1, I1, r1, q1⟩ => hc pins s1 σ H1 vs us Q I1 r1 q1) he hpl
end
end L2
namespace HT
open PySem PyProof.Rows
section
open PySem.SeqAt
open PySem.AutoSeq1 (wpAny_loadPart')
open PySem.MeetsSeq PySem.MeetsSeq2 PySem.MeetsSeq3
end
section
variable {prog : Program} {w : World} {A : Around} {E : Value → Shared → Prop} {s : Shared}
noncomputable def sIx (n d : Nat) : Option Int → Nat
  | none => d
  | some v => if v < 0 then (v + (n : Int)).toNat else min v.toNat n
theorem sIx_nat (n d k : Nat) : sIx n d (some (k : Int)) = min k n := by
  show (if (k : Int) < 0 then ((k : Int) + (n : Int)).toNat else min (k : Int).toNat n) = min k n
  rw [if_neg (by omega), Int.toNat_natCast]
end
end HT
namespace L2
open PySem PySem.Spec PyProof.Rows
noncomputable abbrev TO := St → Hp → (Option Int → Hp → Prop) → Prop
noncomputable def PO (X : Cx) (e : Option Expr) (t : TO) : Prop :=
  ∀ (pins : List (Addr × Obj)) (s : Shared) (σ : St) (H : Hp) (Q : Option Int → Hp → Prop), Inv X pins σ H s → t σ H Q →
    wpAny (model X.prog X.w) X.A (evalPart e X.env) (fun u s' => ∃ o H', Inv X pins σ H' s' ∧ IsPart u o ∧ Q o H') X.xe s
noncomputable def tNoPart : TO := fun _ H Q => Q none H
noncomputable def tPart (t : TE) : TO := fun σ H Q => t σ H fun x H1 => ∃ i, x = .int i ∧ Q (some i) H1
theorem intsAre_of {ns : List Int} : ∀ {us : List Value}, Vals (ns.map V.int) us → IntsAre us ns := by
  induction ns with
  | nil => intro us r; rw [List.map_nil] at r; cases r; exact .nil
  | cons n ns ih =>
    intro us r
    rw [List.map_cons] at r
    cases r with
    | cons r1 r2 =>
      obtain ⟨t, e⟩ := r1
      subst e
      exact .cons n t (ih r2)
section
variable {X : Cx} {e : Expr} {te : TE} {lo hi : Option Expr} {tl th : TO} {pos p2 : Pos}
theorem po_none : PO X none tNoPart := by
  intro pins s σ H Q I h
  rw [evalPart_none]
  exact wpAny_pure ⟨none, H, I, .none, h⟩
theorem po_some (h : PE X e te) : PO X (some e) (tPart te) := by
  intro pins s σ H Q I hw
  rw [evalPart_some]
  refine thn (h pins s σ H _ I hw) fun u s1 ⟨x, H1, I1, r1, q1⟩ => ?_
  obtain ⟨i, rfl, q⟩ := q1
  obtain ⟨t, rfl⟩ := r1
  exact ⟨some i, H1, I1, .int i t, q⟩
noncomputable def SlR (X : Cx) (r : V → Option Int → Option Int → Hp → VK → Prop) : Prop :=
  ∀ (pins : List (Addr × Obj)) (s : Shared) (σ : St) (H : Hp) (x : V) (v vl vu : Value) (lo hi : Option Int) (sl : Addr) (Q : VK), Inv X pins σ H s → RelV x v → s.heap.IsSliceOf sl vl vu .none → IsPart vl lo → IsPart vu hi → r x lo hi H Q →
    ∃ T id, typeLookup (.type T) "__getitem__" = pure (some (.builtin id)) ∧ s.TypeIs v T ∧ wpAny (model X.prog X.w) X.A (getItem v (.ref sl)) (EP X pins σ Q) X.xe s
noncomputable def tSl (r : V → Option Int → Option Int → Hp → VK → Prop) (te : TE) (tl th : TO) : TE := fun σ H Q => te σ H fun x H1 => tl σ H1 fun l H2 => th σ H2 fun u H3 => r x l u H3 Q
theorem pe_slice {r : V → Option Int → Option Int → Hp → VK → Prop} (hr : SlR X r) (he : PE X e te) (hl : PO X lo tl) (hu : PO X hi th) : PE X (.Subscript e (.Slice lo hi none p2) pos) (tSl r te tl th) := by
  intro pins s σ H Q I h
  refine Subscript_ (thn (he pins s σ H _ I h) fun v s1 ⟨x, H1, I1, r1, q1⟩ => ?_)
  refine wpAny_Slice (thn (hl pins s1 σ H1 _ I1 q1) fun vl s2 ⟨l, H2, I2, pl, q2⟩ => thn (hu pins s2 σ H2 _ I2 q2) fun vu s3 ⟨u, H3, I3, pu, q3⟩ => ?_)
  rw [evalPart_none]
  refine wpAny_pure ?_
  have I4 : Inv X pins σ H3 { s3 with heap := s3.heap.push { cls := .type "slice", data := .fields #[vl, vu, .none] } } := I3.kept (t' := s3.toks) fun b ob q => Heap.get?_push_of_some _ q
  obtain ⟨T, id, hT, ht, hg⟩ := hr pins { s3 with heap := s3.heap.push { cls := .type "slice", data := .fields #[vl, vu, .none] } } σ H3 x v vl vu l u s3.heap.objs.size Q I4 r1 (Heap.IsSliceOf.new ..) pl pu q3
  show wpAny (model X.prog X.w) X.A (subscriptTail e (.Slice lo hi none p2) v (.ref s3.heap.objs.size)) (EP X pins σ Q) X.xe { s3 with heap := s3.heap.push { cls := .type "slice", data := .fields #[vl, vu, .none] } }
  exact tail_any (ops := [.ref s3.heap.objs.size, v]) ht hT hg (by with_unfolding_all rfl)
noncomputable def cutV (xs : List V) (lo hi : Option Int) : List V := (xs.drop (HT.sIx xs.length 0 lo)).take (HT.sIx xs.length xs.length hi - HT.sIx xs.length 0 lo)
theorem cutV_length (xs : List V) (lo hi : Option Int) : (cutV xs lo hi).length ≤ xs.length := by
  unfold cutV
  rw [List.length_take, List.length_drop]
  omega
noncomputable def rSlT (K : PySem.W.Frag) : V → Option Int → Option Int → Hp → VK → Prop := fun x lo hi H Q => ∃ a xs, x = .ref a ∧ SqT K H a xs ∧
  ¬ (HT.sIx xs.length 0 lo = 0 ∧ HT.sIx xs.length xs.length hi = xs.length) ∧ ∀ p, H p = none → Q (.ref p) (upd H p (.tup (cutV xs lo hi)))
end
end L2
namespace L2
open PySem PySem.Spec PyProof.Rows
noncomputable def ixN (n : Nat) (i : Int) : Option Nat := if 0 ≤ i then (if i < n then some i.toNat else none) else if -(n : Int) ≤ i then some (i + n).toNat else none
noncomputable def atI {α : Type} (xs : List α) (i : Int) : Option α := (ixN xs.length i).bind fun j => xs[j]?
theorem ixN_seq {n : Nat} {i : Int} {j : Nat} (h : ixN n i = some j) : seqIndex? i n = some j ∧ j < n ∧ -(n : Int) ≤ i ∧ i < n := by
  unfold ixN at h
  by_cases h0 : 0 ≤ i
  · rw [if_pos h0] at h
    by_cases h1 : i < n
    · rw [if_pos h1] at h
      have e : i.toNat = j := Option.some.inj h
      exact ⟨by rw [seqIndex_of h0 h1, e], by omega, by omega, h1⟩
    · rw [if_neg h1] at h; cases h
  · rw [if_neg h0] at h
    by_cases h1 : -(n : Int) ≤ i
    · rw [if_pos h1] at h
      have e : (i + n).toNat = j := Option.some.inj h
      exact ⟨by rw [seqIndex_neg (by omega) h1, e], by omega, h1, by omega⟩
    · rw [if_neg h1] at h; cases h
theorem atI_get {α : Type} {xs : List α} {i : Int} {v : α} (h : atI xs i = some v) : ∃ j, seqIndex? i xs.length = some j ∧ xs[j]? = some v ∧ j < xs.length ∧ -(xs.length : Int) ≤ i ∧ i < xs.length := by
  unfold atI at h
  cases e : ixN xs.length i with
  | none => rw [e] at h; cases h
  | some j =>
    rw [e] at h
    obtain ⟨h1, h2, h3, h4⟩ := ixN_seq e
    exact ⟨j, h1, h, h2, h3, h4⟩
theorem atI_nat {α : Type} {xs : List α} {j : Nat} {v : α} (h : xs[j]? = some v) : atI xs (j : Int) = some v := by
  have hj : j < xs.length := (List.getElem?_eq_some_iff.mp h).1
  have e : ixN xs.length (j : Int) = some j := by
    unfold ixN
    rw [if_pos (by omega), if_pos (by omega)]; simp
  unfold atI; rw [e]; exact h
noncomputable def PlainIx (b : Expr) : Prop := ∀ o i, subscripted b false o i = operate [o, i] (getItem o i)
noncomputable def IxR (X : Cx) (r : R2) : Prop :=
  ∀ (value slice : Expr) (pins : List (Addr × Obj)) (s : Shared) (σ : St) (H : Hp) (x y : V) (v u : Value) (Q : VK), Inv X pins σ H s → RelV x v → RelV y u → r x y H Q →
    subscripted slice false v u = operate [v, u] (getItem v u) → wpAny (model X.prog X.w) X.A (subscriptTail value slice v u) (EP X pins σ Q) X.xe s
noncomputable def MtR (X : Cx) (id : String) (r : V → List V → Hp → VK → Prop) : Prop :=
  ∀ (pins : List (Addr × Obj)) (s : Shared) (σ : St) (H : Hp) (x : V) (xs : List V) (v : Value) (us : List Value) (Q : VK), Inv X pins σ H s → RelV x v → Vals xs us → r x xs H Q →
    wpAny (model X.prog X.w) X.A (call (.builtin id) (v :: us)) (EP X pins σ Q) X.xe s
section
variable {X : Cx} {a b : Expr} {ta tb : TE} {pos : Pos}
theorem pe_ix {r : R2} (hr : IxR X r) (ha : PE X a ta) (hb : PE X b tb) (hs : PlainIx b) : PE X (.Subscript a b pos) (tOp r ta tb) := by
  intro pins s σ H Q I h
  exact Subscript_ (binT ha hb I h fun v u s2 x y H2 I2 rx ry q => hr a b pins s2 σ H2 x y v u Q I2 rx ry q (hs _ _))
noncomputable def rIxL (K : PySem.W.Frag) : R2 := fun x y H Q => ∃ p xs i v, x = .ref p ∧ y = .int i ∧ SqL K H p xs ∧ atI xs i = some v ∧ Q v H
noncomputable def rIxT (K : PySem.W.Frag) : R2 := fun x y H Q => ∃ p xs i v, x = .ref p ∧ y = .int i ∧ SqT K H p xs ∧ atI xs i = some v ∧ Q v H
theorem ix_list : IxR X (rIxL X.K) := by
  intro value slice pins s σ H x y v u Q I rx ry h hs
  obtain ⟨p, xs, i, z, rfl, rfl, hq, he, q⟩ := h
  cases rx
  obtain ⟨t, rfl⟩ := ry
  obtain ⟨its, r, pl, hz⟩ := I.list hq
  obtain ⟨j, h1, h2, h3, h4, h5⟩ := atI_get he
  obtain ⟨w, ew, rw'⟩ := r.get h2
  have hl := r.length
  have hn := line63
  have fin : EP X pins σ Q w s := ⟨z, H, I, rw', q⟩
  by_cases h0 : 0 ≤ i
  · have hj : i.toNat = j := by
      rw [seqIndex_of h0 h5] at h1
      exact Option.some.inj h1
    exact item_listR pl.isList h0 (by omega) (by rw [hj]; simpa using ew) fin hs
  · have hj : (i + (its.toArray.size : Int)).toNat = j := by
      rw [seqIndex_neg (by omega) h4] at h1
      rw [List.size_toArray, ← hl]
      exact Option.some.inj h1
    exact subscriptTail_builtinR (x := w) pl.isList.typeIs slot_list_getitem.lookup
      (wpAny_getItem_list_neg (Q := fun r s' => r = w ∧ EP X pins σ Q r s') pl.isList (by omega) (by rw [List.size_toArray] <;> omega) (by omega) (by rw [hj]; simpa using ew) ⟨rfl, fin⟩) hs
theorem ix_tup : IxR X (rIxT X.K) := by
  intro value slice pins s σ H x y v u Q I rx ry h hs
  obtain ⟨p, xs, i, z, rfl, rfl, hq, he, q⟩ := h
  cases rx
  obtain ⟨t, rfl⟩ := ry
  obtain ⟨its, r, pl, hz⟩ := I.tuple hq
  obtain ⟨j, h1, h2, h3, h4, h5⟩ := atI_get he
  obtain ⟨w, ew, rw'⟩ := r.get h2
  have hl := r.length
  have hn := line63
  have fin : EP X pins σ Q w s := ⟨z, H, I, rw', q⟩
  exact subscriptTail_builtinR (x := w) pl.typeIs slot_tuple_getitem.lookup
    (getItem_tuple (j := j) (Q := fun r s' => r = w ∧ EP X pins σ Q r s') pl (by omega) (by omega) (by rw [List.size_toArray, ← hl]; exact h1) (by simpa using ew) ⟨rfl, fin⟩) hs
theorem mapSeq_set (its : List Value) (n j : Nat) (u : Value) : Obj.mapSeq (·.setIfInBounds j u) { cls := .type "list", data := .seq its.toArray n } = { cls := .type "list", data := .seq (its.set j u).toArray n } := by
  simp [Obj.mapSeq]
theorem Inv.lst {pins : List (Addr × Obj)} {σ : St} {H : Hp} {s : Shared} {p : Addr} {xs : List V} (I : Inv X pins σ H s) (h : H p = some (.lst xs)) :
    ∃ (its : List Value) (n : Nat), Vals xs its ∧ s.heap.get? p = some { cls := .type "list", data := .seq its.toArray n } ∧ xs.length ≤ sizeLine := by
  obtain ⟨z, its, n, r, e⟩ := I.hok p _ h
  exact ⟨its, n, r, e, z⟩
theorem Inv.lstUpd {pins : List (Addr × Obj)} {σ : St} {H : Hp} {s : Shared} {p : Addr} {xs ys : List V} {its its' : List Value} {n n' : Nat} {f : Obj → Obj} (I : Inv X pins σ H s) (h : H p = some (.lst xs))
    (ho : s.heap.get? p = some { cls := .type "list", data := .seq its.toArray n }) (hf : f { cls := .type "list", data := .seq its.toArray n } = { cls := .type "list", data := .seq its'.toArray n' }) (r : Vals ys its') (hz : ys.length ≤ sizeLine) (t : Nat) :
    Inv X pins σ (upd H p (.lst ys)) { s with heap := s.heap.update p f, toks := t } := by
  have e : (s.heap.update p f).get? p = some { cls := .type "list", data := .seq its'.toArray n' } := by
    rw [Heap.get?_update_self f ho (by rw [hf] <;> rfl), hf]
  refine I.write (x := p) (e := p) (by rw [h]; trivial) (.inl rfl) (fun b u hb q => (Heap.get?_update_other _ _ (Ne.symm hb)).trans q) ⟨_, e⟩ ?_
  exact ⟨hz, its', n', r, e⟩
noncomputable def rSetL : V → V → V → Hp → (Hp → Prop) → Prop := fun o i v H Q => ∃ p xs k j, o = .ref p ∧ i = .int k ∧ H p = some (.lst xs) ∧ ixN xs.length k = some j ∧ Q (upd H p (.lst (xs.set j v)))
theorem set_list : PSet X rSetL := by
  intro pins s σ H o i v ov iv u Q I ro ri rv h
  obtain ⟨p, xs, k, j, rfl, rfl, hp, hj, q⟩ := h
  cases ro
  obtain ⟨t, rfl⟩ := ri
  obtain ⟨its, n, r, ho, hz⟩ := I.lst hp
  obtain ⟨h1, h2, h3, h4⟩ := ixN_seq hj
  have hl := r.length
  have hn := line63
  have I' : Inv X pins σ (upd H p (.lst (xs.set j v))) { s with heap := s.heap.update p (Obj.mapSeq (·.setIfInBounds j u)) } :=
    I.lstUpd hp ho (mapSeq_set its n j u) (r.set rv j) (by rw [List.length_set]; exact hz) s.toks
  by_cases h0 : 0 ≤ k
  · have hk : k.toNat = j := by
      rw [seqIndex_of h0 h4] at h1
      exact Option.some.inj h1
    exact PySem.W.ki_setAt ho h0 (by omega) (by rw [List.size_toArray, ← hl]; exact h4) (by rw [hk]; exact ⟨_, I', q⟩)
  · have hk : (k + (its.toArray.size : Int)).toNat = j := by
      rw [seqIndex_neg (by omega) h3] at h1
      rw [List.size_toArray, ← hl]
      exact Option.some.inj h1
    exact PySem.W.ki_setBack ho (by omega) (by rw [List.size_toArray, ← hl]; exact h3) (by omega) (by rw [hk]; exact ⟨_, I', q⟩)
theorem slice_bounds (lo hi : Option Int) (n : Nat) : (sliceBounds lo hi none n).1 = ((HT.sIx n 0 lo : Nat) : Int) ∧ (sliceBounds lo hi none n).2.1 = ((HT.sIx n n hi : Nat) : Int) ∧ (sliceBounds lo hi none n).2.2 = 1 := by
  refine ⟨?_, ?_, rfl⟩
  · cases lo with
    | none => simp [sliceBounds, HT.sIx]
    | some i =>
      simp only [sliceBounds, HT.sIx, Option.getD_none, show (1 : Int) > 0 by decide, if_true]
      by_cases h : i < 0
      · simp only [h, if_true] <;> omega
      · simp only [h, if_false] <;> omega
  · cases hi with
    | none => simp [sliceBounds, HT.sIx]
    | some i =>
      simp only [sliceBounds, HT.sIx, Option.getD_none, show (1 : Int) > 0 by decide, if_true]
      by_cases h : i < 0
      · simp only [h, if_true] <;> omega
      · simp only [h, if_false] <;> omega
theorem slicePick_cut (its : List Value) (lo hi : Option Int) : slicePick its.toArray lo hi none = ((its.drop (HT.sIx its.length 0 lo)).take (HT.sIx its.length its.length hi - HT.sIx its.length 0 lo)).toArray := by
  obtain ⟨h1, h2, h3⟩ := slice_bounds lo hi its.toArray.size
  unfold slicePick
  rw [h1, h2, h3]
  simp only [sliceRange_one, pick_run, List.size_toArray] <;> rfl
noncomputable def rSlL (K : PySem.W.Frag) : V → Option Int → Option Int → Hp → VK → Prop := fun x lo hi H Q => ∃ a xs, x = .ref a ∧ SqL K H a xs ∧ ∀ p, H p = none → Q (.ref p) (upd H p (.lst (cutV xs lo hi)))
theorem sl_list : SlR X (rSlL X.K) := by
  intro pins s σ H x v vl vu lo hi sl Q I rx hs pl pu h
  obtain ⟨a, xs, rfl, hx, q⟩ := h
  cases rx
  obtain ⟨its, r, ht, hz⟩ := I.list hx
  have hlen := r.length
  refine ⟨"list", _, slot_list_getitem.lookup, ht.isList.typeIs, ?_⟩
  refine wpAny_getItem_list_slice ht.isList hs pl pu .none (by simp) ?_ (by rw [List.size_toArray] <;> omega)
  rw [slicePick_cut, ← hlen]
  refine ⟨.ref s.heap.objs.size, _, I.laid (t' := s.toks) (o := .lst (cutV xs lo hi)) (fun b ob q => Heap.get?_push_of_some _ q) (Nat.le_refl _) ?_, rfl, q _ (I.hok.fresh (Nat.le_refl _))⟩
  exact ⟨Nat.le_trans (cutV_length xs lo hi) hz, _, 0, (r.drop (HT.sIx xs.length 0 lo)).take (HT.sIx xs.length xs.length hi - HT.sIx xs.length 0 lo), Heap.get?_push_size _ rfl⟩
theorem call_len_seq : CallR X (.builtin "len") (fun xs H Q => ∃ p ys, xs = [.ref p] ∧ (SqL X.K H p ys ∨ SqT X.K H p ys) ∧ Q (.int ys.length) H) := by
  intro pins s σ H xs us Q I r h
  obtain ⟨p, ys, rfl, hq, q⟩ := h
  obtain ⟨u, rfl, rx⟩ := vals1 r
  cases rx
  have hn := line63
  rcases hq with hq | hq
  · obtain ⟨its, r', pl, hz⟩ := I.list hq
    have hlen := r'.length
    exact Calls.call_len_list pl.isList (by simp only [List.size_toArray] <;> omega) ⟨.int ys.length, H, I.tok _, ⟨s.toks + 1, by rw [List.size_toArray, hlen]⟩, q⟩
  · obtain ⟨its, r', pl, hz⟩ := I.tuple hq
    have hlen := r'.length
    exact len_tuple pl (by simp only [List.size_toArray] <;> omega) ⟨.int ys.length, H, I.tok _, ⟨s.toks + 1, by rw [List.size_toArray, hlen]⟩, q⟩
theorem call_list_of : CallR X (.type "list") (fun xs H Q => ∃ p ys, xs = [.ref p] ∧ (SqL X.K H p ys ∨ SqT X.K H p ys) ∧ ∀ l, H l = none → Q (.ref l) (upd H l (.lst ys))) := by
  intro pins s σ H xs us Q I r h
  obtain ⟨p, ys, rfl, hq, q⟩ := h
  obtain ⟨u, rfl, rx⟩ := vals1 r
  cases rx
  have fin : ∀ (its : List Value), Vals ys its → ys.length ≤ sizeLine → ∀ (h' : Heap) (c' : Nat), (∀ b o', s.heap.get? b = some o' → h'.get? b = some o') →
      h'.get? s.heap.objs.size = some { cls := .type "list", dict := none, data := .seq its.toArray c', slots := #[] } → EP X pins σ Q (.ref s.heap.objs.size) { s with heap := h' } := fun its r' hz h' c' kp e =>
    ⟨.ref s.heap.objs.size, _, I.laid (t' := s.toks) kp (Nat.le_refl _) (show ObjOk X.prog X.w _ h' _ (.lst ys) from ⟨hz, its, c', r', e⟩), rfl, q _ (I.hok.fresh (Nat.le_refl _))⟩
  rcases hq with hq | hq
  · obtain ⟨its, r', pl, hz⟩ := I.list hq
    have hlen := r'.length
    obtain ⟨o, ho, hc, n, hd⟩ := pl.isList
    exact call_list_seq p (.inl rfl) ho hc hd (fun h' c' kp e => fin its r' hz h' c' kp e) (by simp only [List.size_toArray] <;> omega)
  · obtain ⟨its, r', pl, hz⟩ := I.tuple hq
    have hlen := r'.length
    obtain ⟨o, ho, hc, n, hd⟩ := pl
    exact call_list_seq p (.inr rfl) ho hc hd (fun h' c' kp e => fin its r' hz h' c' kp e) (by simp only [List.size_toArray] <;> omega)
noncomputable def tyV (K : PySem.W.Frag) (T : String) (x : V) (H : Hp) : Prop := match x with
  | .str _ => T = "str"
  | .int _ => T = "int"
  | .ref p => (T = "list" ∧ ∃ xs, SqL K H p xs) ∨ (T = "tuple" ∧ ∃ o, K.lookup p = some o ∧ o.cls = .type "tuple" ∧ o.dict = none) ∨
      (T = "dict" ∧ ((∃ kvs, H p = some (.dK kvs)) ∨ ∃ kvs, H p = some (.dT kvs))) ∨ (T = "set" ∧ ∃ S n, H p = some (.set S n))
  | _ => False
theorem tyV_is {pins : List (Addr × Obj)} {σ : St} {H : Hp} {s : Shared} {T : String} {x : V} {v : Value} (I : Inv X pins σ H s) (r : RelV x v) (ty : tyV X.K T x H) :
    s.TypeIs v T ∧ ∀ a, v = .ref a → ∃ ob, s.heap.get? a = some ob ∧ ob.dict = none := by
  cases x with
  | str z =>
    obtain ⟨t, rfl⟩ := r
    cases (show T = "str" from ty)
    exact ⟨typeIs_str s z t, fun _ e => nomatch e⟩
  | int i =>
    obtain ⟨t, rfl⟩ := r
    cases (show T = "int" from ty)
    exact ⟨typeIs_int s i t, fun _ e => nomatch e⟩
  | ref p =>
    cases r
    rcases ty with ⟨rfl, xs, hq⟩ | ⟨rfl, o, hk, hc, hd⟩ | ⟨rfl, hk⟩ | ⟨rfl, S, n, hk⟩
    · obtain ⟨its, _, pl, _⟩ := I.list hq
      refine ⟨pl.isList.typeIs, fun a e => ?_⟩
      cases e
      obtain ⟨o, n, e, c, hd, _⟩ := pl
      exact ⟨o, e, hd⟩
    · refine ⟨⟨o, I.kIn p o hk, hc⟩, fun a e => ?_⟩
      cases e
      exact ⟨o, I.kIn _ o hk, hd⟩
    · have z : ∃ o, s.heap.get? p = some o ∧ o.ExactDict := by
        rcases hk with ⟨kvs, hk⟩ | ⟨kvs, hk⟩
        · obtain ⟨_, _, _, _, o, _, _, e, ex, _⟩ := I.hok p _ hk
          exact ⟨o, e, ex⟩
        · obtain ⟨_, _, _, _, o, _, _, e, ex, _⟩ := I.hok p _ hk
          exact ⟨o, e, ex⟩
      obtain ⟨o, e, ex⟩ := z
      refine ⟨⟨o, e, ex.1⟩, fun a e2 => ?_⟩
      cases e2
      exact ⟨o, e, ex.2.1⟩
    · obtain ⟨o, _, _, _, e, ex, _⟩ := I.hok p _ hk
      refine ⟨⟨o, e, ex.1⟩, fun a e2 => ?_⟩
      cases e2
      exact ⟨o, e, ex.2.1⟩
  | _ => exact False.elim ty
noncomputable def tBM (K : PySem.W.Frag) (T : String) (r : V → List V → Hp → VK → Prop) (to : TE) (t : TA) : TE := fun σ H Q => to σ H fun x H1 => tyV K T x H1 ∧ t σ H1 fun xs H2 => r x xs H2 Q
variable {o e : Expr} {es : List Expr} {to : TE} {t : TA} {name : Str} {apos cpos : Pos} {T id : String} {r : V → List V → Hp → VK → Prop}
theorem pe_bm (pa : PlainAttrs T) (slot : Slot T name id) (hty : typeOf (.builtin id) = pure (.type "method_descriptor")) (hm : MtR X id r) (ho : PE X o to) (ha : PA X (e :: es) t)
    (hbase : attributeBase o name X.env (eval o X.env) = eval o X.env := by rfl)
    (hfew : ((backTo cpos (starEach (e :: es) X.env)).all (fun x => !x.1) && (backToKw cpos (keywordEach [] X.env)).all (fun x => x.1.isSome)
      && decide ((e :: es).length + ([] : List Keyword).length + (if ([] : List Keyword).isEmpty then 0 else 1) < 30)) = true := by rfl)
    (hline : (apos.endLine == cpos.line) = true := by rfl) (hs : starEach (e :: es) X.env = (false, eval e X.env) :: starEach es X.env := by rfl) (hplain : (backTo cpos (starEach es X.env)).any (·.1) = false := by rfl) :
    PE X (.Call (.Attribute o name apos) (e :: es) [] cpos) (tBM X.K T r to t) := by
  intro pins s σ H Q I h
  refine wpAny_Call_method_late hbase hfew hline rfl (thn (ho pins s σ H _ I h) fun v s1 ⟨x, H1, I1, r1, ty, q1⟩ => ?_)
  obtain ⟨h1, h2⟩ := tyV_is I1 r1 ty
  refine ⟨T, id, pa, slot, hty, h1, h2, ?_⟩
  have hA := ha cpos pins s1 σ H1 _ I1 q1
  rw [hs] at hA ⊢
  refine Calls.callWith_builtin (by show (false || (backTo cpos (starEach es X.env)).any (·.1)) = false; rw [hplain] <;> rfl) (Calls.evalArgs_plain ?_)
  exact thn hA fun us s2 ⟨vs, H2, I2, r2, q2⟩ => hm pins s2 σ H2 x vs v us Q I2 r1 r2 q2
/- xs.append(e), list.index on a module's tuple .. are MtR facts of 06m -/
end
end L2
namespace L2
open PySem PySem.Spec PyProof.Rows
noncomputable def MtM (X : Cx) (id : String) (r : V → List V → Hp → VK → Prop) : Prop :=
  ∀ (pins : List (Addr × Obj)) (s : Shared) (σ : St) (H : Hp) (x : V) (xs : List V) (v : Value) (us : List Value) (Q : VK), Inv X pins σ H s → RelV x v → Vals xs us → r x xs H Q →
    wpAny (model X.prog X.w) X.A (call (.builtin id) (v :: us)) (EP X pins σ Q) X.xe s
theorem Vals.one : ∀ {x : V} {us : List Value}, Vals [x] us → ∃ u, us = [u] ∧ RelV x u
  | _, _, .cons r .nil => ⟨_, rfl, r⟩
theorem Vals.two : ∀ {x y : V} {us : List Value}, Vals [x, y] us → ∃ u v, us = [u, v] ∧ RelV x u ∧ RelV y v
  | _, _, _, .cons r (.cons q .nil) => ⟨_, _, rfl, r, q⟩
theorem Vals.zero : ∀ {us : List Value}, Vals [] us → us = []
  | _, .nil => rfl
theorem Vals.reverse {xs : List V} {us : List Value} (h : Vals xs us) : Vals xs.reverse us.reverse := by
  induction h with
  | nil => exact .nil
  | cons r t ih => rw [List.reverse_cons, List.reverse_cons]; exact Vals.append ih (.cons r .nil)
theorem Vals.rep {xs : List V} {us : List Value} (h : Vals xs us) : ∀ k : Nat, Vals (List.replicate k xs).flatten (List.replicate k us).flatten
  | 0 => .nil
  | k + 1 => by
    rw [List.replicate_succ, List.replicate_succ, List.flatten_cons, List.flatten_cons]
    exact Vals.append h (Vals.rep h k)
theorem foldl_rep (its : List Value) : ∀ (k : Nat) (acc : List Value),
    List.foldl (fun x1 x2 => x1 ++ x2) acc.toArray (List.replicate k its.toArray) = (acc ++ (List.replicate k its).flatten).toArray
  | 0, acc => by simp
  | k + 1, acc => by
    have e : acc.toArray ++ its.toArray = (acc ++ its).toArray := by simp
    have e2 : (acc ++ its) ++ (List.replicate k its).flatten = acc ++ (List.replicate (k + 1) its).flatten := by
      rw [List.replicate_succ, List.flatten_cons, List.append_assoc]
    rw [← e2, ← foldl_rep its k (acc ++ its), ← e, List.replicate_succ, List.foldl_cons]
section
variable {X : Cx} {pins : List (Addr × Obj)} {σ : St} {H : Hp} {s : Shared} {l b : Addr} {xs ys zs : List V}
theorem Inv.lset {its its' : List Value} {n : Nat} {f : Array Value → Array Value} {t' : Nat} (I : Inv X pins σ H s) (hH : H l = some (.lst xs))
    (e : s.heap.get? l = some { cls := .type "list", data := .seq its.toArray n }) (hf : f its.toArray = its'.toArray) (hv : Vals ys its') (hz : ys.length ≤ sizeLine) :
    Inv X pins σ (upd H l (.lst ys)) { s with heap := s.heap.update l (Obj.mapSeq f), toks := t' } := by
  have q := PySem.IsL.update e f
  rw [hf] at q
  refine I.write (x := l) (e := l) (by rw [hH]; exact trivial) (.inl rfl) (fun b' u hb hu => (Heap.get?_update_other s.heap (Obj.mapSeq f) (Ne.symm hb)).trans hu) ⟨_, q⟩ ?_
  exact ⟨hz, its', _, hv, q⟩
theorem Inv.lnew {its : List Value} {t' : Nat} (I : Inv X pins σ H s) (hv : Vals ys its) (hz : ys.length ≤ sizeLine) :
    Inv X pins σ (upd H s.heap.objs.size (.lst ys)) { s with heap := s.heap.push { cls := .type "list", data := .seq its.toArray }, toks := t' } :=
  I.laid (fun _ _ q => Heap.get?_push_of_some _ q) (Nat.le_refl _) ⟨hz, its, 0, hv, Heap.get?_push_size _ rfl⟩
theorem Inv.fresh (I : Inv X pins σ H s) : H s.heap.objs.size = none := I.hok.fresh (Nat.le_refl _)
theorem Inv.lstM (I : Inv X pins σ H s) (hH : H l = some (.lst xs)) : xs.length ≤ sizeLine ∧ ∃ (its : List Value) (n : Nat), Vals xs its ∧ xs.length = its.length ∧ s.heap.get? l = some { cls := .type "list", data := .seq its.toArray n } := by
  obtain ⟨z, its, n, r, e⟩ := I.hok l _ hH
  exact ⟨z, its, n, r, r.length, e⟩
theorem notLongL {n : Nat} (h : n ≤ sizeLine) : Builtin.List.listTooLong n = false := by
  unfold Builtin.List.listTooLong
  exact decide_eq_false (by omega)
end
section
variable {X : Cx}
noncomputable def rAppend : V → List V → Hp → VK → Prop := fun x vs H Q => ∃ l xs y, x = .ref l ∧ vs = [y] ∧ H l = some (.lst xs) ∧ xs.length < sizeLine ∧ Q .non (upd H l (.lst (xs ++ [y])))
theorem mt_append : MtM X "list.append" rAppend := by
  intro pins s σ H x vs v us Q I rx rv h
  obtain ⟨l, xs, y, rfl, rfl, hH, hz, q⟩ := h
  cases rx
  obtain ⟨u, rfl, ru⟩ := rv.one
  obtain ⟨z, its, n, r, hl, e⟩ := I.lstM hH
  refine call_meets F.slot_list_append ⟨_, e, rfl⟩ F.entry_list_append (F.args_list_append_2 _ _) (PySem.list_append l its.toArray n u (by rw [List.size_toArray]; omega)) ⟨e, ?_⟩
  refine ⟨.non, _, I.lset (its' := its ++ [u]) hH e (by simp) (r.append (.cons ru .nil)) ?_, rfl, q⟩
  rw [List.length_append, List.length_singleton]
  omega
noncomputable def rCat : R2 := fun x y H Q => ∃ l b xs zs, x = .ref l ∧ y = .ref b ∧ H l = some (.lst xs) ∧ H b = some (.lst zs) ∧ xs.length + zs.length ≤ sizeLine ∧ ∀ p, H p = none → Q (.ref p) (upd H p (.lst (xs ++ zs)))
theorem op_cat : OpR X (binaryOp .Add) rCat := by
  intro pins s σ H x y v u Q I rx ry h
  obtain ⟨l, b, xs, zs, rfl, rfl, hH, hB, hz, q⟩ := h
  cases rx
  cases ry
  obtain ⟨z, its, n, r, hl, e⟩ := I.lstM hH
  obtain ⟨z2, its2, n2, r2, hl2, e2⟩ := I.lstM hB
  refine PySem.P.add_list e e2 ?_ (by rw [List.size_toArray, List.size_toArray]; omega)
  have ea : its.toArray ++ its2.toArray = (its ++ its2).toArray := by simp
  rw [ea]
  exact ⟨.ref _, _, I.lnew (t' := s.toks) (r.append r2) (by rw [List.length_append]; omega), rfl, q _ I.fresh⟩
noncomputable def rRep : R2 := fun x y H Q => ∃ l k xs, x = .ref l ∧ y = .int k ∧ H l = some (.lst xs) ∧ -(2 ^ 63) ≤ k ∧ k < 2 ^ 63 ∧ xs.length * k.toNat ≤ sizeLine ∧
  ∀ p, H p = none → Q (.ref p) (upd H p (.lst (List.replicate k.toNat xs).flatten))
theorem len_rep {α : Type} (xs : List α) (k : Nat) : (List.replicate k xs).flatten.length = k * xs.length := by
  induction k with
  | zero => simp
  | succ k ih => rw [List.replicate_succ, List.flatten_cons, List.length_append, ih, Nat.succ_mul, Nat.add_comm]
theorem op_rep : OpR X (binaryOp .Mult) rRep := by
  intro pins s σ H x y v u Q I rx ry h
  obtain ⟨l, k, xs, rfl, rfl, hH, h1, h2, hz, q⟩ := h
  cases rx
  obtain ⟨t, rfl⟩ := ry
  obtain ⟨z, its, n, r, hl, e⟩ := I.lstM hH
  have hlen : its.toArray.size * k.toNat ≤ sizeLine := by rw [List.size_toArray, ← hl]; exact hz
  have hcap : ¬ its.toArray.size * k.toNat > (2 ^ 63 - 1) / 8 := by
    have : (sizeLine : Nat) ≤ (2 ^ 63 - 1) / 8 := by decide
    omega
  have hfit : ¬ (!Builtin.List.listFitsIndex k) = true := by
    rw [fitsIndex_both h1 h2]
    exact Bool.false_ne_true
  have hlong : ¬ Builtin.List.listTooLong (its.toArray.size * k.toNat) = true := by
    rw [notLongL hlen]
    exact Bool.false_ne_true
  have hnew : List.foldl (fun x1 x2 => x1 ++ x2) #[] (List.replicate (if its.toArray.isEmpty = true then 0 else k.toNat) its.toArray) = (List.replicate k.toNat its).flatten.toArray := by
    have f0 : ∀ m : Nat, List.foldl (fun x1 x2 => x1 ++ x2) #[] (List.replicate m its.toArray) = (List.replicate m its).flatten.toArray := fun m => by
      have := foldl_rep its m []
      rw [List.nil_append] at this
      exact this
    rw [f0]
    cases its with
    | nil => simp
    | cons a r' => rw [if_neg (by simp)]
  refine wpAny_binaryOp_repeat_ref (T := "list") (U := "int") (by decide) ⟨_, e, rfl⟩ (fun s' => typeIs_int s' k t) noFill_list_mul F.fills_int_mul F.slot_int_rmul repeat_list F.slot_int_index.lookup
    (call_meets F.slot_int_rmul (typeIs_int s k t) F.entry_int_rmul (F.args_int_rmul_2 _ _) (int___rmul___int_list k t l its.toArray n)
      ⟨e, rfl, ⟨_, e, rfl⟩, call_meets F.slot_list_mul ⟨_, e, rfl⟩ F.entry_list_mul (F.args_list_mul_2 _ _) (AutoListH.list___mul___list_int_3 l its.toArray n k t hfit hcap hlong) ⟨e, ?_⟩⟩)
  rw [hnew]
  exact ⟨.ref _, _, I.lnew (t' := s.toks) (r.rep k.toNat) (by rw [len_rep, Nat.mul_comm]; exact hz), rfl, q _ I.fresh⟩
end
section
variable {prog : Program} {w : World} {A : Around} {E : Value → Shared → Prop} {s : Shared}
set_option maxRecDepth 100000 in
end
section
variable {X : Cx}
end
end L2
namespace Att
open PySem PySem.W PySem.Calls PyProof.Rows
theorem ints_of_wellAll {P : Params} {h : Heap} : ∀ (ns : List Int) (vs : List Value), WellAll P h vs (ns.map WData.int) → IntsAre vs ns := by
  intro ns
  induction ns with
  | nil =>
    intro vs w
    rw [List.map_nil] at w
    cases w
    exact .nil
  | cons n ns ih =>
    intro vs w
    rw [List.map_cons] at w
    cases w with
    | cons a b =>
      cases a
      exact .cons _ _ (ih _ b)
theorem script_of {l : OpenLaw} {n : Nat} (hn : l.most = some n) {P : Params} {h : Heap} {args : List WData} {vals : List Value}
    (hpre : l.row.toRowW.claim.pre args = true) (hwl : WellAll P h vals args) :
    ∃ a vs ns, vals = [Value.ref a] ∧ args = [WData.list (ns.map WData.int)] ∧ h.get? a = some { cls := .type "list", data := .seq vs.toArray } ∧ IntsAre vs ns ∧ ns.length ≤ n := by
  have hsh : WShape.hasAll [] args [.list .int] = true := (pre_splitW hpre).1
  have hc : l.pre.holds [] { args := args } = true := (pre_splitW hpre).2
  obtain ⟨d, r, rfl, h1, h2⟩ := hasAllW_cons hsh
  obtain rfl := hasAllW_nil h2
  obtain ⟨xs, rfl, h3⟩ := hasW_list h1
  obtain ⟨ns, rfl⟩ := items_int h3
  have hlen : ns.length ≤ n := by
    unfold OpenLaw.pre at hc
    have h4 : (WTm.not (.lt (.lit (.int (n : Int))) (.len (.arg 0)))).holds [] { args := [.list (ns.map .int)] } = true := by
      have h4 := (holds_andW hc).1
      rw [hn] at h4
      exact h4
    have h5 := condW_of h4 (w_not (w_lt w_lit (w_len_list (w_arg rfl))))
    rw [List.length_map] at h5
    refine Nat.le_of_not_lt fun q => ?_
    have q' : (n : Int) < ((ns.length : Nat) : Int) := by omega
    first
      | (rw [decide_eq_true q'] at h5; exact absurd h5 (by decide))
      | (simp at h5; omega)
  cases hwl with
  | cons w1 w2 =>
    cases w2
    cases w1 with
    | list ho hall => exact ⟨_, _, ns, rfl, rfl, ho, ints_of_wellAll ns _ hall, hlen⟩
theorem post_true (l : OpenLaw) (args : List WData) : l.row.toRowW.claim.post args (.bool true) args = true :=
  postW_of (r := l.row.toRowW) (X := (true == true))
    (show WShape.has [] (.bool true) .bool = true by first | rfl | decide | simp [WShape.has, WShape.arms, WShape.armsAll])
    (show (WTm.eq .res (.lit (.bool true))).value [] { args := args, res := some (.bool true), after := args } = some (.bool (true == true)) from w_eq_bool (w_res rfl) w_lit) rfl
theorem attach_call {l : OpenLaw} {n : Nat} {q : Program} {loose : List Str} {XP : (Str → Option Value) → Heap → Prop} {YP : World → Heap → Prop} {d : DefRec}
    (hn : l.most = some n) (hdf : d.params.defaults = [])
    (call : ∀ (w : World) (s₀ s₁ : Shared) (mg mb : Str → Option Value) (fa : Addr) (o : Obj) (pm cd doc : Value) (a : Addr) (vs : List Value) (ns : List Int),
      Ground q loose [] XP w s₀ mg mb s₁.heap → YP w s₁.heap →
      s₁.heap.get? fa = some o → o.data = .func (docDef d.name d.params d.body d.scope pm cd doc) → s₁.heap.CodeRec cd d.name → mg d.name = some (.ref fa) →
      s₁.heap.get? a = some { cls := .type "list", data := .seq vs.toArray } → IntsAre vs ns → ns.length ≤ n → s₁.gens = #[] →
      codeAny (model l.prog w) callerA (.call (.ref fa) ⟨[.ref a], []⟩) (fun r s' => r = .ok (.ret (.bool true)) ∧ OldK s₁.heap s'.heap ∧ s'.os = s₁.os ∧ AllBare s'.gens) s₁) :
    WalkO q loose XP YP l.row.toRowW d [] (fun f vs => PySem.call f vs) := by
  intro w s₀ s₁ mg mb G Y fa o pm cd doc dV kV ho hd hcd hD hmg hg args vals as hpre hlay hrd hwl hlo
  obtain rfl : dV = .none := Dflts.none hD hdf
  obtain rfl : kV = .none := Dflts.noKw hD
  obtain ⟨a, vs, ns, rfl, rfl, hobj, hints, hlen⟩ := script_of hn hpre hwl
  refine enter_call (codeAny_mono (call w s₀ s₁ mg mb fa o pm cd doc a vs ns G Y ho (fd_plain hd) hcd hmg hobj hints hlen hg) fun r s' hq => ?_)
  obtain ⟨rfl, h2, h3, h4⟩ := hq
  exact ⟨.inl ⟨.bool true, .bool true, [], rfl, fun _ => rfl, .bool true, post_true l _, fun _ => ⟨List.Pairwise.nil, fun _ hm => (nomatch hm)⟩⟩, h2, h3, h4⟩
section
variable {prog : Program} {w : World} {A : Around} {E : Value → Shared → Prop} {s : Shared} {K : Frag}
noncomputable def ledger (h : Heap) (L d : Addr) : List (Addr × Obj) := (List.range h.objs.size).filterMap fun a => if a = L ∨ a = d then none else (h.get? a).map fun o => (a, o)
end
end Att
namespace L2
open PySem PySem.Spec PyProof.Rows
theorem vals_ints : ∀ {vs : List Value} {ns : List Int}, IntsAre vs ns → Vals (ns.map V.int) vs
  | _, _, .nil => .nil
  | _, _, .cons n t h => .cons ⟨t, rfl⟩ (vals_ints h)
noncomputable def Only (H : Hp) : Prop := ∀ b, H b = none ∨ ∃ o xs, H b = some (.frz o (.lst xs))
theorem law_call {P : Program} {w : World} {K : PySem.W.Frag} {mg mb : Str → Option Value} {CX : CXT} {k : Nat} {fa a : Addr} {fd : FuncData} {x : Str} {sp : Sp} {s₁ : Shared} {vs : List Value} {ns : List Int}
    (KX : K.In s₁.heap) (hns : s₁.heap.Ns mainGlobals mg) (hb : s₁.heap.Ns builtinsNs mb) (hbb : ∀ x : Str, x ≠ "__name__" → mb x = bootBuiltins x) (hlim : s₁.heap.NoLimit) (hg : s₁.gens = #[])
    (ha : s₁.heap.get? a = some { cls := .type "list", data := .seq vs.toArray }) (hi : IntsAre vs ns) (hl : ns.length ≤ sizeLine) (hr : Room k callerA)
    (F : ∀ base : Heap, K.In base → base.Ns mainGlobals mg → FnOk P w K mg base CX k fa fd [x] sp) (hbind : ∀ (s : Shared) (u : Value), BindsTo s fd ⟨[u], []⟩ [(x, u)])
    (hsp : ∀ H : Hp, Only H → SqL K H a (ns.map V.int) → sp [.ref a] H (fun v _ => v = .bl true) fun _ _ _ => False)
    (hCX : ∀ H e s', CX [] H s₁ (fun _ _ _ => False) e s' → False) :
    codeAny (model P w) callerA (.call (.ref fa) ⟨[.ref a], []⟩) (fun r s' => r = .ok (.ret (.bool true)) ∧ OldK s₁.heap s'.heap ∧ s'.os = s₁.os ∧ AllBare s'.gens) s₁ := by
  have rv := vals_ints hi
  have lenV := hi.length
  -- from an abstract heap in which nothing but the script may be tracked
  have core : ∀ H : Hp, Only H → SqL K H a (ns.map V.int) → HOk P w H s₁.heap → (∀ b, H b ≠ none → b = a) → (H a ≠ none → K.lookup a = none) →
      codeAny (model P w) callerA (.call (.ref fa) ⟨[.ref a], []⟩) (fun r s' => r = .ok (.ret (.bool true)) ∧ OldK s₁.heap s'.heap ∧ s'.os = s₁.os ∧ AllBare s'.gens) s₁ := by
    intro H hO hS hok hA hK
    have base_of : ∀ {b : Addr} {o : Obj}, s₁.heap.get? b = some o → H b = none → (hidT s₁.heap H).get? b = some o := fun e n => hidT_get e n
    have noA : ∀ {b : Addr} {o : Obj} {es : Array DictEntry} {ep : Nat}, s₁.heap.get? b = some o → o.data = .dict es ep → H b = none := fun {b o es ep} e d => by
      cases q : H b with
      | none => rfl
      | some u =>
        have e' : b = a := hA b (by rw [q]; simp)
        subst e'
        rw [ha] at e; cases e
        have d' : Data.seq vs.toArray _ = Data.dict es ep := d
        cases d'
    have nsK : ∀ {b : Addr} {m : Str → Option Value}, s₁.heap.Ns b m → (hidT s₁.heap H).Ns b m := fun {b m} ⟨o, es, ep, e, d, r⟩ => ⟨o, es, ep, base_of e (noA e d), d, r⟩
    have hKb : K.In (hidT s₁.heap H) := fun b o e => base_of (KX b o e) (by
      cases q : H b with
      | none => rfl
      | some u =>
        have e' : b = a := hA b (by rw [q]; simp)
        subst e'
        rw [hK (by rw [q]; simp)] at e; cases e)
    have hM : Mod K mg (hidT s₁.heap H) := ⟨hKb, nsK hns, ⟨mb, nsK hb, hbb⟩, let ⟨mc, h1, h2⟩ := hlim; ⟨mc, nsK h1, h2⟩⟩
    have e0 : Env0 P w K mg (hidT s₁.heap H) callerA [] s₁ H := ⟨rfl, hM, fun b o e => of_hidT e, Nat.le_of_eq (hidT_size _ _), trivial, fun b hb => absurd (show b ∈ ([] : List Addr) from hb) (by simp), hok, .of_eq hg⟩
    refine codeAny_mono ((F _ hKb (nsK hns)).run callerA [] s₁ H ⟨[.ref a], []⟩ [.ref a] [.ref a] _ _ hr e0 (hbind s₁ (.ref a)) (.cons rfl .nil) (hsp H hO hS)) fun r s' h => ?_
    cases r with
    | error e => exact (hCX H e s' h).elim
    | ok fl =>
      cases fl with
      | next => exact False.elim h
      | brk => exact False.elim h
      | cont => exact False.elim h
      | ret u =>
        obtain ⟨v, H', os, bare, un, hok', r', q⟩ := h
        have q' : v = .bl true := q
        subst q'
        obtain rfl : u = Value.bool true := r'
        refine ⟨rfl, OldK.of_keep fun b o e => ?_, os, bare⟩
        cases q : H b with
        | none => exact un.keep b o e q (by intro z; exact absurd (show b ∈ ([] : List Addr) from z) (by simp)) (by simp)
        | some u =>
          rcases hO b with z | ⟨ob, xs, z⟩
          · rw [q] at z; cases z
          · have z2 := un.frzs b ob _ z
            obtain ⟨e1, _⟩ := hok b _ z
            obtain ⟨e2, _⟩ := hok' b _ z2
            rw [e] at e1; cases e1
            exact e2
  cases hk : K.lookup a with
  | some o =>
    -- the script is one of the module's own objects
    have e := KX a o hk
    rw [ha] at e
    cases e
    refine core (fun _ => none) (fun _ => .inl rfl) (.inr ⟨_, vs.toArray, _, hk, rfl, rfl, rfl, by rw [List.size_toArray, lenV]; exact hl, by simpa using rv⟩) (fun b u z => by have z' : (none : Option HO) = some u := z; cases z') (fun b z => absurd rfl z) fun z => absurd rfl z
  | none =>
    refine core (fun b => if b = a then some (.frz { cls := .type "list", data := .seq vs.toArray } (.lst (ns.map V.int))) else none) (fun b => ?_) (.inl (.inr ⟨{ cls := .type "list", data := .seq vs.toArray }, if_pos rfl⟩)) (fun b u z => ?_) (fun b z => ?_) fun _ => hk
    · by_cases hb : b = a
      · exact .inr ⟨_, _, if_pos hb⟩
      · exact .inl (if_neg hb)
    · by_cases hb : b = a
      · have z' := (if_pos hb).symm.trans z
        cases z'
        subst hb
        exact ⟨ha, by rw [List.length_map]; exact hl, vs, _, rv, ha⟩
      · have z' := (if_neg hb).symm.trans z
        cases z'
    · by_cases hb : b = a
      · exact hb
      · exact absurd (if_neg hb) z
end L2
namespace L2
open PySem PySem.Spec PyProof.Rows
noncomputable abbrev KOf {K : PySem.W.Frag} {h : Heap} (_ : K.In h) : PySem.W.Frag := K
theorem walk_of {l : PySem.W.OpenLaw} {n k : Nat} {q : Program} {loose : List Str} {XP : (Str → Option Value) → Heap → Prop} {YP : World → Heap → Prop} {d : DefRec} {K : Params → PySem.W.Frag} {CX : World → CXT} {sp : World → Sp} {x : Str}
    (hn : l.most = some n) (hn2 : n ≤ sizeLine) (hdf : d.params.defaults = []) (hr : Room k callerA)
    (hY : ∀ (w : World) (h : Heap), YP w h → (K w.params).In h)
    (F : ∀ (w : World) (mg : Str → Option Value) (fa : Addr) (h : Heap), (K w.params).In h → h.Ns mainGlobals mg → mg d.name = some (.ref fa) →
      ∃ fd : FuncData, (∀ (s : Shared) (u : Value), BindsTo s fd ⟨[u], []⟩ [(x, u)]) ∧
        ∀ base : Heap, (K w.params).In base → base.Ns mainGlobals mg → FnOk l.prog w (K w.params) mg base (CX w) k fa fd [x] (sp w))
    (hsp : ∀ (w : World) (H : Hp) (a : Addr) (ns : List Int), ns.length ≤ n → Only H → SqL (K w.params) H a (ns.map V.int) → sp w [.ref a] H (fun v _ => v = .bl true) fun _ _ _ => False)
    (hCX : ∀ (w : World) (H : Hp) (s : Shared) (e : Value) (s' : Shared), CX w [] H s (fun _ _ _ => False) e s' → False) :
    PySem.W.WalkO q loose XP YP l.row.toRowW d [] (fun f vs => PySem.call f vs) := by
  refine Att.attach_call hn hdf fun w s₀ s₁ mg mb fa o pm cd doc a vs ns G Y ho hd hcd hmg hobj hints hlen hg => ?_
  have KX := hY w _ Y
  obtain ⟨fd, hb, hF⟩ := F w mg fa _ KX G.T.g hmg
  exact law_call KX G.T.g G.T.b G.T.builtins G.T.nolimit hg hobj hints (Nat.le_trans hlen hn2) hr hF hb (fun H hO hS => hsp w H a ns hlen hO hS) fun H e s' => hCX w H s₁ e s'
theorem walk_ofK {l : PySem.W.OpenLaw} {n k : Nat} {q : Program} {loose : List Str} {XP : (Str → Option Value) → Heap → Prop} {YP : World → Heap → Prop} {d : DefRec} {K : Params → PySem.W.Frag} {CX : CXT} {sp : PySem.W.Frag → Sp} {x : Str}
    (hn : l.most = some n) (hn2 : n ≤ sizeLine) (hdf : d.params.defaults = []) (hr : Room k callerA)
    (hY : ∀ (w : World) (h : Heap), YP w h → (K w.params).In h)
    (F : ∀ (w : World) (mg : Str → Option Value) (fa : Addr) (h : Heap), (K w.params).In h → h.Ns mainGlobals mg → mg d.name = some (.ref fa) →
      ∃ fd : FuncData, (∀ (s : Shared) (u : Value), BindsTo s fd ⟨[u], []⟩ [(x, u)]) ∧
        ∀ base : Heap, (K w.params).In base → base.Ns mainGlobals mg → FnOk l.prog w (K w.params) mg base CX k fa fd [x] (sp (K w.params)))
    (hsp : ∀ (K : PySem.W.Frag) (H : Hp) (a : Addr) (ns : List Int), ns.length ≤ n → Only H → SqL K H a (ns.map V.int) → sp K [.ref a] H (fun v _ => v = .bl true) fun _ _ _ => False)
    (hCX : ∀ (H : Hp) (s : Shared) (e : Value) (s' : Shared), CX [] H s (fun _ _ _ => False) e s' → False) :
    PySem.W.WalkO q loose XP YP l.row.toRowW d [] (fun f vs => PySem.call f vs) :=
  walk_of (K := K) (CX := fun _ => CX) (sp := fun w => sp (K w.params)) hn hn2 hdf hr hY F (fun w H a ns h1 h2 h3 => hsp (K w.params) H a ns h1 h2 h3) fun _ H s e s' => hCX H s e s'
end L2
/- THE LAST THEOREM (shape; LID, My.* are yours):
   My.Adr: a structure of the addresses that your layer names (classes, functions); My.Txt K t: a structure (Prop) of the equations over K;
   My.txt_mk : {K} {implicit addresses ..} (e1 : nsIn K mainGlobals "law" = some (some (.ref f))) (e2 : K.lookup f = some ⟨oc, od, .func (fnOf "law" "law" params body scope dV kV doc pm an cdv ct), sl⟩) (e3 : codeIn K cdv "law" = true) .. : ∃ t, My.Txt K t

set_option maxRecDepth 100000 in
set_option maxHeartbeats 0 in
(the tactic k_is has no namespace: write k_is) -/
namespace L2
open PySem PySem.Spec PyProof.Rows
noncomputable def defArgs (s : Stmt) : Arguments := match s with
  | .FunctionDef _ a _ _ _ _ _ _ _ _ => a
  | _ => { posonlyargs := [], args := [], vararg := none, kwonlyargs := [], kw_defaults := [], kwarg := none, defaults := [] }
noncomputable def defBody (s : Stmt) : List Stmt := match s with
  | .FunctionDef _ _ b _ _ _ _ _ _ _ => b
  | _ => []
noncomputable def defScope (s : Stmt) : Scope := match s with
  | .FunctionDef _ _ _ _ _ _ sc _ _ _ => sc
  | _ => { kind := .function, names := [], isGenerator := false, isCoroutine := false }
noncomputable abbrev CX0 : CXT := fun _ _ _ _ _ _ => False
noncomputable abbrev E0 : XK := fun _ _ _ => False
theorem pass0 {X : Cx} : Passes CX0 X E0 := fun _ _ _ _ _ _ _ h => h.elim
structure Fun (K : PySem.W.Frag) (x qual : Str) (st : Stmt) (f : Addr) (fd : FuncData) : Prop where
  ex : ∃ (oc : Value) (od : Option Addr) (kV doc pm : Value) (an : Option Addr) (cdv ct : Value) (osl : Array (Option Value)),
    fd = PySem.W.fnOf x qual (defArgs st) (defBody st) (defScope st) .none kV doc pm an cdv ct ∧ K.lookup f = some ⟨oc, od, .func fd, osl⟩ ∧ PySem.W.codeIn K cdv qual = true
  kp : PySem.W.keepIn K (.ref f) = true
section
variable {P : Program} {w : World} {K : PySem.W.Frag} {mg : Str → Option Value} {base : Heap}
theorem Fun.ok {x qual : Str} {st : Stmt} {f : Addr} {fd : FuncData} {N ps : List Str} {k : Nat} {sp : Sp} (F : Fun K x qual st f fd) (S : FnScope N ps (defScope st)) (len : ∀ vs H Q E, sp vs H Q E → vs.length = ps.length)
    (hbody : ∀ (cdv : Value) (A : Around) (outer : List Env) (s : Shared) (H : Hp) (vs : List V) (Q : VK) (E : XK), Room k (A.deeper (envOfC qual (defScope st) s.heap.objs.size f cdv)) → sp vs H Q E →
      ∃ t, PSs (cxOf CX0 P w K mg base N qual (defScope st) f cdv A outer s H E).nox (defBody st) t ∧ t { nx := fun _ H' => Q .non H', rt := Q } (start N vs) H) : FnOk P w K mg base CX0 (k + 1) f fd ps sp := by
  obtain ⟨oc, od, kV, doc, pm, an, cdv, ct, osl, rfl, lk, hcd⟩ := F.ex
  refine fn_of lk hcd S len fun A outer s H vs Q E hr hsp => ?_
  obtain ⟨t, h, q⟩ := hbody cdv A outer s H vs Q E hr hsp
  exact ⟨t, h.nox, q⟩
theorem Fun.binds {x qual : Str} {st : Stmt} {f : Addr} {fd : FuncData} {ps : List Str} (F : Fun K x qual st f fd)
    (h : ∀ (kV doc pm : Value) (an : Option Addr) (cdv ct : Value) (us : List Value), us.length = ps.length → bindArgs (PySem.W.fnOf x qual (defArgs st) (defBody st) (defScope st) .none kV doc pm an cdv ct) ⟨us, []⟩ = pure (ps.zip us)) : Binds K fd ps [] := by
  obtain ⟨oc, od, kV, doc, pm, an, cdv, ct, osl, rfl, lk, hcd⟩ := F.ex
  exact .all (h kV doc pm an cdv ct)
theorem fun_mk {x qual : Str} {st : Stmt} {f : Addr} {oc : Value} {od an : Option Addr} {osl : Array (Option Value)} {kV doc pm cdv ct : Value} (l : K.lookup f = some ⟨oc, od, .func (PySem.W.fnOf x qual (defArgs st) (defBody st) (defScope st) .none kV doc pm an cdv ct), osl⟩)
    (c : PySem.W.codeIn K cdv qual = true) (k : PySem.W.keepIn K (.ref f) = true) : Fun K x qual st f (PySem.W.fnOf x qual (defArgs st) (defBody st) (defScope st) .none kV doc pm an cdv ct) := ⟨⟨oc, od, kV, doc, pm, an, cdv, ct, osl, rfl, l, c⟩, k⟩
end
theorem small1000 {n : Nat} (h : n ≤ 1000) : n < sizeLine := Nat.lt_of_le_of_lt h (by decide)
section
variable {X : Cx}
theorem pv (i : Nat) {x : Str} {pos : Pos} (hN : X.N[i]? = some x := by rfl) (hv : Vis X.env.scope x := by first | exact Or.inl rfl | exact Or.inr (Or.inl rfl) | exact Or.inr (Or.inr rfl)) (hd : (x == ("__debug__" : Str)) = false := by decide)
    (hcd : (x == ("__classdict__" : Str)) = false := by decide) : PE X (.Name x pos) (tVar i) := pe_var hN hv hd hcd
end
theorem iteT {A B : Prop} (h : A) : if true = true then A else B := by
  rw [if_pos rfl]
  exact h
theorem ite2 {c A B : Prop} [Decidable c] (h1 : c → A) (h2 : ¬ c → B) : if c then A else B := by
  by_cases h : c
  · rw [if_pos h]
    exact h1 h
  · rw [if_neg h]
    exact h2 h
noncomputable def Same (H H' : Hp) : Prop := ∀ b o, H b = some o → H' b = some o
theorem Same.refl (H : Hp) : Same H H := fun _ _ h => h
theorem Same.trans {H H1 H2 : Hp} (a : Same H H1) (b : Same H1 H2) : Same H H2 := fun c o h => b c o (a c o h)
theorem Same.free {H H' : Hp} (e : Same H H') {l : Addr} (h : H' l = Option.none) : H l = Option.none := by
  cases q : H l with
  | none => rfl
  | some o =>
    rw [e l o q] at h
    cases h
theorem Same.seq {K : PySem.W.Frag} {H H' : Hp} {a : Addr} {xs : List V} (e : Same H H') (h : SqL K H a xs) : SqL K H' a xs := by
  rcases h with (h | ⟨o, h⟩) | h
  · exact .inl (.inl (e _ _ h))
  · exact .inl (.inr ⟨o, e _ _ h⟩)
  · exact .inr h
end L2
set_option Elab.async false
set_option linter.all false
set_option maxRecDepth 100000
set_option maxHeartbeats 4000000
namespace L2
open PySem PySem.Spec PyProof.Rows
section
variable {X : Cx}
theorem call_isinst : CallR X (.builtin "isinstance") (fun xs H Q => ∃ x c t b, xs = [x, .ty c] ∧ TyOf X.K H x t ∧ PySem.W.kitOne X.K t (.type c) = some b ∧ Q (.bl b) H) := by
  intro pins s σ H xs us Q I r h
  obtain ⟨x, c, t, b, rfl, ty, e, q⟩ := h
  obtain ⟨u1, u2, rfl, r1, r2⟩ := vals2 r
  cases (show u2 = Value.type c from r2)
  exact isinst_ok I r1 ty e fun tk => ⟨.bl b, H, I.tok tk, rfl, q⟩
noncomputable def CDivB (i j : Int) : Prop := j ≠ 0 ∧ j.natAbs < 2 ^ 1000
theorem op_fdivB : OpR X (binaryOp .FloorDiv) (rI CDivB fun i j => .int (i.fdiv j)) := opI fun i j _ _ _ _ _ hc q => floordiv_int hc.1 q (.inl (PyProof.noPylong_of_log2 (by
  have h0 : j.natAbs ≠ 0 := by have := hc.1; omega
  have := (Nat.log2_lt h0).mpr hc.2
  omega)))
end
noncomputable def Itz (K : PySem.W.Frag) (a b : Addr) : It :=
  ⟨fun i H => ∃ xs ys x y, SqL K H a xs ∧ SqL K H b ys ∧ xs[i]? = some x ∧ ys[i]? = some y,
   fun i H v H' => ∃ T x y, H T = none ∧ v = .ref T ∧ H' = upd H T (.tup [x, y]) ∧ (∀ xs, SqL K H a xs → xs[i]? = some x) ∧ (∀ ys, SqL K H b ys → ys[i]? = some y),
   fun i H => ∃ xs ys, SqL K H a xs ∧ SqL K H b ys ∧ (xs.length ≤ i ∨ ys.length ≤ i)⟩
noncomputable def ZipSt (a b z TI TO i1 i2 : Addr) (i : Nat) (h : Heap) : Prop :=
  IsZip h z TI TO .none ∧ IsPair h TI (.ref i1) (.ref i2) ∧ (∃ x y, IsPair h TO x y) ∧ h.IsListIter i1 a i ∧ h.IsListIter i2 b i
theorem ne_cls {h : Heap} {a b : Addr} {o u : Obj} (h1 : h.get? a = some o) (h2 : h.get? b = some u) (d : o.cls ≠ u.cls) : a ≠ b := by
  rintro rfl; rw [h1] at h2; cases h2; exact d rfl
theorem ZipSt.apart {a b z TI TO i1 i2 : Addr} {i : Nat} {h : Heap} {xs ys : Array Value} (st : ZipSt a b z TI TO i1 i2 i h) (n1 : TI ≠ TO) (n2 : i1 ≠ i2) (l1 : h.IsList a xs) (l2 : h.IsList b ys) : ZipApart z TI TO i1 i2 a b := by
  obtain ⟨hz, hTI, ⟨x, y, hTO⟩, ⟨o1, e1, c1, d1⟩, ⟨o2, e2, c2, d2⟩⟩ := st
  obtain ⟨oa, ea, ca, _⟩ := l1
  obtain ⟨ob, eb, cb, _⟩ := l2
  have k : ∀ {c d : Addr} {o u : Obj} {m n : String}, h.get? c = some o → h.get? d = some u → o.cls = .type m → u.cls = .type n → m ≠ n → c ≠ d := fun h1 h2 e1 e2 d => ne_cls h1 h2 (by rw [e1, e2]; intro q; injection q with q; exact d q)
  exact ⟨k hTI hz rfl rfl (by decide), k hTO hz rfl rfl (by decide), k e1 hz c1 rfl (by decide), k e2 hz c2 rfl (by decide), n1, k hTI e1 rfl c1 (by decide), k hTI e2 rfl c2 (by decide),
    k hTO e1 rfl c1 (by decide), k hTO e2 rfl c2 (by decide), n2, k ea hz ca rfl (by decide), k ea hTO ca rfl (by decide), k ea e1 ca c1 (by decide), k ea e2 ca c2 (by decide),
    k eb hz cb rfl (by decide), k eb hTO cb rfl (by decide), k eb e1 cb c1 (by decide), k eb e2 cb c2 (by decide)⟩
theorem Inv.turnedL {X : Cx} {pins : List (Addr × Obj)} {σ : St} {H : Hp} {s : Shared} {h' : Heap} {t' : Nat} {ch : List Addr} (I : Inv X pins σ H s) (k : ∀ b o, b ∉ ch → s.heap.get? b = some o → h'.get? b = some o) (hf : ∀ b ∈ ch, FpOk X pins H b) :
    Inv X pins σ H { s with heap := h', toks := t' } := by
  have nit : ∀ b u, H b = some u → b ∉ ch := fun b u e z => by have := (hf b z).1; rw [this] at e; cases e
  refine I.step (g' := s.gens) (d' := s.drawn) (ch := ch) (fun b hb => ?_) (fun b o _ _ hc e _ => k b o hc e) (fun b o _ _ hc e _ => ⟨o.slots, k b o hc e⟩) (fun _ _ _ _ n => n)
    (fun b o hc e => ⟨o, k b o hc e⟩) (fun _ _ e => e) (fun _ _ _ e => e) (fun b ps e => ⟨#[], by rw [e]; simp⟩) (fun m hm => ?_) (fun b u e => ?_) I.bare
  · obtain ⟨f0, f1, f2, f3, f4, f5⟩ := hf b hb
    exact ⟨f3, f1, f4, f5⟩
  · exact hm.at' fun o e => k _ o (fun z => (hf _ z).2.1 rfl) e
  · refine (I.hok b u e).stay (fun c v hc q => k c v ?_ q) (fun _ q => q) fun _ _ q => q
    rcases hc with rfl | hc
    · exact nit _ _ e
    · exact nit _ _ hc
theorem turn_zip {P : Program} {w : World} {K : PySem.W.Frag} {es : List Expr} {kk : Nat} {tp : Pos} (a b z TI TO i1 i2 : Addr) (n1 : TI ≠ TO) (n2 : i1 ≠ i2) :
    Turn P w K (.Tuple es kk tp) (Itz K a b) [z, TI, TO, i1, i2] z (ZipSt a b z TI TO i1 i2) where
  mem := by simp
  obj := fun i h st c hc => by
    obtain ⟨hz, hTI, ⟨x, y, hTO⟩, ⟨o1, e1, c1, d1⟩, ⟨o2, e2, c2, d2⟩⟩ := st
    have : c = z ∨ c = TI ∨ c = TO ∨ c = i1 ∨ c = i2 := by simpa using hc
    rcases this with rfl | rfl | rfl | rfl | rfl
    · exact ⟨_, hz, fun v q => by cases (show Data.fields _ = Data.cell v from q)⟩
    · exact ⟨_, hTI, fun v q => by cases (show Data.seq _ _ = Data.cell v from q)⟩
    · exact ⟨_, hTO, fun v q => by cases (show Data.seq _ _ = Data.cell v from q)⟩
    · exact ⟨_, e1, fun v q => by rw [d1] at q; cases q⟩
    · exact ⟨_, e2, fun v q => by rw [d2] at q; cases q⟩
  keep := fun i h h' st k => by
    obtain ⟨hz, hTI, ⟨x, y, hTO⟩, h1, h2⟩ := st
    exact ⟨k z (by simp) _ hz, k TI (by simp) _ hTI, ⟨x, y, k TO (by simp) _ hTO⟩, h1.at fun o e => k i1 (by simp) o e, h2.at fun o e => k i2 (by simp) o e⟩
  item := by
    intro X hP hw hK hc i pins s σ H E I hf st hg
    subst hP hw hK
    obtain ⟨xs, ys, x, y, hq, hq2, hx, hy⟩ := hg
    obtain ⟨its, rv, p, hz1⟩ := I.list hq
    obtain ⟨its2, rv2, p2, hz2⟩ := I.list hq2
    obtain ⟨u, hu, ru⟩ := rv.get hx
    obtain ⟨u2, hu2, ru2⟩ := rv2.get hy
    have D := st.apart n1 n2 p.isList p2.isList
    obtain ⟨hz, hTI, ⟨v1, v2, hTO⟩, h1, h2⟩ := id st
    refine wpAny_pyNext_zip_item D hz hTI hTO h1 h2 p.isList p2.isList (x := u) (y := u2) (by simpa using hu) (by simpa using hu2) fun h' a1 a2 a3 a4 a5 a6 a7 => ?_
    refine ⟨_, rfl, wpAny_letOwnedTupleGo_zip a1 fun h'' b1 b2 => ?_⟩
    have up : ∀ c o, c ≠ z → h'.get? c = some o → h''.get? c = some o := fun c o hc e => b2.extBut c o hc e
    have zlt : z < s.heap.objs.size := Heap.lt_size hz
    have TIs : IsPair h'' TI (.ref i1) (.ref i2) := up _ _ D.TIz (a7 _ _ D.TIz D.TITO D.TIi1 D.TIi2 hTI)
    have TOs : IsPair h'' TO u u2 := up _ _ D.TOz a2
    have I1s : h''.IsListIter i1 a (i + 1) := a3.at fun o e => up _ o D.i1z e
    have I2s : h''.IsListIter i2 b (i + 1) := a4.at fun o e => up _ o D.i2z e
    have I1 : Inv X pins σ H { s with heap := h'' } := by
      refine I.turnedL (t' := s.toks) (ch := [z, TI, TO, i1, i2]) (fun c o hc e => ?_) hf
      have hc' : c ≠ z ∧ c ≠ TI ∧ c ≠ TO ∧ c ≠ i1 ∧ c ≠ i2 := by simpa using hc
      exact up c o hc'.1 (a7 c o hc'.1 hc'.2.2.1 hc'.2.2.2.1 hc'.2.2.2.2 e)
    have fresh : H s.heap.objs.size = none := I.hok.fresh (Nat.le_refl _)
    have newT : h''.get? s.heap.objs.size = some _ := up _ _ (Nat.ne_of_gt zlt) a5
    have I2 : Inv X pins σ (upd H s.heap.objs.size (.tup [x, y])) { s with heap := h'' } := by
      have un : Un X.fs [z, TI, TO, i1, i2] H (upd H s.heap.objs.size (.tup [x, y])) s.heap h'' := by
        refine ⟨fun c o e n _ hx => ?_, fun c o e n _ hx => ⟨o.slots, ?_⟩, fun c o e n _ => ?_, fun c o e hx => ⟨o, ?_⟩, fun c zs e => ?_, fun c o zs e => ?_, fun c ps e => ⟨#[], ?_⟩⟩
        · have hc' : c ≠ z ∧ c ≠ TI ∧ c ≠ TO ∧ c ≠ i1 ∧ c ≠ i2 := by simpa using hx
          exact up c o hc'.1 (a7 c o hc'.1 hc'.2.2.1 hc'.2.2.2.1 hc'.2.2.2.2 e)
        · have hc' : c ≠ z ∧ c ≠ TI ∧ c ≠ TO ∧ c ≠ i1 ∧ c ≠ i2 := by simpa using hx
          exact up c o hc'.1 (a7 c o hc'.1 hc'.2.2.1 hc'.2.2.2.1 hc'.2.2.2.2 e)
        · rw [upd_ne (Nat.ne_of_lt (Heap.lt_size e))]; exact n
        · have hc' : c ≠ z ∧ c ≠ TI ∧ c ≠ TO ∧ c ≠ i1 ∧ c ≠ i2 := by simpa using hx
          exact up c o hc'.1 (a7 c o hc'.1 hc'.2.2.1 hc'.2.2.2.1 hc'.2.2.2.2 e)
        · rw [upd_ne (ne_of_none e fresh)]; exact e
        · rw [upd_ne (ne_of_none e fresh)]; exact e
        · rw [upd_ne (ne_of_none e fresh), e]; simp
      have ok2 : HOk X.prog X.w (upd H s.heap.objs.size (.tup [x, y])) h'' := fun c o e => by
        by_cases hc : c = s.heap.objs.size
        · subst hc
          rw [upd_same] at e; cases e
          exact ⟨by show 2 ≤ sizeLine; decide, [u, u2], .cons ru (.cons ru2 .nil), ⟨_, newT, rfl, _, rfl⟩⟩
        · rw [upd_ne hc] at e
          exact (I1.hok c o e).stay (fun _ _ _ q => q) (fun d q => by rw [upd_ne (ne_of_none q fresh)]; exact q) fun d zs q => by rw [upd_ne (ne_of_none q fresh)]; exact q
      refine I.call' (s' := { s with heap := h'' }) (ch := [z, TI, TO, i1, i2]) rfl (un.mono (fun c hc => ?_) fun c hc => hc) ok2 I.bare fun c hc => ?_
      · rcases I.ok.stk with e | ⟨e, hfr⟩
        · rw [e]; exact hc
        · rw [e]
          unfold frs
          rw [List.filterMap_cons, hfr]
          exact List.mem_cons_of_mem _ hc
      · obtain ⟨f0, f1, f2, f3, f4, f5⟩ := hf c hc
        exact ⟨f3, f1, f4, f5⟩
    refine ⟨.ref s.heap.objs.size, _, I2, rfl, ⟨_, x, y, fresh, rfl, rfl, fun xs' h => by rw [I.list_inj h hq]; exact hx, fun ys' h => by rw [I.list_inj h hq2]; exact hy⟩, ⟨b1, TIs, ⟨_, _, TOs⟩, I1s, I2s⟩, fun c hc => ?_⟩
    rw [upd_ne ?_]
    · exact (hf c hc).1
    · have hc' : c = z ∨ c = TI ∨ c = TO ∨ c = i1 ∨ c = i2 := by simpa using hc
      rcases hc' with rfl | rfl | rfl | rfl | rfl
      · exact Nat.ne_of_lt zlt
      · exact Nat.ne_of_lt (Heap.lt_size hTI)
      · exact Nat.ne_of_lt (Heap.lt_size hTO)
      · obtain ⟨o, e, _⟩ := h1; exact Nat.ne_of_lt (Heap.lt_size e)
      · obtain ⟨o, e, _⟩ := h2; exact Nat.ne_of_lt (Heap.lt_size e)
  done := by
    intro X hP hw hK hc i pins s σ H E I hf st hg
    subst hP hw hK
    obtain ⟨xs, ys, hq, hq2, hx⟩ := hg
    obtain ⟨its, rv, p, hz1⟩ := I.list hq
    obtain ⟨its2, rv2, p2, hz2⟩ := I.list hq2
    have D := st.apart n1 n2 p.isList p2.isList
    obtain ⟨hz, hTI, ⟨v1, v2, hTO⟩, h1, h2⟩ := id st
    have l1 := rv.length
    have l2 := rv2.length
    refine wpAny_pyNext_zip_end (I.ok.hd hc) D hz hTI hTO h1 h2 p.isList p2.isList ?_ fun h' hk => ⟨rfl, ?_⟩
    · rcases hx with hx | hx
      · left; simp; omega
      · right; simp; omega
    · refine I.turnedL (t' := s.toks) (ch := [z, TI, TO, i1, i2]) (fun c o hc e => ?_) hf
      have hc' : c ≠ z ∧ c ≠ TI ∧ c ≠ TO ∧ c ≠ i1 ∧ c ≠ i2 := by simpa using hc
      exact hk c o hc'.1 hc'.2.2.1 hc'.2.2.2.1 hc'.2.2.2.2 e
  self := fun _ _ _ _ _ st h => wpAny_pyIter_zip st.1 h
section
variable {X : Cx} {es : List Expr} {kk : Nat} {tp : Pos}
noncomputable def iZip (K : PySem.W.Frag) (ta : TA) : TI := fun σ H R => ta σ H fun vs H1 => ∃ p q, vs = [.ref p, .ref q] ∧ (∃ xs, SqL K H1 p xs) ∧ (∃ ys, SqL K H1 q ys) ∧ R (Itz K p q) H1
theorem pi_zip {a b : Expr} {ta : TA} {p pos : Pos} (hg : Gl X "zip") (hm : X.mg "zip" = none) (ha : PA X [a, b] ta) (hs : starEach [a, b] X.env = [(false, eval a X.env), (false, eval b X.env)] := by rfl) (hs2 : starEach [b] X.env = [(false, eval b X.env)] := by rfl) :
    PI X (.Tuple es kk tp) (.Call (.Name "zip" p) [a, b] [] pos) (iZip X.K ta) := by
  intro pins s σ H R I h
  refine Call_ (ld_blt I hg hm boot_zip (PyProof.Rows.callWith_type1 (thn (ha pos pins s σ H _ I h) fun us s1 ⟨vs, H1, I1, r1, q1⟩ => ?_) (by rw [hs, hs2]) (by rw [hs2]; rfl)))
  obtain ⟨a1, b1, e, ⟨xs, hx⟩, ⟨ys, hy⟩, q⟩ := q1
  subst e
  obtain ⟨u1, u2, rfl, r, r'⟩ := vals2 r1
  cases (show u1 = Value.ref a1 from r)
  cases (show u2 = Value.ref b1 from r')
  obtain ⟨its, rv, p1, hz1⟩ := I1.list hx
  obtain ⟨its2, rv2, p2, hz2⟩ := I1.list hy
  refine call_zip_2 p1.isList p2.isList fun h' z1 z2 z3 z4 z5 z6 z7 => ?_
  refine wpAny_pyIter_zip z1 ?_
  have I2 : Inv X pins σ H1 { s1 with heap := h' } := I1.kept (t' := s1.toks) z7
  refine ⟨s1.heap.objs.size + 4, [s1.heap.objs.size + 4, s1.heap.objs.size + 2, s1.heap.objs.size + 3, s1.heap.objs.size, s1.heap.objs.size + 1], _, _, H1, rfl, I2,
    turn_zip a1 b1 _ _ _ _ _ (fun e => absurd (Nat.add_left_cancel e) (by decide)) (fun e => absurd (Nat.add_left_cancel (m := 0) e) (by decide)), ⟨z1, z2, ⟨_, _, z3⟩, z4, z5⟩, fun c hc => ?_, q⟩
  have hc' : s1.heap.objs.size ≤ c := by
    have : c = s1.heap.objs.size + 4 ∨ c = s1.heap.objs.size + 2 ∨ c = s1.heap.objs.size + 3 ∨ c = s1.heap.objs.size ∨ c = s1.heap.objs.size + 1 := by simpa using hc
    rcases this with e | e | e | e | e
    · rw [e]; exact Nat.le_add_right _ _
    · rw [e]; exact Nat.le_add_right _ _
    · rw [e]; exact Nat.le_add_right _ _
    · rw [e]; exact Nat.le_refl _
    · rw [e]; exact Nat.le_add_right _ _
  exact I1.fpOk hc' (I1.hok.fresh hc')
end
theorem for_zip {K : PySem.W.Frag} {a b : Addr} {xs ys : List V} {g : TG} {tb : TS} {D : Ends} {σ : St} {H : Hp} (Pv : Nat → St → Hp → Prop) (h0 : Pv 0 σ H) (hl : ∀ i σ H, i ≤ xs.length → i ≤ ys.length → Pv i σ H → SqL K H a xs ∧ SqL K H b ys)
    (hs : ∀ i x y T σ H, xs[i]? = some x → ys[i]? = some y → Pv i σ H → H T = none → g (.ref T) σ (upd H T (.tup [x, y])) fun σ2 H2 => tb { D with nx := Pv (i + 1), ct := Pv (i + 1), bk := D.nx } σ2 H2)
    (hd : ∀ σ H, Pv (min xs.length ys.length) σ H → D.nx σ H) :
    ∃ W : Nat → Nat → St → Hp → Prop, (∃ m, W 0 m σ H) ∧ ∀ i m σ H, W i m σ H →
      ((Itz K a b).stop i H ∧ D.nx σ H) ∨ ((Itz K a b).go i H ∧ ∃ N : St → Hp → Prop, (∀ σ' H', N σ' H' → ∃ m', m' < m ∧ W (i + 1) m' σ' H') ∧ ∀ x H', (Itz K a b).yld i H x H' → g x σ H' fun σ2 H2 => tb { D with nx := N, ct := N, bk := D.nx } σ2 H2) := by
  refine ⟨fun i m σ H => m = min xs.length ys.length - i ∧ i ≤ min xs.length ys.length ∧ Pv i σ H, ⟨min xs.length ys.length, by simp, Nat.zero_le _, h0⟩, ?_⟩
  rintro i m σ H ⟨rfl, hi, p⟩
  obtain ⟨q, q2⟩ := hl i σ H (by omega) (by omega) p
  by_cases hlt : i < min xs.length ys.length
  · have h1 : i < xs.length := by omega
    have h2 : i < ys.length := by omega
    refine .inr ⟨⟨xs, ys, xs[i], ys[i], q, q2, by simp [h1], by simp [h2]⟩, Pv (i + 1), fun σ' H' p' => ⟨min xs.length ys.length - (i + 1), by omega, rfl, hlt, p'⟩, fun v H' y => ?_⟩
    obtain ⟨T, x, y, hT, rfl, rfl, e1, e2⟩ := y
    exact hs i x y T σ H (e1 xs q) (e2 ys q2) p hT
  · have e : i = min xs.length ys.length := by omega
    refine .inl ⟨⟨xs, ys, q, q2, by omega⟩, hd σ H (e ▸ p)⟩
end L2
set_option Elab.async false
set_option linter.all false
set_option maxRecDepth 100000
set_option maxHeartbeats 4000000
namespace L2
open PySem PySem.Spec PyProof.Rows
@[reducible] noncomputable def blk (X : Cx) (scope : Scope) (cl : List (Str × Addr)) (N : List Str) (C : Addr) (s₀ : Shared) (H₀ : Hp) (ex : List Addr) : Cx where
  prog := X.prog
  w := X.w
  K := X.K
  mg := X.mg
  base := X.base
  A := X.A
  N := N
  s₀ := s₀
  H₀ := H₀
  env := compEnvC scope cl C X.env
  outer := X.stack
  stack := X.stack
  ex := ex
  fn := fun _ => false
  calm := X.calm
  pn := []
  xe := fun _ _ => False
inductive CapOk (X : Cx) (sc : Scope) (cl : List (Str × Addr)) : List Str → List (Option Nat) → Prop
  | nil : CapOk X sc cl [] []
  | own {x : Str} {N : List Str} {caps : List (Option Nat)} : CapOk X sc cl N caps → CapOk X sc cl (x :: N) (none :: caps)
  | cap {x : Str} {N : List Str} {caps : List (Option Nat)} {j : Nat} (h1 : X.N[j]? = some x) (h2 : X.env.kindOf x = some .cell ∨ X.env.kindOf x = some .free)
      (h3 : (relabel sc X.env).names.lookup x = some .cell ∨ (relabel sc X.env).names.lookup x = some .free) (h4 : ∃ c, cl.lookup x = some c) : CapOk X sc cl N caps → CapOk X sc cl (x :: N) (some j :: caps)
inductive ClOk (X : Cx) : List (Str × Addr) → Prop
  | nil : ClOk X []
  | cons {x : Str} {c : Addr} {cl : List (Str × Addr)} (h : X.env.cells.lookup x = some c) : ClOk X cl → ClOk X ((x, c) :: cl)
theorem ClOk.get {X : Cx} : ∀ {cl : List (Str × Addr)}, ClOk X cl → ∀ x c, cl.lookup x = some c → X.env.cells.lookup x = some c
  | _, .nil, _, _, h => by simp at h
  | _, .cons (x := n) (c := d) h r, x, c, e => by
    rw [List.lookup_cons] at e
    cases q : x == n with
    | true =>
      rw [q] at e
      have e1 : x = n := eq_of_beq q
      have e2 : d = c := Option.some.inj e
      rw [e1, ← e2]; exact h
    | false =>
      rw [q] at e
      exact ClOk.get r x c e
noncomputable def capt (σ : St) (caps : List (Option Nat)) : St := caps.map fun o => o.bind fun j => (σ[j]?).join
theorem CapOk.len {X : Cx} {sc : Scope} {cl : List (Str × Addr)} {N : List Str} {caps : List (Option Nat)} (h : CapOk X sc cl N caps) : caps.length = N.length := by
  induction h with
  | nil => rfl
  | own _ ih => simp [ih]
  | cap _ _ _ _ _ ih => simp [ih]
theorem CapOk.look {X : Cx} {sc : Scope} {cl : List (Str × Addr)} {N : List Str} {caps : List (Option Nat)} {σ : St} (h : CapOk X sc cl N caps) : ∀ (i : Nat) (x : Str) (v : V), N[i]? = some x → (capt σ caps)[i]? = some (some v) →
    ∃ j : Nat, X.N[j]? = some x ∧ σ[j]? = some (some v) ∧ (X.env.kindOf x = some .cell ∨ X.env.kindOf x = some .free) ∧ ((relabel sc X.env).names.lookup x = some .cell ∨ (relabel sc X.env).names.lookup x = some .free) ∧ ∃ c, cl.lookup x = some c := by
  induction h with
  | nil => intro i x v e; simp at e
  | own _ ih =>
    intro i x v e1 e2
    cases i with
    | zero =>
      have e2' : (none : Option V) = some v := by simpa [capt] using e2
      cases e2'
    | succ i => exact ih i x v (by simpa using e1) (by simpa [capt] using e2)
  | @cap y N caps j h1 h2 h3 h4 _ ih =>
    intro i x v e1 e2
    cases i with
    | zero =>
      have e1' : y = x := by simpa using e1
      subst e1'
      have e2' : (σ[j]?).join = some v := by simpa [capt] using e2
      refine ⟨j, h1, ?_, h2, h3, h4⟩
      cases q : σ[j]? with
      | none => rw [q] at e2'; cases e2'
      | some o =>
        rw [q] at e2'
        have : o = some v := e2'
        rw [this]
    | succ i => exact ih i x v (by simpa using e1) (by simpa [capt] using e2)
section
variable {X : Cx} {pins : List (Addr × Obj)} {σ : St} {H : Hp} {s : Shared} {scope : Scope} {cl : List (Str × Addr)} {N : List Str} {caps : List (Option Nat)} {ex : List Addr}
theorem Inv.block {h1 : Heap} {tk : Nat} (I : Inv X pins σ H s) (hkind : scope.kind = .function) (hcap : CapOk X scope cl N caps) (hcl : ClOk X cl) (hhas : ∀ x, ((relabel scope X.env).names.lookup x = some .cell ∨ (relabel scope X.env).names.lookup x = some .free) → ∃ c, cl.lookup x = some c)
    (hex : ∀ b ∈ ex, FpOk X pins H b ∧ b < s.heap.objs.size)
    (hns : ∃ m, h1.Ns s.heap.objs.size m) (hk : ∀ b o, s.heap.get? b = some o → h1.get? b = some o) (hsz : s.heap.objs.size < h1.objs.size) :
    Inv (blk X scope cl N s.heap.objs.size s H ex) [] (capt σ caps) H { s with heap := h1, toks := tk } := by
  have exfs : ∀ b ∈ ex, b ∉ frs X.stack := fun b hb z => by
    obtain ⟨⟨f0, f1, f2, f3, f4, f5⟩, _⟩ := hex b hb
    rcases List.mem_cons.mp (I.stkSub b z) with e | e
    · exact f1 e
    · exact f2 e
  have ok : (blk X scope cl N s.heap.objs.size s H ex).Ok := by
    refine ⟨I.ok.mod, hkind, I.ok.glob, I.ok.blt, Nat.le_refl _, fun x y c e1 e2 => I.ok.inj x y c (hcl.get x c e1) (hcl.get y c e2), fun x hx => hhas x hx, fun x c hx => (by cases hx), I.ok.hd, I.ok.frames, .inl rfl,
      fun b hb => ?_, I.bs, Nat.le_trans I.ok.bsz I.sz, fun b o e hb => ?_, exfs, I.stack, I.stkFree⟩
    · obtain ⟨⟨f0, f1, f2, f3, f4, f5⟩, hlt⟩ := hex b hb
      exact ⟨Nat.ne_of_lt hlt, fun x c e => f4 x c (hcl.get x c e)⟩
    · obtain ⟨⟨f0, f1, f2, f3, f4, f5⟩, hlt⟩ := hex b hb
      rcases f3 with f3 | f3
      · exact I.ok.noex b o e f3
      · exact absurd (Nat.lt_of_lt_of_le (Heap.lt_size e) (Nat.le_trans I.ok.bsz f3)) (Nat.lt_irrefl _)
  obtain ⟨m1, hm1⟩ := hns
  obtain ⟨m, hn, hl⟩ := I.loc
  refine ⟨ok, rfl, I.bare, Un.kept hk, ⟨m1, hm1, fun i x v e1 e2 e3 => ?_⟩, fun x c e => ?_, I.hok.fresh (Nat.le_refl _), fun x c e => I.freeC x c (hcl.get x c e), fun p hp => ?_, I.hok.kept hk, ?_⟩
  · obtain ⟨j, q1, q2, q3, q4, c, q5⟩ := hcap.look i x v e1 e2
    have vis : Vis X.env.scope x := q3.elim (fun z => .inr (.inl z)) fun z => .inr (.inr z)
    obtain ⟨u, r, l⟩ := hl j x v q1 q2 vis
    refine ⟨u, r, .inr ⟨q4, c, q5, ?_⟩⟩
    rcases l with ⟨k1, _⟩ | ⟨_, c', k2, k3⟩
    · rcases q3 with q3 | q3 <;> · rw [q3] at k1; cases k1
    · rw [hcl.get x c q5] at k2
      cases k2
      obtain ⟨o, k4, k5⟩ := k3
      exact ⟨o, hk _ _ k4, k5⟩
  · obtain ⟨v, o, k4, k5⟩ := I.cell x c (hcl.get x c e)
    exact ⟨v, o, hk _ _ k4, k5⟩
  · exact absurd (show p ∈ ([] : List (Addr × Obj)) from hp) (by simp)
  · show (capt σ caps).length = N.length
    unfold capt
    rw [List.length_map, hcap.len]
end
noncomputable def PIfs (Y : Cx) (ifs : List Expr) (t : TT) : Prop :=
  ∀ (pins : List (Addr × Obj)) (s : Shared) (σ : St) (H : Hp) (Q : Bool → Hp → Prop), Inv Y pins σ H s → t σ H Q →
    wpAny (model Y.prog Y.w) Y.A (forIn ifs true fun c r => if r = true then do let ok ← isTrue c Y.env (eval c Y.env); pure (ForInStep.yield ok) else pure (ForInStep.yield r)) (TP Y pins σ Q) Y.xe s
noncomputable def tTrue : TT := fun _ H Q => Q true H
theorem ifs_nil {Y : Cx} : PIfs Y [] tTrue := fun _ _ _ H _ I h => wpAny_tests_nil ⟨H, I, h⟩
theorem ifs_one {Y : Cx} {c : Expr} {t : TT} (h : PT Y c t) : PIfs Y [c] t := fun pins s σ H Q I hw => wpAny_tests_one (h pins s σ H Q I hw)
noncomputable def tComp (wi : TI) (caps : List (Option Nat)) (g : TG) (tt : TT) (te : TE) : TE := fun σ H Q => wi σ H fun J H1 => ∃ W : Nat → Nat → St → Hp → List V → Prop, (∃ m, W 0 m (capt σ caps) H1 []) ∧ ∀ i m σ' H' ys, W i m σ' H' ys →
  (J.stop i H' ∧ ys.length ≤ sizeLine ∧ ∀ p, H' p = none → Q (.ref p) (upd H' p (.lst ys))) ∨
  (J.go i H' ∧ ∃ Nn : St → Hp → List V → Prop, (∀ σ4 H4 ys4, Nn σ4 H4 ys4 → ∃ m', m' < m ∧ W (i + 1) m' σ4 H4 ys4) ∧ ∀ x H2, J.yld i H' x H2 → g x σ' H2 fun σ3 H3 => tt σ3 H3 fun b H4 => if b = true then te σ3 H4 fun y H5 => ys.length < sizeLine ∧ Nn σ3 H5 (ys ++ [y]) else Nn σ3 H4 ys)
theorem HOk.other {P : Program} {w : World} {H : Hp} {h h' : Heap} {a : Addr} (ok : HOk P w H h) (hf : H a = none) (hs : Heap.SameBut a h h') : HOk P w H h' := fun b ob e => by
  refine (ok b ob e).stay (fun c w' hc q => (hs.2 c ?_).trans q) (fun _ q => q) fun _ _ q => q
  rintro rfl
  rcases hc with rfl | hc
  · rw [hf] at e; cases e
  · rw [hf] at hc; cases hc
theorem HOk.track {P : Program} {w : World} {H : Hp} {h : Heap} {a : Addr} {o : HO} (ok : HOk P w H h) (hn : H a = none) (new : ObjOk P w (upd H a o) h a o) : HOk P w (upd H a o) h := fun b u e => by
  by_cases hb : b = a
  · subst hb; rw [upd_same] at e; cases e; exact new
  · rw [upd_ne hb] at e
    exact (ok b u e).stay (fun c v _ q => q) (fun c q => by rw [upd_ne (ne_of_none q hn)]; exact q) fun c xs q => by rw [upd_ne (ne_of_none q hn)]; exact q
section
variable {X : Cx} {tg elt iter : Expr} {ifs : List Expr} {scope : Scope} {cl : List (Str × Addr)} {N : List Str} {caps : List (Option Nat)} {wi : TI} {g : TG} {tt : TT} {te : TE} {pos : Pos}
theorem blk_fp {C D : Addr} {s₀ : Shared} {H₀ : Hp} {fp : List Addr} {H' : Hp} {o : Obj} (hDf : D ∉ fp) (hb : ∀ b ∈ D :: fp, b ≠ C ∧ b ∉ frs X.stack ∧ ∀ x c, cl.lookup x = some c → c ≠ b) (hn : ∀ b ∈ D :: fp, H' b = none) :
    ∀ b ∈ fp, FpOk (blk X scope cl N C s₀ H₀ (D :: fp)) [(D, o)] H' b := fun b h =>
  have h' := List.mem_cons_of_mem D h
  ⟨hn b h', (hb b h').1, (hb b h').2.1, .inl h', (hb b h').2.2, fun p hp => by
    have e : p = (D, o) := by simpa using (show p ∈ ([(D, o)] : List (Addr × Obj)) from hp)
    rw [e]
    rintro rfl
    exact hDf h⟩
theorem comp_loop {C D it : Addr} {s₀ : Shared} {H₀ : Hp} {fp : List Addr} {tn : Nat → Heap → Prop} {J : It} {R : Result → Shared → Prop} {s : Shared} {σ₁ : St} {H₁ : Hp} {W : Nat → Nat → St → Hp → List V → Prop} {EndP : Hp → List V → Prop} {m0 : Nat}
    (hc : X.calm = true) (T : Turn X.prog X.w X.K tg J fp it tn) (hDf : D ∉ fp)
    (hb : ∀ b ∈ D :: fp, b ≠ C ∧ b ∉ frs X.stack ∧ ∀ x c, cl.lookup x = some c → c ≠ b)
    (hg : ∀ C s₀ H₀ ex, PG (blk X scope cl N C s₀ H₀ ex) tg g) (ht : ∀ C s₀ H₀ ex, PIfs (blk X scope cl N C s₀ H₀ ex) ifs tt) (he : ∀ C s₀ H₀ ex, PE (blk X scope cl N C s₀ H₀ ex) elt te)
    (turn : ∀ i m σ' H' ys, W i m σ' H' ys → (J.stop i H' ∧ EndP H' ys) ∨
      (J.go i H' ∧ ∃ Nn : St → Hp → List V → Prop, (∀ σ4 H4 ys4, Nn σ4 H4 ys4 → ∃ m', m' < m ∧ W (i + 1) m' σ4 H4 ys4) ∧ ∀ x H2, J.yld i H' x H2 → g x σ' H2 fun σ3 H3 => tt σ3 H3 fun b H4 => if b = true then te σ3 H4 fun y H5 => ys.length < sizeLine ∧ Nn σ3 H5 (ys ++ [y]) else Nn σ3 H4 ys))
    (I : Inv (blk X scope cl N C s₀ H₀ (D :: fp)) [] σ₁ H₁ s) (st : tn 0 s.heap) (fr : ∀ b ∈ D :: fp, H₁ b = none) (hD : s.heap.get? D = some { cls := .type "list", data := .seq ([] : List Value).toArray }) (w0 : W 0 m0 σ₁ H₁ [])
    (hR : ∀ σ' H' ys its nn s', Inv (blk X scope cl N C s₀ H₀ (D :: fp)) [] σ' H' s' → H' D = none → s'.heap.get? D = some { cls := .type "list", data := .seq (List.toArray its) nn } → Vals ys its → EndP H' ys → R (.ok .next) s') :
    codeAny (model X.prog X.w) X.A (.compLoop (.ListComp elt [⟨tg, iter, ifs, 0⟩] scope pos) 0 (.ref it) (.ref D) (compEnvC scope cl C X.env)) R s := by
  have pinD : ∀ {σ' : St} {H' : Hp} {s' : Shared} {its : List Value} {nn : Nat}, Inv (blk X scope cl N C s₀ H₀ (D :: fp)) [] σ' H' s' → H' D = none → s'.heap.get? D = some { cls := .type "list", data := .seq (List.toArray its) nn } →
      Inv (blk X scope cl N C s₀ H₀ (D :: fp)) [(D, { cls := .type "list", data := .seq (List.toArray its) nn })] σ' H' s' := fun I' hn e => by
    refine I'.pins_of fun p hp => ?_
    obtain rfl := List.mem_singleton.mp hp
    exact ⟨e, hn, (hb D (.head _)).1, (hb D (.head _)).2.1, fun v q => by cases (show Data.seq _ _ = Data.cell v from q)⟩
  refine codeAny_loop rfl (fun n s' => ∃ i σ' H' ys its nn, Inv (blk X scope cl N C s₀ H₀ (D :: fp)) [(D, { cls := .type "list", data := .seq (List.toArray its) nn })] σ' H' s' ∧ tn i s'.heap ∧ (∀ b ∈ D :: fp, H' b = none) ∧
    Vals ys its ∧ ys.length ≤ sizeLine ∧ W i n σ' H' ys) (fun n s' hI => ?_) m0 ⟨0, σ₁, H₁, [], [], 0, pinD I (fr D (.head _)) hD, st, fr, .nil, Nat.zero_le _, w0⟩
  obtain ⟨i, σ', H', ys, its, nn, I', st', fr', rv, hz, w'⟩ := hI
  show wpAny _ X.A ((compTurn (.ListComp elt [⟨tg, iter, ifs, 0⟩] scope pos) 0 (.ref it) (.ref D) (compEnvC scope cl C X.env)).onRaise (fun x => do noteFrame x (compEnvC scope cl C X.env); theTreesLotGoes x)) _ _ s'
  refine wpAny_noted ?_
  rw [compTurn_list]
  refine wpAny_bind (wpAny_standAt (wpAny_bind ?_))
  have fps : ∀ {H : Hp} {o : Obj}, (∀ b ∈ D :: fp, H b = none) → ∀ b ∈ fp, FpOk (blk X scope cl N C s₀ H₀ (D :: fp)) [(D, o)] H b := fun hn => blk_fp hDf hb hn
  rcases turn i n σ' H' ys w' with ⟨stop, qe⟩ | ⟨go, Nn, hNn, step⟩
  · refine thn (T.done (blk X scope cl N C s₀ H₀ (D :: fp)) rfl rfl rfl hc i _ s' σ' H' _ I' (fps fr') st' stop) fun r s4 ⟨hr, I4⟩ => ?_
    subst hr
    exact wpAny_pure (hR σ' H' ys its nn s4 (I4.pins_of fun p hp => absurd hp (by simp)) (fr' D (.head _)) (I4.pin (D, { cls := .type "list", data := .seq (List.toArray its) nn }) (List.mem_append_right _ (.head _))).1 rv qe)
  · refine thn (T.item (blk X scope cl N C s₀ H₀ (D :: fp)) rfl rfl rfl hc i _ s' σ' H' _ I' (fps fr') st' go) fun r s4 ⟨u, hr, h4⟩ => ?_
    subst hr
    refine wpAny_bind (thn h4 fun _ s5 ⟨x, H5, I5, r5, y5, st5, fr5⟩ => ?_)
    have D5 : H5 D = none := (I5.pin (D, { cls := .type "list", data := .seq (List.toArray its) nn }) (List.mem_append_right _ (.head _))).2.1
    have fr5' : ∀ b ∈ D :: fp, H5 b = none := fun b hb => (List.mem_cons.mp hb).elim (fun e => by rw [e]; exact D5) (fr5 b)
    have I5' := I5.pinned (fps fr5') (T.obj _ _ st5)
    refine wpAny_bind (wpAny_mono (hg _ _ _ _ _ s5 σ' H5 x u _ I5' r5 (step x H5 y5)) (fun _ s6 ⟨σ6, H6, I6, q6⟩ => ?_) fun _ _ z => False.elim z)
    refine wpAny_bind (wpAny_mono (ht _ _ _ _ _ s6 σ6 H6 _ I6 q6) (fun ok s7 ⟨H7, I7, q7⟩ => ?_) fun _ _ z => False.elim z)
    have fin : ∀ {H8 : Hp} {s8 : Shared}, Inv (blk X scope cl N C s₀ H₀ (D :: fp)) ([(D, { cls := .type "list", data := .seq (List.toArray its) nn })] ++ pinsAt fp s5.heap) σ6 H8 s8 →
        tn (i + 1) s8.heap ∧ (∀ b ∈ D :: fp, H8 b = none) ∧ s8.heap.get? D = some { cls := .type "list", data := .seq (List.toArray its) nn } := fun {H8 s8} I8 => by
      refine ⟨T.keep _ _ _ st5 fun b hb o e => (I8.pin (b, o) (List.mem_append_right _ (List.mem_append_right _ (mem_pinsAt hb e)))).1, fun b hb => ?_, (I8.pin (D, { cls := .type "list", data := .seq (List.toArray its) nn }) (List.mem_append_right _ (List.mem_append_left _ (.head _)))).1⟩
      rcases List.mem_cons.mp hb with e | hb
      · rw [e]; exact (I8.pin (D, { cls := .type "list", data := .seq (List.toArray its) nn }) (List.mem_append_right _ (List.mem_append_left _ (.head _)))).2.1
      · obtain ⟨o, e, d⟩ := T.obj _ _ st5 b hb
        exact (I8.pin (b, o) (List.mem_append_right _ (List.mem_append_right _ (mem_pinsAt hb e)))).2.1
    cases ok with
    | false =>
      obtain ⟨m', hm, w7⟩ := hNn _ _ _ q7
      obtain ⟨t7, f7, d7⟩ := fin I7
      exact wpAny_pure ⟨rfl, m', hm, i + 1, σ6, H7, ys, its, nn, I7.unpinned, t7, f7, rv, hz, w7⟩
    | true =>
      refine wpAny_bind (wpAny_bind (wpAny_mono (he _ _ _ _ _ s7 σ6 H7 _ I7 q7) (fun yv s8 ⟨y, H8, I8, r8, hz8, w8'⟩ => ?_) fun _ _ z => False.elim z))
      obtain ⟨m', hm, w8⟩ := hNn _ _ _ w8'
      obtain ⟨t8, f8, d8⟩ := fin I8
      have hl := rv.length
      refine wpAny_bind (call_meets F.slot_list_append ⟨_, d8, rfl⟩ F.entry_list_append (F.args_list_append_2 _ _) (PySem.list_append D its.toArray nn yv (by rw [List.size_toArray]; omega)) ⟨d8, ?_⟩)
      have q8 := PySem.IsL.update d8 (·.push yv)
      have I9 : Inv (blk X scope cl N C s₀ H₀ (D :: fp)) [] σ6 H8 { s8 with heap := s8.heap.update D (Obj.mapSeq (·.push yv)) } := by
        refine (I8.pins_of (pins' := []) fun p hp => absurd hp (by simp)).turned (it := D) (t' := s8.toks) (fun b o hb e => (Heap.get?_update_other s8.heap (Obj.mapSeq (·.push yv)) (Ne.symm hb)).trans e) (f8 D (.head _)) (hb D (.head _)).1 (.inl (.head _)) (hb D (.head _)).2.2 ?_
        intro p hp
        exact absurd (show p ∈ ([] : List (Addr × Obj)) from hp) (by simp)
      have ea : its.toArray.push yv = (its ++ [yv]).toArray := by simp
      rw [ea] at q8
      refine wpAny_pure (wpAny_pure ⟨rfl, m', hm, i + 1, σ6, H8, ys ++ [y], its ++ [yv], _, pinD I9 (f8 D (.head _)) q8, ?_, f8, rv.append (.cons r8 .nil), ?_, w8⟩)
      · refine T.keep _ _ _ t8 fun b hb' o e => (Heap.get?_update_other s8.heap (Obj.mapSeq (·.push yv)) ?_).trans e
        rintro rfl
        exact hDf hb'
      · rw [List.length_append, List.length_singleton]; omega
theorem comp_core {pins : List (Addr × Obj)} {s : Shared} {σ : St} {H : Hp} {use : Option (Value → Sem Unit)} {Q' : Value → Shared → Prop} {EndP : Hp → List V → Prop} {cpos : Pos}
    (hc : X.calm = true) (hi : PI X tg iter wi) (hclos : closureFor scope X.env = pure cl) (hcl : ClOk X cl) (hcap : CapOk X scope cl N caps)
    (hhas : ∀ x, ((relabel scope X.env).names.lookup x = some .cell ∨ (relabel scope X.env).names.lookup x = some .free) → ∃ c, cl.lookup x = some c)
    (hcell : ∀ y ∈ scope.names, y.2 ≠ .cell) (hkind : scope.kind = .function) (hnames : ∀ y ∈ scope.names, y.2 = .local → scope.names.lookup y.1 = some .local)
    (hg : ∀ C s₀ H₀ ex, PG (blk X scope cl N C s₀ H₀ ex) tg g) (ht : ∀ C s₀ H₀ ex, PIfs (blk X scope cl N C s₀ H₀ ex) ifs tt) (he : ∀ C s₀ H₀ ex, PE (blk X scope cl N C s₀ H₀ ex) elt te)
    (hs : ∀ x, foldedSetIterable iter X.env x = pure x) (I : Inv X pins σ H s)
    (h : wi σ H fun J H1 => ∃ W : Nat → Nat → St → Hp → List V → Prop, (∃ m, W 0 m (capt σ caps) H1 []) ∧ ∀ i m σ' H' ys, W i m σ' H' ys →
      (J.stop i H' ∧ EndP H' ys) ∨
      (J.go i H' ∧ ∃ Nn : St → Hp → List V → Prop, (∀ σ4 H4 ys4, Nn σ4 H4 ys4 → ∃ m', m' < m ∧ W (i + 1) m' σ4 H4 ys4) ∧ ∀ x H2, J.yld i H' x H2 → g x σ' H2 fun σ3 H3 => tt σ3 H3 fun b H4 => if b = true then te σ3 H4 fun y H5 => ys.length < sizeLine ∧ Nn σ3 H5 (ys ++ [y]) else Nn σ3 H4 ys))
    (hz : ∀ H' ys, EndP H' ys → ys.length ≤ sizeLine)
    (hfin : ∀ D C s' H' ys m', Inv X pins σ (upd H' D (.lst ys)) s' → s'.heap.Ns C m' → FpOk X pins (upd H' D (.lst ys)) C → H' D = none → EndP H' ys → compPost (model X.prog X.w) X.A X.xe use Q' (.ref D) C (.ok .next) s') :
    wpAny (model X.prog X.w) X.A (comprehension (.ListComp elt [⟨tg, iter, ifs, 0⟩] scope pos) scope X.env cpos (newList []) false (eval iter X.env) use) Q' X.xe s := by
  refine wpAny_comprehension_free (use := use) rfl hs hclos hkind hnames (thn (hi pins s σ H _ I h) fun v s1 h1 => thn h1 fun itv s2 h2 => ?_)
  obtain ⟨it, fp, tn, J, H2, rfl, I2, T, st2, f2, W, ⟨m0, w0⟩, turn⟩ := h2
  refine wpAny_newObj_type (wpAny_newFunctionEnv hcell (by intro y hy; simp at hy) (fun h₁ hns₁ hsb₁ => ?_) hkind)
  dsimp only at hns₁ hsb₁ ⊢
  generalize hH2 : s2.heap.push { cls := .type "list", dict := none, data := .seq ([] : List Value).toArray } = P2 at hns₁ hsb₁ ⊢
  have hC : P2.objs.size = s2.heap.objs.size + 1 := by rw [← hH2, Heap.size_push]
  have I3 : Inv X pins σ H2 { s2 with heap := P2 } := by
    rw [← hH2]
    exact I2.kept (t' := s2.toks) fun b o e => Heap.get?_push_of_some _ e
  have hD0 : P2.get? s2.heap.objs.size = some { cls := .type "list", data := .seq ([] : List Value).toArray } := by rw [← hH2]; exact Heap.get?_push_size _ rfl
  have fD : FpOk X pins H2 s2.heap.objs.size := I2.fpOk (Nat.le_refl _) (I2.hok.fresh (Nat.le_refl _))
  have hex : ∀ b ∈ s2.heap.objs.size :: fp, FpOk X pins H2 b ∧ b < P2.objs.size := fun b hb => by
    rcases List.mem_cons.mp hb with e | hb
    · rw [e]; exact ⟨fD, by rw [hC]; exact Nat.lt_succ_self _⟩
    · obtain ⟨o, e, _⟩ := T.obj _ _ st2 b hb
      exact ⟨f2 b hb, by rw [hC]; exact Nat.lt_succ_of_lt (Heap.lt_size e)⟩
  have up1 : ∀ b o, P2.get? b = some o → h₁.get? b = some o := fun b o e => hsb₁.extBut b o (Nat.ne_of_lt (Heap.lt_size e)) (Heap.get?_push_of_some _ e)
  have IB := I3.block (h1 := h₁) (tk := s2.toks + ([] : List (Str × Value)).length) (ex := s2.heap.objs.size :: fp) hkind hcap hcl hhas hex ⟨_, hns₁⟩ up1 hns₁.lt
  have hDf : s2.heap.objs.size ∉ fp := fun hm => by
    obtain ⟨o, e, _⟩ := T.obj _ _ st2 _ hm
    exact absurd (Heap.lt_size e) (Nat.lt_irrefl _)
  have hb : ∀ b ∈ s2.heap.objs.size :: fp, b ≠ P2.objs.size ∧ b ∉ frs X.stack ∧ ∀ x c, cl.lookup x = some c → c ≠ b := fun b hb => by
    obtain ⟨⟨f0, f1, f2, f3, f4, f5⟩, hlt⟩ := hex b hb
    refine ⟨Nat.ne_of_lt hlt, fun z => ?_, fun x c e => f4 x c (hcl.get x c e)⟩
    rcases List.mem_cons.mp (I3.stkSub b z) with e | e
    · exact f1 e
    · exact f2 e
  have st4 : tn 0 h₁ := T.keep _ _ _ st2 fun b hb o e => up1 b o (by rw [← hH2]; exact Heap.get?_push_of_some _ e)
  have loop := comp_loop (pos := pos) (iter := iter) (R := compPost (model X.prog X.w) X.A X.xe use Q' (.ref s2.heap.objs.size) P2.objs.size) (EndP := EndP)
    hc T hDf hb hg ht he turn IB st4 (fun b hb => (hex b hb).1.1) (up1 _ _ hD0) w0 ?_
  · exact codeAny_compStart_list loop (T.self _ 0 _ _ _ st4 loop)
  · intro σ' H' ys its nn s' I' hn hl rv hq
    obtain ⟨m', hm', _⟩ := id I'.loc
    have hCn : H' P2.objs.size = none := I'.free
    have hDC : s2.heap.objs.size ≠ P2.objs.size := (hb _ (.head _)).1
    have un0 : Un (frs X.stack) (s2.heap.objs.size :: fp) H2 H' P2 s'.heap := I'.base
    have un1 : Un (frs X.stack) (s2.heap.objs.size :: fp) H2 (upd H' s2.heap.objs.size (.lst ys)) P2 s'.heap := by
      have nD : ∀ {b}, b ∉ s2.heap.objs.size :: fp → b ≠ s2.heap.objs.size := fun h e => h (by rw [e]; exact .head _)
      have fD2 : H2 s2.heap.objs.size = none := fD.1
      refine ⟨un0.keep, un0.slot, fun b o e n hx => ?_, un0.there, fun b zs e => ?_, fun b o zs e => ?_, fun b ps e => ?_⟩
      · rw [upd_ne (nD hx)]; exact un0.free b o e n hx
      · rw [upd_ne (ne_of_none e fD2)]; exact un0.tups b zs e
      · rw [upd_ne (ne_of_none e fD2)]; exact un0.frzs b o zs e
      · rw [upd_ne (ne_of_none e fD2)]; exact un0.tbls b ps e
    have ok1 : HOk X.prog X.w (upd H' s2.heap.objs.size (.lst ys)) s'.heap := HOk.track I'.hok hn ⟨hz _ _ hq, its, nn, rv, hl⟩
    have I9 := I3.call' (s' := s') (ch := s2.heap.objs.size :: fp) I'.os un1 ok1 I'.bare fun b hb => by
      obtain ⟨⟨f0, f1, f2, f3, f4, f5⟩, hlt⟩ := hex b hb
      exact ⟨f3, f1, f4, f5⟩
    exact hfin _ _ _ _ _ _ I9 hm' (I3.fpOk (Nat.le_refl _) (by rw [upd_ne hDC.symm]; exact hCn)) hn hq
theorem pe_comp (hc : X.calm = true) (hi : PI X tg iter wi) (hclos : closureFor scope X.env = pure cl) (hcl : ClOk X cl) (hcap : CapOk X scope cl N caps)
    (hhas : ∀ x, ((relabel scope X.env).names.lookup x = some .cell ∨ (relabel scope X.env).names.lookup x = some .free) → ∃ c, cl.lookup x = some c)
    (hcell : ∀ y ∈ scope.names, y.2 ≠ .cell) (hkind : scope.kind = .function) (hnames : ∀ y ∈ scope.names, y.2 = .local → scope.names.lookup y.1 = some .local)
    (hg : ∀ C s₀ H₀ ex, PG (blk X scope cl N C s₀ H₀ ex) tg g) (ht : ∀ C s₀ H₀ ex, PIfs (blk X scope cl N C s₀ H₀ ex) ifs tt) (he : ∀ C s₀ H₀ ex, PE (blk X scope cl N C s₀ H₀ ex) elt te)
    (hs : ∀ x, foldedSetIterable iter X.env x = pure x := by intro _; rfl) :
    PE X (.ListComp elt [⟨tg, iter, ifs, 0⟩] scope pos) (tComp wi caps g tt te) := by
  intro pins s σ H Q I h
  rw [eval_ListComp]
  refine comp_core (EndP := fun H' ys => ys.length ≤ sizeLine ∧ ∀ p, H' p = none → Q (.ref p) (upd H' p (.lst ys))) hc hi hclos hcl hcap hhas hcell hkind hnames hg ht he hs I h (fun _ _ q => q.1) ?_
  intro D C s' H' ys m' I' hn hf hD hq
  refine ⟨m', hn, fun h' hs' => ⟨.ref D, _, ?_, rfl, hq.2 D hD⟩⟩
  exact I'.turnedL (t' := s'.toks) (ch := [C]) (fun b o hb e => hs'.extBut b o (fun z => hb (by simp [z])) e) fun b hb => by
    obtain rfl := List.mem_singleton.mp hb
    exact hf
theorem ps_setComp {i : Nat} {y : Str} {py spos : Pos} (hN : X.N.Nodup) (hiN : X.N[i]? = some y) (hy : X.env.scope.names.lookup y = some .local)
    (hc : X.calm = true) (hi : PI X tg iter wi) (hclos : closureFor scope X.env = pure cl) (hcl : ClOk X cl) (hcap : CapOk X scope cl N caps)
    (hhas : ∀ x, ((relabel scope X.env).names.lookup x = some .cell ∨ (relabel scope X.env).names.lookup x = some .free) → ∃ c, cl.lookup x = some c)
    (hcell : ∀ y ∈ scope.names, y.2 ≠ .cell) (hkind : scope.kind = .function) (hnames : ∀ y ∈ scope.names, y.2 = .local → scope.names.lookup y.1 = some .local)
    (hg : ∀ C s₀ H₀ ex, PG (blk X scope cl N C s₀ H₀ ex) tg g) (ht : ∀ C s₀ H₀ ex, PIfs (blk X scope cl N C s₀ H₀ ex) ifs tt) (he : ∀ C s₀ H₀ ex, PE (blk X scope cl N C s₀ H₀ ex) elt te)
    (hsw : swapsWith (.ListComp elt [⟨tg, iter, ifs, 0⟩] scope pos) (some (.Name y py)) spos.line X.env = pure true := by rfl)
    (hs : ∀ x, foldedSetIterable iter X.env x = pure x := by intro _; rfl) :
    PS X (.Assign [.Name y py] (.ListComp elt [⟨tg, iter, ifs, 0⟩] scope pos) spos) (tAsg (tComp wi caps g tt te) (gName i)) := by
  intro pins s σ H D I h
  rw [exec_Assign_Name_used _ _ _ _ hsw]
  refine wpAny_bind (wpAny_standAt (wpAny_bind ?_))
  show wpAny _ X.A (do let _ ← comprehension (.ListComp elt [⟨tg, iter, ifs, 0⟩] scope pos) scope X.env _ (newList []) false (eval iter X.env) (some (assign (.Name y py) X.env))) _ _ s
  refine wpAny_bind (thn (comp_core (Q' := fun _ s' => SP X pins D .next s') (EndP := fun H' ys => ys.length ≤ sizeLine ∧ ∀ p, H' p = none → gName i (.ref p) σ (upd H' p (.lst ys)) D.nx) hc hi hclos hcl hcap hhas hcell hkind hnames hg ht he hs I h (fun _ _ q => q.1) ?_)
    fun _ s' hq => wpAny_pure (wpAny_pure hq))
  intro Dl C s' H' ys m' I' hn hf hD hq
  show wpAny _ X.A (assign (.Name y py) X.env (.ref Dl)) _ _ _
  refine wpAny_assign_Name (store_ok2 I' hN hiN (.inl hy) (show RelV (.ref Dl) (.ref Dl) from rfl) (fun s2 I2 ⟨a, hs2, ha⟩ => ?_) (.inr hy))
  obtain ⟨f0, f1, f2, f3, f4, f5⟩ := hf
  have haC : C ≠ a := by
    rintro rfl
    rcases ha with e | e
    · exact f1 e
    · exact f4 _ _ e rfl
  refine ⟨m', hn.sameBut hs2 haC, fun h3 hs3 => ⟨_, _, ?_, hq.2 Dl hD⟩⟩
  exact I2.turnedL (t' := s2.toks) (ch := [C]) (fun b o hb e => hs3.extBut b o (fun z => hb (by simp [z])) e) fun b hb => by
    obtain rfl := List.mem_singleton.mp hb
    exact ⟨f0, f1, f2, f3, f4, f5⟩
end
section
variable {K : PySem.W.Frag} {g : TG} {tt : TT} {te : TE} {σ : St} {H : Hp} {Q : VK}
theorem comp_list {a : Addr} {xs : List V} (Pv : Nat → St → Hp → List V → Prop) (h0 : Pv 0 σ H []) (hl : ∀ i σ H ys, i ≤ xs.length → Pv i σ H ys → SqL K H a xs)
    (hs : ∀ i x σ H ys, xs[i]? = some x → Pv i σ H ys → g x σ H fun σ3 H3 => tt σ3 H3 fun b H4 => if b = true then te σ3 H4 fun y H5 => ys.length < sizeLine ∧ Pv (i + 1) σ3 H5 (ys ++ [y]) else Pv (i + 1) σ3 H4 ys)
    (hd : ∀ σ H ys, Pv xs.length σ H ys → ys.length ≤ sizeLine ∧ ∀ p, H p = none → Q (.ref p) (upd H p (.lst ys))) :
    ∃ W : Nat → Nat → St → Hp → List V → Prop, (∃ m, W 0 m σ H []) ∧ ∀ i m σ' H' ys, W i m σ' H' ys →
      ((Itl K a).stop i H' ∧ ys.length ≤ sizeLine ∧ ∀ p, H' p = none → Q (.ref p) (upd H' p (.lst ys))) ∨
      ((Itl K a).go i H' ∧ ∃ Nn : St → Hp → List V → Prop, (∀ σ4 H4 ys4, Nn σ4 H4 ys4 → ∃ m', m' < m ∧ W (i + 1) m' σ4 H4 ys4) ∧ ∀ x H2, (Itl K a).yld i H' x H2 → g x σ' H2 fun σ3 H3 => tt σ3 H3 fun b H4 => if b = true then te σ3 H4 fun y H5 => ys.length < sizeLine ∧ Nn σ3 H5 (ys ++ [y]) else Nn σ3 H4 ys) := by
  refine ⟨fun i m σ H ys => m = xs.length - i ∧ i ≤ xs.length ∧ Pv i σ H ys, ⟨xs.length, by simp, Nat.zero_le _, h0⟩, ?_⟩
  rintro i m σ H ys ⟨rfl, hi, p⟩
  have q := hl i σ H ys hi p
  by_cases hlt : i < xs.length
  · refine .inr ⟨⟨xs, xs[i], q, by simp [hlt]⟩, Pv (i + 1), fun σ' H' ys' p' => ⟨xs.length - (i + 1), by omega, rfl, hlt, p'⟩, fun x H' y => ?_⟩
    obtain ⟨e, y⟩ := y
    subst e
    exact hs i x σ _ ys (y xs q) p
  · have e : i = xs.length := by omega
    subst e
    exact .inl ⟨⟨xs, q, Nat.le_refl _⟩, hd σ H ys p⟩
theorem comp_range {lo : Int} {n : Nat} (Pv : Nat → St → Hp → List V → Prop) (h0 : Pv 0 σ H [])
    (hs : ∀ i σ H ys, i < n → Pv i σ H ys → g (.int (lo + i)) σ H fun σ3 H3 => tt σ3 H3 fun b H4 => if b = true then te σ3 H4 fun y H5 => ys.length < sizeLine ∧ Pv (i + 1) σ3 H5 (ys ++ [y]) else Pv (i + 1) σ3 H4 ys)
    (hd : ∀ σ H ys, Pv n σ H ys → ys.length ≤ sizeLine ∧ ∀ p, H p = none → Q (.ref p) (upd H p (.lst ys))) :
    ∃ W : Nat → Nat → St → Hp → List V → Prop, (∃ m, W 0 m σ H []) ∧ ∀ i m σ' H' ys, W i m σ' H' ys →
      ((Itr lo n).stop i H' ∧ ys.length ≤ sizeLine ∧ ∀ p, H' p = none → Q (.ref p) (upd H' p (.lst ys))) ∨
      ((Itr lo n).go i H' ∧ ∃ Nn : St → Hp → List V → Prop, (∀ σ4 H4 ys4, Nn σ4 H4 ys4 → ∃ m', m' < m ∧ W (i + 1) m' σ4 H4 ys4) ∧ ∀ x H2, (Itr lo n).yld i H' x H2 → g x σ' H2 fun σ3 H3 => tt σ3 H3 fun b H4 => if b = true then te σ3 H4 fun y H5 => ys.length < sizeLine ∧ Nn σ3 H5 (ys ++ [y]) else Nn σ3 H4 ys) := by
  refine ⟨fun i m σ H ys => m = n - i ∧ i ≤ n ∧ Pv i σ H ys, ⟨n, by simp, Nat.zero_le _, h0⟩, ?_⟩
  rintro i m σ H ys ⟨rfl, hi, p⟩
  by_cases hlt : i < n
  · refine .inr ⟨hlt, Pv (i + 1), fun σ' H' ys' p' => ⟨n - (i + 1), by omega, rfl, hlt, p'⟩, fun x H' y => ?_⟩
    obtain ⟨e, y⟩ := y
    subst e y
    exact hs i σ _ ys hlt p
  · have e : i = n := by omega
    subst e
    exact .inl ⟨Nat.le_refl _, hd σ H ys p⟩
end
section
variable {X : Cx}
noncomputable def rEqI (K : PySem.W.Frag) : R2 := fun x y H Q => ∃ (a b : Addr) (ns ms : List Int), x = .ref a ∧ y = .ref b ∧ SqL K H a (ns.map V.int) ∧ SqL K H b (ms.map V.int) ∧ Q (.bl (decide (ns = ms))) H
end
end L2
set_option Elab.async false
set_option linter.all false
set_option maxRecDepth 100000
set_option maxHeartbeats 4000000
namespace L2
open PySem PySem.Spec PyProof.Rows
structure TF (K : PySem.W.Frag) (mg : Str → Option Value) (x : Str) (st : Stmt) (ps : List Str) : Prop where
  ex : ∃ (f : Addr) (fd : FuncData), Fun K x x st f fd ∧ mg x = some (.ref f) ∧ Binds K fd ps []
structure Cal (P : Program) (w : World) (K : PySem.W.Frag) (mg : Str → Option Value) (base : Heap) (x : Str) (k : Nat) (ps : List Str) (sp : Sp) : Prop where
  ex : ∃ (f : Addr) (fd : FuncData), FnOk P w K mg base CX0 k f fd ps sp ∧ mg x = some (.ref f) ∧ PySem.W.keepIn K (.ref f) = true ∧ Binds K fd ps []
theorem TF.ok {P : Program} {w : World} {K : PySem.W.Frag} {mg : Str → Option Value} {base : Heap} {x : Str} {st : Stmt} {ps N : List Str} {k : Nat} {sp : Sp} (T : TF K mg x st ps) (S : FnScope N ps (defScope st)) (len : ∀ vs H Q E, sp vs H Q E → vs.length = ps.length)
    (hbody : ∀ (f : Addr) (cdv : Value) (A : Around) (outer : List Env) (s : Shared) (H : Hp) (vs : List V) (Q : VK) (E : XK), Room k (A.deeper (envOfC x (defScope st) s.heap.objs.size f cdv)) → sp vs H Q E →
      ∃ t, PSs (cxOf CX0 P w K mg base N x (defScope st) f cdv A outer s H E).nox (defBody st) t ∧ t { nx := fun _ H' => Q .non H', rt := Q } (start N vs) H) : Cal P w K mg base x (k + 1) ps sp := by
  obtain ⟨f, fd, F, m, b⟩ := T.ex
  exact ⟨f, fd, F.ok S len (hbody f), m, F.kp, b⟩
section
variable {X : Cx} {x : Str} {k : Nat} {ps : List Str} {sp : Sp} {p pos : Pos} {e : Expr} {es : List Expr} {t : TA}
theorem pe_cal (c : Cal X.prog X.w X.K X.mg X.base x k ps sp) (hr : Room k X.A) (ha : PA X (e :: es) t) (hg : Gl X x := by rfl) (hdb : (x == ("__debug__" : Str)) = false := by decide)
    (he : starEach (e :: es) X.env = (false, eval e X.env) :: starEach es X.env := by rfl) (hpl : (backTo pos (starEach es X.env)).any (·.1) = false := by rfl) :
    PE X (.Call (.Name x p) (e :: es) [] pos) (tCall sp [] E0 t) := by
  obtain ⟨f, fd, F, m, kp, b⟩ := c.ex
  exact pe_call F hr hg m kp b .nil pass0 ha hdb he hpl
end
noncomputable def hasB (names : List (Str × NameKind)) (cl : List (Str × Addr)) : Bool := names.all fun y => (!(y.2 == .cell) && !(y.2 == .free)) || (cl.lookup y.1).isSome
noncomputable def cellB (names : List (Str × NameKind)) : Bool := names.all fun y => !(y.2 == .cell)
noncomputable def locB (names : List (Str × NameKind)) : Bool := names.all fun y => !(y.2 == .local) || (names.lookup y.1 == some .local)
theorem lookup_mem {α β : Type} [BEq α] [LawfulBEq α] {x : α} {v : β} : ∀ {l : List (α × β)}, l.lookup x = some v → (x, v) ∈ l
  | [], h => by simp at h
  | (a, b) :: r, h => by
    rw [List.lookup_cons] at h
    cases q : x == a with
    | true =>
      rw [q] at h
      have e1 : x = a := eq_of_beq q
      have e2 : b = v := Option.some.inj h
      rw [e1, e2]; exact .head _
    | false =>
      rw [q] at h
      exact .tail _ (lookup_mem h)
theorem hasB_ok {names : List (Str × NameKind)} {cl : List (Str × Addr)} (h : hasB names cl = true) : ∀ x, (names.lookup x = some .cell ∨ names.lookup x = some .free) → ∃ c, cl.lookup x = some c := by
  intro x hx
  have key : ∀ k, names.lookup x = some k → (k = .cell ∨ k = .free) → ∃ c, cl.lookup x = some c := fun k hk hc => by
    have := List.all_eq_true.mp h _ (lookup_mem hk)
    simp only [Bool.or_eq_true, Bool.and_eq_true, Bool.not_eq_true', beq_eq_false_iff_ne] at this
    rcases this with ⟨h1, h2⟩ | h1
    · rcases hc with hc | hc
      · exact absurd hc h1
      · exact absurd hc h2
    · exact Option.isSome_iff_exists.mp h1
  rcases hx with hx | hx
  · exact key _ hx (.inl rfl)
  · exact key _ hx (.inr rfl)
theorem cellB_ok {names : List (Str × NameKind)} (h : cellB names = true) : ∀ y ∈ names, y.2 ≠ .cell := fun y hy e => by
  have := List.all_eq_true.mp h _ hy
  simp [e] at this
theorem locB_ok {names : List (Str × NameKind)} (h : locB names = true) : ∀ y ∈ names, y.2 = .local → names.lookup y.1 = some .local := fun y hy e => by
  have := List.all_eq_true.mp h _ hy
  simpa [e] using this
section
variable {X : Cx} {tg elt iter : Expr} {ifs : List Expr} {scope : Scope} {cl : List (Str × Addr)} {N : List Str} {caps : List (Option Nat)} {wi : TI} {g : TG} {tt : TT} {te : TE} {pos : Pos}
theorem pe_lc (hi : PI X tg iter wi) (hcl : ClOk X cl) (hcap : CapOk X scope cl N caps)
    (hg : ∀ C s₀ H₀ ex, PG (blk X scope cl N C s₀ H₀ ex) tg g) (ht : ∀ C s₀ H₀ ex, PIfs (blk X scope cl N C s₀ H₀ ex) ifs tt) (he : ∀ C s₀ H₀ ex, PE (blk X scope cl N C s₀ H₀ ex) elt te)
    (hclos : closureFor scope X.env = pure cl := by rfl) (hhas : hasB (relabel scope X.env).names cl = true := by rfl) (hcell : cellB scope.names = true := by rfl) (hloc : locB scope.names = true := by rfl)
    (hkind : scope.kind = .function := by rfl) (hc : X.calm = true := by rfl)
    (hs : ∀ x, foldedSetIterable iter X.env x = pure x := by intro _; rfl) :
    PE X (.ListComp elt [⟨tg, iter, ifs, 0⟩] scope pos) (tComp wi caps g tt te) := pe_comp hc hi hclos hcl hcap (hasB_ok hhas) (cellB_ok hcell) hkind (locB_ok hloc) hg ht he hs
theorem ps_lc {i : Nat} {y : Str} {py spos : Pos} (hN : X.N.Nodup) (hiN : X.N[i]? = some y) (hi : PI X tg iter wi) (hcl : ClOk X cl) (hcap : CapOk X scope cl N caps)
    (hg : ∀ C s₀ H₀ ex, PG (blk X scope cl N C s₀ H₀ ex) tg g) (ht : ∀ C s₀ H₀ ex, PIfs (blk X scope cl N C s₀ H₀ ex) ifs tt) (he : ∀ C s₀ H₀ ex, PE (blk X scope cl N C s₀ H₀ ex) elt te)
    (hy : X.env.scope.names.lookup y = some .local := by rfl)
    (hclos : closureFor scope X.env = pure cl := by rfl) (hhas : hasB (relabel scope X.env).names cl = true := by rfl) (hcell : cellB scope.names = true := by rfl) (hloc : locB scope.names = true := by rfl)
    (hkind : scope.kind = .function := by rfl) (hc : X.calm = true := by rfl)
    (hsw : swapsWith (.ListComp elt [⟨tg, iter, ifs, 0⟩] scope pos) (some (.Name y py)) spos.line X.env = pure true := by rfl)
    (hs : ∀ x, foldedSetIterable iter X.env x = pure x := by intro _; rfl) :
    PS X (.Assign [.Name y py] (.ListComp elt [⟨tg, iter, ifs, 0⟩] scope pos) spos) (tAsg (tComp wi caps g tt te) (gName i)) := ps_setComp hN hiN hy hc hi hclos hcl hcap (hasB_ok hhas) (cellB_ok hcell) hkind (locB_ok hloc) hg ht he hsw hs
end
section
variable {X : Cx} {st : Stmt} {rest : List Stmt} {t u : TS}
noncomputable def tCut (t u : TS) : TS := fun D σ H => ∃ Pm : St → Hp → Prop, t { D with nx := Pm } σ H ∧ ∀ σ' H', Pm σ' H' → u D σ' H'
theorem pss_cut (h1 : PS X st t) (h2 : PSs X rest u) : PSs X (st :: rest) (tCut t u) := by
  intro pins s σ H D I h
  obtain ⟨Pm, h, hP⟩ := h
  refine wpAny_execs_cons (thn (h1 pins s σ H { D with nx := Pm } I h) fun f s1 q => ?_)
  cases f with
  | next =>
    obtain ⟨σ', H', I', q⟩ := q
    exact h2 pins s1 σ' H' D I' (hP _ _ q)
  | ret v => exact q
  | brk => exact q
  | cont => exact q
theorem cut {t u : TS} {D : Ends} {σ : St} {H : Hp} (Pm : St → Hp → Prop) (h : t { D with nx := Pm } σ H) (hP : ∀ σ' H', Pm σ' H' → u D σ' H') : tCut t u D σ H := ⟨Pm, h, hP⟩
end
noncomputable def LoopOk (J : It) (g : TG) (tb : TS) (D : Ends) (σ : St) (H1 : Hp) : Prop := ∃ W : Nat → Nat → St → Hp → Prop, (∃ m, W 0 m σ H1) ∧ ∀ i m σ H, W i m σ H →
  (J.stop i H ∧ D.nx σ H) ∨ (J.go i H ∧ ∃ N : St → Hp → Prop, (∀ σ' H', N σ' H' → ∃ m', m' < m ∧ W (i + 1) m' σ' H') ∧ ∀ x H', J.yld i H x H' → g x σ H' fun σ2 H2 => tb { D with nx := N, ct := N, bk := D.nx } σ2 H2)
theorem tFor_eq {wi : TI} {g : TG} {tb : TS} {D : Ends} {σ : St} {H : Hp} : tFor wi g tb D σ H = wi σ H fun J H1 => LoopOk J g tb D σ H1 := rfl
theorem loop_list {K : PySem.W.Frag} {a : Addr} {xs : List V} {g : TG} {tb : TS} {D : Ends} {σ : St} {H : Hp} (Pv : Nat → St → Hp → Prop) (h0 : Pv 0 σ H) (hl : ∀ i σ H, i ≤ xs.length → Pv i σ H → SqL K H a xs)
    (hs : ∀ i x σ H, xs[i]? = some x → Pv i σ H → g x σ H fun σ2 H2 => tb { D with nx := Pv (i + 1), ct := Pv (i + 1), bk := D.nx } σ2 H2) (hd : ∀ σ H, Pv xs.length σ H → D.nx σ H) : LoopOk (Itl K a) g tb D σ H := for_list Pv h0 hl hs hd
theorem loop_range {lo : Int} {n : Nat} {g : TG} {tb : TS} {D : Ends} {σ : St} {H : Hp} (Pv : Nat → St → Hp → Prop) (h0 : Pv 0 σ H)
    (hs : ∀ i σ H, i < n → Pv i σ H → g (.int (lo + i)) σ H fun σ2 H2 => tb { D with nx := Pv (i + 1), ct := Pv (i + 1), bk := D.nx } σ2 H2) (hd : ∀ σ H, Pv n σ H → D.nx σ H) : LoopOk (Itr lo n) g tb D σ H := for_range Pv h0 hs hd
theorem loop_zip {K : PySem.W.Frag} {a b : Addr} {xs ys : List V} {g : TG} {tb : TS} {D : Ends} {σ : St} {H : Hp} (Pv : Nat → St → Hp → Prop) (h0 : Pv 0 σ H) (hl : ∀ i σ H, i ≤ xs.length → i ≤ ys.length → Pv i σ H → SqL K H a xs ∧ SqL K H b ys)
    (hs : ∀ i x y T σ H, xs[i]? = some x → ys[i]? = some y → Pv i σ H → H T = none → g (.ref T) σ (upd H T (.tup [x, y])) fun σ2 H2 => tb { D with nx := Pv (i + 1), ct := Pv (i + 1), bk := D.nx } σ2 H2)
    (hd : ∀ σ H, Pv (min xs.length ys.length) σ H → D.nx σ H) : LoopOk (Itz K a b) g tb D σ H := for_zip Pv h0 hl hs hd
noncomputable def CompOk (J : It) (g : TG) (tt : TT) (te : TE) (Q : VK) (σ : St) (H1 : Hp) : Prop := ∃ W : Nat → Nat → St → Hp → List V → Prop, (∃ m, W 0 m σ H1 []) ∧ ∀ i m σ' H' ys, W i m σ' H' ys →
  (J.stop i H' ∧ ys.length ≤ sizeLine ∧ ∀ p, H' p = none → Q (.ref p) (upd H' p (.lst ys))) ∨
  (J.go i H' ∧ ∃ Nn : St → Hp → List V → Prop, (∀ σ4 H4 ys4, Nn σ4 H4 ys4 → ∃ m', m' < m ∧ W (i + 1) m' σ4 H4 ys4) ∧ ∀ x H2, J.yld i H' x H2 → g x σ' H2 fun σ3 H3 => tt σ3 H3 fun b H4 => if b = true then te σ3 H4 fun y H5 => ys.length < sizeLine ∧ Nn σ3 H5 (ys ++ [y]) else Nn σ3 H4 ys)
theorem tComp_eq {wi : TI} {caps : List (Option Nat)} {g : TG} {tt : TT} {te : TE} {σ : St} {H : Hp} {Q : VK} : tComp wi caps g tt te σ H Q = wi σ H fun J H1 => CompOk J g tt te Q (capt σ caps) H1 := rfl
section
variable {K : PySem.W.Frag} {g : TG} {tt : TT} {te : TE} {σ : St} {H : Hp} {Q : VK}
theorem lc_list {a : Addr} {xs : List V} (Pv : Nat → St → Hp → List V → Prop) (h0 : Pv 0 σ H []) (hl : ∀ i σ H ys, i ≤ xs.length → Pv i σ H ys → SqL K H a xs)
    (hs : ∀ i x σ H ys, xs[i]? = some x → Pv i σ H ys → g x σ H fun σ3 H3 => tt σ3 H3 fun b H4 => if b = true then te σ3 H4 fun y H5 => ys.length < sizeLine ∧ Pv (i + 1) σ3 H5 (ys ++ [y]) else Pv (i + 1) σ3 H4 ys)
    (hd : ∀ σ H ys, Pv xs.length σ H ys → ys.length ≤ sizeLine ∧ ∀ p, H p = none → Q (.ref p) (upd H p (.lst ys))) : CompOk (Itl K a) g tt te Q σ H := comp_list (σ := σ) Pv h0 hl hs hd
theorem lc_range {lo : Int} {n : Nat} (Pv : Nat → St → Hp → List V → Prop) (h0 : Pv 0 σ H [])
    (hs : ∀ i σ H ys, i < n → Pv i σ H ys → g (.int (lo + i)) σ H fun σ3 H3 => tt σ3 H3 fun b H4 => if b = true then te σ3 H4 fun y H5 => ys.length < sizeLine ∧ Pv (i + 1) σ3 H5 (ys ++ [y]) else Pv (i + 1) σ3 H4 ys)
    (hd : ∀ σ H ys, Pv n σ H ys → ys.length ≤ sizeLine ∧ ∀ p, H p = none → Q (.ref p) (upd H p (.lst ys))) : CompOk (Itr lo n) g tt te Q σ H := comp_range (σ := σ) Pv h0 hs hd
end
theorem same_upd {H : Hp} {p : Addr} {o : HO} (h : H p = none) : Same H (upd H p o) := fun b u e => by rw [upd_ne (ne_of_none e h)]; exact e
theorem tw {c : TT} {tb : TS} {D : Ends} {σ : St} {H : Hp} (W : Nat → St → Hp → Prop) (m : Nat) (h0 : W m σ H) (hs : ∀ m σ H, W m σ H → c σ H fun b H1 => if b = true then ∃ N : St → Hp → Prop, (∀ σ' H', N σ' H' → ∃ m', m' < m ∧ W m' σ' H') ∧ tb { D with nx := N, ct := N, bk := D.nx } σ H1 else D.nx σ H1) :
    tWhile c tb D σ H := ⟨W, ⟨m, h0⟩, hs⟩
end L2
set_option Elab.async false
set_option linter.all false
set_option maxRecDepth 100000
set_option maxHeartbeats 4000000
namespace L2
open PySem PySem.Spec PyProof.Rows
section
variable {X : Cx}
noncomputable def CHug (i j : Int) : Prop := i.natAbs < 2 ^ 10000 ∧ j.natAbs < 2 ^ 10000
theorem bits_hug {i : Int} (h : i.natAbs < 2 ^ 10000) : Builtin.Int.intBits i ≤ 2 ^ 20 := Nat.le_trans (PyProof.Rows.intBits_le h) (by decide)
noncomputable def CMulA (i j : Int) : Prop := CMul i j ∨ CHug i j
theorem op_mulA : OpR X (binaryOp .Mult) (rI CMulA fun i j => .int (i * j)) := opI fun _ _ _ _ _ _ _ hc q => mul_int q (hc.elim (fun h => h.ok) fun h => .of_bits (bits_hug h.1) (bits_hug h.2))
theorem mulA_b {i j : Int} {m n : Nat} (hi : i.natAbs < 2 ^ m) (hj : j.natAbs < 2 ^ n) (hm : m ≤ 10000) (hn : n ≤ 10000) : CMulA i j := .inr ⟨Nat.lt_of_lt_of_le hi (Nat.pow_le_pow_right (by decide) hm), Nat.lt_of_lt_of_le hj (Nat.pow_le_pow_right (by decide) hn)⟩
theorem mulA_l {i j : Int} (h1 : -(2 ^ 64) < i) (h2 : i < 2 ^ 64) : CMulA i j := .inl (.inl ⟨h1, h2⟩)
theorem mulA_r {i j : Int} (h1 : -(2 ^ 64) < j) (h2 : j < 2 ^ 64) : CMulA i j := .inl (.inr ⟨h1, h2⟩)
noncomputable def IsMin (xs : List Int) (m : Int) : Prop := m ∈ xs ∧ ∀ a ∈ xs, m ≤ a
theorem call_minL (hc : X.calm = true) : CallR X (.builtin "min") (fun vs H Q => ∃ (l : Addr) (xs : List Int), vs = [.ref l] ∧ SqL X.K H l (xs.map V.int) ∧ xs ≠ [] ∧ ∀ m, IsMin xs m → Q (.int m) H) := by
  intro pins s σ H vs us Q I r h
  obtain ⟨l, ns, rfl, hS, hne, q⟩ := h
  obtain ⟨u, rfl, ru⟩ := vals1 r
  cases (show u = Value.ref l from ru)
  obtain ⟨its, rv, p, hz⟩ := I.list hS
  have hi := intsAre_of rv
  obtain ⟨xs, e⟩ := hi.allInts.items
  have hns : ns = xs.toList.map (·.1) := by rw [← hi.numsOf, ← nums_intItems, ← e]
  have hsz : 0 < xs.size := by
    have h3 : 0 < ns.length := List.length_pos_iff.mpr hne
    rw [hns, List.length_map, Array.length_toList] at h3; exact h3
  have hl := p.isList
  rw [e] at hl
  refine min_intList (I.ok.hd hc) hl hsz fun v h' tk hv hk => ?_
  obtain ⟨t, rfl⟩ := intItems_at hv
  obtain ⟨h1, h2⟩ := argBest_lt (numAt xs) (xs.size - 1)
  refine ⟨.int _, H, I.kept hk, ⟨t, rfl⟩, q _ ⟨?_, fun a ha => ?_⟩⟩
  · rw [hns, numAt_eq]; exact PySem.getD_mem (by rw [List.length_map, Array.length_toList]; omega)
  · rw [hns] at ha
    obtain ⟨j, hj, rfl⟩ := mem_getD ha
    rw [List.length_map, Array.length_toList] at hj
    rw [← numAt_eq]; exact h2 j (by omega)
theorem call_sumL (hc : X.calm = true) : CallR X (.builtin "sum") (fun vs H Q => ∃ (l : Addr) (xs : List Int), vs = [.ref l] ∧ SqL X.K H l (xs.map V.int) ∧ Q (.int xs.sum) H) := by
  intro pins s σ H vs us Q I r h
  obtain ⟨l, ns, rfl, hS, q⟩ := h
  obtain ⟨u, rfl, ru⟩ := vals1 r
  cases (show u = Value.ref l from ru)
  obtain ⟨its, rv, p, hz⟩ := I.list hS
  have hi := intsAre_of rv
  obtain ⟨xs, e⟩ := hi.allInts.items
  have hns : ns = xs.toList.map (·.1) := by rw [← hi.numsOf, ← nums_intItems, ← e]
  have hl := p.isList
  rw [e] at hl
  refine sum_intListG (I.ok.hd hc) hl fun h' tk t' hk => ?_
  refine ⟨.int _, H, I.kept hk, ⟨t', ?_⟩, q⟩
  rw [preSum_eq, List.take_of_length_le (by simp), ← hns]
end
section
variable {prog : Program} {w : World} {A : Around} {E : Value → Shared → Prop} {s : Shared}
theorem draw_list {it l : Addr} {items : Array Value} (hne : l ≠ it) : ∀ (n i : Nat) (s : Shared) (Q : List Value → Shared → Prop), s.heap.IsListIter it l i → s.heap.IsList l items → i + n ≤ items.size →
    (∀ h', h'.IsListIter it l (i + n) → Heap.SameBut it s.heap h' → Q ((items.toList.drop i).take n) { s with heap := h' }) → wpAny (model prog w) A (draw (.ref it) n) Q E s
  | 0, i, s, Q, hit, _, _, hQ => by
    show wpAny _ _ (pure []) Q E s
    exact wpAny_pure (by simpa using hQ s.heap hit (Heap.SameBut.refl ..))
  | n + 1, i, s, Q, hit, ht, hle, hQ => by
    have hlt : i < items.size := by omega
    show wpAny _ _ (pyNext (.ref it) >>= _) Q E s
    refine wpAny_bind (wpAny_pyNext_list_item hit ht (x := items[i]) (by simp [hlt]) fun h₁ hit₁ hs₁ => ?_)
    refine wpAny_bind (wpAny_holding (draw_list hne n (i + 1) _ _ hit₁ (ht.extBut hs₁.extBut hne) (by omega) fun h₂ hit₂ hs₂ => wpAny_pure ?_))
    have hd : items.toList.drop i = items[i] :: items.toList.drop (i + 1) := by simp [List.drop_eq_getElem_cons, hlt]
    have q := hQ h₂ (by rw [show i + (n + 1) = i + 1 + n by omega]; exact hit₂) (hs₁.trans hs₂)
    rw [hd, List.take_succ_cons] at q
    exact q
theorem unpackItems_list {l : Addr} {items : Array Value} {Q : List Value → Shared → Prop} (hh : A.handled = none) (hl : s.heap.IsList l items)
    (hQ : ∀ h', Heap.ExtBut s.heap.objs.size s.heap h' → Q items.toList { s with heap := h' }) : wpAny (model prog w) A (unpackItems (.ref l) items.size none) Q E s := by
  have hlt : l ≠ s.heap.objs.size := by obtain ⟨o, ho, _⟩ := hl; exact Nat.ne_of_lt (Heap.lt_size ho)
  unfold unpackItems
  refine wpAny_bind ?_
  unfold notIterableAtAll
  refine wpAny_bind (wpAny_specialOf hl.typeIs slot_list_iter.lookup ?_)
  refine wpAny_pure ?_
  simp only [Bool.false_eq_true, if_false]
  refine wpAny_bind (wpAny_holding (wpAny_pyIter_list hl ?_))
  refine wpAny_bind (wpAny_holding (draw_list hlt items.size 0 _ _ ⟨_, Heap.get?_push_size _ rfl, rfl, rfl⟩ (hl.push _) (by omega) fun h₁ hit₁ hs₁ => ?_))
  have hall : List.take items.size (List.drop 0 items.toList) = items.toList := by
    rw [List.drop_zero]; exact List.take_of_length_le (by simp)
  rw [hall]
  rw [if_neg (by simp)]
  have ht₁ : h₁.IsList l items := (hl.push _).extBut hs₁.extBut hlt
  refine wpAny_bind (wpAny_holding (wpAny_pyNext_list_end hh hit₁ ht₁ (by simp) fun h₂ he₂ => ?_))
  simp only [Option.isSome_none, Bool.false_eq_true, if_false]
  exact wpAny_pure (hQ h₂ fun b o hb e => he₂ b o hb (hs₁.extBut b o hb (Heap.get?_push_of_some _ e)))
end
section
variable {X : Cx} {pos : Pos}
noncomputable def gTupL (K : PySem.W.Frag) (n : Nat) (t : TGs) : TG := fun v σ H Q => ∃ a xs, v = .ref a ∧ SqL K H a xs ∧ xs.length = n ∧ t xs σ H Q
theorem pg_tupL {es : List Expr} {k : Nat} {t : TGs} {n : Nat} (hc : X.calm = true) (h : PGs X es t)
    (hn : (assignEach es X.env).length = n := by rfl) (hst : (assignEach es X.env).findIdx? (·.1) = none := by rfl) : PG X (.Tuple es k pos) (gTupL X.K n t) := by
  intro pins s σ H v u Q I r hw
  obtain ⟨a, xs, e1, hq, hl, hw⟩ := hw
  subst e1
  cases r
  obtain ⟨its, rv, ht, hz⟩ := I.list hq
  rw [assign_Tuple]
  refine wpAny_bind (wpAny_standAt ?_)
  unfold unpack
  rw [hn, hst]
  have hlen : n = its.toArray.size := by rw [List.size_toArray, ← rv.length, hl]
  rw [hlen]
  refine wpAny_bind (wpAny_holding (unpackItems_list (I.ok.hd hc) ht.isList fun h' hx => ?_))
  have I1 : Inv X pins σ H { s with heap := h' } := I.kept (t' := s.toks) fun b o e => hx b o (Nat.ne_of_lt (Heap.lt_size e)) e
  exact h pins _ σ H xs _ Q I1 (by simpa using rv) hw
theorem gTupL2 {K : PySem.W.Frag} {T : Addr} {v1 v2 : V} {i j : Nat} {σ : St} {H : Hp} {Q : St → Hp → Prop} (h : SqL K H T [v1, v2]) (q : Q ((σ.set i (some v1)).set j (some v2)) H) :
    gTupL K 2 (gCons (gName i) (gCons (gName j) gNil)) (.ref T) σ H Q := ⟨T, _, rfl, h, rfl, _, _, rfl, _, _, rfl, rfl, q⟩
end
section
variable {X : Cx}
noncomputable def IntsV (xs : List V) : Prop := ∀ x ∈ xs, ∃ i, x = V.int i
theorem intsV_map (ns : List Int) : IntsV (ns.map V.int) := fun x hx => by
  obtain ⟨i, _, rfl⟩ := List.mem_map.mp hx
  exact ⟨i, rfl⟩
noncomputable def CmpOk (xs ys : List V) : Prop := xs = [] ∨ ys = [] ∨ (IntsV xs ∧ IntsV ys)
theorem items_eq {A : Around} {s : Shared} {xs ys : List V} {its its2 : List Value} (r : Vals xs its) (r2 : Vals ys its2) (hc : CmpOk xs ys) (j : Nat) (h1 : j < its.toArray.size) (h2 : j < its2.toArray.size) :
    SeqAt.EqAt A s its.toArray[j] its2.toArray[j] (decide (xs[j]? = ys[j]?)) := by
  have l1 := r.length
  have l2 := r2.length
  have h1' : j < its.length := by simpa using h1
  have h2' : j < its2.length := by simpa using h2
  rcases hc with e | e | ⟨c1, c2⟩
  · rw [e] at l1; simp at l1; omega
  · rw [e] at l2; simp at l2; omega
  · have q1 : xs[j]? = some xs[j] := by simp
    have q2 : ys[j]? = some ys[j] := by simp
    obtain ⟨u, e1, ru⟩ := r.get q1
    obtain ⟨u2, e2, ru2⟩ := r2.get q2
    obtain ⟨i1, g1⟩ := c1 xs[j] (List.getElem_mem _)
    obtain ⟨i2, g2⟩ := c2 ys[j] (List.getElem_mem _)
    rw [g1] at ru
    rw [g2] at ru2
    obtain ⟨t1, rfl⟩ := ru
    obtain ⟨t2, rfl⟩ := ru2
    have e3 : its.toArray[j] = Value.int i1 t1 := by
      rw [List.getElem?_eq_getElem h1'] at e1
      simpa using Option.some.inj e1
    have e4 : its2.toArray[j] = Value.int i2 t2 := by
      rw [List.getElem?_eq_getElem h2'] at e2
      simpa using Option.some.inj e2
    rw [e3, e4, q1, q2, g1, g2]
    intro prog w E Q hq
    refine wpAny_eqBool_int ?_
    have : (i1 == i2) = decide (some (V.int i1) = some (V.int i2)) := by rw [Bool.eq_iff_iff]; simp
    rw [this]; exact hq
theorem all_eq {xs ys : List V} {n : Nat} (h1 : xs.length = n) (h2 : ys.length = n) : ((List.range n).all fun j => decide (xs[j]? = ys[j]?)) = decide (xs = ys) := by
  rw [Bool.eq_iff_iff]
  simp only [List.all_eq_true, List.mem_range, decide_eq_true_eq]
  constructor
  · intro h
    apply List.ext_getElem?
    intro j
    by_cases hj : j < n
    · exact h j hj
    · rw [List.getElem?_eq_none (by omega), List.getElem?_eq_none (by omega)]
  · rintro rfl j _; rfl
noncomputable def rEqA (K : PySem.W.Frag) : R2 := fun x y H Q => ∃ (a b : Addr), x = .ref a ∧ y = .ref b ∧ ∃ xs ys, SqL K H a xs ∧ SqL K H b ys ∧ CmpOk xs ys ∧ Q (.bl (decide (xs = ys))) H
noncomputable def rNeA (K : PySem.W.Frag) : R2 := fun x y H Q => ∃ (a b : Addr), x = .ref a ∧ y = .ref b ∧ ∃ xs ys, SqL K H a xs ∧ SqL K H b ys ∧ CmpOk xs ys ∧ Q (.bl (!decide (xs = ys))) H
theorem op_eqA (hu : X.A.units < cLine) : OpR X (compareOp .Eq) (rEqA X.K) := by
  intro pins s σ H x y v u Q I rx ry h
  obtain ⟨a, b, rfl, rfl, xs, ys, h1, h2, hc, q⟩ := h
  cases rx
  cases ry
  obtain ⟨its, r, p, hz⟩ := I.list h1
  obtain ⟨its2, r2, p2, hz2⟩ := I.list h2
  have l1 := r.length
  have l2 := r2.length
  by_cases hl : its.length = its2.length
  · refine SeqAt.eq_listAt (e := fun j => decide (xs[j]? = ys[j]?)) p.isList p2.isList (by simpa using hl) hu (items_eq r r2 hc) ⟨.bl (decide (xs = ys)), H, I, ?_, q⟩
    rw [List.size_toArray, all_eq l1 (by omega)]; rfl
  · refine SeqAt.eq_list_lengthsAt p.isList p2.isList (by simpa using hl) hu ⟨.bl (decide (xs = ys)), H, I, ?_, q⟩
    rw [decide_eq_false (by rintro rfl; omega)]; rfl
theorem op_neA (hu : X.A.units < cLine) : OpR X (compareOp .NotEq) (rNeA X.K) := by
  intro pins s σ H x y v u Q I rx ry h
  obtain ⟨a, b, rfl, rfl, xs, ys, h1, h2, hc, q⟩ := h
  cases rx
  cases ry
  obtain ⟨its, r, p, hz⟩ := I.list h1
  obtain ⟨its2, r2, p2, hz2⟩ := I.list h2
  have l1 := r.length
  have l2 := r2.length
  by_cases hl : its.length = its2.length
  · refine SeqAt.RcNeAt.lists (e := fun j => decide (xs[j]? = ys[j]?)) p.isList p2.isList (by simpa using hl) hu (items_eq r r2 hc) _ _ _ _ ⟨.bl (!decide (xs = ys)), H, I, ?_, q⟩
    rw [List.size_toArray, all_eq l1 (by omega)]; rfl
  · refine SeqAt.RcNeAt.lists_lengths p.isList p2.isList (by simpa using hl) hu _ _ _ _ ⟨.bl (!decide (xs = ys)), H, I, ?_, q⟩
    rw [decide_eq_false (by rintro rfl; omega)]; rfl
end
end L2
set_option Elab.async false
set_option linter.all false
set_option maxRecDepth 100000
set_option maxHeartbeats 4000000
namespace L2
open PySem PySem.Spec PyProof.Rows
section
variable {X : Cx} {e st : Expr} {te ts : TE} {pos p2 : Pos}
noncomputable def tRev (K : PySem.W.Frag) (te ts : TE) : TE := fun σ H Q => te σ H fun x H1 => ts σ H1 fun y H2 => y = .int (-1) ∧ ∃ a xs, x = .ref a ∧ SqL K H2 a xs ∧ ∀ p, H2 p = none → Q (.ref p) (upd H2 p (.lst xs.reverse))
end
end L2
set_option Elab.async false
set_option linter.all false
set_option maxRecDepth 100000
set_option maxHeartbeats 4000000
namespace L2
open PySem PySem.Spec PyProof.Rows
section
variable {X : Cx} {K : PySem.W.Frag}
theorem ix_listK (h : X.K = K) : IxR X (rIxL K) := h ▸ ix_list
theorem ix_tupK (h : X.K = K) : IxR X (rIxT K) := h ▸ ix_tup
theorem sl_listK (h : X.K = K) : SlR X (rSlL K) := h ▸ sl_list
theorem call_list_ofK (h : X.K = K) : CallR X (.type "list") (fun xs H Q => ∃ p ys, xs = [.ref p] ∧ (SqL K H p ys ∨ SqT K H p ys) ∧ ∀ l, H l = none → Q (.ref l) (upd H l (.lst ys))) := h ▸ call_list_of
theorem pg_tupK {pos : Pos} {es : List Expr} {k : Nat} {t : TGs} {n : Nat} (h : X.K = K) (hc : X.calm = true) (hh : PGs X es t) (hn : (assignEach es X.env).length = n := by rfl) (hst : (assignEach es X.env).findIdx? (·.1) = none := by rfl) : PG X (.Tuple es k pos) (gTup K n t) := h ▸ pg_tup hc hh hn hst
end
section
variable {K : PySem.W.Frag} {g : TG} {tt : TT} {te : TE} {σ : St} {H : Hp} {Q : VK}
theorem lc_zip {a b : Addr} {xs ys : List V} (Pv : Nat → St → Hp → List V → Prop) (h0 : Pv 0 σ H []) (hl : ∀ i σ H zs, i ≤ xs.length → i ≤ ys.length → Pv i σ H zs → SqL K H a xs ∧ SqL K H b ys)
    (hs : ∀ i x y T σ H zs, xs[i]? = some x → ys[i]? = some y → Pv i σ H zs → H T = none → g (.ref T) σ (upd H T (.tup [x, y])) fun σ3 H3 => tt σ3 H3 fun c H4 => if c = true then te σ3 H4 fun z H5 => zs.length < sizeLine ∧ Pv (i + 1) σ3 H5 (zs ++ [z]) else Pv (i + 1) σ3 H4 zs)
    (hd : ∀ σ H zs, Pv (min xs.length ys.length) σ H zs → zs.length ≤ sizeLine ∧ ∀ p, H p = none → Q (.ref p) (upd H p (.lst zs))) : CompOk (Itz K a b) g tt te Q σ H := by
  refine ⟨fun i m σ H zs => m = min xs.length ys.length - i ∧ i ≤ min xs.length ys.length ∧ Pv i σ H zs, ⟨min xs.length ys.length, by simp, Nat.zero_le _, h0⟩, ?_⟩
  rintro i m σ H zs ⟨rfl, hi, p⟩
  obtain ⟨q, q2⟩ := hl i σ H zs (by omega) (by omega) p
  by_cases hlt : i < min xs.length ys.length
  · have h1 : i < xs.length := by omega
    have h2 : i < ys.length := by omega
    refine .inr ⟨⟨xs, ys, xs[i], ys[i], q, q2, by simp [h1], by simp [h2]⟩, Pv (i + 1), fun σ' H' zs' p' => ⟨min xs.length ys.length - (i + 1), by omega, rfl, hlt, p'⟩, fun v H' y => ?_⟩
    obtain ⟨T, x, y, hT, rfl, rfl, e1, e2⟩ := y
    exact hs i x y T σ H zs (e1 xs q) (e2 ys q2) p hT
  · have e : i = min xs.length ys.length := by omega
    refine .inl ⟨⟨xs, ys, q, q2, by omega⟩, hd σ H zs (e ▸ p)⟩
end
noncomputable def constI : Expr → Option Int
  | .Constant (.int i) _ _ => some i
  | .UnaryOp .USub (.Constant (.int i) _ _) _ => some (-i)
  | _ => none
noncomputable def constIs : List Expr → Option (List Int)
  | [] => some []
  | e :: r => match constI e, constIs r with
    | some i, some ns => some (i :: ns)
    | _, _ => none
noncomputable def tInts (ns : List Int) : TA := fun _ H Q => Q (ns.map V.int) H
section
variable {X : Cx}
theorem pe_constI {e : Expr} {i : Int} (h : constI e = some i) : PE X e (tC (.int i)) := by
  unfold constI at h
  split at h
  · cases h; exact pe_int
  · cases h
    intro pins s σ H Q I q
    exact pe_un un_neg pe_int pins s σ H Q I ⟨_, rfl, q⟩
  · cases h
theorem star_constI {e : Expr} {i : Int} (h : constI e = some i) (es : List Expr) (env : Env) : starEach (e :: es) env = (false, eval e env) :: starEach es env := by
  unfold constI at h
  split at h
  · rfl
  · rfl
  · cases h
theorem pa_constIs : ∀ {es : List Expr} {ns : List Int}, constIs es = some ns → PA X es (tInts ns)
  | [], ns, h => by
    cases (show some [] = some ns from h)
    exact pa_nil
  | e :: r, ns, h => by
    unfold constIs at h
    split at h
    · rename_i i ms h1 h2
      cases h
      have := pa_cons (pe_constI (X := X) h1) (pa_constIs h2) (star_constI h1 r X.env)
      exact this
    · cases h
theorem pe_lstC {es : List Expr} {pos : Pos} {ns : List Int} (h : constIs es = some ns) : PE X (.List es pos) (tLst (tInts ns)) := pe_lst (pa_constIs h)
end
end L2
set_option Elab.async false
set_option linter.all false
set_option maxRecDepth 100000
set_option maxHeartbeats 4000000
namespace L2
open PySem PySem.Spec PyProof.Rows
noncomputable def Ite (K : PySem.W.Frag) (a : Addr) : It :=
  ⟨fun i H => ∃ xs x, SqL K H a xs ∧ xs[i]? = some x,
   fun i H v H' => ∃ T x, H T = none ∧ v = .ref T ∧ H' = upd H T (.tup [V.int (i : Int), x]) ∧ (∀ xs, SqL K H a xs → xs[i]? = some x),
   fun i H => ∃ xs, SqL K H a xs ∧ xs.length ≤ i⟩
noncomputable def EnumSt (a e it : Addr) (i : Nat) (h : Heap) : Prop := (∃ old, IsEnum h e it (i : Int) old) ∧ h.IsListIter it a i
theorem turn_enum {P : Program} {w : World} {K : PySem.W.Frag} {es : List Expr} {kk : Nat} {tp : Pos} (a e it : Addr) :
    Turn P w K (.Tuple es kk tp) (Ite K a) [e, it] e (EnumSt a e it) where
  mem := by simp
  obj := fun i h st c hc => by
    obtain ⟨⟨old, he⟩, ⟨o1, e1, c1, d1⟩⟩ := st
    have : c = e ∨ c = it := by simpa using hc
    rcases this with rfl | rfl
    · exact ⟨_, he, fun v q => by cases (show Data.fields _ = Data.cell v from q)⟩
    · exact ⟨_, e1, fun v q => by rw [d1] at q; cases q⟩
  keep := fun i h h' st k => by
    obtain ⟨⟨old, he⟩, h1⟩ := st
    exact ⟨⟨old, k e (by simp) _ he⟩, h1.at fun o q => k it (by simp) o q⟩
  item := by
    intro X hP hw hK hc i pins s σ H E I hf st hg
    subst hP hw hK
    obtain ⟨xs, x, hq, hx⟩ := hg
    obtain ⟨its, rv, p, hz1⟩ := I.list hq
    obtain ⟨u, hu, ru⟩ := rv.get hx
    obtain ⟨⟨old, he⟩, h1⟩ := id st
    have k : ∀ {c d : Addr} {o u : Obj} {m n : String}, s.heap.get? c = some o → s.heap.get? d = some u → o.cls = .type m → u.cls = .type n → m ≠ n → c ≠ d := fun h1 h2 e1 e2 d => ne_cls h1 h2 (by rw [e1, e2]; intro q; injection q with q; exact d q)
    have hei : e ≠ it := by
      obtain ⟨o1, e1, c1, d1⟩ := h1
      exact k he e1 rfl c1 (by decide)
    have hle : a ≠ e := by
      obtain ⟨oa, ea, ca, _⟩ := p.isList
      exact k ea he ca rfl (by decide)
    have hli : a ≠ it := by
      obtain ⟨oa, ea, ca, _⟩ := p.isList
      obtain ⟨o1, e1, c1, d1⟩ := h1
      exact k ea e1 ca c1 (by decide)
    refine wpAny_pyNext_enum_item he h1 p.isList (x := u) (by simpa using hu) hei fun h' a1 a2 a3 a4 a5 => ?_
    refine ⟨_, rfl, wpAny_letOwnedTupleGo_enum a1 fun h'' b1 b2 => ?_⟩
    replace b2 : Heap.SameBut e h' h'' := b2
    have up : ∀ c o, c ≠ e → h'.get? c = some o → h''.get? c = some o := fun c o hc q => b2.extBut c o hc q
    have zlt : e < s.heap.objs.size := Heap.lt_size he
    have I1s : h''.IsListIter it a (i + 1) := a2.at fun o q => up _ o hei.symm q
    have I1 : Inv X pins σ H { s with heap := h'', toks := s.toks + 1 } := by
      refine I.turnedL (t' := s.toks + 1) (ch := [e, it]) (fun c o hc q => ?_) hf
      have hc' : c ≠ e ∧ c ≠ it := by simpa using hc
      exact up c o hc'.1 (a5 c o hc'.1 hc'.2 q)
    have fresh : H s.heap.objs.size = none := I.hok.fresh (Nat.le_refl _)
    have newT : h''.get? s.heap.objs.size = some _ := up _ _ (Nat.ne_of_gt zlt) a3
    have I2 : Inv X pins σ (upd H s.heap.objs.size (.tup [V.int (i : Int), x])) { s with heap := h'', toks := s.toks + 1 } := by
      have un : Un X.fs [e, it] H (upd H s.heap.objs.size (.tup [V.int (i : Int), x])) s.heap h'' := by
        refine ⟨fun c o q n _ hx => ?_, fun c o q n _ hx => ⟨o.slots, ?_⟩, fun c o q n _ => ?_, fun c o q hx => ⟨o, ?_⟩, fun c zs q => ?_, fun c o zs q => ?_, fun c ps q => ⟨#[], ?_⟩⟩
        · have hc' : c ≠ e ∧ c ≠ it := by simpa using hx
          exact up c o hc'.1 (a5 c o hc'.1 hc'.2 q)
        · have hc' : c ≠ e ∧ c ≠ it := by simpa using hx
          exact up c o hc'.1 (a5 c o hc'.1 hc'.2 q)
        · rw [upd_ne (Nat.ne_of_lt (Heap.lt_size q))]; exact n
        · have hc' : c ≠ e ∧ c ≠ it := by simpa using hx
          exact up c o hc'.1 (a5 c o hc'.1 hc'.2 q)
        · rw [upd_ne (ne_of_none q fresh)]; exact q
        · rw [upd_ne (ne_of_none q fresh)]; exact q
        · rw [upd_ne (ne_of_none q fresh), q]; simp
      have ok2 : HOk X.prog X.w (upd H s.heap.objs.size (.tup [V.int (i : Int), x])) h'' := fun c o q => by
        by_cases hc : c = s.heap.objs.size
        · subst hc
          rw [upd_same] at q; cases q
          exact ⟨by show 2 ≤ sizeLine; decide, [Value.int i s.toks, u], .cons ⟨_, rfl⟩ (.cons ru .nil), ⟨_, newT, rfl, _, rfl⟩⟩
        · rw [upd_ne hc] at q
          exact (I1.hok c o q).stay (fun _ _ _ q => q) (fun d q => by rw [upd_ne (ne_of_none q fresh)]; exact q) fun d zs q => by rw [upd_ne (ne_of_none q fresh)]; exact q
      refine I.call' (s' := { s with heap := h'', toks := s.toks + 1 }) (ch := [e, it]) rfl (un.mono (fun c hc => ?_) fun c hc => hc) ok2 I.bare fun c hc => ?_
      · rcases I.ok.stk with q | ⟨q, hfr⟩
        · rw [q]; exact hc
        · rw [q]
          unfold frs
          rw [List.filterMap_cons, hfr]
          exact List.mem_cons_of_mem _ hc
      · obtain ⟨f0, f1, f2, f3, f4, f5⟩ := hf c hc
        exact ⟨f3, f1, f4, f5⟩
    have b1' : IsEnum h'' e it ((i + 1 : Nat) : Int) u := by
      have : ((i + 1 : Nat) : Int) = (i : Int) + 1 := by push_cast; rfl
      rw [this]; exact b1
    refine ⟨.ref s.heap.objs.size, _, I2, rfl, ⟨_, x, fresh, rfl, rfl, fun xs' h => by rw [I.list_inj h hq]; exact hx⟩, ⟨⟨_, b1'⟩, I1s⟩, fun c hc => ?_⟩
    rw [upd_ne ?_]
    · exact (hf c hc).1
    · have hc' : c = e ∨ c = it := by simpa using hc
      rcases hc' with rfl | rfl
      · exact Nat.ne_of_lt zlt
      · obtain ⟨o, q, _⟩ := h1; exact Nat.ne_of_lt (Heap.lt_size q)
  done := by
    intro X hP hw hK hc i pins s σ H E I hf st hg
    subst hP hw hK
    obtain ⟨xs, hq, hx⟩ := hg
    obtain ⟨its, rv, p, hz1⟩ := I.list hq
    obtain ⟨⟨old, he⟩, h1⟩ := id st
    have l1 := rv.length
    refine wpAny_pyNext_enum_end (I.ok.hd hc) he h1 p.isList (by simp; omega) fun h' hk => ⟨rfl, ?_⟩
    refine I.turnedL (t' := s.toks) (ch := [e, it]) (fun c o hc q => ?_) hf
    have hc' : c ≠ e ∧ c ≠ it := by simpa using hc
    exact hk c o hc'.2 q
  self := fun _ _ _ _ _ st h => by
    obtain ⟨⟨old, he⟩, _⟩ := st
    exact wpAny_pyIter_enum he h
section
variable {X : Cx} {es : List Expr} {kk : Nat} {tp : Pos}
noncomputable def iEnum (K : PySem.W.Frag) (ta : TA) : TI := fun σ H R => ta σ H fun vs H1 => ∃ p, vs = [.ref p] ∧ (∃ xs, SqL K H1 p xs) ∧ R (Ite K p) H1
theorem pi_enum {a : Expr} {ta : TA} {p pos : Pos} (hg : Gl X "enumerate") (hm : X.mg "enumerate" = none) (ha : PA X [a] ta) (hs : starEach [a] X.env = [(false, eval a X.env)] := by rfl) :
    PI X (.Tuple es kk tp) (.Call (.Name "enumerate" p) [a] [] pos) (iEnum X.K ta) := by
  intro pins s σ H R I h
  refine Call_ (ld_blt I hg hm boot_enumerate (PyProof.Rows.callWith_type1 (thn (ha pos pins s σ H _ I h) fun us s1 ⟨vs, H1, I1, r1, q1⟩ => ?_) (by rw [hs]; rfl) (by rfl)))
  obtain ⟨a1, e, ⟨xs, hx⟩, q⟩ := q1
  subst e
  obtain ⟨u1, rfl, r⟩ := vals1 r1
  cases (show u1 = Value.ref a1 from r)
  obtain ⟨its, rv, p1, hz1⟩ := I1.list hx
  refine call_enumerate_list p1.isList fun h' z1 z2 z3 z4 => ?_
  refine wpAny_pyIter_enum z1 ?_
  have I2 : Inv X pins σ H1 { s1 with heap := h' } := I1.kept (t' := s1.toks) z4
  refine ⟨s1.heap.objs.size + 1, [s1.heap.objs.size + 1, s1.heap.objs.size], _, _, H1, rfl, I2, turn_enum a1 _ _, ⟨⟨_, z1⟩, z2⟩, fun c hc => ?_, q⟩
  have hc' : s1.heap.objs.size ≤ c := by
    have : c = s1.heap.objs.size + 1 ∨ c = s1.heap.objs.size := by simpa using hc
    rcases this with e | e
    · rw [e]; exact Nat.le_add_right _ _
    · rw [e]; exact Nat.le_refl _
  exact I1.fpOk hc' (I1.hok.fresh hc')
end
section
variable {K : PySem.W.Frag} {g : TG} {tt : TT} {te : TE} {σ : St} {H : Hp} {Q : VK}
theorem lc_enum {a : Addr} {xs : List V} (Pv : Nat → St → Hp → List V → Prop) (h0 : Pv 0 σ H []) (hl : ∀ i σ H zs, i ≤ xs.length → Pv i σ H zs → SqL K H a xs)
    (hs : ∀ i x T σ H zs, xs[i]? = some x → Pv i σ H zs → H T = none → g (.ref T) σ (upd H T (.tup [V.int (i : Int), x])) fun σ3 H3 => tt σ3 H3 fun c H4 => if c = true then te σ3 H4 fun z H5 => zs.length < sizeLine ∧ Pv (i + 1) σ3 H5 (zs ++ [z]) else Pv (i + 1) σ3 H4 zs)
    (hd : ∀ σ H zs, Pv xs.length σ H zs → zs.length ≤ sizeLine ∧ ∀ p, H p = none → Q (.ref p) (upd H p (.lst zs))) : CompOk (Ite K a) g tt te Q σ H := by
  refine ⟨fun i m σ H zs => m = xs.length - i ∧ i ≤ xs.length ∧ Pv i σ H zs, ⟨xs.length, by simp, Nat.zero_le _, h0⟩, ?_⟩
  rintro i m σ H zs ⟨rfl, hi, p⟩
  have q := hl i σ H zs (by omega) p
  by_cases hlt : i < xs.length
  · refine .inr ⟨⟨xs, xs[i], q, by simp [hlt]⟩, Pv (i + 1), fun σ' H' zs' p' => ⟨xs.length - (i + 1), by omega, rfl, hlt, p'⟩, fun v H' y => ?_⟩
    obtain ⟨T, x, hT, rfl, rfl, e1⟩ := y
    exact hs i x T σ H zs (e1 xs q) p hT
  · have e : i = xs.length := by omega
    refine .inl ⟨⟨xs, q, by omega⟩, hd σ H zs (e ▸ p)⟩
end
theorem gTup3 {K : PySem.W.Frag} {T : Addr} {v1 v2 v3 : V} {i j k : Nat} {σ : St} {H : Hp} {Q : St → Hp → Prop} (h : SqT K H T [v1, v2, v3]) (q : Q (((σ.set i (some v1)).set j (some v2)).set k (some v3)) H) :
    gTup K 3 (gCons (gName i) (gCons (gName j) (gCons (gName k) gNil))) (.ref T) σ H Q := ⟨T, _, rfl, h, rfl, _, _, rfl, _, _, rfl, _, _, rfl, rfl, q⟩
end L2
set_option Elab.async false
set_option linter.all false
set_option maxRecDepth 100000
set_option maxHeartbeats 4000000
namespace L2
open PySem PySem.Spec PyProof.Rows
section
variable {X : Cx} {pins : List (Addr × Obj)} {σ : St} {H : Hp} {s : Shared}
@[reducible] noncomputable def in2 (X : Cx) : Cx := { X with A := X.A.in1.in1, xe := fun _ _ => False }
theorem Inv.to2 (I : Inv X pins σ H s) : Inv (in2 X) pins σ H s :=
  ⟨⟨I.ok.mod, I.ok.kind, I.ok.glob, I.ok.blt, I.ok.above, I.ok.inj, I.ok.has, I.ok.cab, I.ok.hd, I.ok.frames, I.ok.stk, I.ok.exf, I.ok.bs, I.ok.bsz, I.ok.noex, I.ok.exfs, I.ok.funs, I.ok.frf⟩,
    I.os, I.bare, I.base, I.loc, I.cell, I.free, I.freeC, I.pin, I.hok, I.len⟩
theorem Inv.track {D : Addr} {o : HO} (I : Inv X pins σ H s) (hD : FpOk X pins H D) (new : ObjOk X.prog X.w (upd H D o) s.heap D o) : Inv X pins σ (upd H D o) s := by
  obtain ⟨f0, f1, f2, f3, f4, f5⟩ := hD
  have ne : ∀ {b : Addr} {u : HO}, H b = some u → b ≠ D := fun e => ne_of_none e f0
  refine I.step (h' := s.heap) (g' := s.gens) (t' := s.toks) (d' := s.drawn) (ch := [D]) (fun b hb => ?_) (fun b ob _ _ _ e _ => e) (fun b ob _ _ _ e _ => ⟨ob.slots, e⟩) (fun b ob hc e n => ?_) (fun b ob _ e => ⟨ob, e⟩)
    (fun b xs e => by rw [upd_ne (ne e)]; exact e) (fun b ob u e => by rw [upd_ne (ne e)]; exact e) (fun b ps e => ⟨#[], by rw [upd_ne (ne e), e]; simp⟩) (fun m hm => hm) (HOk.track I.hok f0 new) I.bare
  · have e : b = D := by simpa using hb
    subst e; exact ⟨f3, f1, f4, f5⟩
  · rw [upd_ne (by simpa using hc)]; exact n
theorem Inv.recChg {D : Addr} {h' : Heap} {t' : Nat} (I : Inv X pins σ H s) (hs : Heap.SameBut D s.heap h') (hD : FpOk X pins H D) : Inv X pins σ H { s with heap := h', toks := t' } :=
  I.turnedL (ch := [D]) (fun b o hb e => (hs.2 b (by simpa using hb)).trans e) fun b hb => by
    have e : b = D := by simpa using hb
    subst e; exact hD
theorem Inv.addPins {pins' : List (Addr × Obj)} (I : Inv X pins σ H s) (h : ∀ p ∈ pins', s.heap.get? p.1 = some p.2 ∧ FpOk X [] H p.1 ∧ ∀ v, p.2.data ≠ .cell v) : Inv X (pins ++ pins') σ H s :=
  I.pins_of fun p hp => by
    rcases List.mem_append.mp hp with q | q
    · exact I.pin p (List.mem_append_right _ q)
    · obtain ⟨h1, ⟨f0, f1, f2, f3, f4, f5⟩, h3⟩ := h p q
      exact ⟨h1, f0, f1, f2, h3⟩
theorem Inv.dropPins {pins' : List (Addr × Obj)} (I : Inv X (pins ++ pins') σ H s) : Inv X pins σ H s := I.pins_of fun p hp => I.pin p (List.mem_append_right _ (List.mem_append_left _ hp))
theorem Inv.atPin {pins' : List (Addr × Obj)} (I : Inv X (pins ++ pins') σ H s) {p : Addr × Obj} (hp : p ∈ pins') : s.heap.get? p.1 = some p.2 := (I.pin p (List.mem_append_right _ (List.mem_append_right _ hp))).1
end
noncomputable def Zp (p : Int × V) (q : Int × Value) : Prop := p.1 = q.1 ∧ RelV p.2 q.2
theorem perm_paired {l1 l2 : List (Int × Value)} (h : l1.Perm l2) : ∀ {l2' : List (Int × V)}, Paired Zp l2' l2 → ∃ l1', l1'.Perm l2' ∧ Paired Zp l1' l1 := by
  induction h with
  | nil => intro l2' h; exact ⟨l2', List.Perm.refl _, h⟩
  | cons x _ ih =>
    intro l2' h
    cases h with
    | cons r t =>
      obtain ⟨l1', p, q⟩ := ih t
      exact ⟨_ :: l1', p.cons _, .cons r q⟩
  | swap x y l =>
    intro l2' h
    cases h with
    | cons r t =>
      cases t with
      | cons r2 t2 => exact ⟨_ :: _ :: _, List.Perm.swap .., .cons r2 (.cons r t2)⟩
  | trans _ _ ih1 ih2 =>
    intro l2' h
    obtain ⟨l1', p, q⟩ := ih2 h
    obtain ⟨l0', p2, q2⟩ := ih1 q
    exact ⟨l0', p2.trans p, q2⟩
theorem zip_paired : ∀ {kz : List Int} {xs : List V} {vs : List Value}, Vals xs vs → kz.length = xs.length → Paired Zp (kz.zip xs) (kz.zip vs)
  | [], _, _, _, _ => by simpa using Paired.nil
  | k :: kz, _, _, .nil, h => by simp at h
  | k :: kz, _, _, .cons r t, h => .cons ⟨rfl, r⟩ (zip_paired t (by simpa using h))
theorem paired_snd : ∀ {ps : List (Int × V)} {qs : List (Int × Value)}, Paired Zp ps qs → Vals (ps.map Prod.snd) (qs.map Prod.snd) ∧ ps.map Prod.fst = qs.map Prod.fst
  | _, _, .nil => ⟨.nil, rfl⟩
  | _, _, .cons r t => by
    obtain ⟨h1, h2⟩ := paired_snd t
    exact ⟨.cons r.2 h1, by rw [List.map_cons, List.map_cons, r.1, h2]⟩
theorem upd_seq {h : Heap} {a : Addr} {c : String} {xs : Array Value} {n : Nat} (ho : h.get? a = some (seqObj c xs n)) (g : Array Value → Array Value) {ys : Array Value} (e : g xs = ys) :
    ∃ c2, (h.update a (Obj.mapSeq g)).get? a = some (seqObj c ys c2) := by
  subst e; exact ⟨_, get?_update_seq ho g⟩
theorem seqObj_nocell {c : String} {xs : Array Value} {n : Nat} : ∀ v, (seqObj c xs n).data ≠ .cell v := fun v q => by cases (show Data.seq _ _ = Data.cell v from q)
section
variable {X : Cx} {pins : List (Addr × Obj)} {σ : St} {H : Hp} {E : Value → Shared → Prop}
theorem srt_tail {a kS : Addr} {vs : List Value} {kz : List Int} {keys : Array Value} {e e1 : Nat} {b : Bool} {A : Around} {P : PySem.Fin → Shared → Prop} {s : Shared} {st : SortSt}
    (I : Inv X (pins ++ [(kS, seqObj "list" keys e), (a, seqObj "list" #[] e1)]) σ H s) (fa : FpOk X pins H a) (fk : FpOk X pins H kS) (hka : kS ≠ a) (hk : IntsAre keys.toList kz) (hlen : kz.length = vs.length) (h64 : vs.length < 64)
    (hp : (arrOf st).Perm (keys.zip vs.toArray)) (hs : SortedTo (arrOf st) (arrOf st).size) (hfl : failedOf st = none)
    (h : ∀ s' out c, Inv X pins σ H s' → s'.heap.get? a = some (seqObj "list" out c) → KskOut b kz vs out.toList → P (.done (.ret .none)) s') :
    wpAny (model X.prog X.w) A (ksk_tail a b e1 (.ref kS) st) P E s := by
  have nk : s.heap.get? kS = some (seqObj "list" keys e) := I.atPin (p := (kS, seqObj "list" keys e)) (.head _)
  have na : s.heap.get? a = some (seqObj "list" #[] e1) := I.atPin (p := (a, seqObj "list" #[] e1)) (.tail _ (.head _))
  have hsz : keys.size = vs.length := by
    have h1 := hk.length
    rw [Array.length_toList] at h1
    omega
  have hsz2 : (arrOf st).size = vs.length := by rw [hp.size_eq, Array.size_zip, hsz, List.size_toArray, Nat.min_self]
  have hout : (if b then ((arrOf st).map (·.2)).reverse else (arrOf st).map (·.2)).size = vs.length := by
    cases b with
    | false => simp only [Bool.false_eq_true, if_false, Array.size_map]; exact hsz2
    | true => simp only [if_true, Array.size_reverse, Array.size_map]; exact hsz2
  have I0 : Inv X pins σ H s := I.dropPins
  have s1 := Heap.SameBut.update s.heap kS (Obj.mapSeq fun _ => (#[] : Array Value))
  have I1 := I0.recChg (t' := s.toks) s1 fk
  have na1 : (s.heap.update kS (Obj.mapSeq fun _ => (#[] : Array Value))).get? a = some (seqObj "list" #[] e1) := (s1.2 a hka.symm).trans na
  have s2 := Heap.SameBut.update (s.heap.update kS (Obj.mapSeq fun _ => (#[] : Array Value))) a (Obj.mapSeq fun _ => if b then ((arrOf st).map (·.2)).reverse else (arrOf st).map (·.2))
  have I2 := I1.recChg (t' := s.toks) s2 fa
  obtain ⟨c2, hc2⟩ : ∃ c2, ((s.heap.update kS (Obj.mapSeq fun _ => (#[] : Array Value))).update a (Obj.mapSeq fun _ => if b then ((arrOf st).map (·.2)).reverse else (arrOf st).map (·.2))).get? a = some (seqObj "list" (if b then ((arrOf st).map (·.2)).reverse else (arrOf st).map (·.2)) c2) :=
    upd_seq na1 _ rfl
  unfold ksk_tail
  try dsimp only
  refine wpAny_bind (listUpdate_at nk rfl ?_ (by rw [hsz, sizeLine_eq]; omega) (Nat.zero_le _))
  refine wpAny_bind (wpAny_letGo ?_)
  refine wpAny_bind (seqEpoch_at na1 rfl ?_)
  refine wpAny_bind (listUpdate_at na1 rfl ?_ (Nat.zero_le _) (Nat.le_trans (Nat.le_of_eq hout) (by rw [sizeLine_eq]; omega)))
  rw [hfl]
  simp only [bne_self_eq_false, Bool.false_eq_true, if_false]
  exact wpAny_pure (h _ _ c2 I2 hc2 (ksk_out hk hp hs))
theorem srt_end {a kS : Addr} {vs : List Value} {kz : List Int} {keys : Array Value} {e e1 : Nat} {b : Bool} {A : Around} {P : PySem.Fin → Shared → Prop} {s : Shared}
    (I : Inv X (pins ++ [(kS, seqObj "list" keys e), (a, seqObj "list" #[] e1)]) σ H s) (fa : FpOk X pins H a) (fk : FpOk X pins H kS) (hka : kS ≠ a) (hk : IntsAre keys.toList kz) (hlen : kz.length = vs.length) (h64 : vs.length < 64)
    (h : ∀ s' out c, Inv X pins σ H s' → s'.heap.get? a = some (seqObj "list" out c) → KskOut b kz vs out.toList → P (.done (.ret .none)) s') :
    wpAny (model X.prog X.w) A (ksk_end a b vs.toArray e1 (.ref kS) keys) P E s := by
  have hsz : keys.size = vs.length := by
    have h1 := hk.length
    rw [Array.length_toList] at h1
    omega
  have hzs : (keys.zip vs.toArray).size = vs.length := by rw [Array.size_zip, hsz, List.size_toArray, Nat.min_self]
  have step : ∀ t : Sem PySem.Fin, wpAny (model X.prog X.w) A t P E s → wpAny (model X.prog X.w) A (if b = true then (do let _ ← rule "list.sort.reverse"; t) else t) P E s := by
    intro t ht
    split
    · exact wpAny_bind (wpAny_rule ht)
    · exact ht
  have hstart : (if b = true then (keys.zip vs.toArray).reverse else keys.zip vs.toArray).Perm (keys.zip vs.toArray) := by
    cases b with
    | false => exact Array.Perm.refl _
    | true => exact Array.perm_iff_toList_perm.mpr (by rw [if_pos rfl, Array.toList_reverse]; exact List.reverse_perm _)
  unfold ksk_end
  try dsimp only
  refine step _ ?_
  by_cases h2 : vs.toArray.size < 2
  · rw [if_pos h2, if_pos h2]
    refine wpAny_bind (wpAny_pure ?_)
    rw [StateT.run_pure]
    refine wpAny_bind (wpAny_pure ?_)
    try dsimp only
    refine srt_tail (st := SortSt.mk' general' (if b = true then (keys.zip vs.toArray).reverse else keys.zip vs.toArray) #[] 7 none) I fa fk hka hk hlen h64 hstart ?_ rfl h
    intro i j hij hj
    have hj2 : j < (if b = true then (keys.zip vs.toArray).reverse else keys.zip vs.toArray).size := hj
    rw [hstart.size_eq, hzs] at hj2
    rw [List.size_toArray] at h2
    have : i = j := by omega
    subst this
    exact Int.le_refl _
  · rw [if_neg h2, if_neg h2]
    rw [List.size_toArray] at h2
    rw [ksk_kind hk (by rw [hsz]; omega)]
    refine wpAny_bind (wpAny_pure ?_)
    refine wpAny_bind (wpAny_mono (wpS_sortRuns (a₀ := keys.zip vs.toArray) (st := SortSt.mk' oneType' (if b = true then (keys.zip vs.toArray).reverse else keys.zip vs.toArray) #[] 7 none)
      (Q := fun _ st' => (arrOf st').Perm (keys.zip vs.toArray) ∧ failedOf st' = none ∧ SortedTo (arrOf st') (keys.zip vs.toArray).size)
      (ksk_intKeys hk) ⟨hstart, rfl, rfl, rfl⟩ (by rw [hzs]; omega) (by rw [hzs]; exact h64) fun st' a1 a2 a3 => ⟨a1, a2, a3⟩) ?_ fun _ _ e => e)
    rintro ⟨⟨⟩, st'⟩ s' ⟨rfl, hp, hf, hs⟩
    try dsimp only
    exact srt_tail I fa fk hka hk hlen h64 hp (by rw [hp.size_eq]; exact hs) hf h
theorem srt_rest {a kS f : Addr} {vs : List Value} {kz : List Int} {e1 : Nat} {b : Bool} {A : Around} {P : PySem.Fin → Shared → Prop} {s : Shared}
    (I : Inv X (pins ++ [(kS, seqObj "list" #[] 0), (a, seqObj "list" #[] e1)]) σ H s) (fa : FpOk X [] H a) (fk : FpOk X [] H kS) (fa' : FpOk X pins H a) (fk' : FpOk X pins H kS) (hka : kS ≠ a) (hlen : kz.length = vs.length) (h64 : vs.length < 64)
    (turn : ∀ (i : Nat) (v : Value) (k : Int), vs[i]? = some v → kz[i]? = some k → ∀ (pins' : List (Addr × Obj)) (s' : Shared), Inv X pins' σ H s' →
      wpAny (model X.prog X.w) A (call (.ref f) [v]) (fun u s'' => (∃ t, u = .int k t) ∧ Inv X pins' σ H s'') (fun _ _ => False) s')
    (h : ∀ s' out c, Inv X pins σ H s' → s'.heap.get? a = some (seqObj "list" out c) → KskOut b kz vs out.toList → P (.done (.ret .none)) s') :
    wpAny (model X.prog X.w) A (ksk_rest a (.ref f) b vs.toArray e1 (.ref kS)) P E s := by
  unfold ksk_rest
  refine wpAny_bind (wpAny_rule ?_)
  first
    | rw [List.forIn_toArray]
    | (rw [← Array.forIn_toList]; simp only [List.toList_toArray])
    | rw [← Array.forIn_toList]
  refine wpAny_bind (ksk_fold (fun i s' => ∃ kA e, Inv X (pins ++ [(kS, seqObj "list" kA e), (a, seqObj "list" #[] e1)]) σ H s' ∧ IntsAre kA.toList (kz.take i)) vs 0 s
    ⟨#[], 0, I, by simpa using IntsAre.nil⟩ ?step ?done)
  case step =>
    rintro j x s' hx ⟨kA, e, I', hk⟩
    simp only [Nat.zero_add] at hk ⊢
    have hj : j < vs.length := (List.getElem?_eq_some_iff.mp hx).1
    obtain ⟨k, hkj⟩ : ∃ k, kz[j]? = some k := ⟨_, List.getElem?_eq_getElem (by omega)⟩
    have hz : kA.size ≤ vs.length := by
      have h1 := hk.length
      rw [Array.length_toList, List.length_take] at h1
      omega
    refine wpAny_bind (wpAny_attempt (wpAny_mono (turn j x k hx hkj _ s' I') (fun v s'' he => ?_) fun _ _ hF => hF.elim))
    have I2 := he.2
    have ⟨t2, et⟩ := he.1
    rw [et]
    clear he et
    try dsimp only
    have nk : s''.heap.get? kS = some (seqObj "list" kA e) := I2.atPin (p := (kS, seqObj "list" kA e)) (.head _)
    have na : s''.heap.get? a = some (seqObj "list" #[] e1) := I2.atPin (p := (a, seqObj "list" #[] e1)) (.tail _ (.head _))
    have s1 := Heap.SameBut.update s''.heap kS (Obj.mapSeq (·.push (.int k t2)))
    obtain ⟨c2, hc2⟩ : ∃ c2, (s''.heap.update kS (Obj.mapSeq (·.push (.int k t2)))).get? kS = some (seqObj "list" (kA.push (.int k t2)) c2) := upd_seq nk _ rfl
    have ek : kz.take (j + 1) = kz.take j ++ [k] := by rw [List.take_add_one, hkj]; simp
    have ea : (kA.push (Value.int k t2)).toList = kA.toList ++ [Value.int k t2] := by simp
    have I3 := (I2.dropPins).recChg (t' := s''.toks) s1 fk'
    refine wpAny_bind (listUpdate_at nk rfl ?_ (by rw [sizeLine_eq]; omega) (Nat.le_trans (Nat.le_of_eq (Array.size_push ..)) (by rw [sizeLine_eq]; omega)))
    refine wpAny_pure ⟨rfl, kA.push (.int k t2), c2, I3.addPins fun p hp => ?_, by rw [ea, ek]; exact ksk_snoc hk⟩
    rcases List.mem_cons.mp hp with rfl | hp
    · exact ⟨hc2, fk, seqObj_nocell⟩
    · rw [List.mem_singleton.mp hp]
      exact ⟨(s1.2 a hka.symm).trans na, fa, seqObj_nocell⟩
  case done =>
    rintro s' ⟨kA, e, I', hk⟩
    have hk' : IntsAre kA.toList kz := by
      have e3 : kz.take (0 + vs.length) = kz := List.take_of_length_le (by omega)
      rw [e3] at hk
      exact hk
    have nk : s'.heap.get? kS = some (seqObj "list" kA e) := I'.atPin (p := (kS, seqObj "list" kA e)) (.head _)
    try dsimp only
    refine wpAny_bind (listItems_at nk rfl ?_)
    exact srt_end I' fa' fk' hka hk' hlen h64 h
theorem srt_tree {a f : Addr} {vs : List Value} {kz : List Int} {n : Nat} {b : Bool} {A : Around} {P : PySem.Fin → Shared → Prop} {s : Shared} (I : Inv X pins σ H s) (ho : s.heap.get? a = some (seqObj "list" vs.toArray n)) (fa : FpOk X pins H a)
    (hlen : kz.length = vs.length) (h64 : vs.length < 64)
    (turn : ∀ (i : Nat) (v : Value) (k : Int), vs[i]? = some v → kz[i]? = some k → ∀ (pins' : List (Addr × Obj)) (s' : Shared), Inv X pins' σ H s' →
      wpAny (model X.prog X.w) A (call (.ref f) [v]) (fun u s'' => (∃ t, u = .int k t) ∧ Inv X pins' σ H s'') (fun _ _ => False) s')
    (h : ∀ s' out c, Inv X pins σ H s' → s'.heap.get? a = some (seqObj "list" out c) → KskOut b kz vs out.toList → P (.done (.ret .none)) s') :
    wpAny (model X.prog X.w) A (ksk_tree a (.ref f) b) P E s := by
  have ha : a < s.heap.objs.size := Heap.lt_size ho
  have s1 := Heap.SameBut.update s.heap a (Obj.mapSeq fun _ => (#[] : Array Value))
  obtain ⟨e1, ho1⟩ : ∃ e1, (s.heap.update a (Obj.mapSeq fun _ => (#[] : Array Value))).get? a = some (seqObj "list" #[] e1) := upd_seq ho _ rfl
  have I1 := I.recChg (t' := s.toks) s1 fa
  have hkS : ((s.heap.update a (Obj.mapSeq fun _ => (#[] : Array Value))).push (seqObj "tuple" vs.toArray 0)).objs.size = s.heap.objs.size + 1 := by rw [size_push', Heap.size_update]
  have I2 : Inv X pins σ H { s with heap := ((s.heap.update a (Obj.mapSeq fun _ => (#[] : Array Value))).push (seqObj "tuple" vs.toArray 0)).push (seqObj "list" #[] 0) } :=
    I1.kept (t' := s.toks) fun b u q => Heap.get?_push_of_some _ (Heap.get?_push_of_some _ q)
  have big : s.heap.objs.size ≤ ((s.heap.update a (Obj.mapSeq fun _ => (#[] : Array Value))).push (seqObj "tuple" vs.toArray 0)).objs.size := by rw [hkS]; exact Nat.le_succ _
  have fk : FpOk X pins H ((s.heap.update a (Obj.mapSeq fun _ => (#[] : Array Value))).push (seqObj "tuple" vs.toArray 0)).objs.size := I.fpOk big (I.hok.fresh big)
  have nil : ∀ {b : Addr}, FpOk X pins H b → FpOk X [] H b := fun ⟨f0, f1, f2, f3, f4, f5⟩ => ⟨f0, f1, f2, f3, f4, fun p hp => f5 p (List.mem_append_left _ (by simpa using hp))⟩
  unfold ksk_tree
  refine wpAny_bind (listItems_at ho rfl ?_)
  refine wpAny_bind (listUpdate_at ho rfl ?_ (by rw [List.size_toArray, sizeLine_eq]; omega) (Nat.zero_le _))
  refine wpAny_bind (seqEpoch_at ho1 rfl ?_)
  refine wpAny_bind (wpAny_newTuple ?_ (by show vs.length ≤ _; rw [sizeLine_eq]; omega))
  refine wpAny_bind (wpAny_newList ?_ (Nat.zero_le _))
  refine wpAny_holding ?_
  refine srt_rest (s := { s with heap := ((s.heap.update a (Obj.mapSeq fun _ => (#[] : Array Value))).push (seqObj "tuple" vs.toArray 0)).push (seqObj "list" #[] 0) }) (kS := ((s.heap.update a (Obj.mapSeq fun _ => (#[] : Array Value))).push (seqObj "tuple" vs.toArray 0)).objs.size)
    (I2.addPins fun p hp => ?_) (nil fa) (nil fk) fa fk (by rw [hkS]; exact Nat.ne_of_gt (Nat.lt_succ_of_lt ha)) hlen h64 turn h
  rcases List.mem_cons.mp hp with rfl | hp
  · exact ⟨Heap.get?_push_size _ rfl, nil fk, seqObj_nocell⟩
  · rw [List.mem_singleton.mp hp]
    exact ⟨Heap.get?_push_of_some _ (Heap.get?_push_of_some _ ho1), nil fa, seqObj_nocell⟩
theorem srt_call {l f : Addr} {kz : List Int} {xs : List V} {s : Shared} {Q : VK} (I : Inv X pins σ H s) (hl : SqL X.K H l xs) (hlen : kz.length = xs.length) (h64 : xs.length < 64)
    (turn : ∀ (i : Nat) (x : V) (v : Value) (k : Int), xs[i]? = some x → RelV x v → kz[i]? = some k → ∀ (pins' : List (Addr × Obj)) (s' : Shared), Inv (in2 X) pins' σ H s' →
      wpAny (model X.prog X.w) X.A.in1.in1 (call (.ref f) [v]) (fun u s'' => (∃ t, u = .int k t) ∧ Inv (in2 X) pins' σ H s'') (fun _ _ => False) s')
    (h : ∀ ps : List (Int × V), ps.Perm (kz.zip xs) → ps.Pairwise (fun p q => q.1 ≤ p.1) → ∀ r, H r = none → Q (.ref r) (upd H r (.lst (ps.map Prod.snd)))) :
    wpAny (model X.prog X.w) X.A (call (.builtin "sorted") [.ref l] [(Str.ofString "key", .ref f), (Str.ofString "reverse", .bool true)]) (EP X pins σ Q) E s := by
  obtain ⟨vs, rv, pl, hz⟩ := I.list hl
  have lv := rv.length
  refine call_function_entry_kw kind_sorted plain_sorted entry_sorted (ksk_s2 _ _ _) ?_
  unfold Builtin.«sorted»
  refine wpAny_bind (m := checkCount "sorted" 1 1 _) (wpAny_pure ?_)
  refine wpAny_bind (collect_list pl.isList ?_ (by rw [sizeLine_eq]; omega))
  refine wpAny_bind (wpAny_newList ?_ (by rw [sizeLine_eq]; omega))
  have hsz : ((s.heap.push (seqObj "list" #[] 0)).update s.heap.objs.size (Obj.mapSeq (· ++ vs.toArray))).objs.size = s.heap.objs.size + 1 := by
    rw [Heap.size_update, size_push']
  have hoL : (((s.heap.push (seqObj "list" #[] 0)).update s.heap.objs.size (Obj.mapSeq (· ++ vs.toArray))).push (seqObj "list" vs.toArray 0)).get? (s.heap.objs.size + 1) = some (seqObj "list" vs.toArray 0) := by
    rw [← hsz]; exact Heap.get?_push_size _ rfl
  have keep : ∀ b o, s.heap.get? b = some o → (((s.heap.push (seqObj "list" #[] 0)).update s.heap.objs.size (Obj.mapSeq (· ++ vs.toArray))).push (seqObj "list" vs.toArray 0)).get? b = some o := fun b o q => by
    have hlt : b < s.heap.objs.size := Heap.lt_size q
    rw [Heap.get?_push_ne _ _ _ (by rw [hsz]; exact Nat.ne_of_lt (Nat.lt_succ_of_lt hlt)), Heap.get?_update_ne _ _ _ _ (Nat.ne_of_lt hlt), Heap.get?_push_ne _ _ _ (Nat.ne_of_lt hlt)]
    exact q
  have I1 : Inv X pins σ H { s with heap := ((s.heap.push (seqObj "list" #[] 0)).update s.heap.objs.size (Obj.mapSeq (· ++ vs.toArray))).push (seqObj "list" vs.toArray 0) } := I.kept (t' := s.toks) keep
  have fD : FpOk X pins H (s.heap.objs.size + 1) := I.fpOk (Nat.le_succ _) (I.hok.fresh (Nat.le_succ _))
  show wpAny _ _ _ _ _ { s with heap := ((s.heap.push (seqObj "list" #[] 0)).update s.heap.objs.size (Obj.mapSeq (· ++ vs.toArray))).push (seqObj "list" vs.toArray 0) }
  rw [hsz]
  refine wpAny_bind (wpAny_holding (wpAny_call_entry_kw slot_list_sort ⟨_, hoL, rfl⟩ entry_list_sort ?body (ksk_l2 _ _ _)))
  case body =>
    show wpAny (model X.prog X.w) X.A.in1.in1 (Builtin.«list.sort» ⟨[.ref (s.heap.objs.size + 1)], [(Str.ofString "key", .ref f), (Str.ofString "reverse", .bool true)]⟩) _ _ _
    rw [ksk_t2]
    refine srt_tree (X := in2 X) (kz := kz) (vs := vs) I1.to2 hoL fD (by omega) (by omega) (fun i v k hv hk pins' s' I' => ?_) fun s' out c I' hD ko => ⟨_, rfl, ?_⟩
    · have hi : i < xs.length := by rw [lv]; exact (List.getElem?_eq_some_iff.mp hv).1
      obtain ⟨x, hx⟩ : ∃ x, xs[i]? = some x := ⟨_, List.getElem?_eq_getElem hi⟩
      obtain ⟨u, hu, ru⟩ := rv.get hx
      obtain rfl : v = u := Option.some.inj (hv.symm.trans hu)
      exact turn i x v k hx ru hk pins' s' I'
    · refine wpAny_pure ⟨_, rfl, ?_⟩
      obtain ⟨ps, hp, ho, hs⟩ := ko
      obtain ⟨qs, p1, p2⟩ := perm_paired hp (zip_paired rv hlen)
      obtain ⟨r1, r2⟩ := paired_snd p2
      have I2 : Inv X pins σ H s' := ⟨I.ok, I'.os, I'.bare, I'.base, I'.loc, I'.cell, I'.free, I'.freeC, I'.pin, I'.hok, I'.len⟩
      have ql : (qs.map Prod.snd).length ≤ sizeLine := by
        rw [List.length_map, p1.length_eq, List.length_zip, sizeLine_eq]; omega
      refine ⟨.ref (s.heap.objs.size + 1), _, I2.track (o := .lst (qs.map Prod.snd)) fD ⟨ql, ps.map Prod.snd, c, r1, ?_⟩, rfl, h qs p1 ?_ _ fD.1⟩
      · rw [hD, ← ho]
      · have hs' : ps.Pairwise (fun p q => q.1 ≤ p.1) := by simpa using hs
        have h1 : (ps.map Prod.fst).Pairwise (fun a b => b ≤ a) := List.pairwise_map.mpr hs'
        rw [← r2] at h1
        exact List.pairwise_map.mp h1
end
noncomputable def tSort (K : PySem.W.Frag) (sp : Sp) (te : TE) : TE := fun σ H Q => te σ H fun v H1 => ∃ l, [v] = [V.ref l] ∧ ∃ (xs : List V) (kz : List Int), SqL K H1 l xs ∧ kz.length = xs.length ∧ xs.length < 64 ∧
  (∀ (i : Nat) (x : V) (k : Int), xs[i]? = some x → kz[i]? = some k → ∀ Q' : VK, Q' (.int k) H1 → sp [x] H1 Q' E0) ∧
  ∀ ps : List (Int × V), ps.Perm (kz.zip xs) → ps.Pairwise (fun p q => q.1 ≤ p.1) → ∀ r, H1 r = none → Q (.ref r) (upd H1 r (.lst (ps.map Prod.snd)))
section
variable {X : Cx} {x : Str} {k : Nat} {ps : List Str} {sp : Sp} {p pf pc pos kp1 kp2 : Pos} {e : Expr} {te : TE} {j : Nat}
theorem pe_sortKR (c : Cal X.prog X.w X.K X.mg X.base x k ps sp) (hr : Room (k + 2) X.A) (hm : X.mg "sorted" = none) (he : PE X e te) (hg : Gl X "sorted" := by rfl) (hgx : Gl X x := by rfl) (hdb : (x == ("__debug__" : Str)) = false := by decide)
    (hst : starEach [e] X.env = [(false, eval e X.env)] := by rfl) :
    PE X (.Call (.Name "sorted" p) [e] [⟨some (Str.ofString "key"), .Name x pf, kp1⟩, ⟨some (Str.ofString "reverse"), .Constant (.bool true) j pc, kp2⟩] pos) (tSort X.K sp te) := by
  intro pins s σ H Q I h
  obtain ⟨f, fd, F, m, kp, b⟩ := c.ex
  refine wpAny_Call_Name_kw (ld_blt I hg hm boot_sorted (callWith_kw (thn (pa_cons he pa_nil hst pos pins s σ H (fun vs H1 => ∃ l, vs = [.ref l] ∧ ∃ (xs : List V) (kz : List Int), SqL X.K H1 l xs ∧ kz.length = xs.length ∧ xs.length < 64 ∧
    (∀ (i : Nat) (x : V) (k : Int), xs[i]? = some x → kz[i]? = some k → ∀ Q' : VK, Q' (.int k) H1 → sp [x] H1 Q' E0) ∧
    ∀ ps : List (Int × V), ps.Perm (kz.zip xs) → ps.Pairwise (fun p q => q.1 ≤ p.1) → ∀ r, H1 r = none → Q (.ref r) (upd H1 r (.lst (ps.map Prod.snd)))) I ?_) fun us s1 ⟨vs, H1, I1, r1, l, e1, xs, kz, hl, hlen, h64, turn, q⟩ => ?_) (by rw [hst]; rfl) (by rw [hst]; rfl)))
  · exact h
  · subst e1
    obtain ⟨u1, rfl, r⟩ := vals1 r1
    cases (show u1 = Value.ref l from r)
    refine kws_cons (ld_glob I1 hgx m ?_ hdb)
    refine kws_cons (Constant_bool ?_)
    refine kws_nil ?_
    refine srt_call I1 hl hlen h64 (fun i x v k hx rx hk pins' s' I' => ?_) q
    have R := run_fn (X := in2 X) (E := E0) F (hr.in1).in1 b .nil pass0 I' (.cons rx .nil) (turn i x k hx hk (fun v H' => v = .int k ∧ H' = H1) ⟨rfl, rfl⟩)
    refine wpAny_mono R (fun u s'' hq => ?_) fun _ _ hF => hF
    obtain ⟨v', H', I'', rv', rfl, rfl⟩ := hq
    exact ⟨rv', I''⟩
end
end L2
set_option Elab.async false
set_option linter.all false
set_option maxRecDepth 100000
set_option maxHeartbeats 4000000
namespace L2
open PySem PySem.Spec PyProof.Rows
section
variable {X : Cx}
end
end L2
set_option Elab.async false
set_option linter.all false
set_option maxRecDepth 100000
set_option maxHeartbeats 4000000
namespace L2
open PySem PySem.Spec PyProof.Rows
section
variable {X : Cx}
noncomputable def rNeT (K : PySem.W.Frag) : R2 := fun x y H Q => ∃ (a b : Addr), x = .ref a ∧ y = .ref b ∧ ∃ xs ys, SqT K H a xs ∧ SqT K H b ys ∧ (IntsV xs ∧ IntsV ys) ∧ xs.length = ys.length ∧ Q (.bl (!decide (xs = ys))) H
end
end L2
set_option Elab.async false
namespace My
noncomputable def g (a b : Int) : Int := ((Int.gcd a b : Nat) : Int)
theorem g_zero {a : Int} (h : 0 ≤ a) : g a 0 = a := by
  unfold g
  rw [Int.gcd_zero_right]
  omega
theorem g_nonneg (a b : Int) : 0 ≤ g a b := Int.natCast_nonneg _
theorem g_dvd_left (a b : Int) : g a b ∣ a := Int.gcd_dvd_left ..
theorem g_dvd_right (a b : Int) : g a b ∣ b := Int.gcd_dvd_right ..
theorem g_greatest {p a b : Int} (h1 : p ∣ a) (h2 : p ∣ b) : p ∣ g a b := Int.dvd_coe_gcd h1 h2
theorem g_step {a b : Int} (h : 0 < b) : g b (Int.fmod a b) = g a b := by
  have e : Int.fmod a b = a % b := Int.fmod_eq_emod_of_nonneg a (Int.le_of_lt h)
  rw [e]
  have d : a = b * (a / b) + a % b := (Int.mul_ediv_add_emod a b).symm
  refine Int.dvd_antisymm (g_nonneg _ _) (g_nonneg _ _) (g_greatest ?_ (g_dvd_left _ _)) (g_greatest (g_dvd_right _ _) ?_)
  · have h1 := g_dvd_left b (a % b)
    have h2 := g_dvd_right b (a % b)
    have h3 := Int.dvd_add (Int.dvd_mul_of_dvd_left h1 (c := a / b)) h2
    rw [← d] at h3
    exact h3
  · have h1 := g_dvd_left a b
    have h2 := g_dvd_right a b
    have h3 := Int.dvd_sub h1 (Int.dvd_mul_of_dvd_left h2 (c := a / b))
    have d2 : a - b * (a / b) = a % b := by omega
    rw [d2] at h3
    exact h3
theorem g_less {a b : Int} (h : 0 < b) : 0 ≤ Int.fmod a b ∧ (Int.fmod a b).toNat < b.toNat := by
  have e : Int.fmod a b = a % b := Int.fmod_eq_emod_of_nonneg a (Int.le_of_lt h)
  have h1 := Int.emod_nonneg a (show b ≠ 0 by omega)
  have h2 := Int.emod_lt_of_pos a h
  omega
/- the divisor of a row -/
noncomputable def ab (x : Int) : Int := if x < 0 then -x else x
theorem ab_nonneg (x : Int) : 0 ≤ ab x := by unfold ab; split <;> omega
theorem dvd_ab {p x : Int} : p ∣ ab x ↔ p ∣ x := by
  unfold ab; split
  · exact Int.dvd_neg
  · exact Iff.rfl
noncomputable def ga (xs : List Int) : Int := xs.foldl (fun c x => g c (ab x)) 0
theorem ga_nil : ga [] = 0 := rfl
theorem ga_snoc (xs : List Int) (x : Int) : ga (xs ++ [x]) = g (ga xs) (ab x) := by
  unfold ga; rw [List.foldl_append]; rfl
theorem fold_nonneg : ∀ (xs : List Int) (c : Int), 0 ≤ c → 0 ≤ xs.foldl (fun c x => g c (ab x)) c
  | [], _, h => h
  | _ :: r, _, _ => fold_nonneg r _ (g_nonneg _ _)
theorem ga_nonneg (xs : List Int) : 0 ≤ ga xs := fold_nonneg xs 0 (Int.le_refl 0)
theorem fold_dvd : ∀ (xs : List Int) (c : Int), (xs.foldl (fun c x => g c (ab x)) c ∣ c) ∧ ∀ x ∈ xs, xs.foldl (fun c x => g c (ab x)) c ∣ x
  | [], c => ⟨Int.dvd_refl c, fun _ h => nomatch h⟩
  | y :: r, c => by
    have ih := fold_dvd r (g c (ab y))
    refine ⟨Int.dvd_trans ih.1 (g_dvd_left _ _), fun x hx => ?_⟩
    rcases List.mem_cons.mp hx with e | hx
    · rw [e]; exact Int.dvd_trans ih.1 (dvd_ab.mp (Int.dvd_trans (g_dvd_right _ _) (Int.dvd_refl _)))
    · exact ih.2 x hx
theorem ga_dvd {xs : List Int} {x : Int} (h : x ∈ xs) : ga xs ∣ x := (fold_dvd xs 0).2 x h
theorem fold_greatest {p : Int} : ∀ (xs : List Int) (c : Int), p ∣ c → (∀ x ∈ xs, p ∣ x) → p ∣ xs.foldl (fun c x => g c (ab x)) c
  | [], _, h, _ => h
  | y :: r, c, h, hx => fold_greatest r _ (g_greatest h (dvd_ab.mpr (hx y (.head _)))) fun x h' => hx x (.tail _ h')
theorem ga_greatest {p : Int} {xs : List Int} (h : ∀ x ∈ xs, p ∣ x) : p ∣ ga xs := fold_greatest xs 0 (Int.dvd_zero p) h
theorem ga_zero {xs : List Int} (h : ∀ x ∈ xs, x = 0) : ga xs = 0 := by
  have : (0 : Int) ∣ ga xs := ga_greatest fun x hx => by rw [h x hx]; exact Int.dvd_refl 0
  exact Int.zero_dvd.mp this
theorem ga_pos {xs : List Int} {x : Int} (hx : x ∈ xs) (h : x ≠ 0) : 0 < ga xs := by
  have h1 := ga_nonneg xs
  rcases Int.lt_or_eq_of_le h1 with h2 | h2
  · exact h2
  · have h3 := ga_dvd hx
    rw [← h2] at h3
    exact absurd (Int.zero_dvd.mp h3) h
end My
set_option Elab.async false
namespace My
structure IsFr (n d t b : Int) : Prop where
  pos : 1 ≤ d
  val : n * b = t * d
  low : ga [n, d] = 1
  n_le : n.natAbs ≤ t.natAbs
  d_le : d.natAbs ≤ b.natAbs
theorem nat_le_mul {a b : Nat} (h : a ≠ 0) : b ≤ a * b := by
  have : 1 * b ≤ a * b := Nat.mul_le_mul_right b (by omega)
  omega
theorem isFr_of {t b c G n d : Int} (hG : G = ga [t, b]) (hc : c = G ∨ c = -G) (hb : b ≠ 0) (hs : 0 < b ↔ 0 < c) (e1 : t = c * n) (e2 : b = c * d) : IsFr n d t b := by
  have gp : 0 < G := hG ▸ ga_pos (x := b) (by simp) hb
  have c0 : c ≠ 0 := by omega
  have dpos : 1 ≤ d := by
    have hd0 : d ≠ 0 := fun e => hb (by rw [e2, e, Int.mul_zero])
    by_cases h : 0 < c
    · have : 0 < c * d := e2 ▸ hs.mpr h
      have := Int.pos_of_mul_pos_right this h
      omega
    · have hb' : b < 0 := by
        rcases Int.lt_trichotomy b 0 with q | q | q
        · exact q
        · exact absurd q hb
        · exact absurd (hs.mp q) h
      by_cases h1 : 1 ≤ d
      · exact h1
      · have hc' : c ≤ 0 := by omega
        have hd' : d ≤ 0 := by omega
        have := Int.mul_nonneg_of_nonpos_of_nonpos hc' hd'
        omega
  refine ⟨dpos, ?_, ?_, ?_, ?_⟩
  · rw [e1, e2]; grind
  · have h0 := ga_nonneg [n, d]
    have hn : ga [n, d] ∣ n := ga_dvd (by simp)
    have hd : ga [n, d] ∣ d := ga_dvd (by simp)
    have h1 : G * ga [n, d] ∣ ga [t, b] := by
      refine ga_greatest fun x hx => ?_
      have hx' : x = t ∨ x = b := by simpa using hx
      have key : ∀ {m : Int}, ga [n, d] ∣ m → G * ga [n, d] ∣ c * m := fun {m} hm => by
        rcases hc with e | e
        · rw [e]; exact Int.mul_dvd_mul (Int.dvd_refl G) hm
        · rw [e, Int.neg_mul]; exact Int.dvd_neg.mpr (Int.mul_dvd_mul (Int.dvd_refl G) hm)
      rcases hx' with e | e
      · rw [e, e1]; exact key hn
      · rw [e, e2]; exact key hd
    rw [← hG] at h1
    have h2 : ga [n, d] ∣ 1 := by
      have : G * ga [n, d] ∣ G * 1 := by rw [Int.mul_one]; exact h1
      exact Int.dvd_of_mul_dvd_mul_left (by omega) this
    have := Int.le_of_dvd (by decide) h2
    have h3 : 0 < ga [n, d] := ga_pos (x := d) (by simp) (by omega)
    omega
  · rw [e1, Int.natAbs_mul]; exact nat_le_mul (by omega)
  · rw [e2, Int.natAbs_mul]; exact nat_le_mul (by omega)
theorem isFr_run {t b c : Int} (hb : b ≠ 0) (hc : c = if b < 0 then -(ga [t, b]) else ga [t, b]) : c ≠ 0 ∧ c.natAbs ≤ b.natAbs ∧ IsFr (t.fdiv c) (b.fdiv c) t b := by
  have gp : 0 < ga [t, b] := ga_pos (x := b) (by simp) hb
  have c0 : c ≠ 0 := by rw [hc]; split <;> omega
  have hc' : c = ga [t, b] ∨ c = -ga [t, b] := by rw [hc]; split <;> simp
  have dv : ∀ {x : Int}, ga [t, b] ∣ x → c ∣ x := fun {x} h => by
    rcases hc' with e | e
    · rw [e]; exact h
    · rw [e]; exact Int.neg_dvd.mpr h
  have e1 : t = c * t.fdiv c := (Int.mul_fdiv_cancel_of_dvd (dv (ga_dvd (by simp)))).symm
  have e2 : b = c * b.fdiv c := (Int.mul_fdiv_cancel_of_dvd (dv (ga_dvd (by simp)))).symm
  refine ⟨c0, ?_, isFr_of rfl hc' hb ?_ e1 e2⟩
  · have : c.natAbs ∣ b.natAbs := Int.natAbs_dvd_natAbs.mpr (dv (ga_dvd (by simp)))
    exact Nat.le_of_dvd (by omega) this
  · rw [hc]; split <;> omega
theorem mul_b {a b : Int} {m n : Nat} (ha : a.natAbs < 2 ^ m) (hb : b.natAbs < 2 ^ n) : (a * b).natAbs < 2 ^ (m + n) := by
  rw [Int.natAbs_mul, Nat.pow_add]
  exact Nat.mul_lt_mul'' ha hb
theorem add_b {a b : Int} {m : Nat} (ha : a.natAbs < 2 ^ m) (hb : b.natAbs < 2 ^ m) : (a + b).natAbs < 2 ^ (m + 1) := by
  rw [Nat.pow_succ]; omega
theorem up_b {a : Int} {m n : Nat} (ha : a.natAbs < 2 ^ m) (h : m ≤ n) : a.natAbs < 2 ^ n := Nat.lt_of_lt_of_le ha (Nat.pow_le_pow_right (by decide) h)
end My
set_option Elab.async false
set_option linter.all false
namespace My
noncomputable def sumTo (n : Nat) (f : Nat → Int) : Int := match n with
  | 0 => 0
  | n + 1 => sumTo n f + f n
theorem sumTo_congr {f g : Nat → Int} : ∀ {n : Nat}, (∀ k, k < n → f k = g k) → sumTo n f = sumTo n g
  | 0, _ => rfl
  | n + 1, h => by
    show sumTo n f + f n = sumTo n g + g n
    rw [sumTo_congr fun k hk => h k (by omega), h n (by omega)]
theorem sumTo_zero {f : Nat → Int} : ∀ {n : Nat}, (∀ k, k < n → f k = 0) → sumTo n f = 0
  | 0, _ => rfl
  | n + 1, h => by
    show sumTo n f + f n = 0
    rw [sumTo_zero fun k hk => h k (by omega), h n (by omega)]; rfl
theorem sumTo_lin (a : Int) (f g : Nat → Int) : ∀ n, sumTo n (fun k => a * f k + g k) = a * sumTo n f + sumTo n g
  | 0 => by simp [sumTo]
  | n + 1 => by
    show sumTo n (fun k => a * f k + g k) + (a * f n + g n) = a * (sumTo n f + f n) + (sumTo n g + g n)
    rw [sumTo_lin a f g n, Int.mul_add]; omega
theorem sumTo_one {f : Nat → Int} {i : Nat} : ∀ {n : Nat}, i < n → (∀ k, k < n → k ≠ i → f k = 0) → sumTo n f = f i
  | 0, h, _ => absurd h (by omega)
  | n + 1, h, hz => by
    show sumTo n f + f n = f i
    by_cases e : i = n
    · subst e
      rw [sumTo_zero fun k hk => hz k (by omega) (by omega)]; omega
    · rw [sumTo_one (n := n) (by omega) fun k hk => hz k (by omega), hz n (by omega) (by omega)]; omega
noncomputable abbrev Vec := Nat → Int
structure IsLin (f : Vec → Int) : Prop where
  zero : f (fun _ => 0) = 0
  add : ∀ (a : Int) (u v : Vec), f (fun k => a * u k + v k) = a * f u + f v
inductive Span (U : List Vec) : Vec → Prop
  | zero : Span U (fun _ => 0)
  | add {u v : Vec} (a : Int) : u ∈ U → Span U v → Span U (fun k => a * u k + v k)
theorem Span.mem {U : List Vec} {u : Vec} (h : u ∈ U) : Span U u := by
  have := Span.add 1 h Span.zero
  simpa using this
noncomputable def comb : List Int → List Vec → Vec
  | l :: ls, r :: rs => fun k => l * r k + comb ls rs k
  | _, _ => fun _ => 0
noncomputable def Indep (U : List Vec) : Prop := ∀ ls : List Int, ls.length = U.length → (∀ k, comb ls U k = 0) → ∀ l ∈ ls, l = 0
theorem comb_nil_r (ls : List Int) : comb ls [] = fun _ => 0 := by cases ls <;> rfl
theorem comb_append : ∀ (la : List Int) (A : List Vec) (lb : List Int) (B : List Vec), la.length = A.length → ∀ k, comb (la ++ lb) (A ++ B) k = comb la A k + comb lb B k
  | [], [], lb, B, _, k => by simp [comb]
  | l :: la, a :: A, lb, B, h, k => by
    have ih := comb_append la A lb B (by simpa using h) k
    show l * a k + comb (la ++ lb) (A ++ B) k = l * a k + comb la A k + comb lb B k
    rw [ih]; omega
  | [], _ :: _, _, _, h, _ => by simp at h
  | _ :: _, [], _, _, h, _ => by simp at h
theorem comb_scale (c : Int) : ∀ (ls : List Int) (U : List Vec) (k : Nat), comb (ls.map (c * ·)) U k = c * comb ls U k
  | [], U, k => by cases U <;> simp [comb]
  | l :: ls, [], k => by simp [comb]
  | l :: ls, u :: U, k => by
    have ih := comb_scale c ls U k
    show c * l * u k + comb (ls.map (c * ·)) U k = c * (l * u k + comb ls U k)
    rw [ih, Int.mul_add, Int.mul_assoc]
noncomputable def wsum (f : Vec → Int) : List Int → List Vec → Int
  | l :: ls, u :: U => l * f u + wsum f ls U
  | _, _ => 0
theorem comb_step (f : Vec → Int) (q : Int) (p : Vec) : ∀ (ls : List Int) (U : List Vec) (k : Nat), comb ls (U.map fun u k => q * u k - f u * p k) k = q * comb ls U k - wsum f ls U * p k
  | [], U, k => by cases U <;> simp [comb, wsum]
  | l :: ls, [], k => by simp [comb, wsum]
  | l :: ls, u :: U, k => by
    have ih := comb_step f q p ls U k
    show l * (q * u k - f u * p k) + comb ls (U.map fun u k => q * u k - f u * p k) k = q * (l * u k + comb ls U k) - (l * f u + wsum f ls U) * p k
    rw [ih]; grind
noncomputable def stepU (f : Vec → Int) (U : List Vec) : List Vec := match U.find? (fun u => decide (f u ≠ 0)) with
  | none => U
  | some p => (U.eraseP (fun u => decide (f u ≠ 0))).map fun u k => f p * u k - f u * p k
theorem step_cases (f : Vec → Int) (U : List Vec) : ((∀ u ∈ U, f u = 0) ∧ stepU f U = U) ∨ ∃ A p B, U = A ++ p :: B ∧ f p ≠ 0 ∧ stepU f U = (A ++ B).map fun u k => f p * u k - f u * p k := by
  unfold stepU
  cases h : U.find? (fun u => decide (f u ≠ 0)) with
  | none =>
    left
    refine ⟨fun u hu => ?_, rfl⟩
    have := List.find?_eq_none.mp h u hu
    simpa using this
  | some p =>
    right
    obtain ⟨hp, A, B, e, hA⟩ := List.find?_eq_some_iff_append.mp h
    refine ⟨A, p, B, e, by simpa using hp, ?_⟩
    have : U.eraseP (fun u => decide (f u ≠ 0)) = A ++ B := by
      rw [e, List.eraseP_append_right _ (fun b hb => by simpa using hA b hb), List.eraseP_cons_of_pos (p := fun u => decide (f u ≠ 0)) hp]
    rw [this]
theorem step_zero {f : Vec → Int} (hf : IsLin f) {U : List Vec} : ∀ u ∈ stepU f U, f u = 0 := by
  intro u hu
  rcases step_cases f U with ⟨h, e⟩ | ⟨A, p, B, e, hp, e2⟩
  · exact h u (e ▸ hu)
  · rw [e2] at hu
    obtain ⟨v, _, rfl⟩ := List.mem_map.mp hu
    have h1 := hf.add (-(f v)) p (fun k => f p * v k)
    have h2 : f (fun k => f p * v k) = f p * f v := by
      have := hf.add (f p) v (fun _ => 0)
      simpa [hf.zero] using this
    have e3 : (fun k => f p * v k - f v * p k) = fun k => -(f v) * p k + (fun k => f p * v k) k := by
      funext k; grind
    rw [e3, h1, h2]; grind
theorem step_keep {f g : Vec → Int} (hg : IsLin g) {U : List Vec} (h : ∀ u ∈ U, g u = 0) : ∀ u ∈ stepU f U, g u = 0 := by
  intro u hu
  rcases step_cases f U with ⟨_, e⟩ | ⟨A, p, B, e, hp, e2⟩
  · exact h u (e ▸ hu)
  · rw [e2] at hu
    obtain ⟨v, hv, rfl⟩ := List.mem_map.mp hu
    have hv0 : g v = 0 := h v (by rw [e]; rcases List.mem_append.mp hv with hv | hv; exact List.mem_append_left _ hv; exact List.mem_append_right _ (.tail _ hv))
    have hp0 : g p = 0 := h p (by rw [e]; exact List.mem_append_right _ (.head _))
    have h1 := hg.add (-(f v)) p (fun k => f p * v k)
    have h2 : g (fun k => f p * v k) = f p * g v := by
      have := hg.add (f p) v (fun _ => 0)
      simpa [hg.zero] using this
    have e3 : (fun k => f p * v k - f v * p k) = fun k => -(f v) * p k + (fun k => f p * v k) k := by
      funext k; grind
    rw [e3, h1, h2, hv0, hp0]; simp
theorem step_span {f : Vec → Int} (hf : IsLin f) {U : List Vec} {v : Vec} (h : Span U v) (h0 : f v = 0) : ∃ a : Int, a ≠ 0 ∧ Span (stepU f U) (fun k => a * v k) := by
  rcases step_cases f U with ⟨_, e⟩ | ⟨A, p, B, e, hp, e2⟩
  · exact ⟨1, by decide, by rw [e]; simpa using h⟩
  · refine ⟨f p, hp, ?_⟩
    have key : ∀ {v : Vec}, Span U v → Span (stepU f U) (fun k => f p * v k - f v * p k) := by
      intro v h
      induction h with
      | zero =>
        rw [hf.zero]
        simpa using Span.zero
      | @add u v a hu _ ih =>
        rw [hf.add]
        have goal : Span (stepU f U) (fun k => a * (f p * u k - f u * p k) + (f p * v k - f v * p k)) := by
          by_cases hup : u ∈ A ++ B
          · exact Span.add a (by rw [e2]; exact List.mem_map.mpr ⟨u, hup, rfl⟩) ih
          · have : u = p := by
              rw [e] at hu
              rcases List.mem_append.mp hu with q | q
              · exact absurd (List.mem_append_left _ q) hup
              · rcases List.mem_cons.mp q with q | q
                · exact q
                · exact absurd (List.mem_append_right _ q) hup
            rw [this]
            have e4 : (fun k => a * (f p * p k - f p * p k) + (f p * v k - f v * p k)) = fun k => f p * v k - f v * p k := by funext k; grind
            rw [e4]; exact ih
        have e5 : (fun k => f p * (a * u k + v k) - (a * f u + f v) * p k) = fun k => a * (f p * u k - f u * p k) + (f p * v k - f v * p k) := by funext k; grind
        rw [e5]; exact goal
    have := key h
    rw [h0] at this
    simpa using this
theorem step_indep {f : Vec → Int} {U : List Vec} (h : Indep U) : Indep (stepU f U) := by
  rcases step_cases f U with ⟨_, e⟩ | ⟨A, p, B, e, hp, e2⟩
  · rw [e]; exact h
  · rw [e2]
    intro ls hl hz
    rw [List.length_map, List.length_append] at hl
    obtain ⟨la, lb, rfl, hla⟩ : ∃ la lb, ls = la ++ lb ∧ la.length = A.length := ⟨ls.take A.length, ls.drop A.length, (List.take_append_drop _ _).symm, by rw [List.length_take]; omega⟩
    have hlb : lb.length = B.length := by rw [List.length_append] at hl; omega
    have big := h (la.map (f p * ·) ++ (-(wsum f (la ++ lb) (A ++ B))) :: lb.map (f p * ·)) (by rw [e]; simp [hla, hlb]) (fun k => by
      rw [e, comb_append _ _ _ _ (by simpa using hla)]
      show comb (la.map (f p * ·)) A k + (-(wsum f (la ++ lb) (A ++ B)) * p k + comb (lb.map (f p * ·)) B k) = 0
      rw [comb_scale, comb_scale]
      have hk := hz k
      rw [comb_step, comb_append _ _ _ _ hla] at hk
      grind)
    intro l hl'
    have hm : f p * l ∈ la.map (f p * ·) ++ (-(wsum f (la ++ lb) (A ++ B))) :: lb.map (f p * ·) := by
      rcases List.mem_append.mp hl' with q | q
      · exact List.mem_append_left _ (List.mem_map.mpr ⟨l, q, rfl⟩)
      · exact List.mem_append_right _ (.tail _ (List.mem_map.mpr ⟨l, q, rfl⟩))
    rcases Int.mul_eq_zero.mp (big _ hm) with q | q
    · exact absurd q hp
    · exact q
theorem step_len (f : Vec → Int) (U : List Vec) : (stepU f U).length ≤ U.length ∧ U.length ≤ (stepU f U).length + 1 := by
  rcases step_cases f U with ⟨_, e⟩ | ⟨A, p, B, e, hp, e2⟩
  · rw [e]; omega
  · rw [e2, e, List.length_map, List.length_append, List.length_append, List.length_cons]; omega
noncomputable def elim : List (Vec → Int) → List Vec → List Vec
  | [], U => U
  | f :: fs, U => elim fs (stepU f U)
theorem elim_keep {g : Vec → Int} (hg : IsLin g) : ∀ {fs : List (Vec → Int)} {U : List Vec}, (∀ u ∈ U, g u = 0) → ∀ u ∈ elim fs U, g u = 0
  | [], _, h => h
  | f :: fs, U, h => elim_keep (fs := fs) (U := stepU f U) hg (step_keep hg h)
theorem elim_zero : ∀ {fs : List (Vec → Int)} {U : List Vec}, (∀ f ∈ fs, IsLin f) → ∀ f ∈ fs, ∀ u ∈ elim fs U, f u = 0
  | f :: fs, U, hl, g, hg, u, hu => by
    rcases List.mem_cons.mp hg with rfl | hg
    · exact elim_keep (hl _ (.head _)) (step_zero (hl _ (.head _))) u hu
    · exact elim_zero (fun f hf => hl f (.tail _ hf)) g hg u hu
theorem elim_span : ∀ {fs : List (Vec → Int)} {U : List Vec} {v : Vec}, (∀ f ∈ fs, IsLin f) → Span U v → (∀ f ∈ fs, f v = 0) → ∃ a : Int, a ≠ 0 ∧ Span (elim fs U) (fun k => a * v k)
  | [], U, v, _, h, _ => ⟨1, by decide, by simpa [elim] using h⟩
  | f :: fs, U, v, hl, h, h0 => by
    obtain ⟨a, ha, hs⟩ := step_span (hl f (.head _)) h (h0 f (.head _))
    obtain ⟨b, hb, hs2⟩ := elim_span (fs := fs) (fun g hg => hl g (.tail _ hg)) hs (fun g hg => by
      have := (hl g (.tail _ hg)).add a v (fun _ => 0)
      rw [(hl g (.tail _ hg)).zero, h0 g (.tail _ hg)] at this
      simpa using this)
    refine ⟨b * a, Int.mul_ne_zero hb ha, ?_⟩
    show Span (elim fs (stepU f U)) _
    simpa [Int.mul_assoc] using hs2
theorem elim_indep : ∀ {fs : List (Vec → Int)} {U : List Vec}, Indep U → Indep (elim fs U)
  | [], _, h => h
  | f :: fs, U, h => elim_indep (fs := fs) (U := stepU f U) (step_indep h)
theorem elim_len : ∀ (fs : List (Vec → Int)) (U : List Vec), (elim fs U).length ≤ U.length ∧ U.length ≤ (elim fs U).length + fs.length
  | [], U => by simp [elim]
  | f :: fs, U => by
    have h1 := step_len f U
    have h2 := elim_len fs (stepU f U)
    show (elim fs (stepU f U)).length ≤ U.length ∧ U.length ≤ (elim fs (stepU f U)).length + (f :: fs).length
    rw [List.length_cons]; omega
noncomputable def unit (i : Nat) : Vec := fun k => if k = i then 1 else 0
noncomputable def units (n : Nat) : List Vec := (List.range n).map unit
theorem units_span {n : Nat} {c : Vec} (h : ∀ k, n ≤ k → c k = 0) : Span (units n) c := by
  have key : ∀ m, m ≤ n → Span (units n) (fun k => if k < m then c k else 0) := by
    intro m
    induction m with
    | zero => intro _; simpa using Span.zero
    | succ m ih =>
      intro hm
      have := Span.add (c m) (show unit m ∈ units n from List.mem_map.mpr ⟨m, List.mem_range.mpr (by omega), rfl⟩) (ih (by omega))
      have e : (fun k => c m * unit m k + if k < m then c k else 0) = fun k => if k < m + 1 then c k else 0 := by
        funext k
        unfold unit
        by_cases h1 : k = m
        · subst h1; simp
        · by_cases h2 : k < m
          · simp [h1, h2, show k < m + 1 by omega]
          · simp [h1, h2, show ¬ k < m + 1 by omega]
      rw [e] at this; exact this
  have := key n (Nat.le_refl n)
  have e : (fun k => if k < n then c k else 0) = c := by
    funext k
    by_cases hk : k < n
    · simp [hk]
    · simp [hk, h k (by omega)]
  rw [e] at this; exact this
theorem comb_units : ∀ (ls : List Int) (a : Nat) (k : Nat), comb ls ((List.range' a ls.length).map unit) k = if a ≤ k then ls.getD (k - a) 0 else 0
  | [], a, k => by simp [comb]
  | l :: ls, a, k => by
    have ih := comb_units ls (a + 1) k
    rw [List.length_cons, List.range'_succ, List.map_cons]
    show l * unit a k + comb ls ((List.range' (a + 1) ls.length).map unit) k = _
    rw [ih]
    unfold unit
    by_cases h1 : k = a
    · subst h1; simp [show ¬ k + 1 ≤ k by omega]
    · by_cases h2 : a ≤ k
      · have : k - a = (k - (a + 1)) + 1 := by omega
        simp [h1, h2, show a + 1 ≤ k by omega, this]
      · simp [h1, h2, show ¬ a + 1 ≤ k by omega]
theorem units_indep (n : Nat) : Indep (units n) := by
  intro ls hl hz l hm
  have hl' : ls.length = n := by simpa [units] using hl
  obtain ⟨i, hi, rfl⟩ := List.getElem_of_mem hm
  have := hz i
  unfold units at this
  rw [List.range_eq_range', ← hl', comb_units] at this
  simpa [List.getD_eq_getElem?_getD, hi] using this
structure Ker (fs : List (Vec → Int)) (n : Nat) (c : Vec) : Prop where
  sup : ∀ k, n ≤ k → c k = 0
  ev : ∀ f ∈ fs, f c = 0
noncomputable def Ker1 (fs : List (Vec → Int)) (n : Nat) : Prop := ∃ v, Ker fs n v ∧ (∃ k, v k ≠ 0) ∧ ∀ u, Ker fs n u → ∃ a b : Int, a ≠ 0 ∧ ∀ k, a * u k = b * v k
theorem step_sup {f : Vec → Int} {U : List Vec} {n : Nat} (h : ∀ u ∈ U, ∀ k, n ≤ k → u k = 0) : ∀ u ∈ stepU f U, ∀ k, n ≤ k → u k = 0 := by
  intro u hu k hk
  rcases step_cases f U with ⟨_, e⟩ | ⟨A, p, B, e, hp, e2⟩
  · exact h u (e ▸ hu) k hk
  · rw [e2] at hu
    obtain ⟨v, hv, rfl⟩ := List.mem_map.mp hu
    have hv0 := h v (by rw [e]; rcases List.mem_append.mp hv with hv | hv; exact List.mem_append_left _ hv; exact List.mem_append_right _ (.tail _ hv)) k hk
    have hp0 := h p (by rw [e]; exact List.mem_append_right _ (.head _)) k hk
    show f p * v k - f v * p k = 0
    rw [hv0, hp0]; simp
theorem elim_sup {n : Nat} : ∀ {fs : List (Vec → Int)} {U : List Vec}, (∀ u ∈ U, ∀ k, n ≤ k → u k = 0) → ∀ u ∈ elim fs U, ∀ k, n ≤ k → u k = 0
  | [], _, h => h
  | f :: fs, U, h => elim_sup (fs := fs) (U := stepU f U) (step_sup h)
theorem units_sup (n : Nat) : ∀ u ∈ units n, ∀ k, n ≤ k → u k = 0 := by
  intro u hu k hk
  obtain ⟨i, hi, rfl⟩ := List.mem_map.mp hu
  have := List.mem_range.mp hi
  unfold unit
  rw [if_neg (by omega)]
theorem left_ker {fs : List (Vec → Int)} {n : Nat} (hl : ∀ f ∈ fs, IsLin f) : ∀ u ∈ elim fs (units n), Ker fs n u := fun u hu =>
  ⟨elim_sup (units_sup n) u hu, fun f hf => elim_zero hl f hf u hu⟩
theorem ker_left {fs : List (Vec → Int)} {n : Nat} (hl : ∀ f ∈ fs, IsLin f) {c : Vec} (h : Ker fs n c) : ∃ a : Int, a ≠ 0 ∧ Span (elim fs (units n)) (fun k => a * c k) := elim_span hl (units_span h.sup) h.ev
theorem span_one {u v : Vec} (h : Span [u] v) : ∃ b : Int, ∀ k, v k = b * u k := by
  induction h with
  | zero => exact ⟨0, by simp⟩
  | @add w v a hw _ ih =>
    obtain ⟨b, hb⟩ := ih
    obtain rfl := List.mem_singleton.mp hw
    exact ⟨a + b, fun k => by show a * w k + v k = _; rw [hb k, Int.add_mul]⟩
theorem span_none {v : Vec} (h : Span [] v) : ∀ k, v k = 0 := by
  cases h with
  | zero => intro k; rfl
  | add a hw _ => cases hw
theorem indep_ne {u : Vec} {U : List Vec} (h : Indep (u :: U)) : ∃ k, u k ≠ 0 := by
  refine Classical.byContradiction fun hn => ?_
  have hz : ∀ k, u k = 0 := fun k => Classical.byContradiction fun q => hn ⟨k, q⟩
  have := h (1 :: List.replicate U.length 0) (by simp) (fun k => by
    show 1 * u k + comb (List.replicate U.length 0) U k = 0
    have e : List.replicate U.length (0 : Int) = (List.replicate U.length 0).map (0 * ·) := by simp
    rw [hz k, e, comb_scale]; simp) 1 (.head _)
  exact absurd this (by decide)
theorem one_iff {fs : List (Vec → Int)} {n : Nat} (hl : ∀ f ∈ fs, IsLin f) : (elim fs (units n)).length = 1 ↔ Ker1 fs n := by
  have ind := elim_indep (fs := fs) (units_indep n)
  constructor
  · intro h
    cases e : elim fs (units n) with
    | nil => rw [e] at h; simp at h
    | cons v r =>
      have hr : r = [] := by rw [e] at h; simpa using h
      subst hr
      have hv : v ∈ elim fs (units n) := by rw [e]; exact .head _
      rw [e] at ind
      refine ⟨v, left_ker hl v hv, indep_ne ind, fun u hu => ?_⟩
      obtain ⟨a, ha, hs⟩ := ker_left hl hu
      rw [e] at hs
      obtain ⟨b, hb⟩ := span_one hs
      exact ⟨a, b, ha, hb⟩
  · rintro ⟨v, hv, ⟨k0, hk0⟩, hall⟩
    cases e : elim fs (units n) with
    | nil =>
      obtain ⟨a, ha, hs⟩ := ker_left hl hv
      rw [e] at hs
      have := span_none hs k0
      rcases Int.mul_eq_zero.mp this with q | q
      · exact absurd q ha
      · exact absurd q hk0
    | cons u r =>
      cases r with
      | nil => rfl
      | cons w r =>
        exfalso
        rw [e] at ind
        obtain ⟨a, b, ha, h1⟩ := hall u (left_ker hl u (by rw [e]; exact .head _))
        obtain ⟨c, d, hc, h2⟩ := hall w (left_ker hl w (by rw [e]; exact .tail _ (.head _)))
        have nb : b ≠ 0 := fun q => by
          obtain ⟨k, hk⟩ := indep_ne ind
          have := h1 k
          rw [q, Int.zero_mul] at this
          rcases Int.mul_eq_zero.mp this with q | q
          · exact ha q
          · exact hk q
        -- d a u - b c w = 0
        have := ind (d * a :: -(b * c) :: List.replicate r.length 0) (by simp) (fun k => by
          show d * a * u k + (-(b * c) * w k + comb (List.replicate r.length 0) r k) = 0
          have e : List.replicate r.length (0 : Int) = (List.replicate r.length 0).map (0 * ·) := by simp
          rw [e, comb_scale]
          have q1 := h1 k
          have q2 := h2 k
          grind) (-(b * c)) (.tail _ (.head _))
        have hbc := Int.mul_ne_zero nb hc
        omega
end My
set_option Elab.async false
set_option linter.all false
namespace My
noncomputable def phi (n : Nat) (M : Nat → Nat → Int) (j : Nat) : Vec → Int := fun c => sumTo n fun k => c k * M k j
theorem phi_lin (n : Nat) (M : Nat → Nat → Int) (j : Nat) : IsLin (phi n M j) := by
  refine ⟨sumTo_zero fun k _ => by simp, fun a u v => ?_⟩
  unfold phi
  rw [← sumTo_lin]
  exact sumTo_congr fun k _ => by grind
noncomputable def cts (w : Nat) (r : List Int) : Vec := fun k => r.getD (w + k) 0
structure Fit (w n : Nat) (M : Nat → Nat → Int) (r : List Int) : Prop where
  len : r.length = w + n
  num : ∀ j, j < w → r.getD j 0 = phi n M j (cts w r)
noncomputable def mixRow (j : Nat) (p r : List Int) : List Int := List.zipWith (fun x y => p.getD j 0 * x - r.getD j 0 * y) r p
noncomputable def stepL (j : Nat) (L : List (List Int)) : List (List Int) := match L.find? (fun r => decide (r.getD j 0 ≠ 0)) with
  | none => L
  | some p => (L.eraseP (fun r => decide (r.getD j 0 ≠ 0))).map (mixRow j p)
theorem mix_len {w n : Nat} {M : Nat → Nat → Int} {j : Nat} {p r : List Int} (hp : Fit w n M p) (hr : Fit w n M r) : (mixRow j p r).length = w + n := by
  unfold mixRow; rw [List.length_zipWith, hp.len, hr.len]; omega
theorem mix_get {j : Nat} {p r : List Int} (h : p.length = r.length) (i : Nat) : (mixRow j p r).getD i 0 = p.getD j 0 * r.getD i 0 - r.getD j 0 * p.getD i 0 := by
  unfold mixRow
  simp only [List.getD_eq_getElem?_getD, List.getElem?_zipWith]
  by_cases hi : i < r.length
  · rw [List.getElem?_eq_getElem hi, List.getElem?_eq_getElem (show i < p.length by omega)]; rfl
  · rw [List.getElem?_eq_none (show r.length ≤ i by omega), List.getElem?_eq_none (show p.length ≤ i by omega)]; simp
theorem mix_cts {w n : Nat} {M : Nat → Nat → Int} {j : Nat} {p r : List Int} (hp : Fit w n M p) (hr : Fit w n M r) (hj : j < w) : cts w (mixRow j p r) = fun k => phi n M j (cts w p) * cts w r k - phi n M j (cts w r) * cts w p k := by
  funext k
  unfold cts
  rw [mix_get (by rw [hp.len, hr.len])]
  rw [hp.num j hj, hr.num j hj]; rfl
theorem mix_fit {w n : Nat} {M : Nat → Nat → Int} {j : Nat} {p r : List Int} (hp : Fit w n M p) (hr : Fit w n M r) (hj : j < w) : Fit w n M (mixRow j p r) := by
  refine ⟨mix_len hp hr, fun i hi => ?_⟩
  rw [mix_get (by rw [hp.len, hr.len]), mix_cts hp hr hj, hp.num i hi, hr.num i hi, hp.num j hj, hr.num j hj]
  have l := phi_lin n M i
  have h1 := l.add (-(phi n M j (cts w r))) (cts w p) (fun k => phi n M j (cts w p) * cts w r k)
  have h2 : phi n M i (fun k => phi n M j (cts w p) * cts w r k) = phi n M j (cts w p) * phi n M i (cts w r) := by
    have := l.add (phi n M j (cts w p)) (cts w r) (fun _ => 0)
    simpa [l.zero] using this
  have e3 : (fun k => phi n M j (cts w p) * cts w r k - phi n M j (cts w r) * cts w p k) = fun k => -(phi n M j (cts w r)) * cts w p k + (fun k => phi n M j (cts w p) * cts w r k) k := by
    funext k; grind
  rw [e3, h1, h2]; grind
theorem find_map {w n : Nat} {M : Nat → Nat → Int} {j : Nat} (hj : j < w) : ∀ {L : List (List Int)}, (∀ r ∈ L, Fit w n M r) →
    (L.map (cts w)).find? (fun u => decide (phi n M j u ≠ 0)) = (L.find? (fun r => decide (r.getD j 0 ≠ 0))).map (cts w) ∧
    (L.map (cts w)).eraseP (fun u => decide (phi n M j u ≠ 0)) = (L.eraseP (fun r => decide (r.getD j 0 ≠ 0))).map (cts w)
  | [], _ => ⟨rfl, rfl⟩
  | r :: L, h => by
    have ih := find_map hj (L := L) fun r hr => h r (.tail _ hr)
    have e := (h r (.head _)).num j hj
    by_cases q : phi n M j (cts w r) = 0
    · have q' : r.getD j 0 = 0 := by rw [e]; exact q
      constructor
      · rw [List.map_cons, List.find?_cons_of_neg (by simp [q]), List.find?_cons_of_neg (by rw [q']; decide)]; exact ih.1
      · rw [List.map_cons, List.eraseP_cons_of_neg (by simp [q]), List.eraseP_cons_of_neg (by rw [q']; decide), List.map_cons, ih.2]
    · have q' : r.getD j 0 ≠ 0 := by rw [e]; exact q
      constructor
      · rw [List.map_cons, List.find?_cons_of_pos (by simp [q]), List.find?_cons_of_pos (p := fun r => decide (List.getD r j 0 ≠ 0)) (decide_eq_true q')]; rfl
      · rw [List.map_cons, List.eraseP_cons_of_pos (by simp [q]), List.eraseP_cons_of_pos (p := fun r => decide (List.getD r j 0 ≠ 0)) (decide_eq_true q')]
theorem stepL_fit {w n : Nat} {M : Nat → Nat → Int} {j : Nat} (hj : j < w) {L : List (List Int)} (h : ∀ r ∈ L, Fit w n M r) : ∀ r ∈ stepL j L, Fit w n M r := by
  intro r hr
  unfold stepL at hr
  split at hr
  · exact h r hr
  · rename_i p hp
    obtain ⟨r', hr', rfl⟩ := List.mem_map.mp hr
    exact mix_fit (h p (List.mem_of_find?_eq_some hp)) (h r' (List.mem_of_mem_eraseP hr')) hj
theorem stepL_map {w n : Nat} {M : Nat → Nat → Int} {j : Nat} (hj : j < w) {L : List (List Int)} (h : ∀ r ∈ L, Fit w n M r) : (stepL j L).map (cts w) = stepU (phi n M j) (L.map (cts w)) := by
  obtain ⟨e1, e2⟩ := find_map hj h
  unfold stepU stepL
  rw [e1, e2]
  cases q : L.find? (fun r => decide (r.getD j 0 ≠ 0)) with
  | none => rfl
  | some p =>
    show ((L.eraseP _).map (mixRow j p)).map (cts w) = _
    rw [List.map_map, Option.map_some]
    show _ = ((L.eraseP _).map (cts w)).map fun u k => phi n M j (cts w p) * u k - phi n M j u * cts w p k
    rw [List.map_map]
    apply List.map_congr_left
    intro r hr
    exact mix_cts (h p (List.mem_of_find?_eq_some q)) (h r (List.mem_of_mem_eraseP hr)) hj
noncomputable def unitRow (n i : Nat) : List Int := (List.replicate n 0).set i 1
noncomputable def startL (n : Nat) (rows : Nat → List Int) : List (List Int) := (List.range n).map fun k => rows k ++ unitRow n k
noncomputable def stepsL : Nat → List (List Int) → List (List Int)
  | 0, L => L
  | j + 1, L => stepL j (stepsL j L)
noncomputable def evenOf (w n : Nat) (rows : Nat → List Int) : List (List Int) := (stepsL w (startL n rows)).map (List.drop w)
theorem start_fit {w n : Nat} {rows : Nat → List Int} (h : ∀ k, k < n → (rows k).length = w) : ∀ r ∈ startL n rows, Fit w n (fun k j => (rows k).getD j 0) r := by
  intro r hr
  obtain ⟨i, hi, rfl⟩ := List.mem_map.mp hr
  have hi' := List.mem_range.mp hi
  have hu : (unitRow n i).length = n := by unfold unitRow; simp
  refine ⟨by rw [List.length_append, h i hi', hu], fun j hj => ?_⟩
  have hc : ∀ k, k < n → cts w (rows i ++ unitRow n i) k = if k = i then 1 else 0 := fun k hk => by
    unfold cts
    rw [List.getD_eq_getElem?_getD, List.getElem?_append_right (by rw [h i hi']; omega), h i hi', show w + k - w = k by omega]
    unfold unitRow
    by_cases e : k = i
    · subst e
      rw [List.getElem?_set_self (by simpa using hk)]; simp
    · rw [List.getElem?_set_ne (Ne.symm e), List.getElem?_replicate, if_pos hk]; simp [e]
  unfold phi
  rw [sumTo_one hi' fun k hk hne => by rw [hc k hk, if_neg hne]; simp, hc i hi', if_pos rfl]
  rw [List.getD_eq_getElem?_getD, List.getElem?_append_left (by rw [h i hi']; exact hj), ← List.getD_eq_getElem?_getD]; simp
theorem start_map {w n : Nat} {rows : Nat → List Int} (h : ∀ k, k < n → (rows k).length = w) : (startL n rows).map (cts w) = units n := by
  unfold startL units
  rw [List.map_map]
  apply List.map_congr_left
  intro i hi
  have hi' := List.mem_range.mp hi
  funext k
  show cts w (rows i ++ unitRow n i) k = unit i k
  unfold cts unit
  rw [List.getD_eq_getElem?_getD, List.getElem?_append_right (by rw [h i hi']; omega), h i hi', show w + k - w = k by omega]
  unfold unitRow
  by_cases e : k = i
  · subst e
    rw [List.getElem?_set_self (by simpa using hi')]; simp
  · rw [List.getElem?_set_ne (Ne.symm e), List.getElem?_replicate, if_neg e]
    split <;> rfl
theorem steps_fit {w n : Nat} {M : Nat → Nat → Int} {L : List (List Int)} (h : ∀ r ∈ L, Fit w n M r) : ∀ {j : Nat}, j ≤ w → ∀ r ∈ stepsL j L, Fit w n M r
  | 0, _ => h
  | j + 1, hj => stepL_fit (by omega) (steps_fit h (j := j) (by omega))
theorem elim_append (f : Vec → Int) : ∀ (fs : List (Vec → Int)) (U : List Vec), elim (fs ++ [f]) U = stepU f (elim fs U)
  | [], U => rfl
  | g :: fs, U => elim_append f fs (stepU g U)
theorem steps_map {w n : Nat} {M : Nat → Nat → Int} {L : List (List Int)} (h : ∀ r ∈ L, Fit w n M r) : ∀ {j : Nat}, j ≤ w → (stepsL j L).map (cts w) = elim ((List.range j).map (phi n M)) (L.map (cts w))
  | 0, _ => rfl
  | j + 1, hj => by
    rw [List.range_succ, List.map_append]
    show (stepL j (stepsL j L)).map (cts w) = elim ((List.range j).map (phi n M) ++ [phi n M j]) (L.map (cts w))
    rw [elim_append, stepL_map (by omega) (steps_fit h (by omega)), steps_map h (j := j) (by omega)]
noncomputable def vecOf (l : List Int) : Vec := fun k => l.getD k 0
theorem even_vec {w n : Nat} {rows : Nat → List Int} (h : ∀ k, k < n → (rows k).length = w) : (evenOf w n rows).map vecOf = elim ((List.range w).map (phi n fun k j => (rows k).getD j 0)) (units n) := by
  rw [← start_map h, ← steps_map (start_fit h) (Nat.le_refl w)]
  unfold evenOf
  rw [List.map_map]
  apply List.map_congr_left
  intro r _
  funext k
  show (r.drop w).getD k 0 = cts w r k
  unfold cts
  rw [List.getD_eq_getElem?_getD, List.getElem?_drop, ← List.getD_eq_getElem?_getD]
theorem even_lens {w n : Nat} {rows : Nat → List Int} (h : ∀ k, k < n → (rows k).length = w) : ∀ l ∈ evenOf w n rows, l.length = n := by
  intro l hl
  obtain ⟨r, hr, rfl⟩ := List.mem_map.mp hl
  rw [List.length_drop, (steps_fit (start_fit h) (Nat.le_refl w) r hr).len]; omega
noncomputable abbrev wares (w n : Nat) (rows : Nat → List Int) : List (Vec → Int) := (List.range w).map (phi n fun k j => (rows k).getD j 0)
theorem wares_lin (w n : Nat) (rows : Nat → List Int) : ∀ f ∈ wares w n rows, IsLin f := fun f hf => by
  obtain ⟨j, _, rfl⟩ := List.mem_map.mp hf
  exact phi_lin ..
theorem even_one {w n : Nat} {rows : Nat → List Int} (h : ∀ k, k < n → (rows k).length = w) : (evenOf w n rows).length = 1 ↔ Ker1 (wares w n rows) n := by
  rw [← one_iff (wares_lin w n rows), ← even_vec h, List.length_map]
theorem even_many {w n : Nat} {rows : Nat → List Int} (h : ∀ k, k < n → (rows k).length = w) : (evenOf w n rows).length ≤ n ∧ n ≤ (evenOf w n rows).length + w := by
  have := elim_len (wares w n rows) (units n)
  rw [← even_vec h, List.length_map] at this
  simpa [units] using this
end My
namespace My
theorem first_idx {α : Type} (p : α → Bool) (l : List α) : ((List.range l.length).filter (fun k => (l[k]?).any p) = [] ∧ l.find? p = none) ∨
    ∃ i r x, (List.range l.length).filter (fun k => (l[k]?).any p) = i :: r ∧ l[i]? = some x ∧ l.find? p = some x ∧ l.eraseP p = l.take i ++ l.drop (i + 1) := by
  cases h : l.find? p with
  | none =>
    left
    refine ⟨?_, rfl⟩
    rw [List.filter_eq_nil_iff]
    intro k hk
    have hk' := List.mem_range.mp hk
    rw [List.getElem?_eq_getElem hk']
    have := List.find?_eq_none.mp h _ (List.getElem_mem hk')
    simpa using this
  | some x =>
    right
    obtain ⟨hp, A, B, e, hA⟩ := List.find?_eq_some_iff_append.mp h
    have hlen : l.length = A.length + (B.length + 1) := by rw [e]; simp
    have f0 : (List.range A.length).filter (fun k => (l[k]?).any p) = [] := by
      rw [List.filter_eq_nil_iff]
      intro k hk
      have hk' := List.mem_range.mp hk
      rw [e, List.getElem?_append_left hk', List.getElem?_eq_getElem hk']
      have := hA _ (List.getElem_mem hk')
      simpa using this
    have hx : l[A.length]? = some x := by rw [e, List.getElem?_append_right (Nat.le_refl _)]; simp
    refine ⟨A.length, ((List.range B.length).map (A.length + 1 + ·)).filter (fun k => (l[k]?).any p), x, ?_, hx, rfl, ?_⟩
    · rw [hlen, List.range_add, List.filter_append, f0, List.nil_append, Nat.add_comm B.length 1, List.range_add]
      show List.filter _ (List.map _ ([0] ++ _)) = _
      rw [List.map_append, List.filter_append, List.map_map]
      have e1 : List.filter (fun k => (l[k]?).any p) (List.map (fun x => A.length + x) [0]) = [A.length] := by
        simp [hx, hp]
      rw [e1]
      show _ = [A.length] ++ _
      congr 2
      apply List.map_congr_left
      intro k _
      simp [Function.comp, Nat.add_assoc]
    · rw [e, List.eraseP_append_right _ (fun b hb => by simpa using hA b hb), List.eraseP_cons_of_pos (p := p) hp]
      simp
end My
set_option Elab.async false
set_option linter.all false
namespace My
structure KerS (fs : List (Vec → Int)) (S : Nat → Prop) (c : Vec) : Prop where
  sup : ∀ k, ¬ S k → c k = 0
  ev : ∀ f ∈ fs, f c = 0
noncomputable def Ker1S (fs : List (Vec → Int)) (S : Nat → Prop) : Prop := ∃ v, KerS fs S v ∧ (∃ k, v k ≠ 0) ∧ ∀ u, KerS fs S u → ∃ a b : Int, a ≠ 0 ∧ ∀ k, a * u k = b * v k
structure Round (fs : List (Vec → Int)) (n : Nat) (c : Vec) : Prop where
  sup : ∀ k, n ≤ k → c k = 0
  nn : ∀ k, 0 ≤ c k
  some : ∃ k, 0 < c k
  ev : ∀ f ∈ fs, f c = 0
noncomputable def LeanR (fs : List (Vec → Int)) (n : Nat) (c : Vec) : Prop := Round fs n c ∧ ∀ d, Round fs n d → (∀ k, 0 < d k → 0 < c k) → ∀ k, 0 < c k → 0 < d k
theorem lin_two {f : Vec → Int} (h : IsLin f) (a b : Int) (u v : Vec) : f (fun k => a * u k + b * v k) = a * f u + b * f v := by
  have h1 := h.add a u (fun k => b * v k)
  have h2 : f (fun k => b * v k) = b * f v := by
    have := h.add b v (fun _ => 0)
    simpa [h.zero] using this
  rw [h1, h2]
theorem best_share {S : Nat → Prop} {c u : Vec} (hpos : ∀ k, S k → 0 < c k) : ∀ n, (∀ k, k < n → ¬ S k) ∨ ∃ k0, k0 < n ∧ S k0 ∧ ∀ k, k < n → S k → u k * c k0 ≤ u k0 * c k := by
  intro n
  induction n with
  | zero => exact .inl fun k hk => absurd hk (by omega)
  | succ n ih =>
    by_cases hn : S n
    · right
      rcases ih with ih | ⟨k0, h1, h2, h3⟩
      · refine ⟨n, by omega, hn, fun k hk hs => ?_⟩
        by_cases e : k = n
        · subst e; exact Int.le_refl _
        · exact absurd hs (ih k (by omega))
      · by_cases cmp : u n * c k0 ≤ u k0 * c n
        · refine ⟨k0, by omega, h2, fun k hk hs => ?_⟩
          by_cases e : k = n
          · subst e; exact cmp
          · exact h3 k (by omega) hs
        · refine ⟨n, by omega, hn, fun k hk hs => ?_⟩
          by_cases e : k = n
          · subst e; exact Int.le_refl _
          · have p0 := hpos k0 h2
            have pk := hpos k hs
            have pn := hpos n hn
            have a1 := h3 k (by omega) hs
            have a2 : u k0 * c n ≤ u n * c k0 := by omega
            -- u k * c n ≤ u n * c k, times c k0
            have b1 : u k * c k0 * c n ≤ u k0 * c k * c n := Int.mul_le_mul_of_nonneg_right a1 (by omega)
            have b2 : u k0 * c n * c k ≤ u n * c k0 * c k := Int.mul_le_mul_of_nonneg_right a2 (by omega)
            have b3 : u k * c n * c k0 ≤ u n * c k * c k0 := by
              have e1 : u k * c n * c k0 = u k * c k0 * c n := by grind
              have e2 : u k0 * c k * c n = u k0 * c n * c k := by grind
              have e3 : u n * c k0 * c k = u n * c k * c k0 := by grind
              omega
            exact Int.le_of_mul_le_mul_right b3 p0
    · rcases ih with ih | ⟨k0, h1, h2, h3⟩
      · left
        intro k hk
        by_cases e : k = n
        · subst e; exact hn
        · exact ih k (by omega)
      · right
        refine ⟨k0, by omega, h2, fun k hk hs => ?_⟩
        by_cases e : k = n
        · subst e; exact absurd hs hn
        · exact h3 k (by omega) hs
theorem lean_iff {fs : List (Vec → Int)} {n : Nat} {c : Vec} (hl : ∀ f ∈ fs, IsLin f) (hc : Round fs n c) : LeanR fs n c ↔ Ker1S fs (fun k => 0 < c k) := by
  have ck : KerS fs (fun k => 0 < c k) c := ⟨fun k hk => by have := hc.nn k; omega, hc.ev⟩
  obtain ⟨k1, hk1⟩ := hc.some
  have k1n : k1 < n := by
    refine Classical.byContradiction fun q => ?_
    have := hc.sup k1 (by omega)
    omega
  constructor
  · intro h
    refine ⟨c, ck, ⟨k1, by omega⟩, fun u hu => ?_⟩
    rcases best_share (S := fun k => 0 < c k) (c := c) (u := u) (fun k hk => hk) n with hno | ⟨k0, h1, h2, h3⟩
    · exact absurd hk1 (hno k1 k1n)
    · -- d = u k0 * c - c k0 * u
      have dz : ∀ k, ¬ 0 < c k → u k0 * c k + -(c k0) * u k = 0 := fun k hk => by
        rw [ck.sup k hk, hu.sup k hk]; simp
      by_cases hd : ∃ k, u k0 * c k + -(c k0) * u k ≠ 0
      · exfalso
        have dnn : ∀ k, 0 ≤ u k0 * c k + -(c k0) * u k := fun k => by
          by_cases hk : 0 < c k
          · have kn : k < n := by
              refine Classical.byContradiction fun q => ?_
              have := hc.sup k (by omega)
              omega
            have := h3 k kn hk
            have e : -(c k0) * u k = -(u k * c k0) := by grind
            omega
          · rw [dz k hk]; exact Int.le_refl 0
        have rd : Round fs n (fun k => u k0 * c k + -(c k0) * u k) := by
          refine ⟨fun k hk => dz k (by rw [hc.sup k hk]; omega), dnn, ?_, fun f hf => ?_⟩
          · obtain ⟨k, hk⟩ := hd
            exact ⟨k, by have := dnn k; show 0 < u k0 * c k + -(c k0) * u k; omega⟩
          · rw [lin_two (hl f hf), hc.ev f hf, hu.ev f hf]; simp
        have := h.2 _ rd (fun k hk => Classical.byContradiction fun q => by
          have := dz k q
          have hk' : 0 < u k0 * c k + -(c k0) * u k := hk
          omega) k0 h2
        have this' : 0 < u k0 * c k0 + -(c k0) * u k0 := this
        have e : u k0 * c k0 + -(c k0) * u k0 = 0 := by grind
        omega
      · refine ⟨c k0, u k0, by omega, fun k => ?_⟩
        have : u k0 * c k + -(c k0) * u k = 0 := Classical.byContradiction fun q => hd ⟨k, q⟩
        grind
  · rintro ⟨v, hv, ⟨kv, hkv⟩, hall⟩
    refine ⟨hc, fun d hd hsub k hk => ?_⟩
    obtain ⟨a, b, ha, hab⟩ := hall c ck
    have dk : KerS fs (fun k => 0 < c k) d := ⟨fun j hj => by
      have h0 := hd.nn j
      refine Classical.byContradiction fun q => hj (hsub j (by omega)), hd.ev⟩
    obtain ⟨a', b', ha', hab'⟩ := hall d dk
    obtain ⟨kd, hkd⟩ := hd.some
    have b'0 : b' ≠ 0 := fun q => by
      have := hab' kd
      rw [q, Int.zero_mul] at this
      rcases Int.mul_eq_zero.mp this with q | q
      · exact ha' q
      · omega
    have vk : v k ≠ 0 := fun q => by
      have := hab k
      rw [q, Int.mul_zero] at this
      rcases Int.mul_eq_zero.mp this with q | q
      · exact ha q
      · omega
    have dk0 : d k ≠ 0 := fun q => by
      have := hab' k
      rw [q, Int.mul_zero] at this
      rcases Int.mul_eq_zero.mp this.symm with q | q
      · exact b'0 q
      · exact vk q
    have := hd.nn k
    omega
theorem sumTo_swap (f : Nat → Nat → Int) : ∀ (a b : Nat), sumTo a (fun i => sumTo b fun k => f i k) = sumTo b fun k => sumTo a fun i => f i k
  | 0, b => by
    show (0 : Int) = sumTo b fun k => 0
    exact (sumTo_zero fun k _ => rfl).symm
  | a + 1, b => by
    show sumTo a (fun i => sumTo b fun k => f i k) + sumTo b (fun k => f a k) = sumTo b fun k => sumTo a (fun i => f i k) + f a k
    rw [sumTo_swap f a b]
    have := sumTo_lin 1 (fun k => sumTo a fun i => f i k) (fun k => f a k) b
    simp at this
    rw [this]
noncomputable def lift (ss : List Nat) (c : Vec) : Vec := fun k => sumTo ss.length fun i => if ss.getD i 0 = k then c i else 0
noncomputable def rest (ss : List Nat) (d : Vec) : Vec := fun i => if i < ss.length then d (ss.getD i 0) else 0
theorem lift_at {ss : List Nat} (nd : ss.Nodup) (c : Vec) {i : Nat} (hi : i < ss.length) : lift ss c (ss.getD i 0) = c i := by
  unfold lift
  rw [sumTo_one (i := i) hi fun j hj hne => ?_, if_pos rfl]
  rw [if_neg]
  intro e
  have e' : ss[j] = ss[i] := by
    rw [List.getD_eq_getElem?_getD, List.getElem?_eq_getElem hj, List.getD_eq_getElem?_getD, List.getElem?_eq_getElem hi] at e
    exact e
  exact hne ((List.getElem_inj nd).mp e')
theorem lift_out {ss : List Nat} (c : Vec) {k : Nat} (hk : k ∉ ss) : lift ss c k = 0 := by
  refine sumTo_zero fun i hi => if_neg fun e => hk ?_
  rw [← e, List.getD_eq_getElem?_getD, List.getElem?_eq_getElem hi]
  exact List.getElem_mem hi
theorem lift_phi {ss : List Nat} {n : Nat} {M : Nat → Nat → Int} (hlt : ∀ k ∈ ss, k < n) (c : Vec) (j : Nat) : phi n M j (lift ss c) = phi ss.length (fun i j => M (ss.getD i 0) j) j c := by
  unfold phi lift
  have e1 : (sumTo n fun k => (sumTo ss.length fun i => if ss.getD i 0 = k then c i else 0) * M k j) = sumTo n fun k => sumTo ss.length fun i => if ss.getD i 0 = k then c i * M (ss.getD i 0) j else 0 := by
    apply sumTo_congr
    intro k _
    have := sumTo_lin (M k j) (fun i => if ss.getD i 0 = k then c i else 0) (fun _ => 0) ss.length
    rw [sumTo_zero (f := fun _ => 0) fun _ _ => rfl] at this
    have e2 : (sumTo ss.length fun i => if ss.getD i 0 = k then c i else 0) * M k j = M k j * (sumTo ss.length fun i => if ss.getD i 0 = k then c i else 0) + 0 := by grind
    rw [e2, ← this]
    apply sumTo_congr
    intro i _
    show M k j * (if ss.getD i 0 = k then c i else 0) + 0 = _
    split
    · rename_i e; rw [e]; grind
    · simp
  rw [e1, sumTo_swap]
  apply sumTo_congr
  intro i hi
  have hk : ss.getD i 0 < n := by
    rw [List.getD_eq_getElem?_getD, List.getElem?_eq_getElem hi]
    exact hlt _ (List.getElem_mem hi)
  rw [sumTo_one (i := ss.getD i 0) hk fun k _ hne => if_neg (Ne.symm hne), if_pos rfl]
theorem lift_rest {ss : List Nat} (nd : ss.Nodup) {d : Vec} (h : ∀ k, ¬ k ∈ ss → d k = 0) : lift ss (rest ss d) = d := by
  funext k
  by_cases hk : k ∈ ss
  · obtain ⟨i, hi, e⟩ := List.getElem_of_mem hk
    have e' : ss.getD i 0 = k := by rw [List.getD_eq_getElem?_getD, List.getElem?_eq_getElem hi, ← e]; rfl
    rw [← e', lift_at nd _ hi]
    unfold rest
    rw [if_pos hi]
  · rw [lift_out _ hk, h k hk]
theorem one_some {ss : List Nat} {n w : Nat} {rows : Nat → List Int} (nd : ss.Nodup) (hlt : ∀ k ∈ ss, k < n) : Ker1 (wares w ss.length fun i => rows (ss.getD i 0)) ss.length ↔ Ker1S (wares w n rows) (fun k => k ∈ ss) := by
  have toS : ∀ {c : Vec}, Ker (wares w ss.length fun i => rows (ss.getD i 0)) ss.length c → KerS (wares w n rows) (fun k => k ∈ ss) (lift ss c) := fun {c} h => by
    refine ⟨fun k hk => lift_out _ hk, fun f hf => ?_⟩
    obtain ⟨j, hj, rfl⟩ := List.mem_map.mp hf
    rw [lift_phi hlt]
    exact h.ev _ (List.mem_map.mpr ⟨j, hj, rfl⟩)
  have toK : ∀ {d : Vec}, KerS (wares w n rows) (fun k => k ∈ ss) d → Ker (wares w ss.length fun i => rows (ss.getD i 0)) ss.length (rest ss d) := fun {d} h => by
    refine ⟨fun k hk => by unfold rest; rw [if_neg (by omega)], fun f hf => ?_⟩
    obtain ⟨j, hj, rfl⟩ := List.mem_map.mp hf
    have := lift_phi (M := fun k j => (rows k).getD j 0) hlt (rest ss d) j
    rw [lift_rest nd h.sup] at this
    rw [← this]
    exact h.ev _ (List.mem_map.mpr ⟨j, hj, rfl⟩)
  constructor
  · rintro ⟨v, hv, ⟨k, hk⟩, hall⟩
    have hkl : k < ss.length := Classical.byContradiction fun q => hk (hv.sup k (by omega))
    refine ⟨lift ss v, toS hv, ⟨ss.getD k 0, by rw [lift_at nd _ hkl]; exact hk⟩, fun u hu => ?_⟩
    obtain ⟨a, b, ha, hab⟩ := hall _ (toK hu)
    refine ⟨a, b, ha, fun j => ?_⟩
    by_cases hj : j ∈ ss
    · obtain ⟨i, hi, e⟩ := List.getElem_of_mem hj
      have e' : ss.getD i 0 = j := by rw [List.getD_eq_getElem?_getD, List.getElem?_eq_getElem hi, ← e]; rfl
      have := hab i
      unfold rest at this
      rw [if_pos hi, e'] at this
      rw [← e', lift_at nd _ hi, e']; exact this
    · rw [hu.sup j hj, lift_out _ hj]; simp
  · rintro ⟨v, hv, ⟨k, hk⟩, hall⟩
    have hks : k ∈ ss := Classical.byContradiction fun q => hk (hv.sup k q)
    obtain ⟨i, hi, e⟩ := List.getElem_of_mem hks
    have e' : ss.getD i 0 = k := by rw [List.getD_eq_getElem?_getD, List.getElem?_eq_getElem hi, ← e]; rfl
    refine ⟨rest ss v, toK hv, ⟨i, by unfold rest; rw [if_pos hi, e']; exact hk⟩, fun u hu => ?_⟩
    obtain ⟨a, b, ha, hab⟩ := hall _ (toS hu)
    refine ⟨a, b, ha, fun j => ?_⟩
    unfold rest
    by_cases hj : j < ss.length
    · rw [if_pos hj]
      have := hab (ss.getD j 0)
      rw [lift_at nd _ hj] at this; exact this
    · rw [if_neg hj, hu.sup j (by omega)]; simp
end My
set_option Elab.async false
set_option linter.all false
namespace My
noncomputable def rowsAt (m : List (List Int)) (ss : List Nat) : Nat → List Int := fun k => m.getD (ss.getD k 0) []
noncomputable def rowsOf (m : List (List Int)) : Nat → List Int := fun k => m.getD k []
noncomputable def setOf (n b : Nat) : List Nat := (List.range n).filter fun k => b.testBit (n - 1 - k)
noncomputable def cntTo (n : Nat) (ss : List Nat) (l : List Int) : Nat → List Int
  | 0 => List.replicate n 0
  | i + 1 => (cntTo n ss l i).set (ss.getD i 0) ((ab (l.getD i 0)).fdiv (ga l))
noncomputable def OneSign (l : List Int) : Prop := (∀ x ∈ l, 0 < x) ∨ ∀ x ∈ l, x < 0
noncomputable instance {l : List Int} : Decidable (OneSign l) := inferInstanceAs (Decidable (_ ∨ _))
theorem cntTo_len {n : Nat} {ss : List Nat} {l : List Int} : ∀ i, (cntTo n ss l i).length = n
  | 0 => List.length_replicate
  | i + 1 => by unfold cntTo; rw [List.length_set]; exact cntTo_len i
theorem setOf_mem {n b k : Nat} : k ∈ setOf n b ↔ k < n ∧ b.testBit (n - 1 - k) = true := by
  unfold setOf
  rw [List.mem_filter, List.mem_range]
theorem setOf_nodup (n b : Nat) : (setOf n b).Nodup := List.Nodup.sublist List.filter_sublist List.nodup_range
theorem cntTo_out {n : Nat} {ss : List Nat} {l : List Int} {k : Nat} : ∀ i, (∀ j, j < i → ss.getD j 0 ≠ k) → (cntTo n ss l i).getD k 0 = 0
  | 0, _ => by
    unfold cntTo
    rw [List.getD_eq_getElem?_getD]
    by_cases h : k < n
    · rw [List.getElem?_eq_getElem (by rw [List.length_replicate]; exact h)]; simp
    · rw [List.getElem?_eq_none (by rw [List.length_replicate]; omega)]; rfl
  | i + 1, h => by
    unfold cntTo
    rw [List.getD_eq_getElem?_getD, List.getElem?_set_ne (h i (by omega)), ← List.getD_eq_getElem?_getD]
    exact cntTo_out i fun j hj => h j (by omega)
theorem cntTo_in {n : Nat} {ss : List Nat} {l : List Int} (nd : ss.Nodup) (hlt : ∀ k ∈ ss, k < n) {j : Nat} : ∀ i, i ≤ ss.length → j < i → (cntTo n ss l i).getD (ss.getD j 0) 0 = (ab (l.getD j 0)).fdiv (ga l)
  | 0, _, h => absurd h (Nat.not_lt_zero j)
  | i + 1, hi, h => by
    unfold cntTo
    have hg : ∀ t, t < ss.length → ss.getD t 0 = ss[t]! := fun t ht => by simp [ht]
    by_cases e : j = i
    · subst e
      have hm : ss.getD j 0 ∈ ss := by
        rw [List.getD_eq_getElem?_getD, List.getElem?_eq_getElem (by omega)]; exact List.getElem_mem _
      rw [List.getD_eq_getElem?_getD, List.getElem?_set_self (by rw [cntTo_len]; exact hlt _ hm)]
      rfl
    · have ne : ss.getD i 0 ≠ ss.getD j 0 := by
        rw [List.getD_eq_getElem?_getD, List.getD_eq_getElem?_getD, List.getElem?_eq_getElem (show i < ss.length by omega), List.getElem?_eq_getElem (show j < ss.length by omega)]
        intro q
        exact e ((List.getElem_inj nd).mp q).symm
      rw [List.getD_eq_getElem?_getD, List.getElem?_set_ne ne, ← List.getD_eq_getElem?_getD]
      exact cntTo_in nd hlt i (by omega) (by omega)
theorem cnt_lift {n : Nat} {ss : List Nat} {l : List Int} (nd : ss.Nodup) (hlt : ∀ k ∈ ss, k < n) (hl : l.length = ss.length) (hs : OneSign l) (hn : l ≠ []) :
    ∃ s : Int, s ≠ 0 ∧ (s = ga l ∨ s = -ga l) ∧ (∀ k, lift ss (vecOf l) k = s * vecOf (cntTo n ss l ss.length) k) ∧ (∀ k, k ∈ ss ↔ 0 < vecOf (cntTo n ss l ss.length) k) ∧ ∀ k, 0 ≤ vecOf (cntTo n ss l ss.length) k := by
  obtain ⟨x0, hx0⟩ := List.exists_mem_of_ne_nil _ hn
  have hx0n : x0 ≠ 0 := by
    rcases hs with h | h
    · have := h x0 hx0; omega
    · have := h x0 hx0; omega
  have hg : 0 < ga l := ga_pos hx0 hx0n
  have val : ∀ j, j < ss.length → ∃ q : Int, 0 < q ∧ ab (l.getD j 0) = ga l * q ∧ vecOf (cntTo n ss l ss.length) (ss.getD j 0) = q := fun j hj => by
    have hm : l.getD j 0 ∈ l := by rw [List.getD_eq_getElem?_getD, List.getElem?_eq_getElem (by omega)]; exact List.getElem_mem _
    obtain ⟨c, hc⟩ := ga_dvd hm
    have habs : ab (l.getD j 0) = ga l * c ∨ ab (l.getD j 0) = ga l * (-c) := by
      unfold ab
      split
      · right; rw [hc, Int.mul_neg]
      · left; exact hc
    have hpos : 0 < ab (l.getD j 0) := by
      unfold ab
      rcases hs with h | h
      · have := h _ hm; split <;> omega
      · have := h _ hm; split <;> omega
    have fin : ∀ q, ab (l.getD j 0) = ga l * q → 0 < q ∧ vecOf (cntTo n ss l ss.length) (ss.getD j 0) = q := fun q hq => by
      refine ⟨?_, ?_⟩
      · rw [hq] at hpos; exact Int.pos_of_mul_pos_right hpos (by omega)
      · unfold vecOf
        rw [cntTo_in nd hlt ss.length (Nat.le_refl _) hj, hq, Int.mul_fdiv_cancel_left _ (by omega)]
    rcases habs with h | h
    · exact ⟨c, (fin c h).1, h, (fin c h).2⟩
    · exact ⟨-c, (fin _ h).1, h, (fin _ h).2⟩
  have out : ∀ k, k ∉ ss → vecOf (cntTo n ss l ss.length) k = 0 := fun k hk => by
    unfold vecOf
    refine cntTo_out _ fun j hj e => hk ?_
    rw [← e, List.getD_eq_getElem?_getD, List.getElem?_eq_getElem hj]; exact List.getElem_mem _
  have idx : ∀ k, k ∈ ss → ∃ j, j < ss.length ∧ ss.getD j 0 = k := fun k hk => by
    obtain ⟨j, hj, e⟩ := List.getElem_of_mem hk
    exact ⟨j, hj, by rw [List.getD_eq_getElem?_getD, List.getElem?_eq_getElem hj]; exact e⟩
  have lf : ∀ (sg : Int), (∀ x ∈ l, x = sg * ab x) → ∀ k, lift ss (vecOf l) k = sg * ga l * vecOf (cntTo n ss l ss.length) k := fun sg hsg k => by
    by_cases hk : k ∈ ss
    · obtain ⟨j, hj, rfl⟩ := idx k hk
      rw [lift_at nd _ hj]
      obtain ⟨q, _, h1, h2⟩ := val j hj
      have hm : l.getD j 0 ∈ l := by rw [List.getD_eq_getElem?_getD, List.getElem?_eq_getElem (by omega)]; exact List.getElem_mem _
      rw [h2]
      show l.getD j 0 = _
      rw [hsg _ hm, h1, Int.mul_assoc]
    · rw [lift_out _ hk, out k hk, Int.mul_zero]
  have sup : ∀ k, k ∈ ss ↔ 0 < vecOf (cntTo n ss l ss.length) k := fun k => by
    constructor
    · intro hk
      obtain ⟨j, hj, rfl⟩ := idx k hk
      obtain ⟨q, h0, _, h2⟩ := val j hj
      rw [h2]; exact h0
    · intro h
      by_cases hk : k ∈ ss
      · exact hk
      · rw [out k hk] at h; omega
  have nn : ∀ k, 0 ≤ vecOf (cntTo n ss l ss.length) k := fun k => by
    by_cases hk : k ∈ ss
    · exact Int.le_of_lt ((sup k).mp hk)
    · rw [out k hk]; exact Int.le_refl 0
  rcases hs with h | h
  · refine ⟨1 * ga l, by omega, by omega, lf 1 fun x hx => ?_, sup, nn⟩
    have := h x hx; unfold ab; rw [if_neg (by omega)]; omega
  · refine ⟨-1 * ga l, by omega, by omega, lf (-1) fun x hx => ?_, sup, nn⟩
    have := h x hx; unfold ab; rw [if_pos (by omega)]; omega
theorem getD_mem {l : List Int} {j : Nat} (h : j < l.length) : l.getD j 0 ∈ l := by
  rw [List.getD_eq_getElem?_getD, List.getElem?_eq_getElem h]; exact List.getElem_mem _
theorem cnt_prim {n : Nat} {ss : List Nat} {l : List Int} (nd : ss.Nodup) (hlt : ∀ k ∈ ss, k < n) (hl : l.length = ss.length) (hs : OneSign l) (hn : l ≠ []) : ga (cntTo n ss l ss.length) = 1 := by
  obtain ⟨s, s0, sg, h1, h2, h3⟩ := cnt_lift nd hlt hl hs hn
  have key : s * ga (cntTo n ss l ss.length) ∣ ga l := ga_greatest fun x hx => by
    obtain ⟨j, hj, e⟩ := List.getElem_of_mem hx
    have e1 : vecOf l j = x := by unfold vecOf; rw [List.getD_eq_getElem?_getD, List.getElem?_eq_getElem hj]; exact e
    have hj' : j < ss.length := by omega
    have e2 := h1 (ss.getD j 0)
    rw [lift_at nd _ hj', e1] at e2
    rw [e2]
    have hk : ss.getD j 0 < n := by
      apply hlt
      rw [List.getD_eq_getElem?_getD, List.getElem?_eq_getElem hj']; exact List.getElem_mem _
    exact Int.mul_dvd_mul (Int.dvd_refl s) (ga_dvd (getD_mem (by rw [cntTo_len]; exact hk)))
  have key2 : s * ga (cntTo n ss l ss.length) ∣ s * 1 := by
    rcases sg with e | e
    · rw [Int.mul_one]; conv => rhs; rw [e]
      exact key
    · have : ga l = -s := by omega
      rw [this] at key
      rw [Int.mul_one]; exact (Int.dvd_neg).mp key
  have key3 : ga (cntTo n ss l ss.length) ∣ 1 := Int.dvd_of_mul_dvd_mul_left s0 key2
  have := ga_nonneg (cntTo n ss l ss.length)
  exact Int.eq_one_of_dvd_one this key3
theorem lift_ker {ss : List Nat} {n w : Nat} {rows : Nat → List Int} (hlt : ∀ k ∈ ss, k < n) {c : Vec} (h : Ker (wares w ss.length fun i => rows (ss.getD i 0)) ss.length c) : KerS (wares w n rows) (fun k => k ∈ ss) (lift ss c) := by
  refine ⟨fun k hk => lift_out _ hk, fun f hf => ?_⟩
  obtain ⟨j, hj, rfl⟩ := List.mem_map.mp hf
  rw [lift_phi hlt]
  exact h.ev _ (List.mem_map.mpr ⟨j, hj, rfl⟩)
theorem rest_ker {ss : List Nat} {n w : Nat} {rows : Nat → List Int} (nd : ss.Nodup) (hlt : ∀ k ∈ ss, k < n) {d : Vec} (h : KerS (wares w n rows) (fun k => k ∈ ss) d) : Ker (wares w ss.length fun i => rows (ss.getD i 0)) ss.length (rest ss d) := by
  refine ⟨fun k hk => by unfold rest; rw [if_neg (by omega)], fun f hf => ?_⟩
  obtain ⟨j, hj, rfl⟩ := List.mem_map.mp hf
  have := lift_phi (M := fun k j => (rows k).getD j 0) hlt (rest ss d) j
  rw [lift_rest nd h.sup] at this
  rw [← this]
  exact h.ev _ (List.mem_map.mpr ⟨j, hj, rfl⟩)
theorem scale_zero {f : Vec → Int} (hf : IsLin f) {s : Int} (s0 : s ≠ 0) {v : Vec} (h : f (fun k => s * v k) = 0) : f v = 0 := by
  have := hf.add s v (fun _ => 0)
  simp only [Int.add_zero] at this
  rw [this, hf.zero, Int.add_zero] at h
  rcases Int.mul_eq_zero.mp h with e | e
  · exact absurd e s0
  · exact e
theorem accept {w : Nat} {m : List (List Int)} {ss : List Nat} (hw : ∀ row ∈ m, row.length = w) (nd : ss.Nodup) (hlt : ∀ k ∈ ss, k < m.length) (hE : (evenOf w ss.length (rowsAt m ss)).length = 1) (hs : OneSign ((evenOf w ss.length (rowsAt m ss)).getD 0 [])) :
    LeanR (wares w m.length (rowsOf m)) m.length (vecOf (cntTo m.length ss ((evenOf w ss.length (rowsAt m ss)).getD 0 []) ss.length)) ∧ (∀ k, k ∈ ss ↔ 0 < vecOf (cntTo m.length ss ((evenOf w ss.length (rowsAt m ss)).getD 0 []) ss.length) k) ∧ ga (cntTo m.length ss ((evenOf w ss.length (rowsAt m ss)).getD 0 []) ss.length) = 1 := by
  have hrow : ∀ k, k < ss.length → (rowsAt m ss k).length = w := fun k hk => by
    unfold rowsAt
    have hk' : ss.getD k 0 < m.length := by
      rw [List.getD_eq_getElem?_getD, List.getElem?_eq_getElem hk]
      exact hlt _ (List.getElem_mem hk)
    rw [List.getD_eq_getElem?_getD, List.getElem?_eq_getElem hk']
    exact hw _ (List.getElem_mem hk')
  have hone := (even_one hrow).mp hE
  have hmany := (even_many hrow).1
  have hvec := even_vec hrow
  have hlen := even_lens hrow
  generalize hEv : evenOf w ss.length (rowsAt m ss) = Ev at *
  obtain ⟨l, rfl⟩ := List.length_eq_one_iff.mp hE
  have e0 : List.getD [l] 0 [] = l := rfl
  rw [e0] at hs ⊢
  have hl : l.length = ss.length := hlen l (List.mem_singleton.mpr rfl)
  have hn : l ≠ [] := by
    rintro rfl
    rw [hE] at hmany
    rw [← hl] at hmany; exact absurd hmany (by decide)
  have hker : Ker (wares w ss.length (rowsAt m ss)) ss.length (vecOf l) := left_ker (wares_lin _ _ _) _ (by rw [← hvec]; exact List.mem_singleton.mpr rfl)
  have hkS : KerS (wares w m.length (rowsOf m)) (fun k => k ∈ ss) (lift ss (vecOf l)) := lift_ker (rows := rowsOf m) hlt hker
  obtain ⟨s, s0, sg, h1, h2, h3⟩ := cnt_lift nd hlt hl hs hn
  have hR : Round (wares w m.length (rowsOf m)) m.length (vecOf (cntTo m.length ss l ss.length)) := by
    refine ⟨fun k hk => ?_, h3, ?_, fun f hf => ?_⟩
    · have := h3 k
      have nk : ¬ 0 < vecOf (cntTo m.length ss l ss.length) k := fun q => by have := hlt k ((h2 k).mpr q); omega
      omega
    · have hss1 : 0 < ss.length := by omega
      exact ⟨ss[0], (h2 _).mp (List.getElem_mem hss1)⟩
    · refine scale_zero (wares_lin _ _ _ f hf) s0 (v := vecOf (cntTo m.length ss l ss.length)) ?_
      have : (fun k => s * vecOf (cntTo m.length ss l ss.length) k) = lift ss (vecOf l) := funext fun k => (h1 k).symm
      rw [this]; exact hkS.ev f hf
  refine ⟨(lean_iff (wares_lin _ _ _) hR).mpr ?_, h2, cnt_prim nd hlt hl hs hn⟩
  have hpred : (fun k => 0 < vecOf (cntTo m.length ss l ss.length) k) = fun k => k ∈ ss := funext fun k => propext (h2 k).symm
  rw [hpred]
  exact (one_some (rows := rowsOf m) nd hlt).mp hone
theorem ga_mul (t : Int) (xs : List Int) : ga (xs.map (t * ·)) = ab t * ga xs := by
  have key : ∀ (xs : List Int) (c : Int), 0 ≤ c → (xs.map (t * ·)).foldl (fun c x => g c (ab x)) (ab t * c) = ab t * xs.foldl (fun c x => g c (ab x)) c := by
    intro xs
    induction xs with
    | nil => intro c _; rfl
    | cons y r ih =>
      intro c hc
      have e : g (ab t * c) (ab (t * y)) = ab t * g c (ab y) := by
        have e1 : ab (t * y) = ab t * ab y := by
          have : ∀ x : Int, ab x = (x.natAbs : Int) := fun x => by unfold ab; split <;> omega
          rw [this, this, this, Int.natAbs_mul]; simp
        rw [e1]
        unfold g
        rw [Int.gcd_mul_left]
        have : ((ab t).natAbs : Int) = ab t := by have := ab_nonneg t; omega
        rw [Int.natCast_mul, this]
      rw [List.map_cons, List.foldl_cons, List.foldl_cons]
      show List.foldl _ (g (ab t * c) (ab (t * y))) _ = _
      rw [e]
      exact ih _ (g_nonneg _ _)
  have := key xs 0 (Int.le_refl 0)
  rw [Int.mul_zero] at this
  exact this
theorem ga_mul_dvd {p t : Int} {xs : List Int} (h : ∀ x ∈ xs, p ∣ t * x) : p ∣ t * ga xs := by
  have h1 : p ∣ ga (xs.map (t * ·)) := ga_greatest fun x hx => by
    obtain ⟨y, hy, rfl⟩ := List.mem_map.mp hx
    exact h y hy
  rw [ga_mul] at h1
  unfold ab at h1
  split at h1
  · rw [Int.neg_mul] at h1; exact Int.dvd_neg.mp h1
  · exact h1
theorem prim_eq {xs ys : List Int} {a t : Int} (hl : xs.length = ys.length) (ha : a ≠ 0) (h : ∀ k, a * vecOf xs k = t * vecOf ys k) (gx : ga xs = 1) (gy : ga ys = 1) (nx : ∀ k, 0 ≤ vecOf xs k) (ny : ∀ k, 0 ≤ vecOf ys k) : xs = ys := by
  have at1 : ∀ {zs : List Int} {x : Int}, x ∈ zs → ∃ k, vecOf zs k = x := fun {zs x} hx => by
    obtain ⟨j, hj, e⟩ := List.getElem_of_mem hx
    exact ⟨j, by unfold vecOf; rw [List.getD_eq_getElem?_getD, List.getElem?_eq_getElem hj]; exact e⟩
  have d1 : a ∣ t := by
    have := ga_mul_dvd (p := a) (t := t) (xs := ys) fun y hy => by
      obtain ⟨k, rfl⟩ := at1 hy
      exact ⟨_, (h k).symm⟩
    rw [gy, Int.mul_one] at this; exact this
  have d2 : t ∣ a := by
    have := ga_mul_dvd (p := t) (t := a) (xs := xs) fun y hy => by
      obtain ⟨k, rfl⟩ := at1 hy
      exact ⟨_, h k⟩
    rw [gx, Int.mul_one] at this; exact this
  have hnat : a.natAbs = t.natAbs := Nat.dvd_antisymm (Int.natAbs_dvd_natAbs.mpr d1) (Int.natAbs_dvd_natAbs.mpr d2)
  have hsome : ∃ x ∈ xs, x ≠ 0 := Classical.byContradiction fun q => by
    have : ga xs = 0 := ga_zero fun x hx => Classical.byContradiction fun hx0 => q ⟨x, hx, hx0⟩
    omega
  obtain ⟨x, hx, hx0⟩ := hsome
  obtain ⟨k0, rfl⟩ := at1 hx
  have eqv : ∀ k, vecOf xs k = vecOf ys k := by
    have hcase : t = a ∨ t = -a := by omega
    rcases hcase with rfl | rfl
    · exact fun k => Int.eq_of_mul_eq_mul_left ha (h k)
    · exfalso
      have h0 := h k0
      rw [Int.neg_mul] at h0
      have h1 : a * (vecOf xs k0 + vecOf ys k0) = 0 := by rw [Int.mul_add]; omega
      rcases Int.mul_eq_zero.mp h1 with e | e
      · exact ha e
      · have := nx k0; have := ny k0; omega
  apply List.ext_getElem hl
  intro j h1 h2
  have := eqv j
  unfold vecOf at this
  rw [List.getD_eq_getElem?_getD, List.getD_eq_getElem?_getD, List.getElem?_eq_getElem h1, List.getElem?_eq_getElem h2] at this
  exact this
theorem lean_accept {w : Nat} {m : List (List Int)} {ss : List Nat} {c : List Int} (hw : ∀ row ∈ m, row.length = w) (nd : ss.Nodup) (hlt : ∀ k ∈ ss, k < m.length) (hc : LeanR (wares w m.length (rowsOf m)) m.length (vecOf c)) (hsup : ∀ k, k ∈ ss ↔ 0 < vecOf c k) :
    (evenOf w ss.length (rowsAt m ss)).length = 1 ∧ OneSign ((evenOf w ss.length (rowsAt m ss)).getD 0 []) ∧ ss.length ≤ w + 1 ∧ (c.length = m.length → ga c = 1 → cntTo m.length ss ((evenOf w ss.length (rowsAt m ss)).getD 0 []) ss.length = c) := by
  have hrow : ∀ k, k < ss.length → (rowsAt m ss k).length = w := fun k hk => by
    unfold rowsAt
    have hk' : ss.getD k 0 < m.length := by
      rw [List.getD_eq_getElem?_getD, List.getElem?_eq_getElem hk]
      exact hlt _ (List.getElem_mem hk)
    rw [List.getD_eq_getElem?_getD, List.getElem?_eq_getElem hk']
    exact hw _ (List.getElem_mem hk')
  have hpred : (fun k => 0 < vecOf c k) = fun k => k ∈ ss := funext fun k => propext (hsup k).symm
  have h1S := (lean_iff (wares_lin _ _ _) hc.1).mp hc
  rw [hpred] at h1S
  have hker1 : Ker1 (wares w ss.length (rowsAt m ss)) ss.length := (one_some (rows := rowsOf m) nd hlt).mpr h1S
  have hE := (even_one hrow).mpr hker1
  have hmany := (even_many hrow).2
  have hvec := even_vec hrow
  have hlen := even_lens hrow
  have hind : Indep (elim (wares w ss.length (rowsAt m ss)) (units ss.length)) := elim_indep (units_indep _)
  generalize hEv : evenOf w ss.length (rowsAt m ss) = Ev at *
  obtain ⟨l, rfl⟩ := List.length_eq_one_iff.mp hE
  have e0 : List.getD [l] 0 [] = l := rfl
  rw [e0]
  have hl : l.length = ss.length := hlen l (List.mem_singleton.mpr rfl)
  have hcS : KerS (wares w m.length (rowsOf m)) (fun k => k ∈ ss) (vecOf c) := ⟨fun k hk => by have := hc.1.nn k; have h' : ¬ 0 < vecOf c k := fun q => hk ((hsup k).mpr q); omega, hc.1.ev⟩
  have hcK := rest_ker (rows := rowsOf m) nd hlt hcS
  obtain ⟨a, ha, hsp⟩ := ker_left (wares_lin w ss.length (rowsAt m ss)) hcK
  have hvec' : elim (wares w ss.length (rowsAt m ss)) (units ss.length) = [vecOf l] := hvec.symm
  rw [hvec'] at hsp
  obtain ⟨b, hb⟩ := span_one hsp
  have hpos : ∀ j, j < ss.length → 0 < rest ss (vecOf c) j := fun j hj => by
    unfold rest
    rw [if_pos hj]
    apply (hsup _).mp
    rw [List.getD_eq_getElem?_getD, List.getElem?_eq_getElem hj]; exact List.getElem_mem _
  have hss1 : 0 < ss.length := by
    obtain ⟨k, hk⟩ := hc.1.some
    exact List.length_pos_of_mem ((hsup k).mpr hk)
  have hb0 : b ≠ 0 := by
    intro e
    have := hb 0
    rw [e, Int.zero_mul] at this
    rcases Int.mul_eq_zero.mp this with q | q
    · exact ha q
    · have := hpos 0 hss1; omega
  have hl0 : l ≠ [] := by
    rintro rfl
    rw [← hl] at hss1; exact absurd hss1 (by decide)
  have hOS : OneSign l := by
    have hx : ∀ x ∈ l, ∃ q : Int, 0 < q ∧ a * q = b * x := fun x hx => by
      obtain ⟨j, hj, e⟩ := List.getElem_of_mem hx
      refine ⟨_, hpos j (by omega), ?_⟩
      rw [hb j]
      unfold vecOf
      rw [List.getD_eq_getElem?_getD, List.getElem?_eq_getElem hj, ← e]; rfl
    by_cases hab : (0 < a ∧ 0 < b) ∨ (a < 0 ∧ b < 0)
    · left
      intro x hx'
      obtain ⟨q, q0, e⟩ := hx x hx'
      rcases hab with ⟨a0, b0⟩ | ⟨a0, b0⟩
      · have : 0 < b * x := by rw [← e]; exact Int.mul_pos a0 q0
        exact Int.pos_of_mul_pos_right this (by omega)
      · have : 0 < (-b) * x := by rw [Int.neg_mul, ← e, ← Int.neg_mul]; exact Int.mul_pos (by omega) q0
        exact Int.pos_of_mul_pos_right this (by omega)
    · right
      intro x hx'
      obtain ⟨q, q0, e⟩ := hx x hx'
      have hab' : (0 < a ∧ b < 0) ∨ (a < 0 ∧ 0 < b) := by omega
      rcases hab' with ⟨a0, b0⟩ | ⟨a0, b0⟩
      · have : 0 < (-b) * (-x) := by rw [Int.neg_mul_neg, ← e]; exact Int.mul_pos a0 q0
        have := Int.pos_of_mul_pos_right this (by omega)
        omega
      · have : 0 < b * (-x) := by rw [Int.mul_neg, ← e, ← Int.neg_mul]; exact Int.mul_pos (by omega) q0
        have := Int.pos_of_mul_pos_right this (by omega)
        omega
  refine ⟨hE, hOS, by rw [hE] at hmany; omega, fun hcl hcg => ?_⟩
  obtain ⟨s, s0, sg, h1, h2, h3⟩ := cnt_lift nd hlt hl hOS hl0
  refine (prim_eq (a := a) (t := b * s) (xs := c) (by rw [cntTo_len]; exact hcl) ha (fun k => ?_) hcg (cnt_prim nd hlt hl hOS hl0) hc.1.nn h3).symm
  rw [Int.mul_assoc, ← h1 k]
  by_cases hk : k ∈ ss
  · obtain ⟨j, hj, e⟩ := List.getElem_of_mem hk
    have e' : ss.getD j 0 = k := by rw [List.getD_eq_getElem?_getD, List.getElem?_eq_getElem hj, ← e]; rfl
    rw [← e', lift_at nd _ hj, ← hb j]
    unfold rest
    rw [if_pos hj]
  · rw [lift_out _ hk, hcS.sup k hk]; simp
end My
set_option Elab.async false
set_option linter.all false
namespace My
theorem bits_of (q : Nat → Bool) : ∀ n, ∃ b, b < 2 ^ n ∧ ∀ i, i < n → b.testBit i = q i := by
  intro n
  induction n generalizing q with
  | zero => exact ⟨0, by decide, fun i hi => absurd hi (Nat.not_lt_zero i)⟩
  | succ n ih =>
    obtain ⟨b, hb, h⟩ := ih fun i => q (i + 1)
    refine ⟨2 * b + (if q 0 then 1 else 0), by rw [Nat.pow_succ]; split <;> omega, fun i hi => ?_⟩
    cases i with
    | zero =>
      rw [Nat.testBit_zero]
      cases e : q 0
      · simp
      · simp
    | succ i =>
      rw [Nat.testBit_succ]
      have e : (2 * b + (if q 0 then 1 else 0)) / 2 = b := by split <;> omega
      rw [e]; exact h i (by omega)
theorem bit_lt : ∀ (x y : Nat), x < y → ∃ i, x.testBit i = false ∧ y.testBit i = true ∧ ∀ j, i < j → x.testBit j = y.testBit j
  | x, y => fun h => by
    by_cases h2 : x / 2 < y / 2
    · obtain ⟨i, h3, h4, h5⟩ := bit_lt (x / 2) (y / 2) h2
      refine ⟨i + 1, by rw [Nat.testBit_succ]; exact h3, by rw [Nat.testBit_succ]; exact h4, fun j hj => ?_⟩
      obtain ⟨j, rfl⟩ : ∃ j', j = j' + 1 := ⟨j - 1, by omega⟩
      rw [Nat.testBit_succ, Nat.testBit_succ]; exact h5 j (by omega)
    · have e : x / 2 = y / 2 := by omega
      refine ⟨0, by rw [Nat.testBit_zero]; simp; omega, by rw [Nat.testBit_zero]; simp; omega, fun j hj => ?_⟩
      obtain ⟨j, rfl⟩ : ∃ j', j = j' + 1 := ⟨j - 1, by omega⟩
      rw [Nat.testBit_succ, Nat.testBit_succ, e]
termination_by x y => y
decreasing_by omega
noncomputable def Ahead (a b : List Int) : Prop := ∃ k, (∀ j, j < k → (0 < vecOf a j ↔ 0 < vecOf b j)) ∧ 0 < vecOf a k ∧ ¬ 0 < vecOf b k
theorem Ahead.asym {a b : List Int} (h : Ahead a b) : ¬ Ahead b a := by
  rintro ⟨k2, h4, h5, h6⟩
  obtain ⟨k1, h1, h2, h3⟩ := h
  rcases Nat.lt_trichotomy k1 k2 with h | h | h
  · exact h3 ((h4 k1 h).mpr h2)
  · rw [h] at h2; exact h6 h2
  · exact h6 ((h1 k2 h).mpr h5)
theorem sorted_unique {α : Type} {R : α → α → Prop} (asym : ∀ a b, R a b → ¬ R b a) : ∀ {l1 l2 : List α}, l1.Pairwise R → l2.Pairwise R → (∀ x, x ∈ l1 ↔ x ∈ l2) → l1 = l2
  | [], [], _, _, _ => rfl
  | [], b :: t, _, _, h => absurd ((h b).mpr (.head _)) (by simp)
  | a :: t, [], _, _, h => absurd ((h a).mp (.head _)) (by simp)
  | a :: t1, b :: t2, h1, h2, h => by
    obtain ⟨p1, q1⟩ := List.pairwise_cons.mp h1
    obtain ⟨p2, q2⟩ := List.pairwise_cons.mp h2
    have eab : a = b := by
      rcases List.mem_cons.mp ((h a).mp (.head _)) with e | e
      · exact e
      · rcases List.mem_cons.mp ((h b).mpr (.head _)) with e2 | e2
        · exact e2.symm
        · exact absurd (p1 b e2) (asym _ _ (p2 a e))
    subst eab
    congr 1
    refine sorted_unique asym q1 q2 fun x => ⟨fun hx => ?_, fun hx => ?_⟩
    · rcases List.mem_cons.mp ((h x).mp (.tail _ hx)) with e | e
      · subst e; exact absurd (p1 x hx) (asym _ _ (p1 x hx))
      · exact e
    · rcases List.mem_cons.mp ((h x).mpr (.tail _ hx)) with e | e
      · subst e; exact absurd (p2 x hx) (asym _ _ (p2 x hx))
      · exact e
noncomputable abbrev evenB (w : Nat) (m : List (List Int)) (b : Nat) : List (List Int) := evenOf w (setOf m.length b).length (rowsAt m (setOf m.length b))
noncomputable def Take (w : Nat) (m : List (List Int)) (b : Nat) : Prop := (evenB w m b).length = 1 ∧ OneSign ((evenB w m b).getD 0 [])
noncomputable instance {w : Nat} {m : List (List Int)} {b : Nat} : Decidable (Take w m b) := inferInstanceAs (Decidable (_ ∧ _))
noncomputable def cntB (w : Nat) (m : List (List Int)) (b : Nat) : List Int := cntTo m.length (setOf m.length b) ((evenB w m b).getD 0 []) (setOf m.length b).length
noncomputable def leanN (w : Nat) (m : List (List Int)) : Nat → List (Nat × List Int)
  | 0 => []
  | i + 1 => if (leanN w m i).filter (fun f => decide (f.1 &&& (i + 1) = f.1)) = [] ∧ (setOf m.length (i + 1)).length ≤ w + 1 then (if Take w m (i + 1) then leanN w m i ++ [(i + 1, cntB w m (i + 1))] else leanN w m i) else leanN w m i
noncomputable def takes (w : Nat) (m : List (List Int)) (i : Nat) : List Nat := (List.range' 1 i).filter fun b => decide (Take w m b)
theorem set_lt {n b : Nat} : ∀ k ∈ setOf n b, k < n := fun k hk => (setOf_mem.mp hk).1
theorem set_sub {n b b' : Nat} (h : b' &&& b = b') : ∀ k ∈ setOf n b', k ∈ setOf n b := fun k hk => by
  obtain ⟨h1, h2⟩ := setOf_mem.mp hk
  refine setOf_mem.mpr ⟨h1, ?_⟩
  rw [← h, Nat.testBit_and] at h2
  simp at h2; exact h2.2
theorem set_inj {n b b' : Nat} (hb : b < 2 ^ n) (hb' : b' < 2 ^ n) (h : ∀ k, k ∈ setOf n b ↔ k ∈ setOf n b') : b = b' := by
  apply Nat.eq_of_testBit_eq
  intro i
  by_cases hi : i < n
  · have := h (n - 1 - i)
    rw [setOf_mem, setOf_mem] at this
    have e : n - 1 - (n - 1 - i) = i := by omega
    rw [e] at this
    have h' : n - 1 - i < n := by omega
    simp only [h', true_and] at this
    rw [Bool.eq_iff_iff]; exact this
  · rw [Nat.testBit_lt_two_pow (Nat.lt_of_lt_of_le hb (Nat.pow_le_pow_right (by decide) (by omega))), Nat.testBit_lt_two_pow (Nat.lt_of_lt_of_le hb' (Nat.pow_le_pow_right (by decide) (by omega)))]
theorem take_ok {w : Nat} {m : List (List Int)} (hw : ∀ row ∈ m, row.length = w) {b : Nat} (h : Take w m b) :
    LeanR (wares w m.length (rowsOf m)) m.length (vecOf (cntB w m b)) ∧ (∀ k, k ∈ setOf m.length b ↔ 0 < vecOf (cntB w m b) k) ∧ ga (cntB w m b) = 1 := accept hw (setOf_nodup _ _) set_lt h.1 h.2
theorem leanN_eq {w : Nat} {m : List (List Int)} (hw : ∀ row ∈ m, row.length = w) : ∀ i, i < 2 ^ m.length → leanN w m i = (takes w m i).map fun b => (b, cntB w m b)
  | 0, _ => rfl
  | i + 1, hi => by
    have ih := leanN_eq hw i (by omega)
    unfold leanN
    have hsucc : takes w m (i + 1) = takes w m i ++ if Take w m (i + 1) then [i + 1] else [] := by
      unfold takes
      rw [List.range'_1_concat, List.filter_append]
      congr 1
      rw [List.filter_cons, List.filter_nil]
      have : 1 + i = i + 1 := by omega
      rw [this]
      by_cases h : Take w m (i + 1)
      · rw [if_pos h, if_pos (by simpa using h)]
      · rw [if_neg h, if_neg (by simpa using h)]
    rw [hsucc]
    by_cases h : Take w m (i + 1)
    · have hov : (leanN w m i).filter (fun f => decide (f.1 &&& (i + 1) = f.1)) = [] := by
        rw [List.filter_eq_nil_iff]
        intro f hf hd
        rw [ih] at hf
        obtain ⟨b', hb', rfl⟩ := List.mem_map.mp hf
        unfold takes at hb'
        obtain ⟨hr, ht⟩ := List.mem_filter.mp hb'
        rw [List.mem_range'_1] at hr
        have ht' : Take w m b' := by simpa using ht
        have hd' : b' &&& (i + 1) = b' := by simpa using hd
        obtain ⟨l1, s1, _⟩ := take_ok hw h
        obtain ⟨l2, s2, _⟩ := take_ok hw ht'
        have hall := l1.2 _ l2.1 (fun k hk => (s1 k).mp (set_sub hd' k ((s2 k).mpr hk)))
        have : b' = i + 1 := set_inj (n := m.length) (by omega) hi fun k => ⟨set_sub hd' k, fun hk => (s2 k).mpr (hall k ((s1 k).mp hk))⟩
        omega
      have hlen : (setOf m.length (i + 1)).length ≤ w + 1 := by
        obtain ⟨l1, s1, _⟩ := take_ok hw h
        exact (lean_accept hw (setOf_nodup _ _) set_lt l1 s1).2.2.1
      rw [if_pos ⟨hov, hlen⟩, if_pos h, if_pos h, ih, List.map_append]; rfl
    · rw [if_neg h, if_neg h, List.append_nil, ← ih]
      split <;> rfl
noncomputable def leanL (w : Nat) (m : List (List Int)) : List (List Int) := ((leanN w m (2 ^ m.length - 1)).reverse).map Prod.snd
theorem leanL_eq {w : Nat} {m : List (List Int)} (hw : ∀ row ∈ m, row.length = w) : leanL w m = (takes w m (2 ^ m.length - 1)).reverse.map (cntB w m) := by
  unfold leanL
  have := Nat.two_pow_pos m.length
  rw [leanN_eq hw _ (by omega), ← List.map_reverse, List.map_map]; rfl
theorem leanL_mem {w : Nat} {m : List (List Int)} (hw : ∀ row ∈ m, row.length = w) (c : List Int) : c ∈ leanL w m ↔ c.length = m.length ∧ LeanR (wares w m.length (rowsOf m)) m.length (vecOf c) ∧ ga c = 1 := by
  have h2 := Nat.two_pow_pos m.length
  rw [leanL_eq hw, List.mem_map]
  constructor
  · rintro ⟨b, hb, rfl⟩
    rw [List.mem_reverse] at hb
    have ht : Take w m b := by simpa using (List.mem_filter.mp hb).2
    obtain ⟨l1, _, l3⟩ := take_ok hw ht
    exact ⟨cntTo_len _, l1, l3⟩
  · rintro ⟨hl, hc, hg⟩
    obtain ⟨b, hb, hbit⟩ := bits_of (fun i => decide (0 < vecOf c (m.length - 1 - i))) m.length
    have hsup : ∀ k, k ∈ setOf m.length b ↔ 0 < vecOf c k := fun k => by
      rw [setOf_mem]
      constructor
      · rintro ⟨h1, h3⟩
        rw [hbit _ (by omega)] at h3
        have e : m.length - 1 - (m.length - 1 - k) = k := by omega
        rw [e] at h3; simpa using h3
      · intro h
        have hk : k < m.length := Classical.byContradiction fun q => by
          have := hc.1.sup k (by omega); omega
        refine ⟨hk, ?_⟩
        rw [hbit _ (by omega)]
        have e : m.length - 1 - (m.length - 1 - k) = k := by omega
        rw [e]; simpa using h
    obtain ⟨a1, a2, _, a4⟩ := lean_accept hw (setOf_nodup _ _) set_lt hc hsup
    have hb0 : b ≠ 0 := by
      rintro rfl
      obtain ⟨k, hk⟩ := hc.1.some
      have := (setOf_mem.mp ((hsup k).mpr hk)).2
      simp at this
    refine ⟨b, ?_, a4 hl hg⟩
    rw [List.mem_reverse]
    refine List.mem_filter.mpr ⟨by rw [List.mem_range'_1]; omega, decide_eq_true (show Take w m b from ⟨a1, a2⟩)⟩
theorem leanL_sorted {w : Nat} {m : List (List Int)} (hw : ∀ row ∈ m, row.length = w) : (leanL w m).Pairwise Ahead := by
  have h2 := Nat.two_pow_pos m.length
  rw [leanL_eq hw, List.pairwise_map, List.pairwise_reverse]
  have hp : (takes w m (2 ^ m.length - 1)).Pairwise (fun a b => a < b) := List.Pairwise.filter _ (List.pairwise_lt_range' ..)
  refine List.Pairwise.imp_of_mem ?_ hp
  intro a b ha hb hab
  have ta : Take w m a := by simpa using (List.mem_filter.mp ha).2
  have tb : Take w m b := by simpa using (List.mem_filter.mp hb).2
  have rb := (List.mem_filter.mp hb).1
  rw [List.mem_range'_1] at rb
  obtain ⟨_, s1, _⟩ := take_ok hw ta
  obtain ⟨_, s2, _⟩ := take_ok hw tb
  obtain ⟨i, e1, e2, e3⟩ := bit_lt a b hab
  have hi : i < m.length := Classical.byContradiction fun q => by
    have : b.testBit i = false := Nat.testBit_lt_two_pow (Nat.lt_of_lt_of_le (show b < 2 ^ m.length by omega) (Nat.pow_le_pow_right (by decide) (by omega)))
    rw [this] at e2; cases e2
  have e : m.length - 1 - (m.length - 1 - i) = i := by omega
  refine ⟨m.length - 1 - i, fun j hj => ?_, ?_, fun q => ?_⟩
  · rw [← s1, ← s2, setOf_mem, setOf_mem, e3 (m.length - 1 - j) (by omega)]
  · rw [← s2, setOf_mem, e]; exact ⟨by omega, e2⟩
  · rw [← s1, setOf_mem, e, e1] at q
    exact absurd q.2 (by decide)
theorem leanL_unique {w : Nat} {m L : List (List Int)} (hw : ∀ row ∈ m, row.length = w) (h : ∀ c, c ∈ L ↔ c.length = m.length ∧ LeanR (wares w m.length (rowsOf m)) m.length (vecOf c) ∧ ga c = 1) (hs : L.Pairwise Ahead) : L = leanL w m :=
  sorted_unique (fun _ _ h => h.asym) hs (leanL_sorted hw) fun c => by rw [h, leanL_mem hw]
end My
set_option Elab.async false
set_option linter.all false
namespace My
section
variable {fs : List (Vec → Int)} {n : Nat}
noncomputable def size (n : Nat) (c : Vec) : Nat := ((List.range n).filter fun k => decide (0 < c k)).length
theorem size_lt {c d : Vec} (hs : ∀ k, 0 < d k → 0 < c k) {k0 : Nat} (hk : k0 < n) (h1 : 0 < c k0) (h2 : ¬ 0 < d k0) : size n d < size n c := by
  unfold size
  induction n with
  | zero => omega
  | succ n ih =>
    rw [List.range_succ, List.filter_append, List.filter_append, List.length_append, List.length_append]
    have le : ∀ m, ((List.range m).filter fun k => decide (0 < d k)).length ≤ ((List.range m).filter fun k => decide (0 < c k)).length := fun m => by
      induction m with
      | zero => simp
      | succ m ihm =>
        rw [List.range_succ, List.filter_append, List.filter_append, List.length_append, List.length_append]
        have : ([m].filter fun k => decide (0 < d k)).length ≤ ([m].filter fun k => decide (0 < c k)).length := by
          by_cases q : 0 < d m
          · simp [q, hs m q]
          · simp [q]
        omega
    by_cases e : k0 = n
    · subst e
      have e1 : ([k0].filter fun k => decide (0 < d k)).length = 0 := by simp [h2]
      have e2 : ([k0].filter fun k => decide (0 < c k)).length = 1 := by simp [h1]
      have := le k0
      omega
    · have := ih (by omega)
      have : ([n].filter fun k => decide (0 < d k)).length ≤ ([n].filter fun k => decide (0 < c k)).length := by
        by_cases q : 0 < d n
        · simp [q, hs n q]
        · simp [q]
      omega
theorem Round.lt {c : Vec} (h : Round fs n c) {k : Nat} (hk : 0 < c k) : k < n := Classical.byContradiction fun q => by
  have := h.sup k (by omega); omega
theorem lean_in {d : Vec} (h : Round fs n d) : ∃ r, LeanR fs n r ∧ ∀ k, 0 < r k → 0 < d k := by
  generalize hz : size n d = z
  induction z using Nat.strongRecOn generalizing d with
  | _ z ih =>
    by_cases hl : LeanR fs n d
    · exact ⟨d, hl, fun _ q => q⟩
    · have : ∃ e, Round fs n e ∧ (∀ k, 0 < e k → 0 < d k) ∧ ∃ k, 0 < d k ∧ ¬ 0 < e k := Classical.byContradiction fun q => hl ⟨h, fun e he hs k hk => Classical.byContradiction fun q2 => q ⟨e, he, hs, k, hk, q2⟩⟩
      obtain ⟨e, he, hs, k, hk, hk2⟩ := this
      obtain ⟨r, hr, hrs⟩ := ih (size n e) (by rw [← hz]; exact size_lt hs (h.lt hk) hk hk2) he rfl
      exact ⟨r, hr, fun k q => hs k (hrs k q)⟩
theorem peel (hl : ∀ f ∈ fs, IsLin f) {d r : Vec} (h : Round fs n d) (hr : LeanR fs n r) (hs : ∀ k, 0 < r k → 0 < d k) :
    ∃ p, 0 < r p ∧ (∀ k, 0 ≤ r p * d k - d p * r k) ∧ ((∀ k, r p * d k - d p * r k = 0) ∨ Round fs n (fun k => r p * d k - d p * r k)) := by
  rcases best_share (S := fun k => 0 < r k) (c := d) (u := r) (fun k hk => hs k hk) n with hno | ⟨p, h1, h2, h3⟩
  · obtain ⟨k, hk⟩ := hr.1.some
    exact absurd hk (hno k (hr.1.lt hk))
  · have nn : ∀ k, 0 ≤ r p * d k - d p * r k := fun k => by
      by_cases hk : 0 < r k
      · have := h3 k (hr.1.lt hk) hk
        have e : d p * r k = r k * d p := Int.mul_comm ..
        omega
      · have e : r k = 0 := by have := hr.1.nn k; omega
        rw [e, Int.mul_zero, Int.sub_zero]
        exact Int.mul_nonneg (by omega) (h.nn k)
    refine ⟨p, h2, nn, ?_⟩
    by_cases hz : ∀ k, r p * d k - d p * r k = 0
    · exact .inl hz
    · right
      refine ⟨fun k hk => ?_, nn, ?_, fun f hf => ?_⟩
      · show r p * d k - d p * r k = 0
        rw [h.sup k hk, hr.1.sup k hk]; simp
      · obtain ⟨k, hk⟩ := Classical.not_forall.mp hz
        exact ⟨k, by have := nn k; show 0 < r p * d k - d p * r k; omega⟩
      · have e : (fun k => r p * d k - d p * r k) = fun k => r p * d k + -(d p) * r k := by funext k; grind
        rw [e, lin_two (hl f hf), h.ev f hf, hr.1.ev f hf]; simp
theorem round_ind (hl : ∀ f ∈ fs, IsLin f) {P : Vec → Prop}
    (step : ∀ d r p, Round fs n d → LeanR fs n r → (∀ k, 0 < r k → 0 < d k) → 0 < r p → 0 < d p → (∀ k, 0 ≤ r p * d k - d p * r k) →
      ((∀ k, r p * d k - d p * r k = 0) ∨ (Round fs n (fun k => r p * d k - d p * r k) ∧ P (fun k => r p * d k - d p * r k))) → P d) : ∀ {d}, Round fs n d → P d := by
  intro d h
  generalize hz : size n d = z
  induction z using Nat.strongRecOn generalizing d with
  | _ z ih =>
    obtain ⟨r, hr, hs⟩ := lean_in h
    obtain ⟨p, h2, nn, hc⟩ := peel hl h hr hs
    refine step d r p h hr hs h2 (hs p h2) nn ?_
    rcases hc with hc | hc
    · exact .inl hc
    · refine .inr ⟨hc, ih _ ?_ hc rfl⟩
      rw [← hz]
      have z0 : r p * d p - d p * r p = 0 := by grind
      refine size_lt (k0 := p) (fun k hk => ?_) (h.lt (hs p h2)) (hs p h2) (show ¬ 0 < r p * d p - d p * r p by omega)
      refine Classical.byContradiction fun q => ?_
      have e : d k = 0 := by have := h.nn k; omega
      have e2 : r k = 0 := Classical.byContradiction fun q2 => q (hs k (by have := hr.1.nn k; omega))
      have hk' : 0 < r p * d k - d p * r k := hk
      rw [e, e2] at hk'; simp at hk'
theorem lean_same (hl : ∀ f ∈ fs, IsLin f) {a b : Vec} (ha : LeanR fs n a) (hb : Round fs n b) (hs : ∀ k, 0 < b k → 0 < a k) : ∃ s t : Int, 0 < s ∧ 0 < t ∧ ∀ k, s * a k = t * b k := by
  obtain ⟨p, h2, nn, hc⟩ := peel hl (d := a) (r := b) ha.1 ⟨hb, fun d hd hds k hk => (ha.2 d hd (fun j hj => hs j (hds j hj))) k (hs k hk)⟩ hs
  rcases hc with hc | hc
  · refine ⟨b p, a p, h2, hs p h2, fun k => ?_⟩
    have := hc k; omega
  · exfalso
    have := ha.2 _ hc (fun k hk => Classical.byContradiction fun q => ?_) p (hs p h2)
    · have hk' : 0 < b p * a p - a p * b p := this
      have : b p * a p - a p * b p = 0 := by grind
      omega
    · have e : a k = 0 := by have := ha.1.nn k; omega
      have e2 : b k = 0 := Classical.byContradiction fun q2 => q (hs k (by have := hb.nn k; omega))
      have hk' : 0 < b p * a k - a p * b k := hk
      rw [e, e2] at hk'; simp at hk'
end
section
variable {fs : List (Vec → Int)} {f : Vec → Int} {n : Nat}
theorem Round.less {d : Vec} (h : Round (fs ++ [f]) n d) : Round fs n d := ⟨h.sup, h.nn, h.some, fun g hg => h.ev g (List.mem_append_left _ hg)⟩
theorem Round.more {d : Vec} (h : Round fs n d) (h0 : f d = 0) : Round (fs ++ [f]) n d := ⟨h.sup, h.nn, h.some, fun g hg => by
  rcases List.mem_append.mp hg with q | q
  · exact h.ev g q
  · rw [List.mem_singleton.mp q]; exact h0⟩
noncomputable def Near (fs : List (Vec → Int)) (n : Nat) (a b : Vec) : Prop := ∀ r, LeanR fs n r → (∀ k, 0 < r k → 0 < a k ∨ 0 < b k) → (∀ k, 0 < r k ↔ 0 < a k) ∨ (∀ k, 0 < r k ↔ 0 < b k)
noncomputable def mixV (f : Vec → Int) (a b : Vec) : Vec := fun k => -(f b) * a k + f a * b k
theorem mix_sup {a b : Vec} (na : ∀ k, 0 ≤ a k) (nb : ∀ k, 0 ≤ b k) (fa : 0 < f a) (fb : f b < 0) (k : Nat) : 0 < mixV f a b k ↔ 0 < a k ∨ 0 < b k := by
  unfold mixV
  have h1 : 0 ≤ -(f b) * a k := Int.mul_nonneg (by omega) (na k)
  have h2 : 0 ≤ f a * b k := Int.mul_nonneg (by omega) (nb k)
  constructor
  · intro h
    refine Classical.byContradiction fun q => ?_
    have e1 : a k = 0 := by have := na k; omega
    have e2 : b k = 0 := by have := nb k; omega
    rw [e1, e2] at h; simp at h
  · rintro (h | h)
    · have := Int.mul_pos (show 0 < -(f b) by omega) h
      omega
    · have := Int.mul_pos fa h
      omega
theorem mix_round (hl : ∀ g ∈ fs, IsLin g) (hf : IsLin f) {a b : Vec} (ha : Round fs n a) (hb : Round fs n b) (fa : 0 < f a) (fb : f b < 0) : Round (fs ++ [f]) n (mixV f a b) := by
  refine Round.more ⟨fun k hk => ?_, fun k => ?_, ?_, fun g hg => ?_⟩ ?_
  · unfold mixV; rw [ha.sup k hk, hb.sup k hk]; simp
  · refine Classical.byContradiction fun q => ?_
    have h1 : 0 ≤ -(f b) * a k := Int.mul_nonneg (by omega) (ha.nn k)
    have h2 : 0 ≤ f a * b k := Int.mul_nonneg (by omega) (hb.nn k)
    unfold mixV at q; omega
  · obtain ⟨k, hk⟩ := ha.some
    exact ⟨k, (mix_sup ha.nn hb.nn fa fb k).mpr (.inl hk)⟩
  · unfold mixV
    rw [lin_two (hl g hg), ha.ev g hg, hb.ev g hg]; simp
  · unfold mixV
    rw [lin_two hf]; grind
theorem dd_sound (hl : ∀ g ∈ fs, IsLin g) (hf : IsLin f) {a b : Vec} (ha : LeanR fs n a) (hb : LeanR fs n b) (fa : 0 < f a) (fb : f b < 0) (hn : Near fs n a b) : LeanR (fs ++ [f]) n (mixV f a b) := by
  have key : ∀ {d}, Round fs n d → (∀ k, 0 < d k → 0 < a k ∨ 0 < b k) → ∃ x y z : Int, 0 < x ∧ 0 ≤ y ∧ 0 ≤ z ∧ ∀ k, x * d k = y * a k + z * b k := by
    intro d hd
    refine round_ind hl (P := fun d => (∀ k, 0 < d k → 0 < a k ∨ 0 < b k) → ∃ x y z : Int, 0 < x ∧ 0 ≤ y ∧ 0 ≤ z ∧ ∀ k, x * d k = y * a k + z * b k) (fun d r p hd hr hs rp dp nn hc hsub => ?_) hd
    -- r is a multiple of a or of b
    have hr2 : ∃ s y z : Int, 0 < s ∧ 0 ≤ y ∧ 0 ≤ z ∧ ∀ k, s * r k = y * a k + z * b k := by
      rcases hn r hr (fun k hk => hsub k (hs k hk)) with q | q
      · obtain ⟨s, t, s0, t0, e⟩ := lean_same hl ha hr.1 fun k hk => (q k).mp hk
        exact ⟨t, s, 0, t0, by omega, by omega, fun k => by rw [← e k]; simp⟩
      · obtain ⟨s, t, s0, t0, e⟩ := lean_same hl hb hr.1 fun k hk => (q k).mp hk
        exact ⟨t, 0, s, t0, by omega, by omega, fun k => by rw [← e k]; simp⟩
    obtain ⟨s, y, z, s0, y0, z0, e⟩ := hr2
    rcases hc with hc | ⟨hc, ih⟩
    · refine ⟨s * r p, d p * y, d p * z, Int.mul_pos s0 rp, Int.mul_nonneg (by omega) y0, Int.mul_nonneg (by omega) z0, fun k => ?_⟩
      have h1 := hc k
      have h2 := e k
      have e3 : s * r p * d k = s * (r p * d k) := by grind
      have e4 : r p * d k = d p * r k := by omega
      rw [e3, e4]
      have e5 : s * (d p * r k) = d p * (s * r k) := by grind
      rw [e5, h2]; grind
    · obtain ⟨x', y', z', x0', y0', z0', e'⟩ := ih fun k hk => by
        refine hsub k (Classical.byContradiction fun q => ?_)
        have e1 : d k = 0 := by have := hd.nn k; omega
        have e2 : r k = 0 := Classical.byContradiction fun q2 => q (hs k (by have := hr.1.nn k; omega))
        have hk2 := hk
        simp only [e1, e2] at hk2; simp at hk2
      refine ⟨s * x' * r p, s * y' + x' * d p * y, s * z' + x' * d p * z, Int.mul_pos (Int.mul_pos s0 x0') rp, ?_, ?_, fun k => ?_⟩
      · exact Int.add_nonneg (Int.mul_nonneg (by omega) y0') (Int.mul_nonneg (Int.mul_nonneg (by omega) (by omega)) y0)
      · exact Int.add_nonneg (Int.mul_nonneg (by omega) z0') (Int.mul_nonneg (Int.mul_nonneg (by omega) (by omega)) z0)
      · have h1 : x' * (r p * d k - d p * r k) = y' * a k + z' * b k := e' k
        have h2 := e k
        grind
  refine ⟨mix_round hl hf ha.1 hb.1 fa fb, fun d hd hs k hk => ?_⟩
  obtain ⟨x, y, z, x0, y0, z0, e⟩ := key hd.less fun k hk => (mix_sup ha.1.nn hb.1.nn fa fb k).mp (hs k hk)
  have fd : f d = 0 := hd.ev f (by simp)
  have fe : y * f a + z * f b = 0 := by
    have h1 : (fun k => y * a k + z * b k) = fun k => x * d k + 0 * d k := by funext k; rw [← e k]; simp
    have h2 := lin_two hf y z a b
    rw [h1, lin_two hf, fd] at h2
    simp at h2
    omega
  -- both are above nought
  have yz : 0 < y ∧ 0 < z := by
    have h0 : ¬ (y = 0 ∧ z = 0) := by
      rintro ⟨rfl, rfl⟩
      obtain ⟨k, hk⟩ := hd.some
      have := e k
      rw [Int.zero_mul, Int.zero_mul, Int.add_zero] at this
      rcases Int.mul_eq_zero.mp this with q | q <;> omega
    by_cases hy : y = 0
    · have hz : 0 < z := by omega
      rw [hy, Int.zero_mul, Int.zero_add] at fe
      rcases Int.mul_eq_zero.mp fe with q | q <;> omega
    · by_cases hz : z = 0
      · rw [hz, Int.zero_mul, Int.add_zero] at fe
        rcases Int.mul_eq_zero.mp fe with q | q <;> omega
      · exact ⟨by omega, by omega⟩
  have hk2 := (mix_sup ha.1.nn hb.1.nn fa fb k).mp hk
  have h1 : 0 ≤ y * a k := Int.mul_nonneg y0 (ha.1.nn k)
  have h2 : 0 ≤ z * b k := Int.mul_nonneg z0 (hb.1.nn k)
  have h3 : 0 < x * d k := by
    rw [e k]
    rcases hk2 with q | q
    · have := Int.mul_pos yz.1 q; omega
    · have := Int.mul_pos yz.2 q; omega
  have := hd.nn k
  refine Classical.byContradiction fun q => ?_
  have e0 : d k = 0 := by omega
  rw [e0] at h3; simp at h3
theorem dd_complete (hl : ∀ g ∈ fs, IsLin g) (hf : IsLin f) {d : Vec} (h : LeanR (fs ++ [f]) n d) :
    (LeanR fs n d ∧ f d = 0) ∨ ∃ a b, LeanR fs n a ∧ LeanR fs n b ∧ 0 < f a ∧ f b < 0 ∧ (∀ k, 0 < d k ↔ 0 < a k ∨ 0 < b k) ∧ Near fs n a b := by
  have fd : f d = 0 := h.1.ev f (by simp)
  have hd := h.1.less
  by_cases hL : LeanR fs n d
  · exact .inl ⟨hL, fd⟩
  right
  -- no lean round within leaves the ware even
  have no0 : ∀ r, LeanR fs n r → (∀ k, 0 < r k → 0 < d k) → f r ≠ 0 := fun r hr hs h0 => by
    have hall := h.2 r (hr.1.more h0) hs
    exact hL ⟨hd, fun e he hes k hk => hr.2 e he (fun j hj => hall j (hes j hj)) k (hall k hk)⟩
  -- both signs are there
  have sgn : ∀ s : Int, (s = 1 ∨ s = -1) → ∃ r, LeanR fs n r ∧ (∀ k, 0 < r k → 0 < d k) ∧ 0 < s * f r := fun s hs1 => by
    refine Classical.byContradiction fun q => ?_
    have all : ∀ r, LeanR fs n r → (∀ k, 0 < r k → 0 < d k) → s * f r < 0 := fun r hr hs => by
      have h1 : ¬ 0 < s * f r := fun q2 => q ⟨r, hr, hs, q2⟩
      have h2 := no0 r hr hs
      rcases hs1 with e | e <;> subst e <;> omega
    have : ∀ {e}, Round fs n e → (∀ k, 0 < e k → 0 < d k) → s * f e < 0 := by
      intro e he
      refine round_ind hl (P := fun e => (∀ k, 0 < e k → 0 < d k) → s * f e < 0) (fun e r p he hr hs rp ep nn hc hsub => ?_) he
      have fr := all r hr fun k hk => hsub k (hs k hk)
      have ee : f (fun k => r p * e k - e p * r k) = r p * f e - e p * f r := by
        have e1 : (fun k => r p * e k - e p * r k) = fun k => r p * e k + -(e p) * r k := by funext k; grind
        rw [e1, lin_two hf]; grind
      have hx : s * (r p * f e - e p * f r) ≤ 0 := by
        rcases hc with hc | ⟨hc, ih⟩
        · have e2 : (fun k => r p * e k - e p * r k) = fun k => 0 * e k + 0 * r k := by funext k; rw [hc k]; simp
          have e3 : f (fun k => r p * e k - e p * r k) = 0 := by rw [e2, lin_two hf]; simp
          rw [← ee, e3]; simp
        · rw [← ee]
          refine Int.le_of_lt (ih fun k hk => hsub k (Classical.byContradiction fun q2 => ?_))
          have e1 : e k = 0 := by have := he.nn k; omega
          have e2 : r k = 0 := Classical.byContradiction fun q3 => q2 (hs k (by have := hr.1.nn k; omega))
          have hk2 := hk
          simp only [e1, e2] at hk2; simp at hk2
      have h1 : e p * (s * f r) < 0 := Int.mul_neg_of_pos_of_neg ep fr
      have h2 : r p * (s * f e) < 0 := by
        have e1 : s * (r p * f e - e p * f r) = r p * (s * f e) - e p * (s * f r) := by grind
        omega
      refine Classical.byContradiction fun q2 => ?_
      have := Int.mul_nonneg (show 0 ≤ r p by omega) (show 0 ≤ s * f e by omega)
      omega
    have := this hd fun _ q => q
    rw [fd] at this; simp at this
  obtain ⟨a, ha, has, fa⟩ := sgn 1 (.inl rfl)
  obtain ⟨b, hb, hbs, fb⟩ := sgn (-1) (.inr rfl)
  have fa : 0 < f a := by omega
  have fb : f b < 0 := by omega
  have sup : ∀ {a b}, LeanR fs n a → LeanR fs n b → (∀ k, 0 < a k → 0 < d k) → (∀ k, 0 < b k → 0 < d k) → 0 < f a → f b < 0 → ∀ k, 0 < d k ↔ 0 < a k ∨ 0 < b k := fun {a b} ha hb has hbs fa fb k => by
    rw [← mix_sup ha.1.nn hb.1.nn fa fb]
    constructor
    · exact h.2 _ (mix_round hl hf ha.1 hb.1 fa fb) (fun j hj => by
        rcases (mix_sup ha.1.nn hb.1.nn fa fb j).mp hj with q | q
        · exact has j q
        · exact hbs j q) k
    · intro hj
      rcases (mix_sup ha.1.nn hb.1.nn fa fb k).mp hj with q | q
      · exact has k q
      · exact hbs k q
  refine ⟨a, b, ha, hb, fa, fb, sup ha hb has hbs fa fb, fun r hr hrs => ?_⟩
  have hrd : ∀ k, 0 < r k → 0 < d k := fun k hk => by
    rcases hrs k hk with q | q
    · exact has k q
    · exact hbs k q
  -- two lean rounds of one sign within the deeds are the same
  have one : ∀ {x y z : Vec} {s : Int}, (s = 1 ∨ s = -1) → LeanR fs n x → LeanR fs n y → LeanR fs n z → (∀ k, 0 < x k → 0 < d k) → (∀ k, 0 < y k → 0 < d k) → (∀ k, 0 < z k → 0 < d k) → 0 < s * f x → 0 < s * f y → s * f z < 0 → ∀ k, 0 < y k ↔ 0 < x k := by
    intro x y z s hs1 hx hy hz hxs hys hzs fx fy fz
    -- both mixtures with z are multiples of d
    have mult : ∀ {x}, LeanR fs n x → (∀ k, 0 < x k → 0 < d k) → 0 < s * f x → ∃ u v t : Int, 0 < u ∧ 0 < v ∧ 0 < t ∧ ∀ k, t * d k = u * x k + v * z k := by
      intro x hx hxs fx
      rcases hs1 with e | e
      · subst e
        have fx' : 0 < f x := by omega
        have fz' : f z < 0 := by omega
        obtain ⟨p, q, p0, q0, e⟩ := lean_same (fs := fs ++ [f]) (fun g hg => by
          rcases List.mem_append.mp hg with q | q
          · exact hl g q
          · rw [List.mem_singleton.mp q]; exact hf) h (mix_round hl hf hx.1 hz.1 fx' fz') fun k hk => (sup hx hz hxs hzs fx' fz' k).mpr ((mix_sup hx.1.nn hz.1.nn fx' fz' k).mp hk)
        refine ⟨q * -(f z), q * f x, p, Int.mul_pos q0 (by omega), Int.mul_pos q0 fx', p0, fun k => ?_⟩
        have := e k
        unfold mixV at this
        rw [this]; grind
      · subst e
        have fx' : f x < 0 := by omega
        have fz' : 0 < f z := by omega
        obtain ⟨p, q, p0, q0, e⟩ := lean_same (fs := fs ++ [f]) (fun g hg => by
          rcases List.mem_append.mp hg with q | q
          · exact hl g q
          · rw [List.mem_singleton.mp q]; exact hf) h (mix_round hl hf hz.1 hx.1 fz' fx') fun k hk => (sup hz hx hzs hxs fz' fx' k).mpr ((mix_sup hz.1.nn hx.1.nn fz' fx' k).mp hk)
        refine ⟨q * f z, q * -(f x), p, Int.mul_pos q0 fz', Int.mul_pos q0 (by omega), p0, fun k => ?_⟩
        have := e k
        unfold mixV at this
        rw [this]; grind
    obtain ⟨u1, v1, t1, u10, v10, t10, e1⟩ := mult hx hxs fx
    obtain ⟨u2, v2, t2, u20, v20, t20, e2⟩ := mult hy hys fy
    -- t2 u1 x + t2 v1 z = t1 u2 y + t1 v2 z
    have eq : ∀ k, t2 * u1 * x k + t2 * v1 * z k = t1 * u2 * y k + t1 * v2 * z k := fun k => by
      have h1 := e1 k
      have h2 := e2 k
      have : t2 * (t1 * d k) = t1 * (t2 * d k) := by grind
      rw [h1, h2] at this
      grind
    by_cases hc : t2 * v1 ≤ t1 * v2
    · -- x has all of y's deeds
      have sub : ∀ k, 0 < y k → 0 < x k := fun k hk => by
        refine Classical.byContradiction fun q => ?_
        have e0 : x k = 0 := by have := hx.1.nn k; omega
        have := eq k
        rw [e0] at this
        have h1 : t2 * v1 * z k ≤ t1 * v2 * z k := Int.mul_le_mul_of_nonneg_right hc (hz.1.nn k)
        have h2 : 0 < t1 * u2 * y k := Int.mul_pos (Int.mul_pos t10 u20) hk
        simp at this
        omega
      exact fun k => ⟨sub k, hx.2 y hy.1 sub k⟩
    · have sub : ∀ k, 0 < x k → 0 < y k := fun k hk => by
        refine Classical.byContradiction fun q => ?_
        have e0 : y k = 0 := by have := hy.1.nn k; omega
        have := eq k
        rw [e0] at this
        have h1 : t1 * v2 * z k ≤ t2 * v1 * z k := Int.mul_le_mul_of_nonneg_right (by omega) (hz.1.nn k)
        have h2 : 0 < t2 * u1 * x k := Int.mul_pos (Int.mul_pos t20 u10) hk
        simp at this
        omega
      exact fun k => ⟨hy.2 x hx.1 sub k, sub k⟩
  have hr0 := no0 r hr hrd
  by_cases hr1 : 0 < f r
  · exact .inl (one (s := 1) (.inl rfl) ha hr hb has hrd hbs (by omega) (by omega) (by omega))
  · exact .inr (one (s := -1) (.inr rfl) hb hr ha hbs hrd has (by omega) (by omega) (by omega))
end
end My
set_option Elab.async false
set_option linter.all false
namespace My
noncomputable def setN (c : List Int) : Nat := c.foldl (fun a x => a * 2 + (if 0 < x then 1 else 0)) 0
theorem setN_snoc (c : List Int) (x : Int) : setN (c ++ [x]) = setN c * 2 + (if 0 < x then 1 else 0) := by unfold setN; rw [List.foldl_append]; rfl
theorem setN_bit : ∀ (n : Nat) (c : List Int), c.length = n → ∀ i, (setN c).testBit i = decide (i < n ∧ 0 < vecOf c (n - 1 - i))
  | 0, c, h, i => by
    rw [List.length_eq_zero_iff.mp h]
    simp [setN]
  | n + 1, c, h, i => by
    rcases List.eq_nil_or_concat c with e | ⟨c', x, e⟩
    · rw [e] at h; simp at h
    · rw [List.concat_eq_append] at e
      subst e
      have hl : c'.length = n := by simpa using h
      have ih := setN_bit n c' hl
      rw [setN_snoc]
      cases i with
      | zero =>
        rw [Nat.testBit_zero]
        have e1 : vecOf (c' ++ [x]) (n + 1 - 1 - 0) = x := by unfold vecOf; simp [hl]
        rw [e1]
        split <;> rename_i q <;> simp [q] <;> omega
      | succ i =>
        rw [Nat.testBit_succ]
        have e2 : (setN c' * 2 + if 0 < x then 1 else 0) / 2 = setN c' := by split <;> omega
        rw [e2, ih i]
        by_cases hi : i < n
        · have e3 : vecOf (c' ++ [x]) (n + 1 - 1 - (i + 1)) = vecOf c' (n - 1 - i) := by
            unfold vecOf
            have : n + 1 - 1 - (i + 1) = n - 1 - i := by omega
            rw [this, List.getD_eq_getElem?_getD, List.getD_eq_getElem?_getD, List.getElem?_append_left (by omega)]
          rw [e3]
          have h1 : i + 1 < n + 1 := by omega
          simp [hi, h1]
        · have h1 : ¬ i + 1 < n + 1 := by omega
          simp [hi, h1]
theorem vec_out {c : List Int} {k : Nat} (h : c.length ≤ k) : vecOf c k = 0 := by
  unfold vecOf; rw [List.getD_eq_getElem?_getD, List.getElem?_eq_none h]; rfl
theorem bit_sup {n : Nat} {c : List Int} (h : c.length = n) (k : Nat) (hk : k < n) : (setN c).testBit (n - 1 - k) = decide (0 < vecOf c k) := by
  rw [setN_bit n c h]
  have e : n - 1 - (n - 1 - k) = k := by omega
  rw [e]
  have : n - 1 - k < n := by omega
  simp [this]
theorem within_two {n : Nat} {r a b : List Int} (hr : r.length = n) (ha : a.length = n) (hb : b.length = n) : setN r &&& (setN a ||| setN b) = setN r ↔ ∀ k, 0 < vecOf r k → 0 < vecOf a k ∨ 0 < vecOf b k := by
  constructor
  · intro h k hk
    have hkn : k < n := Classical.byContradiction fun q => by rw [vec_out (by omega)] at hk; omega
    have h1 := bit_sup hr k hkn
    rw [← h, Nat.testBit_and, Nat.testBit_or, bit_sup hr k hkn, bit_sup ha k hkn, bit_sup hb k hkn] at h1
    simpa [hk] using h1
  · intro h
    apply Nat.eq_of_testBit_eq
    intro i
    rw [Nat.testBit_and, Nat.testBit_or, setN_bit n r hr, setN_bit n a ha, setN_bit n b hb]
    by_cases hi : i < n
    · have := h (n - 1 - i)
      by_cases q : 0 < vecOf r (n - 1 - i)
      · rcases this q with q2 | q2 <;> simp [hi, q, q2]
      · simp [q]
    · simp [hi]
theorem within_one {n : Nat} {r a : List Int} (hr : r.length = n) (ha : a.length = n) : setN r &&& setN a = setN r ↔ ∀ k, 0 < vecOf r k → 0 < vecOf a k := by
  have := within_two hr ha ha
  rw [Nat.or_self] at this
  rw [this]
  simp
theorem setN_eq {n : Nat} {a b : List Int} (ha : a.length = n) (hb : b.length = n) : setN a = setN b ↔ ∀ k, 0 < vecOf a k ↔ 0 < vecOf b k := by
  constructor
  · intro h k
    by_cases hk : k < n
    · have h1 := bit_sup ha k hk
      rw [h, bit_sup hb k hk] at h1
      simpa using h1.symm
    · rw [vec_out (by omega), vec_out (by omega)]
  · intro h
    apply Nat.eq_of_testBit_eq
    intro i
    rw [setN_bit n a ha, setN_bit n b hb]
    simp only [h]
theorem setN_ahead {n : Nat} {a b : List Int} (ha : a.length = n) (hb : b.length = n) (h : setN b < setN a) : Ahead a b := by
  obtain ⟨i, e1, e2, e3⟩ := bit_lt _ _ h
  rw [setN_bit n b hb] at e1
  rw [setN_bit n a ha] at e2
  have e2' : i < n ∧ 0 < vecOf a (n - 1 - i) := by simpa using e2
  have e1' : ¬ (i < n ∧ 0 < vecOf b (n - 1 - i)) := by simpa using e1
  refine ⟨n - 1 - i, fun j hj => ?_, e2'.2, fun q => e1' ⟨e2'.1, q⟩⟩
  have := e3 (n - 1 - j) (by omega)
  rw [bit_sup hb j (by omega), bit_sup ha j (by omega)] at this
  have h2 : (0 < vecOf b j) = (0 < vecOf a j) := by simpa using this
  rw [h2]
noncomputable def lowL (xs : List Int) : List Int := if ga xs = 0 then xs else xs.map fun x => x.fdiv (ga xs)
theorem lowL_len (xs : List Int) : (lowL xs).length = xs.length := by unfold lowL; split <;> simp
theorem fdiv_ga {xs : List Int} {x : Int} (hx : x ∈ xs) (h : 0 < ga xs) : ga xs * x.fdiv (ga xs) = x := Int.mul_fdiv_cancel' (ga_dvd hx)
theorem lowL_vec {xs : List Int} (h : 0 < ga xs) (k : Nat) : ga xs * vecOf (lowL xs) k = vecOf xs k := by
  unfold lowL
  rw [if_neg (by omega)]
  by_cases hk : k < xs.length
  · unfold vecOf
    rw [List.getD_eq_getElem?_getD, List.getD_eq_getElem?_getD, List.getElem?_map, List.getElem?_eq_getElem hk]
    exact fdiv_ga (List.getElem_mem hk) h
  · rw [vec_out (by simp; omega), vec_out (by omega)]; simp
theorem lowL_ga {xs : List Int} (h : 0 < ga xs) : ga (lowL xs) = 1 := by
  have e : xs = (lowL xs).map (ga xs * ·) := by
    apply List.ext_getElem?
    intro k
    by_cases hk : k < xs.length
    · have := lowL_vec h k
      unfold vecOf at this
      rw [List.getD_eq_getElem?_getD, List.getD_eq_getElem?_getD, List.getElem?_eq_getElem hk, List.getElem?_eq_getElem (show k < (lowL xs).length by rw [lowL_len]; exact hk)] at this
      rw [List.getElem?_map, List.getElem?_eq_getElem hk, List.getElem?_eq_getElem (show k < (lowL xs).length by rw [lowL_len]; exact hk)]
      simpa using this.symm
    · rw [List.getElem?_eq_none (by omega), List.getElem?_eq_none (by simp [lowL_len]; omega)]
  have h2 := ga_mul (ga xs) (lowL xs)
  rw [← e] at h2
  have h3 : ab (ga xs) = ga xs := by unfold ab; rw [if_neg (by omega)]
  rw [h3] at h2
  have h4 : ga xs * ga (lowL xs) = ga xs * 1 := by rw [Int.mul_one]; exact h2.symm
  exact Int.eq_of_mul_eq_mul_left (by omega) h4
section
variable {fs : List (Vec → Int)} {n : Nat}
theorem Round.scale (hl : ∀ f ∈ fs, IsLin f) {c d : Vec} {g : Int} (g0 : 0 < g) (e : ∀ k, g * c k = d k) (h : Round fs n d) : Round fs n c := by
  have nn : ∀ k, 0 ≤ c k := fun k => Classical.byContradiction fun q => by
    have := Int.mul_neg_of_pos_of_neg g0 (show c k < 0 by omega)
    have := h.nn k
    have := e k
    omega
  refine ⟨fun k hk => ?_, nn, ?_, fun f hf => ?_⟩
  · have := e k
    rw [h.sup k hk] at this
    rcases Int.mul_eq_zero.mp this with q | q
    · omega
    · exact q
  · obtain ⟨k, hk⟩ := h.some
    refine ⟨k, Classical.byContradiction fun q => ?_⟩
    have := nn k
    have e0 : c k = 0 := by omega
    have := e k
    rw [e0] at this; simp at this; omega
  · have e1 : d = fun k => g * c k + 0 * c k := by funext k; rw [← e k]; simp
    have h1 := h.ev f hf
    rw [e1, lin_two (hl f hf), Int.zero_mul, Int.add_zero] at h1
    rcases Int.mul_eq_zero.mp h1 with q | q
    · omega
    · exact q
theorem pos_scale {c d : Vec} {g : Int} (g0 : 0 < g) (e : ∀ k, g * c k = d k) (k : Nat) : 0 < d k ↔ 0 < c k := by
  rw [← e k]
  constructor
  · intro h
    refine Classical.byContradiction fun q => ?_
    have := Int.mul_nonneg (show 0 ≤ g by omega) (show 0 ≤ -(c k) by omega)
    rw [Int.mul_neg] at this
    omega
  · exact fun h => Int.mul_pos g0 h
theorem LeanR.scale (hl : ∀ f ∈ fs, IsLin f) {c d : Vec} {g : Int} (g0 : 0 < g) (e : ∀ k, g * c k = d k) (h : LeanR fs n d) : LeanR fs n c :=
  ⟨h.1.scale hl g0 e, fun x hx hs k hk => h.2 x hx (fun j hj => (pos_scale g0 e j).mpr (hs j hj)) k ((pos_scale g0 e k).mpr hk)⟩
structure IsAll (fs : List (Vec → Int)) (n : Nat) (L : List (List Int)) : Prop where
  mem : ∀ c, c ∈ L ↔ c.length = n ∧ LeanR fs n (vecOf c) ∧ ga c = 1
  nd : L.Nodup
theorem same_eq (hl : ∀ f ∈ fs, IsLin f) {a b : List Int} (la : a.length = n) (lb : b.length = n) (ha : LeanR fs n (vecOf a)) (hb : LeanR fs n (vecOf b)) (ga1 : ga a = 1) (gb1 : ga b = 1) (h : ∀ k, 0 < vecOf b k → 0 < vecOf a k) : a = b := by
  obtain ⟨s, t, s0, t0, e⟩ := lean_same hl ha hb.1 h
  exact prim_eq (by omega) (by omega) e ga1 gb1 ha.1.nn hb.1.nn
theorem listOf_vec {r : Vec} (h : ∀ k, n ≤ k → r k = 0) : vecOf ((List.range n).map r) = r := by
  funext k
  by_cases hk : k < n
  · unfold vecOf
    rw [List.getD_eq_getElem?_getD, List.getElem?_map, List.getElem?_range hk]; rfl
  · rw [vec_out (by simp; omega), h k (by omega)]
theorem ga_of_round {c : List Int} (h : Round fs n (vecOf c)) : 0 < ga c := by
  obtain ⟨k, hk⟩ := h.some
  have hkl : k < c.length := Classical.byContradiction fun q => by rw [vec_out (by omega)] at hk; omega
  exact ga_pos (getD_mem hkl) (show vecOf c k ≠ 0 by omega)
theorem lean_low (hl : ∀ f ∈ fs, IsLin f) {c : List Int} (lc : c.length = n) (h : LeanR fs n (vecOf c)) : (lowL c).length = n ∧ LeanR fs n (vecOf (lowL c)) ∧ ga (lowL c) = 1 := by
  have g0 := ga_of_round h.1
  exact ⟨by rw [lowL_len, lc], h.scale hl g0 (lowL_vec g0), lowL_ga g0⟩
theorem vec_low (hl : ∀ f ∈ fs, IsLin f) {r : Vec} (h : LeanR fs n r) : ∃ c : List Int, c.length = n ∧ LeanR fs n (vecOf c) ∧ ga c = 1 ∧ ∀ k, 0 < vecOf c k ↔ 0 < r k := by
  have e := listOf_vec (r := r) h.1.sup
  have h' : LeanR fs n (vecOf ((List.range n).map r)) := by rw [e]; exact h
  obtain ⟨h1, h2, h3⟩ := lean_low hl (by simp) h'
  refine ⟨_, h1, h2, h3, fun k => ?_⟩
  have g0 := ga_of_round h'.1
  rw [← pos_scale g0 (lowL_vec g0), e]
end
noncomputable def endL (m : List (List Int)) (j : Nat) (c : List Int) : Int := phi m.length (fun k j => (rowsOf m k).getD j 0) j (vecOf c)
noncomputable def mixL (m : List (List Int)) (j : Nat) (a b : List Int) : List Int := lowL (List.zipWith (fun x y => x * -(endL m j b) + y * endL m j a) a b)
noncomputable def nearB (L : List (List Int)) (a b : List Int) : Bool := decide ((L.filter fun r => decide (setN r &&& (setN a ||| setN b) = setN r)).length = 2)
noncomputable def addB (m : List (List Int)) (j : Nat) (L : List (List Int)) (a : List Int) (bs : List (List Int)) : List (List Int) := (bs.filter fun b => nearB L a b).map fun b => mixL m j a b
noncomputable def ddStep (m : List (List Int)) (j : Nat) (L : List (List Int)) : List (List Int) :=
  (L.filter fun c => decide (endL m j c = 0)) ++ (L.filter fun c => decide (0 < endL m j c)).flatMap fun a => addB m j L a (L.filter fun c => decide (endL m j c < 0))
theorem wares_succ (j n : Nat) (rows : Nat → List Int) : wares (j + 1) n rows = wares j n rows ++ [phi n (fun k j => (rows k).getD j 0) j] := by
  unfold wares; rw [List.range_succ, List.map_append]; rfl
theorem near_iff {fs : List (Vec → Int)} {n : Nat} {L : List (List Int)} {a b : List Int} (hl : ∀ f ∈ fs, IsLin f) (hL : IsAll fs n L) (ha : a ∈ L) (hb : b ∈ L) (hab : a ≠ b) : nearB L a b = true ↔ Near fs n (vecOf a) (vecOf b) := by
  obtain ⟨la, Ra, ga1⟩ := (hL.mem a).mp ha
  obtain ⟨lb, Rb, gb1⟩ := (hL.mem b).mp hb
  unfold nearB
  rw [decide_eq_true_eq]
  have nd : (L.filter fun r => decide (setN r &&& (setN a ||| setN b) = setN r)).Nodup := List.Nodup.sublist List.filter_sublist hL.nd
  have mem : ∀ r, r ∈ (L.filter fun r => decide (setN r &&& (setN a ||| setN b) = setN r)) ↔ r ∈ L ∧ ∀ k, 0 < vecOf r k → 0 < vecOf a k ∨ 0 < vecOf b k := fun r => by
    rw [List.mem_filter]
    constructor
    · rintro ⟨h1, h2⟩
      exact ⟨h1, (within_two ((hL.mem r).mp h1).1 la lb).mp (by simpa using h2)⟩
    · rintro ⟨h1, h2⟩
      exact ⟨h1, by simpa using (within_two ((hL.mem r).mp h1).1 la lb).mpr h2⟩
  have sub : [a, b] ⊆ (L.filter fun r => decide (setN r &&& (setN a ||| setN b) = setN r)) := fun r hr => by
    rw [mem]
    rcases List.mem_cons.mp hr with e | e
    · subst e; exact ⟨ha, fun k hk => .inl hk⟩
    · have e := List.mem_singleton.mp e
      subst e; exact ⟨hb, fun k hk => .inr hk⟩
  have nd2 : [a, b].Nodup := by simp [hab]
  constructor
  · intro h2 r hr hrs
    obtain ⟨c, lc, Rc, gc, ec⟩ := vec_low hl hr
    have hc : c ∈ L := (hL.mem c).mpr ⟨lc, Rc, gc⟩
    have hcf := (mem c).mpr ⟨hc, fun k hk => hrs k ((ec k).mp hk)⟩
    have : c = a ∨ c = b := Classical.byContradiction fun q => by
      have nd3 : [c, a, b].Nodup := by
        have q1 : c ≠ a := fun e => q (.inl e)
        have q2 : c ≠ b := fun e => q (.inr e)
        simp [hab, q1, q2]
      have := List.Nodup.length_le_of_subset nd3 (fun x hx => by
        rcases List.mem_cons.mp hx with e | e
        · rw [e]; exact hcf
        · exact sub e)
      rw [h2] at this
      simp at this
    rcases this with e | e
    · subst e; exact .inl fun k => (ec k).symm
    · subst e; exact .inr fun k => (ec k).symm
  · intro hn
    have h1 := List.Nodup.length_le_of_subset nd2 sub
    have h2 := List.Nodup.length_le_of_subset (l₂ := [a, b]) nd (fun r hr => by
      obtain ⟨hrL, hrs⟩ := (mem r).mp hr
      obtain ⟨lr, Rr, gr⟩ := (hL.mem r).mp hrL
      rcases hn _ Rr hrs with q | q
      · rw [same_eq hl la lr Ra Rr ga1 gr fun k hk => (q k).mp hk]; simp
      · rw [same_eq hl lb lr Rb Rr gb1 gr fun k hk => (q k).mp hk]; simp)
    simp only [List.length_cons, List.length_nil] at h1 h2
    omega
theorem mixL_vec {m : List (List Int)} {j n : Nat} {a b : List Int} (la : a.length = n) (lb : b.length = n) : vecOf (List.zipWith (fun x y => x * -(endL m j b) + y * endL m j a) a b) = mixV (phi m.length (fun k j => (rowsOf m k).getD j 0) j) (vecOf a) (vecOf b) := by
  funext k
  unfold mixV
  by_cases hk : k < n
  · have e1 : vecOf a k = a[k] := by unfold vecOf; rw [List.getD_eq_getElem?_getD, List.getElem?_eq_getElem (show k < a.length by omega)]; rfl
    have e2 : vecOf b k = b[k] := by unfold vecOf; rw [List.getD_eq_getElem?_getD, List.getElem?_eq_getElem (show k < b.length by omega)]; rfl
    have e3 : vecOf (List.zipWith (fun x y => x * -(endL m j b) + y * endL m j a) a b) k = a[k] * -(endL m j b) + b[k] * endL m j a := by
      show (List.zipWith (fun x y => x * -(endL m j b) + y * endL m j a) a b).getD k 0 = _
      rw [List.getD_eq_getElem?_getD, List.getElem?_zipWith, List.getElem?_eq_getElem (show k < a.length by omega), List.getElem?_eq_getElem (show k < b.length by omega)]; rfl
    rw [e1, e2, e3]
    show a[k] * -(endL m j b) + b[k] * endL m j a = -(endL m j b) * a[k] + endL m j a * b[k]
    rw [Int.mul_comm a[k], Int.mul_comm b[k]]
  · rw [vec_out (by simp; omega), vec_out (show a.length ≤ k by omega), vec_out (show b.length ≤ k by omega)]; simp
theorem dd_step {m : List (List Int)} {j : Nat} {L : List (List Int)} (hL : IsAll (wares j m.length (rowsOf m)) m.length L) : IsAll (wares (j + 1) m.length (rowsOf m)) m.length (ddStep m j L) := by
  have hl := wares_lin j m.length (rowsOf m)
  have hl2 := wares_lin (j + 1) m.length (rowsOf m)
  have hf : IsLin (phi m.length (fun k j => (rowsOf m k).getD j 0) j) := phi_lin _ _ _
  rw [wares_succ] at hl2 ⊢
  -- what a pair of neighbours makes
  have mk : ∀ a ∈ L, ∀ b ∈ L, 0 < endL m j a → endL m j b < 0 → nearB L a b = true →
      (mixL m j a b).length = m.length ∧ LeanR (wares j m.length (rowsOf m) ++ [phi m.length (fun k j => (rowsOf m k).getD j 0) j]) m.length (vecOf (mixL m j a b)) ∧ ga (mixL m j a b) = 1 ∧ ∀ k, 0 < vecOf (mixL m j a b) k ↔ 0 < vecOf a k ∨ 0 < vecOf b k := by
    intro a ha b hb fa fb hn
    obtain ⟨la, Ra, ga1⟩ := (hL.mem a).mp ha
    obtain ⟨lb, Rb, gb1⟩ := (hL.mem b).mp hb
    have hab : a ≠ b := by rintro rfl; omega
    have N := (near_iff hl hL ha hb hab).mp hn
    have e := mixL_vec (m := m) (j := j) la lb
    have R := dd_sound hl hf Ra Rb fa fb N
    rw [← e] at R
    obtain ⟨h1, h2, h3⟩ := lean_low hl2 (by simp [la, lb]) R
    refine ⟨h1, h2, h3, fun k => ?_⟩
    have g0 := ga_of_round R.1
    unfold mixL
    rw [← pos_scale g0 (lowL_vec g0), e]
    exact mix_sup Ra.1.nn Rb.1.nn fa fb k
  constructor
  · intro c
    unfold ddStep addB
    rw [List.mem_append, List.mem_flatMap]
    constructor
    · rintro (h | ⟨a, ha, h⟩)
      · obtain ⟨h1, h2⟩ := List.mem_filter.mp h
        have h2' : endL m j c = 0 := by simpa using h2
        obtain ⟨lc, Rc, gc⟩ := (hL.mem c).mp h1
        exact ⟨lc, ⟨Rc.1.more h2', fun d hd hs k hk => Rc.2 d hd.less hs k hk⟩, gc⟩
      · obtain ⟨ha1, ha2⟩ := List.mem_filter.mp ha
        obtain ⟨b, hb, rfl⟩ := List.mem_map.mp h
        obtain ⟨hb1, hb2⟩ := List.mem_filter.mp hb
        obtain ⟨hb3, hb4⟩ := List.mem_filter.mp hb1
        obtain ⟨h1, h2, h3, _⟩ := mk a ha1 b hb3 (by simpa using ha2) (by simpa using hb4) hb2
        exact ⟨h1, h2, h3⟩
    · rintro ⟨lc, Rc, gc⟩
      rcases dd_complete hl hf Rc with ⟨h1, h2⟩ | ⟨a, b, Ra, Rb, fa, fb, hs, hn⟩
      · exact .inl (List.mem_filter.mpr ⟨(hL.mem c).mpr ⟨lc, h1, gc⟩, decide_eq_true (show endL m j c = 0 from h2)⟩)
      · right
        -- a and b in lowest terms
        obtain ⟨a', la, Ra', ga1, ea⟩ := vec_low hl Ra
        obtain ⟨b', lb, Rb', gb1, eb⟩ := vec_low hl Rb
        obtain ⟨s, t, s0, t0, e1⟩ := lean_same hl Ra Ra'.1 fun k hk => (ea k).mp hk
        obtain ⟨s', t', s0', t0', e2⟩ := lean_same hl Rb Rb'.1 fun k hk => (eb k).mp hk
        have lin1 : ∀ {x y : Vec} {s t : Int}, (∀ k, s * x k = t * y k) → s * phi m.length (fun k j => (rowsOf m k).getD j 0) j x = t * phi m.length (fun k j => (rowsOf m k).getD j 0) j y := fun {x y s t} e => by
          have q1 := lin_two hf s 0 x x
          have q2 := lin_two hf t 0 y y
          have e3 : (fun k => s * x k + 0 * x k) = fun k => t * y k + 0 * y k := by funext k; rw [e k]; simp
          rw [e3, q2, Int.zero_mul, Int.add_zero, Int.zero_mul, Int.add_zero] at q1
          exact q1.symm
        have fa' : 0 < endL m j a' := by
          have := lin1 e1
          unfold endL
          have h3 := Int.mul_pos s0 fa
          refine Classical.byContradiction fun q => ?_
          have := Int.mul_nonneg (show 0 ≤ t by omega) (show 0 ≤ -(phi m.length (fun k j => (rowsOf m k).getD j 0) j (vecOf a')) by omega)
          rw [Int.mul_neg] at this
          omega
        have fb' : endL m j b' < 0 := by
          have := lin1 e2
          unfold endL
          have h3 := Int.mul_neg_of_pos_of_neg s0' fb
          refine Classical.byContradiction fun q => ?_
          have := Int.mul_nonneg (show 0 ≤ t' by omega) (show 0 ≤ (phi m.length (fun k j => (rowsOf m k).getD j 0) j (vecOf b')) by omega)
          omega
        have ha' : a' ∈ L := (hL.mem a').mpr ⟨la, Ra', ga1⟩
        have hb' : b' ∈ L := (hL.mem b').mpr ⟨lb, Rb', gb1⟩
        have hab : a' ≠ b' := by rintro rfl; omega
        have hn' : nearB L a' b' = true := (near_iff hl hL ha' hb' hab).mpr fun r hr hrs => by
          rcases hn r hr (fun k hk => by rw [← ea, ← eb]; exact hrs k hk) with q | q
          · exact .inl fun k => by rw [q k, ea]
          · exact .inr fun k => by rw [q k, eb]
        obtain ⟨h1, h2, h3, h4⟩ := mk a' ha' b' hb' fa' fb' hn'
        refine ⟨a', List.mem_filter.mpr ⟨ha', by simpa using fa'⟩, List.mem_map.mpr ⟨b', List.mem_filter.mpr ⟨List.mem_filter.mpr ⟨hb', by simpa using fb'⟩, hn'⟩, ?_⟩⟩
        exact same_eq hl2 h1 lc h2 Rc h3 gc fun k hk => by rw [h4, ea, eb]; exact (hs k).mp hk
  · -- none twice
    unfold ddStep addB
    have pairs : ∀ {a b a' b'}, a ∈ L → b ∈ L → a' ∈ L → b' ∈ L → 0 < endL m j a → endL m j b < 0 → 0 < endL m j a' → endL m j b' < 0 → nearB L a b = true → nearB L a' b' = true → mixL m j a b = mixL m j a' b' → a = a' ∧ b = b' := by
      intro a b a' b' ha hb ha' hb' fa fb fa' fb' hn hn' e
      obtain ⟨la, Ra, ga1⟩ := (hL.mem a).mp ha
      obtain ⟨lb, Rb, gb1⟩ := (hL.mem b).mp hb
      obtain ⟨la', Ra', ga1'⟩ := (hL.mem a').mp ha'
      obtain ⟨lb', Rb', gb1'⟩ := (hL.mem b').mp hb'
      obtain ⟨_, _, _, h4⟩ := mk a ha b hb fa fb hn
      obtain ⟨_, _, _, h4'⟩ := mk a' ha' b' hb' fa' fb' hn'
      have N := (near_iff hl hL ha hb (by rintro rfl; omega)).mp hn
      have ca : a' = a ∨ a' = b := by
        rcases N _ Ra' (fun k hk => by rw [← h4, e, h4']; exact .inl hk) with q | q
        · exact .inl (same_eq hl la la' Ra Ra' ga1 ga1' fun k hk => (q k).mp hk).symm
        · exact .inr (same_eq hl lb la' Rb Ra' gb1 ga1' fun k hk => (q k).mp hk).symm
      have cb : b' = a ∨ b' = b := by
        rcases N _ Rb' (fun k hk => by rw [← h4, e, h4']; exact .inr hk) with q | q
        · exact .inl (same_eq hl la lb' Ra Rb' ga1 gb1' fun k hk => (q k).mp hk).symm
        · exact .inr (same_eq hl lb lb' Rb Rb' gb1 gb1' fun k hk => (q k).mp hk).symm
      refine ⟨?_, ?_⟩
      · rcases ca with q | q
        · exact q.symm
        · subst q; omega
      · rcases cb with q | q
        · subst q; omega
        · exact q.symm
    rw [List.nodup_append]
    refine ⟨List.Nodup.sublist List.filter_sublist hL.nd, ?_, ?_⟩
    · unfold List.Nodup
      rw [List.pairwise_flatMap]
      refine ⟨fun a ha => ?_, ?_⟩
      · obtain ⟨ha1, ha2⟩ := List.mem_filter.mp ha
        rw [List.pairwise_map]
        refine List.Pairwise.imp_of_mem ?_ (List.Nodup.sublist (List.filter_sublist.trans List.filter_sublist) hL.nd)
        intro b b' hb hb' hne e
        obtain ⟨hb1, hb2⟩ := List.mem_filter.mp hb
        obtain ⟨hb3, hb4⟩ := List.mem_filter.mp hb1
        obtain ⟨hb1', hb2'⟩ := List.mem_filter.mp hb'
        obtain ⟨hb3', hb4'⟩ := List.mem_filter.mp hb1'
        exact hne (pairs ha1 hb3 ha1 hb3' (by simpa using ha2) (by simpa using hb4) (by simpa using ha2) (by simpa using hb4') hb2 hb2' e).2
      · refine List.Pairwise.imp_of_mem ?_ (List.Nodup.sublist List.filter_sublist hL.nd)
        intro a a' ha ha' hne x hx y hy e
        obtain ⟨ha1, ha2⟩ := List.mem_filter.mp ha
        obtain ⟨ha1', ha2'⟩ := List.mem_filter.mp ha'
        obtain ⟨b, hb, rfl⟩ := List.mem_map.mp hx
        obtain ⟨b', hb', rfl⟩ := List.mem_map.mp hy
        obtain ⟨hb1, hb2⟩ := List.mem_filter.mp hb
        obtain ⟨hb3, hb4⟩ := List.mem_filter.mp hb1
        obtain ⟨hb1', hb2'⟩ := List.mem_filter.mp hb'
        obtain ⟨hb3', hb4'⟩ := List.mem_filter.mp hb1'
        exact hne (pairs ha1 hb3 ha1' hb3' (by simpa using ha2) (by simpa using hb4) (by simpa using ha2') (by simpa using hb4') hb2 hb2' e).1
    · intro c hc x hx e
      subst e
      obtain ⟨hc1, hc2⟩ := List.mem_filter.mp hc
      obtain ⟨a, ha, h⟩ := List.mem_flatMap.mp hx
      obtain ⟨ha1, ha2⟩ := List.mem_filter.mp ha
      obtain ⟨b, hb, e⟩ := List.mem_map.mp h
      obtain ⟨hb1, hb2⟩ := List.mem_filter.mp hb
      obtain ⟨hb3, hb4⟩ := List.mem_filter.mp hb1
      have fa : 0 < endL m j a := by simpa using ha2
      have fb : endL m j b < 0 := by simpa using hb4
      have fc : endL m j c = 0 := by simpa using hc2
      obtain ⟨la, Ra, ga1⟩ := (hL.mem a).mp ha1
      obtain ⟨lb, Rb, gb1⟩ := (hL.mem b).mp hb3
      obtain ⟨lc, Rc, gc⟩ := (hL.mem c).mp hc1
      obtain ⟨_, _, _, h4⟩ := mk a ha1 b hb3 fa fb hb2
      rw [e] at h4
      have N := (near_iff hl hL ha1 hb3 (by rintro rfl; omega)).mp hb2
      rcases N _ Rc (fun k hk => (h4 k).mp hk) with q | q
      · have := same_eq hl la lc Ra Rc ga1 gc fun k hk => (q k).mp hk
        subst this; omega
      · have := same_eq hl lb lc Rb Rc gb1 gc fun k hk => (q k).mp hk
        subst this; omega
noncomputable def unitL (n k : Nat) : List Int := (List.range n).map fun a => if a = k then 1 else 0
noncomputable def baseL (n : Nat) : List (List Int) := (List.range n).map (unitL n)
theorem unitL_vec {n k : Nat} (hk : k < n) (i : Nat) : vecOf (unitL n k) i = if i = k then 1 else 0 := by
  unfold unitL
  rw [listOf_vec (r := fun a => if a = k then 1 else 0)]
  intro i hi
  rw [if_neg (by omega)]
theorem base_all (n : Nat) : IsAll [] n (baseL n) := by
  have un : ∀ k, k < n → LeanR [] n (vecOf (unitL n k)) := fun k hk => by
    have v := unitL_vec hk
    refine ⟨⟨fun i hi => ?_, fun i => ?_, ⟨k, by rw [v, if_pos rfl]; decide⟩, fun f hf => nomatch hf⟩, fun d hd hs i hi => ?_⟩
    · rw [v, if_neg (by omega)]
    · rw [v]; split <;> decide
    · obtain ⟨i', hi'⟩ := hd.some
      have := hs i' hi'
      rw [v] at this hi
      by_cases e : i' = k
      · by_cases e2 : i = k
        · rw [e2, ← e]; exact hi'
        · rw [if_neg e2] at hi; omega
      · rw [if_neg e] at this; omega
  have ug : ∀ k, k < n → ga (unitL n k) = 1 := fun k hk => by
    have h1 : (1 : Int) ∈ unitL n k := by
      unfold unitL
      exact List.mem_map.mpr ⟨k, List.mem_range.mpr hk, if_pos rfl⟩
    have h2 := ga_dvd h1
    have h3 := ga_pos h1 (by decide)
    exact Int.le_antisymm (Int.le_of_dvd (by decide) h2) (by omega)
  constructor
  · intro c
    unfold baseL
    rw [List.mem_map]
    constructor
    · rintro ⟨k, hk, rfl⟩
      have hk' := List.mem_range.mp hk
      exact ⟨by simp [unitL], un k hk', ug k hk'⟩
    · rintro ⟨lc, Rc, gc⟩
      obtain ⟨k, hk⟩ := Rc.1.some
      have hkn := Rc.1.lt hk
      refine ⟨k, List.mem_range.mpr hkn, ?_⟩
      symm
      exact same_eq (fs := []) (fun f hf => by cases hf) lc (by simp [unitL]) Rc (un k hkn) gc (ug k hkn) fun i hi => by
        rw [unitL_vec hkn] at hi
        by_cases e : i = k
        · rw [e]; exact hk
        · rw [if_neg e] at hi; omega
  · unfold baseL
    unfold List.Nodup
    rw [List.pairwise_map]
    refine List.Pairwise.imp_of_mem ?_ (List.nodup_range (n := n))
    intro a b ha hb hne e
    have ha' := List.mem_range.mp ha
    have hb' := List.mem_range.mp hb
    have h1 := unitL_vec ha' a
    rw [e, unitL_vec hb' a, if_pos rfl, if_neg hne] at h1
    cases h1
noncomputable def ddL (m : List (List Int)) : Nat → List (List Int)
  | 0 => baseL m.length
  | j + 1 => ddStep m j (ddL m j)
theorem dd_all (m : List (List Int)) : ∀ j, IsAll (wares j m.length (rowsOf m)) m.length (ddL m j)
  | 0 => base_all _
  | j + 1 => dd_step (dd_all m j)
end My
set_option Elab.async false
set_option linter.all false
namespace My
theorem at_lin (k : Nat) : IsLin (fun u : Vec => u k) := ⟨rfl, fun _ _ _ => rfl⟩
section
variable {fs : List (Vec → Int)} {n : Nat}
noncomputable def DimLe (fs : List (Vec → Int)) (S : List Nat) (d : Nat) : Prop := ∀ U : List Vec, U.length = d + 1 → (∀ u ∈ U, KerS fs (· ∈ S) u) → ¬ Indep U
theorem ker_mul (hl : ∀ f ∈ fs, IsLin f) {v u : Vec} (hv : LeanR fs n v) (hu : KerS fs (fun k => 0 < v k) u) : ∃ p q : Int, p ≠ 0 ∧ ∀ k, p * u k = q * v k := by
  obtain ⟨v0, h0, ⟨k0, hk0⟩, hall⟩ := (lean_iff hl hv.1).mp hv
  obtain ⟨a, b, ha, e⟩ := hall u hu
  obtain ⟨a', b', ha', e'⟩ := hall v ⟨fun k hk => by have := hv.1.nn k; omega, hv.1.ev⟩
  have b0 : b' ≠ 0 := fun q => by
    obtain ⟨k, hk⟩ := hv.1.some
    have := e' k
    rw [q, Int.zero_mul] at this
    rcases Int.mul_eq_zero.mp this with q | q <;> omega
  refine ⟨a * b', b * a', Int.mul_ne_zero ha b0, fun k => ?_⟩
  have h1 := e k
  have h2 := e' k
  have e3 : a * b' * u k = b' * (a * u k) := by grind
  have e4 : b * a' * v k = b * (a' * v k) := by grind
  rw [e3, e4, h1, h2]; grind
theorem Round.ker {c : Vec} {S : List Nat} (h : Round fs n c) (hs : ∀ k, 0 < c k → k ∈ S) : KerS fs (· ∈ S) c :=
  ⟨fun k hk => Classical.byContradiction fun q => hk (hs k (by have := h.nn k; omega)), h.ev⟩
theorem dep_of {U : List Vec} (h : ¬ Indep U) : ∃ ls : List Int, ls.length = U.length ∧ (∀ k, comb ls U k = 0) ∧ ∃ l ∈ ls, l ≠ 0 := Classical.byContradiction fun q => h fun ls h1 h2 l hl => Classical.byContradiction fun q2 => q ⟨ls, h1, h2, l, hl, q2⟩
theorem dep2 {a b : Vec} (h : ¬ Indep [a, b]) : ∃ x y : Int, ¬ (x = 0 ∧ y = 0) ∧ ∀ k, x * a k + y * b k = 0 := by
  obtain ⟨ls, h1, h2, l, hl, hn⟩ := dep_of h
  match ls, h1 with
  | [x, y], _ =>
    refine ⟨x, y, fun ⟨q1, q2⟩ => ?_, fun k => ?_⟩
    · subst q1 q2; simp at hl; exact hn hl
    · have := h2 k
      simp only [comb] at this; omega
theorem dep3 {a b c : Vec} (h : ¬ Indep [a, b, c]) : ∃ x y z : Int, ¬ (x = 0 ∧ y = 0 ∧ z = 0) ∧ ∀ k, x * a k + y * b k + z * c k = 0 := by
  obtain ⟨ls, h1, h2, l, hl, hn⟩ := dep_of h
  match ls, h1 with
  | [x, y, z], _ =>
    refine ⟨x, y, z, fun ⟨q1, q2, q3⟩ => ?_, fun k => ?_⟩
    · subst q1 q2 q3; simp at hl; exact hn hl
    · have := h2 k
      simp only [comb] at this; omega
theorem dep5 {a b c d e : Vec} (h : ¬ Indep [a, b, c, d, e]) : ∃ x y z u v : Int, ¬ (x = 0 ∧ y = 0 ∧ z = 0 ∧ u = 0 ∧ v = 0) ∧ ∀ k, x * a k + y * b k + z * c k + u * d k + v * e k = 0 := by
  obtain ⟨ls, h1, h2, l, hl, hn⟩ := dep_of h
  match ls, h1 with
  | [x, y, z, u, v], _ =>
    refine ⟨x, y, z, u, v, fun ⟨q1, q2, q3, q4, q5⟩ => ?_, fun k => ?_⟩
    · subst q1 q2 q3 q4 q5; simp at hl; exact hn hl
    · have := h2 k
      simp only [comb] at this; omega
theorem lin5 {f : Vec → Int} (h : IsLin f) (x y z u v : Int) (a b c d e : Vec) (q : ∀ k, x * a k + y * b k + z * c k + u * d k + v * e k = 0) : x * f a + y * f b + z * f c + u * f d + v * f e = 0 := by
  have e0 : (fun k => x * a k + (y * b k + (z * c k + (u * d k + (v * e k + 0))))) = fun _ => 0 := by funext k; have := q k; omega
  have h1 := h.add x a (fun k => y * b k + (z * c k + (u * d k + (v * e k + 0))))
  have h2 := h.add y b (fun k => z * c k + (u * d k + (v * e k + 0)))
  have h3 := h.add z c (fun k => u * d k + (v * e k + 0))
  have h4 := h.add u d (fun k => v * e k + 0)
  have h5 := h.add v e (fun _ => 0)
  rw [e0, h.zero] at h1
  rw [h.zero] at h5
  omega
theorem lean_zero (hl : ∀ f ∈ fs, IsLin f) {f : Vec → Int} (hf : IsLin f) {v a : Vec} (hv : LeanR fs n v) (ha : Round fs n a) (h0 : f v = 0) (hs : ∀ k, 0 < a k → 0 < v k) : f a = 0 := by
  obtain ⟨s, t, s0, t0, e⟩ := lean_same hl hv ha hs
  have h1 := lin_two hf s 0 v v
  have h2 := lin_two hf t 0 a a
  have e3 : (fun k => s * v k + 0 * v k) = fun k => t * a k + 0 * a k := by funext k; rw [e k]; simp
  rw [e3, h2, h0] at h1
  simp only [Int.zero_mul, Int.mul_zero, Int.add_zero] at h1
  rcases Int.mul_eq_zero.mp h1 with q | q
  · omega
  · exact q
theorem sgn_mul {x y : Int} (h : 0 ≤ x * y) (hy : 0 < y) : 0 ≤ x := Classical.byContradiction fun q => by
  have := Int.mul_neg_of_neg_of_pos (show x < 0 by omega) hy; omega
theorem both_pos {x y a b : Int} (ha : a < 0) (hb : 0 < b) (h : x * a + y * b = 0) : (x = 0 ∧ y = 0) ∨ (0 < x ∧ 0 < y) ∨ (x < 0 ∧ y < 0) := by
  rcases Int.lt_trichotomy x 0 with q | q | q
  · right; right
    refine ⟨q, Classical.byContradiction fun q2 => ?_⟩
    have h1 := Int.mul_pos_of_neg_of_neg q ha
    have h2 := Int.mul_nonneg (show 0 ≤ y by omega) (show 0 ≤ b by omega)
    omega
  · left
    subst q
    refine ⟨rfl, ?_⟩
    rw [Int.zero_mul, Int.zero_add] at h
    rcases Int.mul_eq_zero.mp h with q | q <;> omega
  · right; left
    refine ⟨q, Classical.byContradiction fun q2 => ?_⟩
    have h1 := Int.mul_neg_of_pos_of_neg q ha
    have h2 := Int.mul_nonneg (show 0 ≤ -y by omega) (show 0 ≤ b by omega)
    rw [Int.neg_mul] at h2
    omega
theorem no_saddle (hl : ∀ f ∈ fs, IsLin f) {S : List Nat} (h4 : DimLe fs S 4) {f : Vec → Int} (hf : IsLin f) {v : Vec} (hv : LeanR fs n v) (hvS : ∀ k, 0 < v k → k ∈ S) (fv : f v = 0)
    (act : ∀ k ∈ S, ∃ u, KerS fs (· ∈ S) u ∧ u k ≠ 0)
    (hk : ∀ k ∈ S, v k = 0 → ∃ a b, LeanR fs n a ∧ LeanR fs n b ∧ (∀ i, 0 < a i → i ∈ S) ∧ (∀ i, 0 < b i → i ∈ S) ∧ a k = 0 ∧ b k = 0 ∧ f a < 0 ∧ 0 < f b)
    {k1 : Nat} (hk1 : k1 ∈ S) (hv1 : v k1 = 0) : False := by
  -- the mixtures
  have C : ∀ k ∈ S, v k = 0 → ∃ a b c, LeanR fs n a ∧ LeanR fs n b ∧ KerS fs (· ∈ S) a ∧ KerS fs (· ∈ S) b ∧ KerS fs (· ∈ S) c ∧ f a < 0 ∧ 0 < f b ∧ f c = 0 ∧ (∀ i, 0 ≤ c i) ∧ c k = 0 ∧ (∀ i, c i = 0 → a i = 0 ∧ b i = 0) ∧ ∃ i ∈ S, v i = 0 ∧ 0 < c i := by
    intro k hkS hvk
    obtain ⟨a, b, La, Lb, aS, bS, ak, bk, fa, fb⟩ := hk k hkS hvk
    have R := mix_round (fs := fs) (n := n) hl hf Lb.1 La.1 fb fa
    have sup := fun i => mix_sup (f := f) Lb.1.nn La.1.nn fb fa i
    refine ⟨a, b, mixV f b a, La, Lb, La.1.ker aS, Lb.1.ker bS, R.less.ker fun i hi => ?_, fa, fb, R.ev f (by simp), R.nn, ?_, fun i hi => ?_, ?_⟩
    · rcases (sup i).mp hi with q | q
      · exact bS i q
      · exact aS i q
    · unfold mixV; rw [ak, bk]; simp
    · have : ¬ (0 < b i ∨ 0 < a i) := fun q => by have := (sup i).mpr q; omega
      have := La.1.nn i
      have := Lb.1.nn i
      omega
    · refine Classical.byContradiction fun q => ?_
      have : f a = 0 := lean_zero hl hf hv La.1 fv fun i hi => Classical.byContradiction fun q2 => q ⟨i, aS i hi, by have := hv.1.nn i; omega, (sup i).mpr (.inr hi)⟩
      omega
  obtain ⟨a1, b1, c1, La1, Lb1, Ka1, Kb1, Kc1, fa1, fb1, fc1, nc1, c11, zc1, k2, hk2, hv2, c12⟩ := C k1 hk1 hv1
  obtain ⟨a2, b2, c2, La2, Lb2, Ka2, Kb2, Kc2, fa2, fb2, fc2, nc2, c22, zc2, -⟩ := C k2 hk2 hv2
  have Kv : KerS fs (· ∈ S) v := hv.1.ker hvS
  have v0 : ∀ {x : Int}, (∀ k, x * v k = 0) → x = 0 := fun {x} h => by
    obtain ⟨k, hk⟩ := hv.1.some
    rcases Int.mul_eq_zero.mp (h k) with q | q
    · exact q
    · omega
  -- each deed is spared by one of the two
  have cov : ∀ k ∈ S, v k = 0 → c1 k = 0 ∨ c2 k = 0 := by
    intro k hkS hvk
    refine Classical.byContradiction fun q => ?_
    have p1 : 0 < c1 k := by have := nc1 k; omega
    have p2 : 0 < c2 k := by have := nc2 k; omega
    obtain ⟨a, b, c, La, Lb, Ka, Kb, Kc, fa, fb, fc, nc, ck, zc, i, hi, hvi, ci⟩ := C k hkS hvk
    obtain ⟨x0, x1, x2, x3, x4, hne, e⟩ := dep5 (h4 [a1, c, c1, c2, v] rfl (by
      intro u hu
      simp only [List.mem_cons, List.not_mem_nil, or_false] at hu
      rcases hu with rfl | rfl | rfl | rfl | rfl <;> assumption))
    have ef := lin5 hf _ _ _ _ _ _ _ _ _ _ e
    rw [fc, fc1, fc2, fv] at ef
    simp only [Int.mul_zero, Int.add_zero] at ef
    have x00 : x0 = 0 := by
      rcases Int.mul_eq_zero.mp ef with q | q
      · exact q
      · omega
    subst x00
    have ek := e k
    have ek1 := e k1
    have ek2 := e k2
    rw [ck, hvk] at ek
    rw [c11, hv1] at ek1
    rw [c22, hv2] at ek2
    simp only [Int.zero_mul, Int.mul_zero, Int.add_zero, Int.zero_add] at ek ek1 ek2
    -- signs, for x1 above nought
    have main : ∀ {x1 x2 x3 x4 : Int}, 0 < x1 → (∀ k, x1 * c k + x2 * c1 k + x3 * c2 k + x4 * v k = 0) → x2 * c1 k + x3 * c2 k = 0 → x1 * c k1 + x3 * c2 k1 = 0 → x1 * c k2 + x2 * c1 k2 = 0 → False := by
      intro x1 x2 x3 x4 hx e ek ek1 ek2
      have n2 : x2 ≤ 0 := by
        have h1 := Int.mul_nonneg (show 0 ≤ x1 by omega) (nc k2)
        have h2 : 0 ≤ (-x2) * c1 k2 := by rw [Int.neg_mul]; omega
        have := sgn_mul h2 c12
        omega
      have n3 : 0 ≤ x3 := by
        have h1 := Int.mul_nonneg (show 0 ≤ -x2 by omega) (nc1 k)
        rw [Int.neg_mul] at h1
        exact sgn_mul (show 0 ≤ x3 * c2 k by omega) p2
      have h1 := Int.mul_nonneg (show 0 ≤ x1 by omega) (nc k1)
      have h2 := Int.mul_nonneg n3 (nc2 k1)
      have h3 : x3 * c2 k1 = 0 := by omega
      by_cases z3 : x3 = 0
      · subst z3
        rw [Int.zero_mul, Int.add_zero] at ek
        have z2 : x2 = 0 := by rcases Int.mul_eq_zero.mp ek with q | q <;> omega
        subst z2
        have := e i
        rw [hvi] at this
        simp only [Int.zero_mul, Int.mul_zero, Int.add_zero] at this
        rcases Int.mul_eq_zero.mp this with q | q <;> omega
      · have z2 : c2 k1 = 0 := by rcases Int.mul_eq_zero.mp h3 with q | q <;> omega
        -- no way to come out even has the first deed
        obtain ⟨w, Kw, hw⟩ := act k1 hk1
        obtain ⟨y0, y1, y2, y3, y4, hne, g⟩ := dep5 (h4 [w, a1, c1, c2, v] rfl (by
          intro u hu
          simp only [List.mem_cons, List.not_mem_nil, or_false] at hu
          rcases hu with rfl | rfl | rfl | rfl | rfl <;> assumption))
        have g1 := g k1
        rw [(zc1 k1 c11).1, c11, z2, hv1] at g1
        simp only [Int.mul_zero, Int.add_zero] at g1
        have y00 : y0 = 0 := by
          rcases Int.mul_eq_zero.mp g1 with q | q
          · exact q
          · exact absurd q hw
        subst y00
        have gf := lin5 hf _ _ _ _ _ _ _ _ _ _ g
        rw [fc1, fc2, fv] at gf
        simp only [Int.mul_zero, Int.add_zero, Int.zero_mul, Int.zero_add] at gf
        have y10 : y1 = 0 := by
          rcases Int.mul_eq_zero.mp gf with q | q
          · exact q
          · omega
        subst y10
        have g2 := g k2
        rw [c22, hv2] at g2
        simp only [Int.mul_zero, Int.add_zero, Int.zero_mul, Int.zero_add] at g2
        have y20 : y2 = 0 := by
          rcases Int.mul_eq_zero.mp g2 with q | q
          · exact q
          · omega
        subst y20
        have g3 := g k
        rw [hvk] at g3
        simp only [Int.mul_zero, Int.add_zero, Int.zero_mul, Int.zero_add] at g3
        have y30 : y3 = 0 := by
          rcases Int.mul_eq_zero.mp g3 with q | q
          · exact q
          · omega
        subst y30
        have y40 : y4 = 0 := v0 fun k => by have := g k; simpa using this
        exact hne ⟨rfl, rfl, rfl, rfl, y40⟩
    rcases Int.lt_trichotomy x1 0 with q | q | q
    · refine main (x1 := -x1) (x2 := -x2) (x3 := -x3) (x4 := -x4) (by omega) (fun k => ?_) ?_ ?_ ?_
      · have := e k
        simp only [Int.neg_mul]; simp only [Int.zero_mul, Int.zero_add] at this; omega
      · simp only [Int.neg_mul]; omega
      · simp only [Int.neg_mul]; omega
      · simp only [Int.neg_mul]; omega
    · subst q
      simp only [Int.zero_mul, Int.zero_add] at ek1 ek2
      have z2 : x2 = 0 := by rcases Int.mul_eq_zero.mp ek2 with q | q <;> omega
      subst z2
      simp only [Int.zero_mul, Int.zero_add] at ek
      have z3 : x3 = 0 := by rcases Int.mul_eq_zero.mp ek with q | q <;> omega
      subst z3
      exact hne ⟨rfl, rfl, rfl, rfl, v0 fun k => by have := e k; simpa using this⟩
    · exact main q (fun k => by have := e k; simpa using this) ek ek1 ek2
  -- five ways in four dimensions
  obtain ⟨x, y, z, u, t, hne, e⟩ := dep5 (h4 [a1, b1, a2, b2, v] rfl (by
    intro u hu
    simp only [List.mem_cons, List.not_mem_nil, or_false] at hu
    rcases hu with rfl | rfl | rfl | rfl | rfl <;> assumption))
  have Ky : KerS fs (fun k => 0 < v k) (fun k => x * a1 k + y * b1 k) := by
    refine ⟨fun k hk => ?_, fun g hg => by rw [lin_two (hl g hg), La1.1.ev g hg, Lb1.1.ev g hg]; simp⟩
    show x * a1 k + y * b1 k = 0
    have hvk : v k = 0 := by have := hv.1.nn k; omega
    by_cases hkS : k ∈ S
    · rcases cov k hkS hvk with q | q
      · rw [(zc1 k q).1, (zc1 k q).2]; simp
      · have := e k
        rw [(zc2 k q).1, (zc2 k q).2, hvk] at this
        simpa using this
    · rw [Ka1.sup k hkS, Kb1.sup k hkS]; simp
  obtain ⟨p, q, hp, epq⟩ := ker_mul hl hv Ky
  have fy : x * f a1 + y * f b1 = 0 := by
    have h1 := lin_two hf p 0 (fun k => x * a1 k + y * b1 k) (fun k => x * a1 k + y * b1 k)
    have h2 := lin_two hf q 0 v v
    have e3 : (fun k => p * (fun k => x * a1 k + y * b1 k) k + 0 * (fun k => x * a1 k + y * b1 k) k) = fun k => q * v k + 0 * v k := by funext k; rw [epq k]; simp
    rw [e3, h2, fv] at h1
    simp only [Int.mul_zero, Int.zero_mul, Int.add_zero] at h1
    rw [lin_two hf] at h1
    rcases Int.mul_eq_zero.mp h1.symm with q | q
    · exact absurd q hp
    · exact q
  -- a mixture of both sides is no multiple of v
  have noM : ∀ {a b : Vec} {x y z : Int}, LeanR fs n a → LeanR fs n b → f a < 0 → 0 < x → 0 < y → (∀ k, x * a k + y * b k = z * v k) → False := by
    intro a b x y z La Lb fa hx hy e
    have : f a = 0 := lean_zero hl hf hv La.1 fv fun k hk => Classical.byContradiction fun q => by
      have hvk : v k = 0 := by have := hv.1.nn k; omega
      have := e k
      rw [hvk, Int.mul_zero] at this
      have h1 := Int.mul_pos hx hk
      have h2 := Int.mul_nonneg (show 0 ≤ y by omega) (Lb.1.nn k)
      omega
    omega
  have xy : x = 0 ∧ y = 0 := by
    rcases both_pos fa1 fb1 fy with h | h | h
    · exact h
    · exfalso
      rcases Int.lt_or_gt_of_ne hp with hp | hp
      · refine noM (x := -p * x) (y := -p * y) (z := -q) La1 Lb1 fa1 (Int.mul_pos (by omega) h.1) (Int.mul_pos (by omega) h.2) fun k => ?_
        have := epq k
        grind
      · refine noM (x := p * x) (y := p * y) (z := q) La1 Lb1 fa1 (Int.mul_pos (by omega) h.1) (Int.mul_pos (by omega) h.2) fun k => ?_
        have := epq k
        grind
    · exfalso
      rcases Int.lt_or_gt_of_ne hp with hp | hp
      · refine noM (x := p * x) (y := p * y) (z := q) La1 Lb1 fa1 (Int.mul_pos_of_neg_of_neg (by omega) h.1) (Int.mul_pos_of_neg_of_neg (by omega) h.2) fun k => ?_
        have := epq k
        grind
      · refine noM (x := -p * x) (y := -p * y) (z := -q) La1 Lb1 fa1 (Int.mul_pos_of_neg_of_neg (by omega) h.1) (Int.mul_pos_of_neg_of_neg (by omega) h.2) fun k => ?_
        have := epq k
        grind
  obtain ⟨rfl, rfl⟩ := xy
  have ef := lin5 hf _ _ _ _ _ _ _ _ _ _ e
  rw [fv] at ef
  simp only [Int.mul_zero, Int.add_zero, Int.zero_mul, Int.zero_add] at ef
  rcases both_pos fa2 fb2 ef with h | h | h
  · obtain ⟨rfl, rfl⟩ := h
    exact hne ⟨rfl, rfl, rfl, rfl, v0 fun k => by have := e k; simpa using this⟩
  · exact noM (z := -t) La2 Lb2 fa2 h.1 h.2 fun k => by have := e k; grind
  · exact noM (x := -z) (y := -u) (z := t) La2 Lb2 fa2 (by omega) (by omega) fun k => by have := e k; grind
end
end My
set_option Elab.async false
set_option linter.all false
namespace My
theorem sum_two {α β : Type} (p : α → β → Bool) : ∀ (S : List α) (A : List β), (S.map fun k => (A.filter fun c => p k c).length).sum = (A.map fun c => (S.filter fun k => p k c).length).sum
  | [], A => by
    show 0 = _
    induction A with
    | nil => rfl
    | cons a A ih => simpa using ih
  | k :: S, A => by
    rw [List.map_cons, List.sum_cons, sum_two p S A]
    induction A with
    | nil => rfl
    | cons a A ih =>
      have e1 : ((a :: A).filter fun c => p k c).length = (A.filter fun c => p k c).length + (if p k a then 1 else 0) := by
        rw [List.filter_cons]; split <;> simp
      have e2 : ((k :: S).filter fun k => p k a).length = (S.filter fun k => p k a).length + (if p k a then 1 else 0) := by
        rw [List.filter_cons]; split <;> simp
      rw [List.map_cons, List.sum_cons, List.map_cons, List.sum_cons, e1, e2]
      omega
theorem sum_le {α : Type} {f : α → Nat} {G : Nat} : ∀ {S : List α}, (∀ k ∈ S, f k ≤ G) → (S.map f).sum ≤ S.length * G
  | [], _ => by simp
  | k :: S, h => by
    have ih := sum_le (S := S) fun j hj => h j (.tail _ hj)
    have := h k (.head _)
    rw [List.map_cons, List.sum_cons, List.length_cons, Nat.add_mul]; omega
theorem le_sum {α : Type} {f : α → Nat} {d : Nat} : ∀ {S : List α}, (∀ k ∈ S, d ≤ f k) → S.length * d ≤ (S.map f).sum
  | [], _ => by simp
  | k :: S, h => by
    have ih := le_sum (S := S) fun j hj => h j (.tail _ hj)
    have := h k (.head _)
    rw [List.map_cons, List.sum_cons, List.length_cons, Nat.add_mul]; omega
theorem sum_ends {α : Type} [DecidableEq α] {f : α → Nat} {a b : α} (hab : a ≠ b) (fa : 3 ≤ f a) (fb : 3 ≤ f b) {A : List α} (nd : A.Nodup) (ha : a ∈ A) (hb : b ∈ A) (h : ∀ c ∈ A, 1 ≤ f c) : A.length + 4 ≤ (A.map f).sum := by
  have p1 := List.perm_cons_erase ha
  have hb' : b ∈ A.erase a := (List.mem_erase_of_ne (Ne.symm hab)).mpr hb
  have p2 := List.perm_cons_erase hb'
  have p : A.Perm (a :: b :: (A.erase a).erase b) := p1.trans (p2.cons a)
  have e1 := (p.map f).sum_nat
  have e2 := p.length_eq
  rw [e1, e2]
  simp only [List.map_cons, List.sum_cons, List.length_cons]
  have := le_sum (f := f) (d := 1) (S := (A.erase a).erase b) fun c hc => h c (List.mem_of_mem_erase (List.mem_of_mem_erase hc))
  omega
section
variable {fs : List (Vec → Int)} {n : Nat} {L : List (List Int)}
noncomputable def insd (n : Nat) (S : List Nat) (c : List Int) : Bool := (List.range n).all fun k => !decide (0 < vecOf c k) || decide (k ∈ S)
theorem insd_iff {S : List Nat} {c : List Int} (h : Round fs n (vecOf c)) : insd n S c = true ↔ ∀ k, 0 < vecOf c k → k ∈ S := by
  unfold insd
  rw [List.all_eq_true]
  constructor
  · intro q k hk
    have := q k (List.mem_range.mpr (h.lt hk))
    simpa [hk] using this
  · intro q k _
    by_cases hk : 0 < vecOf c k
    · simp [q k hk]
    · simp [hk]
noncomputable def within (n : Nat) (L : List (List Int)) (S : List Nat) : List (List Int) := L.filter (insd n S)
theorem within_mem (hL : IsAll fs n L) {S : List Nat} {c : List Int} : c ∈ within n L S ↔ c ∈ L ∧ ∀ k, 0 < vecOf c k → k ∈ S := by
  unfold within
  rw [List.mem_filter]
  constructor
  · rintro ⟨h1, h2⟩
    exact ⟨h1, (insd_iff ((hL.mem c).mp h1).2.1.1).mp h2⟩
  · rintro ⟨h1, h2⟩
    exact ⟨h1, (insd_iff ((hL.mem c).mp h1).2.1.1).mpr h2⟩
noncomputable def Active (n : Nat) (L : List (List Int)) (S : List Nat) : Prop := ∀ k ∈ S, ∃ c ∈ within n L S, 0 < vecOf c k
noncomputable def active (n : Nat) (L : List (List Int)) (S : List Nat) : List Nat := S.filter fun k => (within n L S).any fun c => decide (0 < vecOf c k)
theorem active_mem {S : List Nat} {k : Nat} : k ∈ active n L S ↔ k ∈ S ∧ ∃ c ∈ within n L S, 0 < vecOf c k := by
  unfold active
  rw [List.mem_filter, List.any_eq_true]
  simp
theorem active_same (hL : IsAll fs n L) (S : List Nat) : within n L (active n L S) = within n L S := by
  unfold within
  apply List.filter_congr
  intro c hc
  have R := ((hL.mem c).mp hc).2.1.1
  rw [Bool.eq_iff_iff, insd_iff R, insd_iff R]
  constructor
  · intro h k hk
    exact (active_mem.mp (h k hk)).1
  · intro h k hk
    exact active_mem.mpr ⟨h k hk, c, (within_mem hL).mpr ⟨hc, h⟩, hk⟩
theorem active_ok (hL : IsAll fs n L) (S : List Nat) : Active n L (active n L S) := fun k hk => by
  rw [active_same hL]
  exact (active_mem.mp hk).2
theorem DimLe.less {S S' : List Nat} {d : Nat} (h : DimLe fs S (d + 1)) {k : Nat} {x : Vec} (hx : KerS fs (· ∈ S) x) (hxk : x k ≠ 0) (hs : ∀ j ∈ S', j ∈ S ∧ j ≠ k) : DimLe fs S' d := by
  intro U hU hK hI
  refine h (x :: U) (by simp [hU]) (fun u hu => ?_) fun ls hls hz l hl => ?_
  · rcases List.mem_cons.mp hu with e | e
    · rw [e]; exact hx
    · exact ⟨fun j hj => (hK u e).sup j fun q => hj (hs j q).1, (hK u e).ev⟩
  · cases ls with
    | nil => simp at hls
    | cons l0 ls =>
      have hz' : ∀ j, l0 * x j + comb ls U j = 0 := hz
      have zk : comb ls U k = 0 := by
        have : ∀ (ls : List Int) (U : List Vec), (∀ u ∈ U, u k = 0) → comb ls U k = 0 := by
          intro ls U
          induction U generalizing ls with
          | nil => intro _; rw [comb_nil_r]
          | cons u U ih =>
            intro hu
            cases ls with
            | nil => rfl
            | cons l ls =>
              show l * u k + comb ls U k = 0
              rw [hu u (.head _), ih ls fun w hw => hu w (.tail _ hw)]; simp
        exact this ls U fun u hu => (hK u hu).sup k fun q => (hs k q).2 rfl
      have l00 : l0 = 0 := by
        have := hz' k
        rw [zk, Int.add_zero] at this
        rcases Int.mul_eq_zero.mp this with q | q
        · exact q
        · exact absurd q hxk
      have rest := hI ls (by simpa using hls) fun j => by have := hz' j; rw [l00] at this; simpa using this
      rcases List.mem_cons.mp hl with e | e
      · rw [e]; exact l00
      · exact rest l e
theorem dim_len (S : List Nat) : DimLe fs S S.length := by
  intro U hU hK hI
  have h1 := elim_len (S.map fun k => fun u : Vec => u k) U
  rw [List.length_map] at h1
  have hI2 := elim_indep (fs := S.map fun k => fun u : Vec => u k) hI
  have hz := elim_zero (fs := S.map fun k => fun u : Vec => u k) (U := U) (fun f hf => by
    obtain ⟨k, _, rfl⟩ := List.mem_map.mp hf
    exact at_lin k)
  have hout : ∀ k, k ∉ S → ∀ u ∈ elim (S.map fun k => fun u : Vec => u k) U, u k = 0 := fun k hk u hu => elim_keep (g := fun u : Vec => u k) (at_lin k) (fun u hu => (hK u hu).sup k hk) u hu
  cases e : elim (S.map fun k => fun u : Vec => u k) U with
  | nil => rw [e] at h1; simp at h1; omega
  | cons u V =>
    rw [e] at hI2
    obtain ⟨k, hk⟩ := indep_ne hI2
    apply hk
    by_cases q : k ∈ S
    · exact hz (fun u : Vec => u k) (List.mem_map.mpr ⟨k, q, rfl⟩) u (by rw [e]; exact .head _)
    · exact hout k q u (by rw [e]; exact .head _)
theorem zeros {S : List Nat} {d : Nat} (hl : ∀ f ∈ fs, IsLin f) (hd : ¬ DimLe fs S d) {v : Vec} (hv : LeanR fs n v) : d ≤ (S.filter fun k => decide (¬ 0 < v k)).length := by
  refine Classical.byContradiction fun q => hd fun U hU hK hI => ?_
  generalize hZ : (S.filter fun k => decide (¬ 0 < v k)) = Z at q
  have h1 := elim_len (Z.map fun k => fun u : Vec => u k) U
  rw [List.length_map] at h1
  have hI2 := elim_indep (fs := Z.map fun k => fun u : Vec => u k) hI
  have hz := elim_zero (fs := Z.map fun k => fun u : Vec => u k) (U := U) (fun f hf => by
    obtain ⟨k, _, rfl⟩ := List.mem_map.mp hf
    exact at_lin k)
  have hker : ∀ u ∈ elim (Z.map fun k => fun u : Vec => u k) U, KerS fs (fun k => 0 < v k) u := fun u hu => by
    refine ⟨fun k hk => ?_, fun f hf => elim_keep (hl f hf) (fun u hu => (hK u hu).ev f hf) u hu⟩
    by_cases hkS : k ∈ S
    · exact hz (fun u : Vec => u k) (List.mem_map.mpr ⟨k, by rw [← hZ]; exact List.mem_filter.mpr ⟨hkS, by simpa using hk⟩, rfl⟩) u hu
    · exact elim_keep (g := fun u : Vec => u k) (at_lin k) (fun u hu => (hK u hu).sup k hkS) u hu
  match e : elim (Z.map fun k => fun u : Vec => u k) U with
  | [] => rw [e] at h1; simp at h1; omega
  | [u] => rw [e] at h1; simp at h1; omega
  | u1 :: u2 :: V =>
    rw [e] at hI2 hker
    obtain ⟨p1, q1, p10, e1⟩ := ker_mul hl hv (hker u1 (.head _))
    obtain ⟨p2, q2, p20, e2⟩ := ker_mul hl hv (hker u2 (.tail _ (.head _)))
    have key := hI2 (q2 * p1 :: -(q1 * p2) :: List.replicate V.length 0) (by simp) (fun k => by
      have ec : comb (List.replicate V.length 0) V k = 0 := by
        have e : List.replicate V.length (0 : Int) = (List.replicate V.length 0).map (0 * ·) := by simp
        rw [e, comb_scale]; simp
      show q2 * p1 * u1 k + (-(q1 * p2) * u2 k + comb (List.replicate V.length 0) V k) = 0
      rw [ec]
      have a1 := e1 k
      have a2 := e2 k
      have b1 : q2 * p1 * u1 k = q2 * (p1 * u1 k) := by grind
      have b2 : -(q1 * p2) * u2 k = -(q1 * (p2 * u2 k)) := by grind
      rw [b1, b2, a1, a2]; grind)
    have q20 : q2 = 0 := by
      rcases Int.mul_eq_zero.mp (key _ (.head _)) with q | q
      · exact q
      · exact absurd q p10
    have z2 : ∀ k, u2 k = 0 := fun k => by
      have := e2 k
      rw [q20, Int.zero_mul] at this
      rcases Int.mul_eq_zero.mp this with q | q
      · exact absurd q p20
      · exact q
    have := hI2 (0 :: 1 :: List.replicate V.length 0) (by simp) (fun k => by
      have ec : comb (List.replicate V.length 0) V k = 0 := by
        have e : List.replicate V.length (0 : Int) = (List.replicate V.length 0).map (0 * ·) := by simp
        rw [e, comb_scale]; simp
      show 0 * u1 k + (1 * u2 k + comb (List.replicate V.length 0) V k) = 0
      rw [ec, z2 k]; simp) 1 (by simp)
    exact absurd this (by decide)
theorem faces (hl : ∀ f ∈ fs, IsLin f) (hL : IsAll fs n L) {S : List Nat} {d G : Nat} (hd : ¬ DimLe fs S d) (hG : ∀ k ∈ S, (within n L (S.filter fun j => decide (j ≠ k))).length ≤ G) : (within n L S).length * d ≤ S.length * G := by
  have h1 := le_sum (S := within n L S) (d := d) (f := fun c => (S.filter fun k => decide (¬ 0 < vecOf c k)).length) fun c hc => zeros hl hd ((hL.mem c).mp ((within_mem hL).mp hc).1).2.1
  rw [← sum_two (fun (k : Nat) (c : List Int) => decide (¬ 0 < vecOf c k)) S (within n L S)] at h1
  refine Nat.le_trans h1 (sum_le fun k hk => Nat.le_trans ?_ (hG k hk))
  have nd : ((within n L S).filter fun c => decide (¬ 0 < vecOf c k)).Nodup := List.Nodup.sublist (List.filter_sublist.trans List.filter_sublist) hL.nd
  refine List.Nodup.length_le_of_subset nd fun c hc => ?_
  obtain ⟨c1, c2⟩ := List.mem_filter.mp hc
  obtain ⟨c3, c4⟩ := (within_mem hL).mp c1
  have c2' : ¬ 0 < vecOf c k := by simpa using c2
  refine (within_mem hL).mpr ⟨c3, fun j hj => List.mem_filter.mpr ⟨c4 j hj, ?_⟩⟩
  have : j ≠ k := by rintro rfl; exact c2' hj
  simpa using this
theorem eq_of_sub (hl : ∀ f ∈ fs, IsLin f) (hL : IsAll fs n L) {a b : List Int} (ha : a ∈ L) (hb : b ∈ L) (h : ∀ k, 0 < vecOf b k → 0 < vecOf a k) : a = b := by
  obtain ⟨la, Ra, ga1⟩ := (hL.mem a).mp ha
  obtain ⟨lb, Rb, gb1⟩ := (hL.mem b).mp hb
  exact same_eq hl la lb Ra Rb ga1 gb1 h
theorem one_dim (hl : ∀ f ∈ fs, IsLin f) (hL : IsAll fs n L) {S : List Nat} (hd : DimLe fs S 1) : (within n L S).length ≤ 1 := by
  match e : within n L S with
  | [] => simp
  | [c] => simp
  | a :: b :: r =>
    exfalso
    have nd : (within n L S).Nodup := List.Nodup.sublist List.filter_sublist hL.nd
    rw [e] at nd
    have hab : a ≠ b := by rintro rfl; simp at nd
    obtain ⟨a1, a2⟩ := (within_mem hL).mp (show a ∈ within n L S by rw [e]; exact .head _)
    obtain ⟨b1, b2⟩ := (within_mem hL).mp (show b ∈ within n L S by rw [e]; exact .tail _ (.head _))
    have Ra := ((hL.mem a).mp a1).2.1
    have Rb := ((hL.mem b).mp b1).2.1
    obtain ⟨x, y, hne, q⟩ := dep2 (hd [vecOf a, vecOf b] rfl (by
      intro u hu
      simp only [List.mem_cons, List.not_mem_nil, or_false] at hu
      rcases hu with rfl | rfl
      · exact Ra.1.ker a2
      · exact Rb.1.ker b2))
    have x0 : x ≠ 0 := fun z => by
      subst z
      obtain ⟨k, hk⟩ := Rb.1.some
      have := q k
      simp only [Int.zero_mul, Int.zero_add] at this
      rcases Int.mul_eq_zero.mp this with q | q <;> omega
    apply hab
    refine eq_of_sub hl hL a1 b1 fun k hk => Classical.byContradiction fun q2 => ?_
    have e0 : vecOf a k = 0 := by have := Ra.1.nn k; omega
    have := q k
    rw [e0, Int.mul_zero, Int.zero_add] at this
    have y0 : y = 0 := by rcases Int.mul_eq_zero.mp this with q | q <;> omega
    subst y0
    obtain ⟨k, hk⟩ := Ra.1.some
    have := q k
    simp only [Int.zero_mul, Int.add_zero] at this
    rcases Int.mul_eq_zero.mp this with q | q <;> omega
theorem two_dim (hl : ∀ f ∈ fs, IsLin f) (hL : IsAll fs n L) {S : List Nat} (hd : DimLe fs S 2) : (within n L S).length ≤ 2 := by
  match e : within n L S with
  | [] => simp
  | [c] => simp
  | [c, d] => simp
  | a :: b :: c :: r =>
    exfalso
    have nd : (within n L S).Nodup := List.Nodup.sublist List.filter_sublist hL.nd
    rw [e] at nd
    obtain ⟨hab, hac, hbc⟩ : a ≠ b ∧ a ≠ c ∧ b ≠ c := by
      simp at nd
      exact ⟨nd.1.1, nd.1.2.1, nd.2.1.1⟩
    obtain ⟨a1, a2⟩ := (within_mem hL).mp (show a ∈ within n L S by rw [e]; exact .head _)
    obtain ⟨b1, b2⟩ := (within_mem hL).mp (show b ∈ within n L S by rw [e]; exact .tail _ (.head _))
    obtain ⟨c1, c2⟩ := (within_mem hL).mp (show c ∈ within n L S by rw [e]; exact .tail _ (.tail _ (.head _)))
    have Ra := ((hL.mem a).mp a1).2.1
    have Rb := ((hL.mem b).mp b1).2.1
    have Rc := ((hL.mem c).mp c1).2.1
    obtain ⟨x, y, z, hne, q⟩ := dep3 (hd [vecOf a, vecOf b, vecOf c] rfl (by
      intro u hu
      simp only [List.mem_cons, List.not_mem_nil, or_false] at hu
      rcases hu with rfl | rfl | rfl
      · exact Ra.1.ker a2
      · exact Rb.1.ker b2
      · exact Rc.1.ker c2))
    -- one that stands alone on its side has the other two within
    have alone : ∀ {a b c : List Int} {x y z : Int}, a ∈ L → b ∈ L → c ∈ L → LeanR fs n (vecOf b) → (∀ k, 0 ≤ vecOf b k) → (∀ k, 0 ≤ vecOf c k) → 0 < y → 0 ≤ z → (∀ k, x * vecOf a k + y * vecOf b k + z * vecOf c k = 0) → a = b := by
      intro a b c x y z ha hb hc Lb nb nc hy hz q
      refine eq_of_sub hl hL ha hb fun k hk => Classical.byContradiction fun q2 => ?_
      have e0 : vecOf a k = 0 := by have := (((hL.mem a).mp ha).2.1).1.nn k; omega
      have h1 := Int.mul_pos hy hk
      have h2 := Int.mul_nonneg hz (nc k)
      have := q k
      rw [e0, Int.mul_zero] at this
      omega
    have perm : ∀ {a b c : List Int} {x y z : Int}, a ∈ L → b ∈ L → c ∈ L → a ≠ b → a ≠ c → b ≠ c → ¬ (x = 0 ∧ y = 0 ∧ z = 0) → (0 ≤ y ∧ 0 ≤ z) → (∀ k, x * vecOf a k + y * vecOf b k + z * vecOf c k = 0) → False := by
      intro a b c x y z ha hb hc h1 h2 h3 hn hyz q
      have Ra := ((hL.mem a).mp ha).2.1
      have Rb := ((hL.mem b).mp hb).2.1
      have Rc := ((hL.mem c).mp hc).2.1
      by_cases hy : 0 < y
      · exact h1 (alone ha hb hc Rb Rb.1.nn Rc.1.nn hy hyz.2 q)
      · by_cases hz : 0 < z
        · exact h2 (alone (x := x) (y := z) (z := y) ha hc hb Rc Rc.1.nn Rb.1.nn hz hyz.1 fun k => by have := q k; omega)
        · have y0 : y = 0 := by omega
          have z0 : z = 0 := by omega
          subst y0 z0
          obtain ⟨k, hk⟩ := Ra.1.some
          have := q k
          simp only [Int.zero_mul, Int.add_zero] at this
          rcases Int.mul_eq_zero.mp this with q | q
          · exact hn ⟨q, rfl, rfl⟩
          · omega
    have neg : ∀ k, -x * vecOf a k + -y * vecOf b k + -z * vecOf c k = 0 := fun k => by have := q k; grind
    by_cases hx : 0 ≤ x <;> by_cases hy : 0 ≤ y <;> by_cases hz : 0 ≤ z
    · exact perm a1 b1 c1 hab hac hbc hne ⟨hy, hz⟩ q
    · exact perm (x := z) (y := x) (z := y) c1 a1 b1 (Ne.symm hac) (Ne.symm hbc) hab (fun ⟨h1, h2, h3⟩ => hne ⟨h2, h3, h1⟩) ⟨hx, hy⟩ fun k => by have := q k; omega
    · exact perm (x := y) (y := x) (z := z) b1 a1 c1 (Ne.symm hab) hbc hac (fun ⟨h1, h2, h3⟩ => hne ⟨h2, h1, h3⟩) ⟨hx, hz⟩ fun k => by have := q k; omega
    · exact perm (x := -x) (y := -y) (z := -z) a1 b1 c1 hab hac hbc (fun ⟨h1, h2, h3⟩ => hne ⟨by omega, by omega, by omega⟩) ⟨by omega, by omega⟩ neg
    · exact perm a1 b1 c1 hab hac hbc hne ⟨hy, hz⟩ q
    · exact perm (x := -y) (y := -x) (z := -z) b1 a1 c1 (Ne.symm hab) hbc hac (fun ⟨h1, h2, h3⟩ => hne ⟨by omega, by omega, by omega⟩) ⟨by omega, by omega⟩ fun k => by have := neg k; omega
    · exact perm (x := -z) (y := -x) (z := -y) c1 a1 b1 (Ne.symm hac) (Ne.symm hbc) hab (fun ⟨h1, h2, h3⟩ => hne ⟨by omega, by omega, by omega⟩) ⟨by omega, by omega⟩ fun k => by have := neg k; omega
    · exact perm (x := -x) (y := -y) (z := -z) a1 b1 c1 hab hac hbc (fun ⟨h1, h2, h3⟩ => hne ⟨by omega, by omega, by omega⟩) ⟨by omega, by omega⟩ neg
end
end My
set_option Elab.async false
set_option linter.all false
namespace My
noncomputable def hor (n : Nat) (M : Int) (u : Vec) : Int := sumTo n fun k => u k * M ^ k
noncomputable def tot (n : Nat) (u : Vec) : Int := sumTo n fun k => u k
theorem hor_lin (n : Nat) (M : Int) : IsLin (hor n M) := by
  refine ⟨sumTo_zero fun k _ => by simp, fun a u v => ?_⟩
  unfold hor
  have := sumTo_lin a (fun k => u k * M ^ k) (fun k => v k * M ^ k) n
  rw [← this]
  apply sumTo_congr
  intro k _
  grind
theorem tot_lin (n : Nat) : IsLin (tot n) := by
  refine ⟨sumTo_zero fun k _ => rfl, fun a u v => sumTo_lin a u v n⟩
theorem hor_lt {M : Int} (hM : 0 < M) {z : Vec} : ∀ n, (∀ k, k < n → -M < z k ∧ z k < M) → -(M ^ n) < hor n M z ∧ hor n M z < M ^ n
  | 0, _ => by
    show -(M ^ 0) < 0 ∧ (0 : Int) < M ^ 0
    simp
  | n + 1, h => by
    have ih := hor_lt hM n fun k hk => h k (by omega)
    have hn := h n (by omega)
    have p : 0 < M ^ n := Int.pow_pos hM
    have h1 : z n * M ^ n ≤ (M - 1) * M ^ n := Int.mul_le_mul_of_nonneg_right (by omega) (by omega)
    have h2 : -(M - 1) * M ^ n ≤ z n * M ^ n := Int.mul_le_mul_of_nonneg_right (by omega) (by omega)
    have e1 : (M - 1) * M ^ n = M ^ (n + 1) - M ^ n := by rw [Int.pow_succ]; grind
    have e2 : -(M - 1) * M ^ n = -(M ^ (n + 1)) + M ^ n := by rw [Int.pow_succ]; grind
    show -(M ^ (n + 1)) < hor n M z + z n * M ^ n ∧ hor n M z + z n * M ^ n < M ^ (n + 1)
    omega
theorem hor_zero {M : Int} (hM : 0 < M) {z : Vec} : ∀ n, (∀ k, k < n → -M < z k ∧ z k < M) → hor n M z = 0 → ∀ k, k < n → z k = 0
  | 0, _, _ => fun k hk => absurd hk (by omega)
  | n + 1, h, h0 => by
    have lt := hor_lt hM n fun k hk => h k (by omega)
    have p : 0 < M ^ n := Int.pow_pos hM
    have h0' : hor n M z + z n * M ^ n = 0 := h0
    have zn : z n = 0 := by
      rcases Int.lt_trichotomy (z n) 0 with q | q | q
      · have h1 : z n * M ^ n ≤ -1 * M ^ n := Int.mul_le_mul_of_nonneg_right (by omega) (by omega)
        omega
      · exact q
      · have h1 : 1 * M ^ n ≤ z n * M ^ n := Int.mul_le_mul_of_nonneg_right (by omega) (by omega)
        omega
    rw [zn, Int.zero_mul, Int.add_zero] at h0'
    intro k hk
    by_cases e : k = n
    · rw [e]; exact zn
    · exact hor_zero hM n (fun k hk => h k (by omega)) h0' k (by omega)
theorem list_bound : ∀ (xs : List Int), ∃ M : Int, 0 < M ∧ ∀ x ∈ xs, -M < x ∧ x < M
  | [] => ⟨1, by decide, fun x hx => nomatch hx⟩
  | x :: xs => by
    obtain ⟨M, h0, h⟩ := list_bound xs
    refine ⟨M + x.natAbs + 1, by omega, fun y hy => ?_⟩
    rcases List.mem_cons.mp hy with e | e
    · subst e; omega
    · have := h y e; omega
section
variable {fs : List (Vec → Int)} {n : Nat} {L : List (List Int)}
theorem tot_pos {c : Vec} (h : Round fs n c) : 0 < tot n c := by
  obtain ⟨k, hk⟩ := h.some
  have hkn := h.lt hk
  have : ∀ m, (k < m → 0 < tot m c) ∧ 0 ≤ tot m c := fun m => by
    induction m with
    | zero => exact ⟨fun q => absurd q (by omega), by show (0 : Int) ≤ 0; decide⟩
    | succ m ih =>
      have := h.nn m
      refine ⟨fun q => ?_, ?_⟩
      · show 0 < tot m c + c m
        by_cases e : k = m
        · subst e; omega
        · have := ih.1 (by omega); omega
      · show 0 ≤ tot m c + c m
        omega
  exact (this n).1 hkn
noncomputable def psi (n : Nat) (M : Int) (v u : Vec) : Int := tot n v * hor n M u - hor n M v * tot n u
theorem psi_lin (n : Nat) (M : Int) (v : Vec) : IsLin (psi n M v) := by
  have h1 := hor_lin n M
  have h2 := tot_lin n
  refine ⟨by unfold psi; rw [h1.zero, h2.zero]; simp, fun a u w => ?_⟩
  unfold psi
  rw [h1.add, h2.add]; grind
theorem psi_self (n : Nat) (M : Int) (v : Vec) : psi n M v v = 0 := by unfold psi; grind
theorem psi_anti (n : Nat) (M : Int) (v u : Vec) : psi n M v u = -(psi n M u v) := by unfold psi; grind
theorem psi_trans {M : Int} {u v w : Vec} (pu : 0 < tot n u) (pv : 0 < tot n v) (pw : 0 < tot n w) (h1 : psi n M v u < 0) (h2 : psi n M w v < 0) : psi n M w u < 0 := by
  have e : tot n v * psi n M w u = tot n w * psi n M v u + tot n u * psi n M w v := by unfold psi; grind
  have a1 := Int.mul_neg_of_pos_of_neg pw h1
  have a2 := Int.mul_neg_of_pos_of_neg pu h2
  refine Classical.byContradiction fun q => ?_
  have := Int.mul_nonneg (show 0 ≤ tot n v by omega) (show 0 ≤ psi n M w u by omega)
  omega
theorem sep (hl : ∀ f ∈ fs, IsLin f) (hL : IsAll fs n L) : ∃ M : Int, ∀ u ∈ L, ∀ v ∈ L, u ≠ v → psi n M (vecOf v) (vecOf u) ≠ 0 := by
  obtain ⟨M, h0, hM⟩ := list_bound (L.flatMap fun u => L.flatMap fun v => (List.range n).map fun k => tot n (vecOf v) * vecOf u k + -(tot n (vecOf u)) * vecOf v k)
  refine ⟨M, fun u hu v hv hne q => hne ?_⟩
  obtain ⟨lu, Ru, gu⟩ := (hL.mem u).mp hu
  obtain ⟨lv, Rv, gv⟩ := (hL.mem v).mp hv
  have e : hor n M (fun k => tot n (vecOf v) * vecOf u k + -(tot n (vecOf u)) * vecOf v k) = 0 := by
    rw [lin_two (hor_lin n M)]
    unfold psi at q
    grind
  have hz := hor_zero h0 n (fun k hk => hM _ (List.mem_flatMap.mpr ⟨u, hu, List.mem_flatMap.mpr ⟨v, hv, List.mem_map.mpr ⟨k, List.mem_range.mpr hk, rfl⟩⟩⟩)) e
  have pu := tot_pos Ru.1
  have pv := tot_pos Rv.1
  refine prim_eq (a := tot n (vecOf v)) (t := tot n (vecOf u)) (by omega) (by omega) (fun k => ?_) gu gv Ru.1.nn Rv.1.nn
  by_cases hk : k < n
  · have := hz k hk; grind
  · rw [vec_out (by omega), vec_out (by omega)]; simp
theorem lowest_of {α : Type} {lt : α → α → Prop} (trans : ∀ a b c, lt a b → lt b c → lt a c) : ∀ {A : List α}, A ≠ [] → (∀ a ∈ A, ∀ b ∈ A, a ≠ b → lt a b ∨ lt b a) → ∃ m ∈ A, ∀ a ∈ A, a = m ∨ lt m a
  | [], h, _ => absurd rfl h
  | [a], _, _ => ⟨a, .head _, fun b hb => .inl (List.mem_singleton.mp hb)⟩
  | a :: b :: r, _, tt => by
    obtain ⟨m, hm, hmin⟩ := lowest_of trans (A := b :: r) (by simp) fun x hx y hy => tt x (.tail _ hx) y (.tail _ hy)
    by_cases e : a = m
    · refine ⟨m, .tail _ hm, fun x hx => ?_⟩
      rcases List.mem_cons.mp hx with q | q
      · rw [q]; exact .inl e
      · exact hmin x q
    · rcases tt a (.head _) m (.tail _ hm) e with q | q
      · refine ⟨a, .head _, fun x hx => ?_⟩
        rcases List.mem_cons.mp hx with q2 | q2
        · exact .inl q2
        · rcases hmin x q2 with q3 | q3
          · subst q3; exact .inr q
          · exact .inr (trans _ _ _ q q3)
      · refine ⟨m, .tail _ hm, fun x hx => ?_⟩
        rcases List.mem_cons.mp hx with q2 | q2
        · subst q2; exact .inr q
        · exact hmin x q2
theorem sum_add {α : Type} (f g : α → Nat) : ∀ A : List α, (A.map fun v => f v + g v).sum = (A.map f).sum + (A.map g).sum
  | [] => rfl
  | a :: A => by
    have := sum_add f g A
    simp only [List.map_cons, List.sum_cons]; omega
theorem four_dim (hl : ∀ f ∈ fs, IsLin f) (hL : IsAll fs n L) {S : List Nat} (hact : Active n L S) (h4 : DimLe fs S 4) (h3 : ¬ DimLe fs S 3) : (within n L S).length ≤ 2 ∨ (within n L S).length + 4 ≤ 2 * S.length := by
  by_cases hN : (within n L S).length ≤ 2
  · exact .inl hN
  right
  obtain ⟨M, hM⟩ := sep hl hL
  generalize hA : within n L S = A at hN
  have nd : A.Nodup := by rw [← hA]; exact List.Nodup.sublist List.filter_sublist hL.nd
  have mem : ∀ {c}, c ∈ A → c ∈ L ∧ LeanR fs n (vecOf c) ∧ ∀ k, 0 < vecOf c k → k ∈ S := fun {c} hc => by
    rw [← hA] at hc
    obtain ⟨h1, h2⟩ := (within_mem hL).mp hc
    exact ⟨h1, ((hL.mem c).mp h1).2.1, h2⟩
  let lt : List Int → List Int → Prop := fun a b => psi n M (vecOf b) (vecOf a) < 0
  have tr : ∀ a ∈ A, ∀ b ∈ A, ∀ c ∈ A, lt a b → lt b c → lt a c := fun a ha b hb c hc h1 h2 => psi_trans (tot_pos (mem ha).2.1.1) (tot_pos (mem hb).2.1.1) (tot_pos (mem hc).2.1.1) h1 h2
  have tt : ∀ a ∈ A, ∀ b ∈ A, a ≠ b → lt a b ∨ lt b a := fun a ha b hb hne => by
    have h1 := hM a (mem ha).1 b (mem hb).1 hne
    have h2 := psi_anti n M (vecOf b) (vecOf a)
    show psi n M (vecOf b) (vecOf a) < 0 ∨ psi n M (vecOf a) (vecOf b) < 0
    omega
  have irr : ∀ a b, lt a b → ¬ lt b a := fun a b h1 h2 => by
    have h3 := psi_anti n M (vecOf b) (vecOf a)
    have h1' : psi n M (vecOf b) (vecOf a) < 0 := h1
    have h2' : psi n M (vecOf a) (vecOf b) < 0 := h2
    omega
  -- the lowest and the highest of all
  have ex : ∀ (r : List Int → List Int → Prop), (∀ a ∈ A, ∀ b ∈ A, ∀ c ∈ A, r a b → r b c → r a c) → (∀ a ∈ A, ∀ b ∈ A, a ≠ b → r a b ∨ r b a) → ∃ m ∈ A, ∀ a ∈ A, a = m ∨ r m a := by
    intro r rt rtt
    obtain ⟨m, hm, h⟩ := lowest_of (lt := fun (a b : {x // x ∈ A}) => r a.1 b.1) (fun a b c => rt a.1 a.2 b.1 b.2 c.1 c.2) (A := A.attach) (by
      intro q
      have := congrArg List.length q
      simp at this
      rw [this] at hN; simp at hN) (fun a _ b _ hne => rtt a.1 a.2 b.1 b.2 fun q => hne (Subtype.ext q))
    refine ⟨m.1, m.2, fun a ha => ?_⟩
    rcases h ⟨a, ha⟩ (by simp) with q | q
    · exact .inl (congrArg Subtype.val q)
    · exact .inr q
  obtain ⟨lo, hlo, hlo2⟩ := ex lt tr tt
  obtain ⟨hi, hhi, hhi2⟩ := ex (fun a b => lt b a) (fun a ha b hb c hc h1 h2 => tr c hc b hb a ha h2 h1) (fun a ha b hb hne => (tt a ha b hb hne).symm)
  have hne : lo ≠ hi := by
    rintro rfl
    apply hN
    refine Nat.le_succ_of_le (show A.length ≤ 1 from ?_)
    have := List.Nodup.length_le_of_subset (l₂ := [lo]) nd fun x hx => by
      rcases hlo2 x hx with q | q
      · simp [q]
      · rcases hhi2 x hx with q2 | q2
        · simp [q2]
        · exact absurd q2 (irr _ _ q)
    simpa using this
  -- lowest, highest among those that spare a deed
  let bot : Nat → List Int → Bool := fun k v => decide (¬ 0 < vecOf v k) && decide (∀ u ∈ A, ¬ 0 < vecOf u k → u = v ∨ psi n M (vecOf u) (vecOf v) < 0)
  let top : Nat → List Int → Bool := fun k v => decide (¬ 0 < vecOf v k) && decide (∀ u ∈ A, ¬ 0 < vecOf u k → u = v ∨ psi n M (vecOf v) (vecOf u) < 0)
  have bot_iff : ∀ k v, bot k v = true ↔ ¬ 0 < vecOf v k ∧ ∀ u ∈ A, ¬ 0 < vecOf u k → u = v ∨ lt v u := fun k v => by simp [bot, lt]
  have top_iff : ∀ k v, top k v = true ↔ ¬ 0 < vecOf v k ∧ ∀ u ∈ A, ¬ 0 < vecOf u k → u = v ∨ lt u v := fun k v => by simp [top, lt]
  have b1 := sum_le (S := S) (G := 1) (f := fun k => (A.filter fun v => bot k v).length) fun k _ => by
    match e : A.filter fun v => bot k v with
    | [] => simp
    | [x] => simp
    | x :: y :: r =>
      exfalso
      have hx : x ∈ A.filter fun v => bot k v := by rw [e]; exact .head _
      have hy : y ∈ A.filter fun v => bot k v := by rw [e]; exact .tail _ (.head _)
      have nd2 : (A.filter fun v => bot k v).Nodup := List.Nodup.sublist List.filter_sublist nd
      rw [e] at nd2
      have hxy : x ≠ y := by rintro rfl; simp at nd2
      obtain ⟨hx1, hx2⟩ := List.mem_filter.mp hx
      obtain ⟨hy1, hy2⟩ := List.mem_filter.mp hy
      obtain ⟨x3, x4⟩ := (bot_iff k x).mp hx2
      obtain ⟨y3, y4⟩ := (bot_iff k y).mp hy2
      rcases x4 y hy1 y3 with q | q
      · exact hxy q.symm
      · rcases y4 x hx1 x3 with q2 | q2
        · exact hxy q2
        · exact irr _ _ q q2
  have t1 := sum_le (S := S) (G := 1) (f := fun k => (A.filter fun v => top k v).length) fun k _ => by
    match e : A.filter fun v => top k v with
    | [] => simp
    | [x] => simp
    | x :: y :: r =>
      exfalso
      have hx : x ∈ A.filter fun v => top k v := by rw [e]; exact .head _
      have hy : y ∈ A.filter fun v => top k v := by rw [e]; exact .tail _ (.head _)
      have nd2 : (A.filter fun v => top k v).Nodup := List.Nodup.sublist List.filter_sublist nd
      rw [e] at nd2
      have hxy : x ≠ y := by rintro rfl; simp at nd2
      obtain ⟨hx1, hx2⟩ := List.mem_filter.mp hx
      obtain ⟨hy1, hy2⟩ := List.mem_filter.mp hy
      obtain ⟨x3, x4⟩ := (top_iff k x).mp hx2
      obtain ⟨y3, y4⟩ := (top_iff k y).mp hy2
      rcases x4 y hy1 y3 with q | q
      · exact hxy q.symm
      · rcases y4 x hx1 x3 with q2 | q2
        · exact hxy q2
        · exact irr _ _ q q2
  rw [sum_two bot S A] at b1
  rw [sum_two top S A] at t1
  have ends := sum_ends (f := fun v => (S.filter fun k => bot k v).length + (S.filter fun k => top k v).length) hne ?_ ?_ nd hlo hhi ?_
  · have e : (A.map fun v => (S.filter fun k => bot k v).length + (S.filter fun k => top k v).length).sum = (A.map fun v => (S.filter fun k => bot k v).length).sum + (A.map fun v => (S.filter fun k => top k v).length).sum := by
      exact sum_add _ _ A
    rw [e] at ends
    omega
  · -- the lowest
    have z := zeros hl h3 (mem hlo).2.1
    have : (S.filter fun k => decide (¬ 0 < vecOf lo k)).length ≤ (S.filter fun k => bot k lo).length := by
      have e : S.filter (fun k => decide (¬ 0 < vecOf lo k)) = S.filter fun k => bot k lo := by
        apply List.filter_congr
        intro k _
        rw [Bool.eq_iff_iff, bot_iff]
        simp only [decide_eq_true_eq]
        exact ⟨fun q => ⟨q, fun u hu _ => hlo2 u hu⟩, fun q => q.1⟩
      rw [e]; exact Nat.le_refl _
    show 3 ≤ (S.filter fun k => bot k lo).length + (S.filter fun k => top k lo).length
    omega
  · have z := zeros hl h3 (mem hhi).2.1
    have : (S.filter fun k => decide (¬ 0 < vecOf hi k)).length ≤ (S.filter fun k => top k hi).length := by
      have e : S.filter (fun k => decide (¬ 0 < vecOf hi k)) = S.filter fun k => top k hi := by
        apply List.filter_congr
        intro k _
        rw [Bool.eq_iff_iff, top_iff]
        simp only [decide_eq_true_eq]
        exact ⟨fun q => ⟨q, fun u hu _ => hhi2 u hu⟩, fun q => q.1⟩
      rw [e]; exact Nat.le_refl _
    show 3 ≤ (S.filter fun k => bot k hi).length + (S.filter fun k => top k hi).length
    omega
  · intro v hv
    refine Classical.byContradiction fun q => ?_
    have q' : ¬ 1 ≤ (S.filter fun k => bot k v).length + (S.filter fun k => top k v).length := q
    have nb : ∀ k ∈ S, bot k v ≠ true := fun k hk hb => by
      have : 0 < (S.filter fun k => bot k v).length := List.length_pos_of_mem (List.mem_filter.mpr ⟨hk, hb⟩)
      omega
    have nt : ∀ k ∈ S, top k v ≠ true := fun k hk hb => by
      have : 0 < (S.filter fun k => top k v).length := List.length_pos_of_mem (List.mem_filter.mpr ⟨hk, hb⟩)
      omega
    obtain ⟨vL, Rv, vS⟩ := mem hv
    have z := zeros hl h3 Rv
    obtain ⟨k1, hk1⟩ : ∃ k1, k1 ∈ S.filter fun k => decide (¬ 0 < vecOf v k) := by
      cases e : S.filter fun k => decide (¬ 0 < vecOf v k) with
      | nil => rw [e] at z; simp at z
      | cons a r => exact ⟨a, .head _⟩
    obtain ⟨k1S, k1v⟩ := List.mem_filter.mp hk1
    have k1v' : ¬ 0 < vecOf v k1 := by simpa using k1v
    refine no_saddle hl h4 (psi_lin n M (vecOf v)) Rv vS (psi_self n M _) (fun k hk => ?_) (fun k hk hvk => ?_) k1S (show vecOf v k1 = 0 by have := Rv.1.nn k1; omega)
    · obtain ⟨c, hc, ck⟩ := hact k hk
      rw [hA] at hc
      exact ⟨vecOf c, (mem hc).2.1.1.ker (mem hc).2.2, by omega⟩
    · have h1 : ∃ u ∈ A, ¬ 0 < vecOf u k ∧ u ≠ v ∧ ¬ lt v u := Classical.byContradiction fun q2 => nb k hk ((bot_iff k v).mpr ⟨by omega, fun u hu huk => Classical.byContradiction fun q3 => q2 ⟨u, hu, huk, fun e => q3 (.inl e), fun e => q3 (.inr e)⟩⟩)
      have h2 : ∃ u ∈ A, ¬ 0 < vecOf u k ∧ u ≠ v ∧ ¬ lt u v := Classical.byContradiction fun q2 => nt k hk ((top_iff k v).mpr ⟨by omega, fun u hu huk => Classical.byContradiction fun q3 => q2 ⟨u, hu, huk, fun e => q3 (.inl e), fun e => q3 (.inr e)⟩⟩)
      obtain ⟨a, ha, ak, av, alt⟩ := h1
      obtain ⟨b, hb, bk, bv, blt⟩ := h2
      have alt' : lt a v := (tt a ha v hv av).resolve_right alt
      have blt' : lt v b := (tt b hb v hv bv).resolve_left blt
      refine ⟨vecOf a, vecOf b, (mem ha).2.1, (mem hb).2.1, (mem ha).2.2, (mem hb).2.2, by have := (mem ha).2.1.1.nn k; omega, by have := (mem hb).2.1.1.nn k; omega, alt', ?_⟩
      have h3 := psi_anti n M (vecOf b) (vecOf v)
      have blt2 : psi n M (vecOf b) (vecOf v) < 0 := blt'
      omega
noncomputable def Gd : Nat → Nat → Nat
  | 0, _ => 1
  | 1, _ => 2
  | 2, n => max 2 n
  | 3, n => max (max 2 n) (2 * n - 4)
  | d + 4, n => max (Gd (d + 3) n) (n * Gd (d + 3) (n - 1) / (d + 4))
theorem few (hl : ∀ f ∈ fs, IsLin f) (hL : IsAll fs n L) : ∀ (d : Nat) (N : Nat) (S : List Nat), S.Nodup → Active n L S → DimLe fs S (d + 1) → S.length ≤ N → (within n L S).length ≤ Gd d N
  | 0, N, S, nd, ha, hd, hN => one_dim hl hL hd
  | 1, N, S, nd, ha, hd, hN => two_dim hl hL hd
  | d + 2, N, S, nd, ha, hd, hN => by
    by_cases hd2 : DimLe fs S (d + 2)
    · have ih := few hl hL (d + 1) N S nd ha hd2 hN
      match d with
      | 0 => exact Nat.le_trans ih (Nat.le_max_left ..)
      | 1 => exact Nat.le_trans ih (Nat.le_max_left ..)
      | d + 2 => exact Nat.le_trans ih (Nat.le_max_left ..)
    · -- the faces
      have face : ∀ k ∈ S, (within n L (S.filter fun j => decide (j ≠ k))).length ≤ Gd (d + 1) (N - 1) := fun k hk => by
        rw [← active_same hL]
        obtain ⟨c, hc, ck⟩ := ha k hk
        obtain ⟨c1, c2⟩ := (within_mem hL).mp hc
        have R := ((hL.mem c).mp c1).2.1
        refine few hl hL (d + 1) (N - 1) _ (List.Nodup.sublist (List.filter_sublist.trans List.filter_sublist) nd) (active_ok hL _) (DimLe.less hd (R.1.ker c2) (show vecOf c k ≠ 0 by omega) fun j hj => ?_) ?_
        · have := (List.mem_filter.mp (active_mem.mp hj).1)
          exact ⟨this.1, by simpa using this.2⟩
        · have h1 : (active n L (S.filter fun j => decide (j ≠ k))).length ≤ (S.filter fun j => decide (j ≠ k)).length := List.length_filter_le _ _
          have h2 : (S.filter fun j => decide (j ≠ k)).length < S.length := by
            have p := List.Nodup.length_le_of_subset (l₁ := k :: S.filter fun j => decide (j ≠ k)) (l₂ := S) (List.nodup_cons.mpr ⟨by simp, List.Nodup.sublist List.filter_sublist nd⟩) fun x hx => by
              rcases List.mem_cons.mp hx with q | q
              · rw [q]; exact hk
              · exact (List.mem_filter.mp q).1
            rw [List.length_cons] at p; omega
          omega
      have h1 := faces hl hL hd2 face
      have h2 : S.length * Gd (d + 1) (N - 1) ≤ N * Gd (d + 1) (N - 1) := Nat.mul_le_mul_right _ hN
      match d with
      | 0 =>
        have h3 : (within n L S).length * 2 ≤ N * 2 := Nat.le_trans h1 h2
        exact Nat.le_trans (show (within n L S).length ≤ N by omega) (Nat.le_max_right ..)
      | 1 =>
        rcases four_dim hl hL ha hd hd2 with q | q
        · exact Nat.le_trans (Nat.le_trans q (Nat.le_max_left 2 N)) (Nat.le_max_left ..)
        · exact Nat.le_trans (show (within n L S).length ≤ 2 * N - 4 by omega) (Nat.le_max_right ..)
      | d + 2 =>
        refine Nat.le_trans ?_ (Nat.le_max_right ..)
        exact (Nat.le_div_iff_mul_le (by omega)).mpr (Nat.le_trans h1 h2)
theorem few_all (hl : ∀ f ∈ fs, IsLin f) (hL : IsAll fs n L) (hn : n ≤ 10) : L.length ≤ 60 := by
  have e : within n L (active n L (List.range n)) = L := by
    rw [active_same hL]
    unfold within
    rw [List.filter_eq_self]
    intro c hc
    have R := ((hL.mem c).mp hc).2.1.1
    exact (insd_iff R).mpr fun k hk => List.mem_range.mpr (R.lt hk)
  have hlen : (active n L (List.range n)).length ≤ n := by
    have : (active n L (List.range n)).length ≤ (List.range n).length := List.length_filter_le _ _
    rwa [List.length_range] at this
  have dim : DimLe fs (active n L (List.range n)) 10 := by
    intro U hU hK hI
    have h2 := dim_len (fs := fs) (active n L (List.range n)) (U.take ((active n L (List.range n)).length + 1)) (by rw [List.length_take, hU]; omega) (fun u hu => hK u (List.mem_of_mem_take hu))
    apply h2
    intro ls hls hz l hl'
    have h3 := hI (ls ++ List.replicate (U.length - ls.length) 0) (by
      rw [List.length_take, hU] at hls
      simp; omega) (fun k => by
      have e1 : U = U.take ((active n L (List.range n)).length + 1) ++ U.drop ((active n L (List.range n)).length + 1) := (List.take_append_drop _ U).symm
      have e2 : comb (ls ++ List.replicate (U.length - ls.length) 0) U k = comb (ls ++ List.replicate (U.length - ls.length) 0) (U.take ((active n L (List.range n)).length + 1) ++ U.drop ((active n L (List.range n)).length + 1)) k := by rw [← e1]
      rw [e2, comb_append _ _ _ _ hls, hz k]
      have e3 : List.replicate (U.length - ls.length) (0 : Int) = (List.replicate (U.length - ls.length) 0).map (0 * ·) := by simp
      rw [e3, comb_scale]; simp) l (List.mem_append_left _ hl')
    exact h3
  have := few hl hL 9 10 (active n L (List.range n)) (List.Nodup.sublist List.filter_sublist List.nodup_range) (active_ok hL _) dim (by omega)
  rw [e] at this
  exact Nat.le_trans this (by decide)
end
end My
set_option Elab.async false
set_option linter.all false
namespace My
noncomputable def Bits (b : Nat) (L : List (List Int)) : Prop := ∀ c ∈ L, ∀ x ∈ c, x.natAbs < 2 ^ b
theorem sumTo_b {f : Nat → Int} {b : Nat} : ∀ n, (∀ k, k < n → (f k).natAbs < 2 ^ b) → (sumTo n f).natAbs ≤ n * 2 ^ b
  | 0, _ => by show (0 : Int).natAbs ≤ _; simp
  | n + 1, h => by
    have ih := sumTo_b n fun k hk => h k (by omega)
    have := h n (by omega)
    show (sumTo n f + f n).natAbs ≤ (n + 1) * 2 ^ b
    have h2 := Int.natAbs_add_le (sumTo n f) (f n)
    rw [Nat.add_mul]; omega
theorem vec_b {c : List Int} {b : Nat} (h : ∀ x ∈ c, x.natAbs < 2 ^ b) (k : Nat) : (vecOf c k).natAbs < 2 ^ b := by
  by_cases hk : k < c.length
  · exact h _ (getD_mem hk)
  · rw [vec_out (by omega)]; exact Nat.two_pow_pos b
theorem endL_b {m : List (List Int)} {j b : Nat} {c : List Int} (hn : ∀ row ∈ m, ∀ x ∈ row, -9 ≤ x ∧ x ≤ 9) (hm : m.length ≤ 10) (h : ∀ x ∈ c, x.natAbs < 2 ^ b) : (endL m j c).natAbs < 2 ^ (b + 9) := by
  have h1 : ∀ k, ((rowsOf m k).getD j 0).natAbs < 2 ^ 5 := fun k => by
    unfold rowsOf
    by_cases hk : k < m.length
    · have e : m.getD k [] = m[k] := by rw [List.getD_eq_getElem?_getD, List.getElem?_eq_getElem hk]; rfl
      rw [e]
      by_cases hj : j < m[k].length
      · have := hn _ (List.getElem_mem hk) _ (getD_mem hj)
        omega
      · rw [List.getD_eq_getElem?_getD, List.getElem?_eq_none (by omega)]; decide
    · have e : m.getD k [] = [] := by rw [List.getD_eq_getElem?_getD, List.getElem?_eq_none (by omega)]; rfl
      rw [e]; simp
  have h2 := sumTo_b (f := fun k => vecOf c k * (rowsOf m k).getD j 0) (b := b + 5) m.length fun k _ => mul_b (vec_b h k) (h1 k)
  have h3 : m.length * 2 ^ (b + 5) ≤ 10 * 2 ^ (b + 5) := Nat.mul_le_mul_right _ hm
  have h4 : 10 * 2 ^ (b + 5) < 2 ^ (b + 9) := by
    have e : 2 ^ (b + 9) = 16 * 2 ^ (b + 5) := by rw [show b + 9 = 4 + (b + 5) by omega, Nat.pow_add]
    have := Nat.two_pow_pos (b + 5)
    omega
  show (sumTo m.length fun k => vecOf c k * (rowsOf m k).getD j 0).natAbs < _
  omega
theorem lowL_b {xs : List Int} {b : Nat} (h : ∀ x ∈ xs, x.natAbs < 2 ^ b) : ∀ x ∈ lowL xs, x.natAbs < 2 ^ b := by
  intro x hx
  unfold lowL at hx
  split at hx
  · exact h x hx
  · rename_i q
    obtain ⟨y, hy, rfl⟩ := List.mem_map.mp hx
    have g0 : 0 < ga xs := by have := ga_nonneg xs; omega
    have e := fdiv_ga hy g0
    have h1 := h y hy
    have h2 : y.natAbs = (ga xs).natAbs * (y.fdiv (ga xs)).natAbs := by rw [← Int.natAbs_mul, e]
    have h3 : 1 ≤ (ga xs).natAbs := by omega
    have h4 : 1 * (y.fdiv (ga xs)).natAbs ≤ (ga xs).natAbs * (y.fdiv (ga xs)).natAbs := Nat.mul_le_mul_right _ h3
    omega
theorem zip_b {a c : List Int} {p q : Int} {b d : Nat} (ha : ∀ x ∈ a, x.natAbs < 2 ^ b) (hc : ∀ x ∈ c, x.natAbs < 2 ^ b) (hp : p.natAbs < 2 ^ d) (hq : q.natAbs < 2 ^ d) : ∀ x ∈ List.zipWith (fun x y => x * -q + y * p) a c, x.natAbs < 2 ^ (b + d + 1) := by
  intro x hx
  obtain ⟨i, hi, rfl⟩ := List.getElem_of_mem hx
  rw [List.getElem_zipWith]
  refine add_b (mul_b (ha _ (List.getElem_mem _)) ?_) (mul_b (hc _ (List.getElem_mem _)) hp)
  rw [Int.natAbs_neg]; exact hq
theorem step_b {m : List (List Int)} {j b : Nat} {L : List (List Int)} (hn : ∀ row ∈ m, ∀ x ∈ row, -9 ≤ x ∧ x ≤ 9) (hm : m.length ≤ 10) (h : Bits b L) : Bits (2 * b + 10) (ddStep m j L) := by
  intro c hc x hx
  unfold ddStep addB at hc
  rcases List.mem_append.mp hc with q | q
  · exact up_b (h c (List.mem_filter.mp q).1 x hx) (by omega)
  · obtain ⟨a, ha, q⟩ := List.mem_flatMap.mp q
    obtain ⟨c', hc', rfl⟩ := List.mem_map.mp q
    have ha' := h a (List.mem_filter.mp ha).1
    have hc2 := h c' (List.mem_filter.mp (List.mem_filter.mp hc').1).1
    have := zip_b (p := endL m j a) (q := endL m j c') ha' hc2 (endL_b hn hm ha') (endL_b hn hm hc2)
    exact up_b (lowL_b this x hx) (by omega)
noncomputable def bitT : Nat → Nat
  | 0 => 1
  | j + 1 => 2 * bitT j + 10
theorem bitT_lt {j : Nat} (h : j < 6) : bitT j ≤ 342 := by
  have : j = 0 ∨ j = 1 ∨ j = 2 ∨ j = 3 ∨ j = 4 ∨ j = 5 := by omega
  rcases this with rfl | rfl | rfl | rfl | rfl | rfl <;> decide
theorem dd_bits {m : List (List Int)} (hn : ∀ row ∈ m, ∀ x ∈ row, -9 ≤ x ∧ x ≤ 9) (hm : m.length ≤ 10) : ∀ j, Bits (bitT j) (ddL m j)
  | 0 => by
    intro c hc x hx
    obtain ⟨k, _, rfl⟩ := List.mem_map.mp hc
    obtain ⟨i, _, rfl⟩ := List.mem_map.mp hx
    split <;> decide
  | j + 1 => step_b hn hm (dd_bits hn hm j)
theorem dd_len (m : List (List Int)) (hm : m.length ≤ 10) (j : Nat) : (ddL m j).length ≤ 60 := few_all (wares_lin _ _ _) (dd_all m j) hm
theorem ga_b {xs : List Int} {b : Nat} (h : ∀ x ∈ xs, x.natAbs < 2 ^ b) : (ga xs).natAbs < 2 ^ b := by
  by_cases hz : ∃ x ∈ xs, x ≠ 0
  · obtain ⟨x, hx, x0⟩ := hz
    have h1 := Int.natAbs_dvd_natAbs.mpr (ga_dvd hx)
    have h2 := Nat.le_of_dvd (by omega) h1
    have := h x hx
    omega
  · have : ga xs = 0 := ga_zero fun x hx => Classical.byContradiction fun q => hz ⟨x, hx, q⟩
    rw [this]; exact Nat.two_pow_pos b
theorem sorted_lean {w : Nat} {m L : List (List Int)} (hw : ∀ row ∈ m, row.length = w) (hp : L.Perm (ddL m w)) (hs : L.Pairwise fun a b => (setN b : Int) ≤ (setN a : Int)) : L = leanL w m := by
  have A := dd_all m w
  have nd : L.Nodup := hp.nodup_iff.mpr A.nd
  refine leanL_unique hw (fun c => by rw [hp.mem_iff, A.mem c]) ?_
  have both : L.Pairwise fun a b => (setN b : Int) ≤ (setN a : Int) ∧ a ≠ b := hs.and nd
  refine List.Pairwise.imp_of_mem ?_ both
  intro a b ha hb ⟨h1, h2⟩
  obtain ⟨la, Ra, ga1⟩ := (A.mem a).mp (hp.mem_iff.mp ha)
  obtain ⟨lb, Rb, gb1⟩ := (A.mem b).mp (hp.mem_iff.mp hb)
  refine setN_ahead la lb ?_
  refine Nat.lt_of_le_of_ne (by omega) fun e => h2 ?_
  have := (setN_eq lb la).mp e
  exact same_eq (wares_lin _ _ _) la lb Ra Rb ga1 gb1 fun k hk => (this k).mp hk
theorem near_sets (L : List (List Int)) (a b : List Int) : nearB L a b = decide (((L.map setN).filter fun r => decide (r &&& (setN a ||| setN b) = r)).length = 2) := by
  unfold nearB
  rw [List.filter_map, List.length_map]; rfl
end My
set_option Elab.async false
set_option linter.all false
namespace My
noncomputable def boxL (xs : List Int) : Nat → List (List Int)
  | 0 => [[]]
  | n + 1 => xs.flatMap fun x => (boxL xs n).map (x :: ·)
theorem boxL_len (xs : List Int) : ∀ n, (boxL xs n).length = xs.length ^ n
  | 0 => rfl
  | n + 1 => by
    unfold boxL
    rw [List.length_flatMap]
    have : (xs.map fun x => ((boxL xs n).map (x :: ·)).length) = xs.map fun _ => xs.length ^ n := by
      apply List.map_congr_left
      intro x _
      rw [List.length_map, boxL_len xs n]
    rw [this, List.map_const', List.sum_replicate_nat, Nat.pow_succ, Nat.mul_comm]
theorem boxL_mem {xs : List Int} : ∀ {n : Nat} {l : List Int}, l ∈ boxL xs n ↔ l.length = n ∧ ∀ x ∈ l, x ∈ xs
  | 0, l => by
    unfold boxL
    rw [List.mem_singleton]
    constructor
    · rintro rfl; exact ⟨rfl, fun x hx => nomatch hx⟩
    · rintro ⟨h, _⟩; exact List.length_eq_zero_iff.mp h
  | n + 1, l => by
    unfold boxL
    rw [List.mem_flatMap]
    constructor
    · rintro ⟨x, hx, h⟩
      obtain ⟨l', hl', rfl⟩ := List.mem_map.mp h
      obtain ⟨h1, h2⟩ := boxL_mem.mp hl'
      refine ⟨by simp [h1], fun y hy => ?_⟩
      rcases List.mem_cons.mp hy with e | e
      · rw [e]; exact hx
      · exact h2 y e
    · rintro ⟨h1, h2⟩
      cases l with
      | nil => simp at h1
      | cons x l' => exact ⟨x, h2 x (.head _), List.mem_map.mpr ⟨l', boxL_mem.mpr ⟨by simpa using h1, fun y hy => h2 y (.tail _ hy)⟩, rfl⟩⟩
theorem boxL_nodup {xs : List Int} (h : xs.Nodup) : ∀ n, (boxL xs n).Nodup
  | 0 => by simp [boxL]
  | n + 1 => by
    unfold boxL List.Nodup
    rw [List.pairwise_flatMap]
    refine ⟨fun x _ => ?_, ?_⟩
    · rw [List.pairwise_map]
      exact (boxL_nodup h n).imp fun hne e => hne (List.cons.inj e).2
    · refine h.imp ?_
      intro x y hne a ha b hb e
      obtain ⟨a', _, rfl⟩ := List.mem_map.mp ha
      obtain ⟨b', _, rfl⟩ := List.mem_map.mp hb
      exact hne (List.cons.inj e).1
noncomputable def upTo (lo : Int) (n : Nat) : List Int := (List.range n).map fun i => lo + (i : Nat)
theorem upTo_len (lo : Int) (n : Nat) : (upTo lo n).length = n := by simp [upTo]
theorem upTo_mem {lo x : Int} {n : Nat} : x ∈ upTo lo n ↔ lo ≤ x ∧ x < lo + n := by
  unfold upTo
  rw [List.mem_map]
  constructor
  · rintro ⟨i, hi, rfl⟩
    have := List.mem_range.mp hi
    omega
  · rintro ⟨h1, h2⟩
    exact ⟨(x - lo).toNat, List.mem_range.mpr (by omega), by omega⟩
theorem upTo_nodup (lo : Int) (n : Nat) : (upTo lo n).Nodup := by
  unfold upTo List.Nodup
  rw [List.pairwise_map]
  exact List.nodup_range.imp fun hne e => hne (by omega)
theorem pigeon {α β : Type} [DecidableEq β] {A : List α} {B : List β} {f : α → β} (nd : A.Nodup) (hf : ∀ a ∈ A, f a ∈ B) (h : B.length < A.length) : ∃ a ∈ A, ∃ b ∈ A, a ≠ b ∧ f a = f b := by
  refine Classical.byContradiction fun q => ?_
  have nd2 : (A.map f).Nodup := by
    unfold List.Nodup
    rw [List.pairwise_map]
    exact List.Pairwise.imp_of_mem (fun {a b} ha hb hne e => q ⟨a, ha, b, hb, hne, e⟩) nd
  have := List.Nodup.length_le_of_subset nd2 (fun b hb => by
    obtain ⟨a, ha, rfl⟩ := List.mem_map.mp hb
    exact hf a ha)
  rw [List.length_map] at this
  omega
theorem sumTo_range {f : Nat → Int} {c : Int} : ∀ n, (∀ k, k < n → 0 ≤ f k ∧ f k ≤ c) → 0 ≤ sumTo n f ∧ sumTo n f ≤ n * c
  | 0, _ => by show (0 : Int) ≤ (0 : Int) ∧ (0 : Int) ≤ (0 : Nat) * c; simp
  | n + 1, h => by
    have ih := sumTo_range n fun k hk => h k (by omega)
    have := h n (by omega)
    show 0 ≤ sumTo n f + f n ∧ sumTo n f + f n ≤ ((n + 1 : Nat) : Int) * c
    have e : ((n + 1 : Nat) : Int) * c = n * c + c := by push_cast; grind
    rw [e]; omega
theorem sumTo_plus (f g : Nat → Int) (n : Nat) : sumTo n (fun k => f k + g k) = sumTo n f + sumTo n g := by
  have := sumTo_lin 1 f g n
  simpa using this
theorem small_ker {n B : Nat} {js : List Nat} {M : Nat → Nat → Int} (hM : ∀ k j, -9 ≤ M k j ∧ M k j ≤ 9) (h : (9 * n * B + 1) ^ js.length < (B + 1) ^ n) : ∃ u : Vec, Ker (js.map (phi n M)) n u ∧ (∃ k, u k ≠ 0) ∧ ∀ k, -(B : Int) ≤ u k ∧ u k ≤ B := by
  let f : List Int → List Int := fun c => js.map fun j => sumTo n fun k => vecOf c k * M k j + if M k j < 0 then B * -(M k j) else 0
  have bd : ∀ {c : List Int}, c.length = n → (∀ x ∈ c, x ∈ upTo 0 (B + 1)) → ∀ k, 0 ≤ vecOf c k ∧ vecOf c k ≤ B := fun {c} lc mc k => by
    by_cases hk : k < n
    · have := upTo_mem.mp (mc _ (getD_mem (show k < c.length by omega)))
      have e : vecOf c k = c.getD k 0 := rfl
      rw [e]; omega
    · rw [vec_out (by omega)]; omega
  have hbox : ∀ c ∈ boxL (upTo 0 (B + 1)) n, f c ∈ boxL (upTo 0 (9 * n * B + 1)) js.length := fun c hc => by
    obtain ⟨lc, mc⟩ := boxL_mem.mp hc
    refine boxL_mem.mpr ⟨by simp [f], fun x hx => ?_⟩
    obtain ⟨j, _, rfl⟩ := List.mem_map.mp hx
    have : ∀ k, k < n → 0 ≤ vecOf c k * M k j + (if M k j < 0 then B * -(M k j) else 0) ∧ vecOf c k * M k j + (if M k j < 0 then B * -(M k j) else 0) ≤ 9 * B := fun k hk => by
      have h1 := bd lc mc k
      have h2 := hM k j
      split
      · rename_i hn
        have a1 : vecOf c k * -(M k j) ≤ B * -(M k j) := Int.mul_le_mul_of_nonneg_right h1.2 (by omega)
        have a2 : 0 ≤ vecOf c k * -(M k j) := Int.mul_nonneg h1.1 (by omega)
        have a3 : (B : Int) * -(M k j) ≤ B * 9 := Int.mul_le_mul_of_nonneg_left (by omega) (by omega)
        have e : vecOf c k * M k j = -(vecOf c k * -(M k j)) := by grind
        rw [e]; omega
      · rename_i hn
        have a1 : vecOf c k * M k j ≤ B * M k j := Int.mul_le_mul_of_nonneg_right h1.2 (by omega)
        have a2 : 0 ≤ vecOf c k * M k j := Int.mul_nonneg h1.1 (by omega)
        have a3 : (B : Int) * M k j ≤ B * 9 := Int.mul_le_mul_of_nonneg_left (by omega) (by omega)
        omega
    have r := sumTo_range n this
    have e1 : (n : Int) * (9 * B) = 9 * n * B := by grind
    rw [e1] at r
    refine upTo_mem.mpr ?_
    have e2 : ((9 * n * B + 1 : Nat) : Int) = 9 * n * B + 1 := by push_cast; rfl
    rw [e2]
    omega
  obtain ⟨a, ha, b, hb, hne, e⟩ := pigeon (boxL_nodup (upTo_nodup 0 (B + 1)) n) hbox (by rw [boxL_len, boxL_len, upTo_len, upTo_len]; exact h)
  obtain ⟨la, ma⟩ := boxL_mem.mp ha
  obtain ⟨lb, mb⟩ := boxL_mem.mp hb
  refine ⟨fun k => 1 * vecOf a k + -1 * vecOf b k, ⟨fun k hk => ?_, fun g hg => ?_⟩, ?_, fun k => ?_⟩
  · show 1 * vecOf a k + -1 * vecOf b k = 0
    rw [vec_out (by omega), vec_out (by omega)]; simp
  · obtain ⟨j, hj, rfl⟩ := List.mem_map.mp hg
    obtain ⟨i, hi, ei⟩ := List.getElem_of_mem hj
    rw [lin_two (phi_lin n M j)]
    have e2 := congrArg (fun l => l.getD i 0) e
    simp only [f, List.getD_eq_getElem?_getD, List.getElem?_map, List.getElem?_eq_getElem hi, Option.map_some, Option.getD_some, ei, sumTo_plus] at e2
    unfold phi
    omega
  · refine Classical.byContradiction fun q => hne ?_
    apply List.ext_getElem?
    intro k
    by_cases hk : k < n
    · have : 1 * vecOf a k + -1 * vecOf b k = 0 := Classical.byContradiction fun z => q ⟨k, z⟩
      have e1 : vecOf a k = a[k] := by unfold vecOf; rw [List.getD_eq_getElem?_getD, List.getElem?_eq_getElem (by omega)]; rfl
      have e2 : vecOf b k = b[k] := by unfold vecOf; rw [List.getD_eq_getElem?_getD, List.getElem?_eq_getElem (by omega)]; rfl
      rw [List.getElem?_eq_getElem (by omega), List.getElem?_eq_getElem (by omega)]
      congr 1; omega
    · rw [List.getElem?_eq_none (by omega), List.getElem?_eq_none (by omega)]
  · have h1 := bd la ma k
    have h2 := bd lb mb k
    show -(B : Int) ≤ 1 * vecOf a k + -1 * vecOf b k ∧ 1 * vecOf a k + -1 * vecOf b k ≤ B
    omega
noncomputable def sel {α : Type} (F : α → Vec → Int) : List α → List Vec → List α
  | [], _ => []
  | j :: js, U => if U.any (fun u => decide (F j u ≠ 0)) then j :: sel F js (stepU (F j) U) else sel F js U
theorem sel_elim {α : Type} {F : α → Vec → Int} : ∀ (js : List α) (U : List Vec), elim ((sel F js U).map F) U = elim (js.map F) U ∧ U.length = (elim (js.map F) U).length + (sel F js U).length
  | [], U => ⟨rfl, by simp [sel, elim]⟩
  | j :: js, U => by
    unfold sel
    rcases step_cases (F j) U with ⟨h0, e⟩ | ⟨A, p, B, e, hp, e2⟩
    · have hf : U.any (fun u => decide (F j u ≠ 0)) = false := by
        rw [List.any_eq_false]
        intro u hu
        simp [h0 u hu]
      rw [hf]
      obtain ⟨h1, h2⟩ := sel_elim js U
      refine ⟨?_, ?_⟩
      · simp only [Bool.false_eq_true, if_false]
        rw [h1, List.map_cons]
        show elim (js.map F) U = elim (js.map F) (stepU (F j) U)
        rw [e]
      · simp only [Bool.false_eq_true, if_false]
        rw [List.map_cons]
        show U.length = (elim (js.map F) (stepU (F j) U)).length + _
        rw [e]; exact h2
    · have hf : U.any (fun u => decide (F j u ≠ 0)) = true := by
        rw [List.any_eq_true]
        exact ⟨p, by rw [e]; simp, by simpa using hp⟩
      rw [hf]
      obtain ⟨h1, h2⟩ := sel_elim js (stepU (F j) U)
      refine ⟨?_, ?_⟩
      · simp only [if_true, List.map_cons]
        show elim ((sel F js (stepU (F j) U)).map F) (stepU (F j) U) = elim (js.map F) (stepU (F j) U)
        exact h1
      · simp only [if_true, List.map_cons, List.length_cons]
        show U.length = (elim (js.map F) (stepU (F j) U)).length + _
        have hl : U.length = (stepU (F j) U).length + 1 := by
          rw [e2, e, List.length_map, List.length_append, List.length_append, List.length_cons]; omega
        omega
theorem lean_div {fs : List (Vec → Int)} {n : Nat} (hl : ∀ f ∈ fs, IsLin f) {c : List Int} (lc : c.length = n) (hc : LeanR fs n (vecOf c)) (g1 : ga c = 1) {u : Vec} (hu : KerS fs (fun k => 0 < vecOf c k) u) (u0 : ∃ k, u k ≠ 0) : ∀ k, (vecOf c k).natAbs ≤ (u k).natAbs := by
  obtain ⟨p, q, hp, e⟩ := ker_mul hl hc hu
  have q0 : q ≠ 0 := by
    rintro rfl
    obtain ⟨k, hk⟩ := u0
    have := e k
    rw [Int.zero_mul] at this
    rcases Int.mul_eq_zero.mp this with z | z
    · exact hp z
    · exact hk z
  -- p divides q
  have dv : p ∣ q := by
    have : p ∣ q * ga c := ga_mul_dvd fun x hx => by
      obtain ⟨j, hj, e'⟩ := List.getElem_of_mem hx
      have ev : vecOf c j = x := by unfold vecOf; rw [List.getD_eq_getElem?_getD, List.getElem?_eq_getElem hj]; exact e'
      exact ⟨u j, by rw [← ev, ← e j]⟩
    rwa [g1, Int.mul_one] at this
  obtain ⟨t, rfl⟩ := dv
  have t0 : t ≠ 0 := by rintro rfl; simp at q0
  intro k
  have h1 := e k
  have h2 : u k = t * vecOf c k := by
    have : p * u k = p * (t * vecOf c k) := by rw [h1]; grind
    exact Int.eq_of_mul_eq_mul_left hp this
  rw [h2, Int.natAbs_mul]
  exact nat_le_mul (by omega)
theorem bound_ok {n : Nat} (h1 : 1 ≤ n) (h2 : n ≤ 7) : (9 * n * 62523502209 + 1) ^ (n - 1) < (62523502209 + 1) ^ n := by
  have : n = 1 ∨ n = 2 ∨ n = 3 ∨ n = 4 ∨ n = 5 ∨ n = 6 ∨ n = 7 := by omega
  rcases this with rfl | rfl | rfl | rfl | rfl | rfl | rfl <;> decide
theorem lean_small {w : Nat} {m : List (List Int)} (hw : ∀ row ∈ m, row.length = w) (w6 : w ≤ 6) (hn : ∀ row ∈ m, ∀ x ∈ row, -9 ≤ x ∧ x ≤ 9) {c : List Int} (lc : c.length = m.length) (hc : LeanR (wares w m.length (rowsOf m)) m.length (vecOf c)) (g1 : ga c = 1) : ∀ x ∈ c, x ≤ 62523502209 := by
  have hl := wares_lin w m.length (rowsOf m)
  generalize hss : (List.range m.length).filter (fun k => decide (0 < vecOf c k)) = ss
  have nd : ss.Nodup := by rw [← hss]; exact List.Nodup.sublist List.filter_sublist List.nodup_range
  have mem : ∀ k, k ∈ ss ↔ 0 < vecOf c k := fun k => by
    rw [← hss, List.mem_filter, List.mem_range]
    constructor
    · intro h; simpa using h.2
    · intro h; exact ⟨hc.1.lt h, by simpa using h⟩
  have hlt : ∀ k ∈ ss, k < m.length := fun k hk => hc.1.lt ((mem k).mp hk)
  obtain ⟨h1, _, h3, _⟩ := lean_accept hw nd hlt hc mem
  have wid : ∀ k, k < ss.length → (rowsAt m ss k).length = w := fun k hk => by
    unfold rowsAt
    have hk' : ss.getD k 0 < m.length := by
      rw [List.getD_eq_getElem?_getD, List.getElem?_eq_getElem hk]; exact hlt _ (List.getElem_mem hk)
    rw [List.getD_eq_getElem?_getD, List.getElem?_eq_getElem hk']
    exact hw _ (List.getElem_mem hk')
  have hM : ∀ k j, -9 ≤ (rowsAt m ss k).getD j 0 ∧ (rowsAt m ss k).getD j 0 ≤ 9 := fun k j => by
    unfold rowsAt
    by_cases hk : ss.getD k 0 < m.length
    · have e : m.getD (ss.getD k 0) [] = m[ss.getD k 0] := by rw [List.getD_eq_getElem?_getD, List.getElem?_eq_getElem hk]; rfl
      rw [e]
      by_cases hj : j < (m[ss.getD k 0]).length
      · exact hn _ (List.getElem_mem hk) _ (getD_mem hj)
      · rw [List.getD_eq_getElem?_getD, List.getElem?_eq_none (by omega)]; decide
    · have e : m.getD (ss.getD k 0) [] = [] := by rw [List.getD_eq_getElem?_getD, List.getElem?_eq_none (by omega)]; rfl
      rw [e]; simp
  -- the wares that count
  have he := congrArg List.length (even_vec wid)
  rw [List.length_map, h1] at he
  obtain ⟨s1, s2⟩ := sel_elim (F := phi ss.length fun k j => (rowsAt m ss k).getD j 0) (List.range w) (units ss.length)
  generalize hjs : sel (phi ss.length fun k j => (rowsAt m ss k).getD j 0) (List.range w) (units ss.length) = js at s1 s2
  have ul : (units ss.length).length = ss.length := by simp [units]
  have jl : js.length = ss.length - 1 := by omega
  have s0 : 1 ≤ ss.length := by
    obtain ⟨k, hk⟩ := hc.1.some
    exact List.length_pos_of_mem ((mem k).mpr hk)
  obtain ⟨u, ku, u0, ub⟩ := small_ker (n := ss.length) (B := 62523502209) (js := js) hM (by rw [jl]; exact bound_ok s0 (by omega))
  -- it comes out even with all wares
  have lj : ∀ f ∈ js.map (phi ss.length fun k j => (rowsAt m ss k).getD j 0), IsLin f := fun f hf => by
    obtain ⟨j, _, rfl⟩ := List.mem_map.mp hf
    exact phi_lin _ _ _
  have la : ∀ f ∈ (List.range w).map (phi ss.length fun k j => (rowsAt m ss k).getD j 0), IsLin f := fun f hf => by
    obtain ⟨j, _, rfl⟩ := List.mem_map.mp hf
    exact phi_lin _ _ _
  obtain ⟨t, t0, sp⟩ := ker_left lj ku
  rw [s1] at sp
  have kall : Ker ((List.range w).map (phi ss.length fun k j => (rowsAt m ss k).getD j 0)) ss.length u := by
    refine ⟨ku.sup, fun f hf => ?_⟩
    have lin := la f hf
    have z : f (fun k => t * u k) = 0 := by
      have key : ∀ {v : Vec}, Span (elim ((List.range w).map (phi ss.length fun k j => (rowsAt m ss k).getD j 0)) (units ss.length)) v → f v = 0 := fun {v} h => by
        induction h with
        | zero => exact lin.zero
        | add a hu _ ih =>
          rw [lin.add, ih, (left_ker la _ hu).ev f hf]; simp
      exact key sp
    exact scale_zero lin t0 z
  have KS := lift_ker (rows := rowsOf m) (w := w) hlt (c := u) kall
  have KS2 : KerS (wares w m.length (rowsOf m)) (fun k => 0 < vecOf c k) (lift ss u) := ⟨fun k hk => KS.sup k fun q => hk ((mem k).mp q), KS.ev⟩
  have lu0 : ∃ k, lift ss u k ≠ 0 := by
    obtain ⟨k, hk⟩ := u0
    have hks : k < ss.length := Classical.byContradiction fun q => hk (ku.sup k (by omega))
    exact ⟨ss.getD k 0, by rw [lift_at nd _ hks]; exact hk⟩
  have dv := lean_div hl lc hc g1 KS2 lu0
  intro x hx
  obtain ⟨k, hk, e⟩ := List.getElem_of_mem hx
  have ev : vecOf c k = x := by unfold vecOf; rw [List.getD_eq_getElem?_getD, List.getElem?_eq_getElem hk]; exact e
  have h5 := dv k
  rw [ev] at h5
  have h6 : (lift ss u k).natAbs ≤ 62523502209 := by
    by_cases hks : k ∈ ss
    · obtain ⟨i, hi, e'⟩ := List.getElem_of_mem hks
      have e2 : ss.getD i 0 = k := by rw [List.getD_eq_getElem?_getD, List.getElem?_eq_getElem hi, ← e']; rfl
      rw [← e2, lift_at nd _ hi]
      have := ub i
      omega
    · rw [lift_out _ hks]; simp
  omega
end My
set_option Elab.async false
set_option linter.all false
namespace My
noncomputable def zsum (j : Nat) (cs : List Int) (m : List (List Int)) : Int := (List.zipWith (fun c row => c * List.getD row j 0) cs m).sum
theorem zsum_sumTo (j : Nat) : ∀ (cs : List Int) (m : List (List Int)), cs.length = m.length → zsum j cs m = sumTo m.length fun k => cs.getD k 0 * (m.getD k []).getD j 0 := by
  intro cs m h
  unfold zsum
  have e : List.zipWith (fun c row => c * List.getD row j 0) cs m = (List.range m.length).map fun k => cs.getD k 0 * (m.getD k []).getD j 0 := by
    apply List.ext_getElem?
    intro i
    by_cases hi : i < m.length
    · rw [List.getElem?_zipWith, List.getElem?_map, List.getElem?_range hi, List.getElem?_eq_getElem (show i < cs.length by omega), List.getElem?_eq_getElem hi]
      simp [hi, h]
    · rw [List.getElem?_eq_none (by simp; omega), List.getElem?_eq_none (by simp; omega)]
  rw [e]
  have : ∀ n (f : Nat → Int), ((List.range n).map f).sum = sumTo n f := fun n f => by
    induction n with
    | zero => rfl
    | succ n ih => rw [List.range_succ, List.map_append, List.sum_append, ih]; simp [sumTo]
  exact this _ _
theorem zsum_append {j : Nat} {cs ds : List Int} {m n : List (List Int)} (h : cs.length = m.length) : zsum j (cs ++ ds) (m ++ n) = zsum j cs m + zsum j ds n := by
  unfold zsum
  rw [List.zipWith_append h, List.sum_append]
theorem zsum_rot {j t : Nat} {cs : List Int} {m : List (List Int)} (h : cs.length = m.length) : zsum j (cs.drop t ++ cs.take t) (m.drop t ++ m.take t) = zsum j cs m := by
  rw [zsum_append (by rw [List.length_drop, List.length_drop, h])]
  have := zsum_append (j := j) (cs := cs.take t) (ds := cs.drop t) (m := m.take t) (n := m.drop t) (by rw [List.length_take, List.length_take, h])
  rw [List.take_append_drop, List.take_append_drop] at this
  omega
theorem zsum_scale {j : Nat} {s : Int} : ∀ {cs : List Int} {m : List (List Int)}, zsum j (cs.map (s * ·)) m = s * zsum j cs m
  | [], _ => by simp [zsum]
  | c :: cs, [] => by simp [zsum]
  | c :: cs, row :: m => by
    have ih := zsum_scale (j := j) (s := s) (cs := cs) (m := m)
    unfold zsum at ih ⊢
    rw [List.map_cons, List.zipWith_cons_cons, List.zipWith_cons_cons, List.sum_cons, List.sum_cons, ih]
    grind
structure Rd (w : Nat) (m : List (List Int)) (cs : List Int) : Prop where
  wid : ∀ row ∈ m, row.length = w
  small : ∀ row ∈ m, ∀ x ∈ row, -9 ≤ x ∧ x ≤ 9
  len : cs.length = m.length
  nn : ∀ x ∈ cs, 0 ≤ x
  some : ∃ x ∈ cs, 0 < x
  ev : ∀ j, j < w → zsum j cs m = 0
theorem Rd.rot {w t : Nat} {m : List (List Int)} {cs : List Int} (h : Rd w m cs) : Rd w (m.drop t ++ m.take t) (cs.drop t ++ cs.take t) := by
  have mm : ∀ row ∈ m.drop t ++ m.take t, row ∈ m := fun row hr => by
    rcases List.mem_append.mp hr with q | q
    · exact List.mem_of_mem_drop q
    · exact List.mem_of_mem_take q
  have mc : ∀ x, x ∈ cs.drop t ++ cs.take t ↔ x ∈ cs := fun x => by
    rw [List.mem_append]
    constructor
    · rintro (q | q)
      · exact List.mem_of_mem_drop q
      · exact List.mem_of_mem_take q
    · intro q
      rw [← List.take_append_drop t cs] at q
      rcases List.mem_append.mp q with q | q
      · exact .inr q
      · exact .inl q
  refine ⟨fun row hr => h.wid row (mm row hr), fun row hr => h.small row (mm row hr), by rw [List.length_append, List.length_append, List.length_drop, List.length_drop, List.length_take, List.length_take, h.len], fun x hx => h.nn x ((mc x).mp hx), ?_, fun j hj => by rw [zsum_rot h.len]; exact h.ev j hj⟩
  obtain ⟨x, hx, x0⟩ := h.some
  exact ⟨x, (mc x).mpr hx, x0⟩
theorem Rd.app {w : Nat} {m n : List (List Int)} {cs ds : List Int} (h : Rd w m cs) (g : Rd w n ds) : Rd w (m ++ n) (cs ++ ds) := by
  refine ⟨fun r hr => ?_, fun r hr => ?_, by rw [List.length_append, List.length_append, h.len, g.len], fun x hx => ?_, ?_, fun j hj => ?_⟩
  · rcases List.mem_append.mp hr with q | q
    · exact h.wid r q
    · exact g.wid r q
  · rcases List.mem_append.mp hr with q | q
    · exact h.small r q
    · exact g.small r q
  · rcases List.mem_append.mp hx with q | q
    · exact h.nn x q
    · exact g.nn x q
  · obtain ⟨x, hx, x0⟩ := h.some
    exact ⟨x, List.mem_append_left _ hx, x0⟩
  · rw [zsum_append h.len, h.ev j hj, g.ev j hj]; rfl
theorem Rd.scale {w : Nat} {m : List (List Int)} {cs : List Int} (h : Rd w m cs) {s : Int} (s0 : 0 < s) : Rd w m (cs.map (s * ·)) := by
  refine ⟨h.wid, h.small, by rw [List.length_map, h.len], fun x hx => ?_, ?_, fun j hj => by rw [zsum_scale, h.ev j hj]; simp⟩
  · obtain ⟨y, hy, rfl⟩ := List.mem_map.mp hx
    exact Int.mul_nonneg (by omega) (h.nn y hy)
  · obtain ⟨x, hx, x0⟩ := h.some
    exact ⟨s * x, List.mem_map.mpr ⟨x, hx, rfl⟩, Int.mul_pos s0 x0⟩
theorem Rd.round {w : Nat} {m : List (List Int)} {cs : List Int} (h : Rd w m cs) : Round (wares w m.length (rowsOf m)) m.length (vecOf cs) := by
  refine ⟨fun k hk => vec_out (by rw [h.len]; exact hk), fun k => ?_, ?_, fun f hf => ?_⟩
  · by_cases hk : k < cs.length
    · exact h.nn _ (getD_mem hk)
    · rw [vec_out (by omega)]; exact Int.le_refl 0
  · obtain ⟨x, hx, x0⟩ := h.some
    obtain ⟨k, hk, e⟩ := List.getElem_of_mem hx
    refine ⟨k, ?_⟩
    have : vecOf cs k = x := by unfold vecOf; rw [List.getD_eq_getElem?_getD, List.getElem?_eq_getElem hk]; exact e
    rw [this]; exact x0
  · obtain ⟨j, hj, rfl⟩ := List.mem_map.mp hf
    have := h.ev j (List.mem_range.mp hj)
    rw [zsum_sumTo j cs m h.len] at this
    exact this
end My
set_option Elab.async false
set_option linter.all false
namespace My
noncomputable abbrev Pt := Int × Int × List Int
noncomputable def DT : List Pt → Int
  | [] => 1
  | p :: ps => DT ps * p.2.1
noncomputable def NT (k : Nat) : List Pt → Int
  | [] => 0
  | p :: ps => NT k ps * p.2.1 + DT ps * p.1 * vecOf p.2.2 k
noncomputable def takeOff (need have' : Int) (rest row : List Int) : List Int := List.zipWith (fun x y => x * need - have' * y) rest row
theorem takeOff_vec {n : Nat} {need hv : Int} {a b : List Int} (la : a.length = n) (lb : b.length = n) (k : Nat) : vecOf (takeOff need hv a b) k = vecOf a k * need - hv * vecOf b k := by
  unfold takeOff vecOf
  rw [List.getD_eq_getElem?_getD, List.getD_eq_getElem?_getD, List.getD_eq_getElem?_getD, List.getElem?_zipWith]
  by_cases h : k < n
  · rw [List.getElem?_eq_getElem (by omega : k < a.length), List.getElem?_eq_getElem (by omega : k < b.length)]; rfl
  · rw [List.getElem?_eq_none (by omega : a.length ≤ k), List.getElem?_eq_none (by omega : b.length ≤ k)]; simp
structure PtM (w : Nat) (m : List (List Int)) (p : Pt) : Prop where
  top : 1 ≤ p.1 ∧ p.1 ≤ 10 ^ 12 * 2 ^ 360
  bot : 1 ≤ p.2.1 ∧ p.2.1 ≤ 2 ^ 360
  low : ga [p.1, p.2.1] = 1
  mem : p.2.2 ∈ leanL w m
structure MI (w : Nat) (m : List (List Int)) (cs : List Int) (i : Nat) (R : List Pt) (rs : List Int) (B : Int) : Prop where
  len : rs.length = m.length
  nn : ∀ k, 0 ≤ vecOf rs k
  ev : ∀ f ∈ wares w m.length (rowsOf m), f (vecOf rs) = 0
  pos : 1 ≤ B
  eq : ∀ k, vecOf cs k * DT R * B = NT k R * B + DT R * vecOf rs k
  num : R.length + size m.length (vecOf rs) ≤ size m.length (vecOf cs)
  bb : B ≤ 2 ^ (36 * R.length)
  rb : ∀ k, vecOf rs k ≤ 10 ^ 12 * 2 ^ (36 * R.length)
  ok : ∀ p ∈ R, PtM w m p
  srt : (R.reverse.map fun p => p.2.2).Sublist ((leanL w m).take i)
  done : ∀ r ∈ (leanL w m).take i, ∃ k, 0 < vecOf r k ∧ ¬ 0 < vecOf rs k
theorem size_le (n : Nat) (c : Vec) : size n c ≤ n := by
  unfold size
  have := List.length_filter_le (fun k => decide (0 < c k)) (List.range n)
  rwa [List.length_range] at this
theorem Rd.mi {w : Nat} {m : List (List Int)} {cs : List Int} (h : Rd w m cs) (hb : ∀ x ∈ cs, x ≤ 10 ^ 12) : MI w m cs 0 [] cs 1 := by
  have r := h.round
  refine ⟨h.len, r.nn, r.ev, by decide, fun k => ?_, ?_, by decide, fun k => ?_, fun p hp => (nomatch hp), by simp, fun r hr => by simp at hr⟩
  · show vecOf cs k * 1 * 1 = 0 * 1 + 1 * vecOf cs k
    omega
  · simp
  · show vecOf cs k ≤ 10 ^ 12 * 2 ^ 0
    by_cases hk : k < cs.length
    · have := hb _ (getD_mem hk)
      have e : vecOf cs k = cs.getD k 0 := rfl
      rw [e]; omega
    · rw [vec_out (by omega)]; decide
theorem MI.skip {w : Nat} {m : List (List Int)} {cs : List Int} {i : Nat} {R : List Pt} {rs : List Int} {B : Int} (h : MI w m cs i R rs B) {row : List Int} (hi : (leanL w m)[i]? = some row) (hs : ¬ ∀ k, 0 < vecOf row k → 0 < vecOf rs k) : MI w m cs (i + 1) R rs B := by
  refine ⟨h.len, h.nn, h.ev, h.pos, h.eq, h.num, h.bb, h.rb, h.ok, ?_, fun r hr => ?_⟩
  · rw [List.take_add_one, hi]
    exact h.srt.trans (List.sublist_append_left _ _)
  · rw [List.take_add_one, hi] at hr
    rcases List.mem_append.mp hr with q | q
    · exact h.done r q
    · obtain rfl : r = row := by simpa using q
      simp only [Classical.not_forall] at hs
      obtain ⟨k, h1, h2⟩ := hs
      exact ⟨k, h1, h2⟩
theorem mul_le_pow {a b : Int} {x y : Nat} {c : Int} (ha : 0 ≤ a) (h1 : a ≤ c * 2 ^ x) (hb : 0 ≤ b) (h2 : b ≤ 2 ^ y) (hc : 0 ≤ c) : a * b ≤ c * 2 ^ (x + y) := by
  have p : (0 : Int) ≤ c * 2 ^ x := Int.mul_nonneg hc (Int.pow_nonneg (by decide))
  have := Int.mul_le_mul h1 h2 hb p
  rw [Int.pow_add, ← Int.mul_assoc]; exact this
theorem MI.step {w : Nat} {m : List (List Int)} {cs : List Int} {i : Nat} {R : List Pt} {rs : List Int} {B t b : Int} {p : Nat} (h : MI w m cs i R rs B) (hw : ∀ row ∈ m, row.length = w) (w6 : w ≤ 6) (hn : ∀ row ∈ m, ∀ x ∈ row, -9 ≤ x ∧ x ≤ 9) (m10 : m.length ≤ 10) {row : List Int} (hi : (leanL w m)[i]? = some row) (hs : ∀ k, 0 < vecOf row k → 0 < vecOf rs k)
    (hp : 0 < vecOf row p) (hmin : ∀ k, 0 < vecOf row k → vecOf rs p * vecOf row k ≤ vecOf rs k * vecOf row p) (hF : IsFr t b (vecOf rs p) (B * vecOf row p)) :
    MI w m cs (i + 1) ((t, b, row) :: R) (takeOff (vecOf row p) (vecOf rs p) rs row) (B * vecOf row p) := by
  have mem : row ∈ leanL w m := List.mem_of_getElem? hi
  obtain ⟨lr, lean, g1⟩ := (leanL_mem hw row).mp mem
  have small := lean_small hw w6 hn lr lean g1
  have hpn : p < m.length := lean.1.lt hp
  have rp := hs p hp
  have need36 : vecOf row p ≤ 2 ^ 36 := by
    have := small _ (getD_mem (l := row) (j := p) (by omega +splitDisjunctions))
    have e : vecOf row p = row.getD p 0 := rfl
    rw [e]; omega +splitDisjunctions
  have vt := takeOff_vec (need := vecOf row p) (hv := vecOf rs p) h.len lr
  have rn := lean.1.nn
  have B1 := h.pos
  have lenT : (takeOff (vecOf row p) (vecOf rs p) rs row).length = m.length := by unfold takeOff; rw [List.length_zipWith, h.len, lr]; omega +splitDisjunctions
  have le1 : ∀ k, vecOf (takeOff (vecOf row p) (vecOf rs p) rs row) k ≤ vecOf rs k * vecOf row p := fun k => by
    rw [vt k]
    have := Int.mul_nonneg (h.nn p) (rn k)
    omega +splitDisjunctions
  have sub : ∀ k, 0 < vecOf (takeOff (vecOf row p) (vecOf rs p) rs row) k → 0 < vecOf rs k := fun k hk => by
    have := le1 k
    rcases Int.lt_or_eq_of_le (h.nn k) with q | q
    · exact q
    · rw [← q] at this; omega +splitDisjunctions
  have zero : vecOf (takeOff (vecOf row p) (vecOf rs p) rs row) p = 0 := by rw [vt p]; omega +splitDisjunctions
  have R10 : R.length + 1 ≤ 10 := by
    have h1 := h.num
    have h2 := size_le m.length (vecOf cs)
    have h3 := size_lt (n := m.length) (c := vecOf rs) (d := vecOf (takeOff (vecOf row p) (vecOf rs p) rs row)) sub hpn rp (by rw [zero]; decide)
    omega +splitDisjunctions
  have bB : B * vecOf row p ≤ 2 ^ (36 * (R.length + 1)) := by
    have := mul_le_pow (a := B) (b := vecOf row p) (x := 36 * R.length) (y := 36) (c := 1) (by omega +splitDisjunctions) (by have := h.bb; omega +splitDisjunctions) (by omega +splitDisjunctions) need36 (by decide)
    rw [show 36 * (R.length + 1) = 36 * R.length + 36 by omega +splitDisjunctions]; omega +splitDisjunctions
  have Bp : 0 < B * vecOf row p := Int.mul_pos (by omega +splitDisjunctions) hp
  refine ⟨lenT, fun k => ?_, fun f hf => ?_, by omega +splitDisjunctions, fun k => ?_, ?_, bB, fun k => ?_, fun q hq => ?_, ?_, fun r hr => ?_⟩
  · rw [vt k]
    by_cases hk : 0 < vecOf row k
    · have := hmin k hk; omega +splitDisjunctions
    · have e : vecOf row k = 0 := by have := rn k; omega +splitDisjunctions
      rw [e]
      have := Int.mul_nonneg (h.nn k) (show 0 ≤ vecOf row p by omega +splitDisjunctions)
      omega +splitDisjunctions
  · have e : vecOf (takeOff (vecOf row p) (vecOf rs p) rs row) = fun k => vecOf row p * vecOf rs k + (-vecOf rs p) * vecOf row k := by
      funext k; rw [vt k]; grind
    rw [e, lin_two (wares_lin w m.length (rowsOf m) f hf), h.ev f hf, lean.1.ev f hf]; omega +splitDisjunctions
  · show vecOf cs k * (DT R * b) * (B * vecOf row p) = (NT k R * b + DT R * t * vecOf row k) * (B * vecOf row p) + DT R * b * vecOf (takeOff (vecOf row p) (vecOf rs p) rs row) k
    rw [vt k]
    have e := h.eq k
    have v := hF.val
    generalize vecOf row p = nd at v ⊢
    generalize vecOf rs p = hv at v ⊢
    generalize vecOf cs k = c at e ⊢
    generalize vecOf rs k = r at e ⊢
    generalize vecOf row k = y
    generalize DT R = U at e ⊢
    generalize NT k R = T at e ⊢
    have a1 : c * (U * b) * (B * nd) = (c * U * B) * (b * nd) := by grind
    have a2 : (T * b + U * t * y) * (B * nd) = T * B * (b * nd) + U * y * (t * (B * nd)) := by grind
    rw [a1, a2, e, v]; grind
  · have h3 := size_lt (n := m.length) (c := vecOf rs) (d := vecOf (takeOff (vecOf row p) (vecOf rs p) rs row)) sub hpn rp (by rw [zero]; decide)
    have := h.num
    show R.length + 1 + _ ≤ _
    omega +splitDisjunctions
  · have := mul_le_pow (a := vecOf rs k) (b := vecOf row p) (x := 36 * R.length) (y := 36) (c := 10 ^ 12) (h.nn k) (h.rb k) (by omega +splitDisjunctions) need36 (by decide)
    have e := le1 k
    show _ ≤ (10 : Int) ^ 12 * 2 ^ (36 * (R.length + 1))
    rw [show 36 * (R.length + 1) = 36 * R.length + 36 by omega +splitDisjunctions]; omega +splitDisjunctions
  · rcases List.mem_cons.mp hq with z | z
    · subst z
      have d1 := hF.pos
      have P1 : (2 : Int) ^ (36 * (R.length + 1)) ≤ 2 ^ 360 := by
        have := Nat.pow_le_pow_right (n := 2) (by decide) (show 36 * (R.length + 1) ≤ 360 by omega +splitDisjunctions)
        have e1 : ((2 ^ (36 * (R.length + 1)) : Nat) : Int) = 2 ^ (36 * (R.length + 1)) := Int.natCast_pow 2 _
        have e2 : ((2 ^ 360 : Nat) : Int) = 2 ^ 360 := Int.natCast_pow 2 360
        omega +splitDisjunctions
      have P2 : (2 : Int) ^ (36 * R.length) ≤ 2 ^ 360 := by
        have := Nat.pow_le_pow_right (n := 2) (by decide) (show 36 * R.length ≤ 360 by omega +splitDisjunctions)
        have e1 : ((2 ^ (36 * R.length) : Nat) : Int) = 2 ^ (36 * R.length) := Int.natCast_pow 2 _
        have e2 : ((2 ^ 360 : Nat) : Int) = 2 ^ 360 := Int.natCast_pow 2 360
        omega +splitDisjunctions
      have tp : 0 < t := by
        have v := hF.val
        refine Classical.byContradiction fun z => ?_
        have e1 : 0 < vecOf rs p * b := Int.mul_pos rp (by omega +splitDisjunctions)
        have e2 : t * (B * vecOf row p) ≤ 0 := Int.mul_nonpos_of_nonpos_of_nonneg (by omega +splitDisjunctions) (by omega +splitDisjunctions)
        omega +splitDisjunctions
      have tl := hF.n_le
      have dl := hF.d_le
      have rb := h.rb p
      have c1 : (10 : Int) ^ 12 * 2 ^ (36 * R.length) ≤ 10 ^ 12 * 2 ^ 360 := Int.mul_le_mul_of_nonneg_left P2 (by decide)
      exact ⟨⟨by show 1 ≤ t; omega +splitDisjunctions, by show t ≤ _; omega +splitDisjunctions⟩, ⟨d1, by show b ≤ _; omega +splitDisjunctions⟩, hF.low, mem⟩
    · exact h.ok q z
  · rw [List.take_add_one, hi, List.reverse_cons, List.map_append]
    exact List.Sublist.append h.srt (List.Sublist.refl _)
  · rw [List.take_add_one, hi] at hr
    rcases List.mem_append.mp hr with q | q
    · obtain ⟨k, h1, h2⟩ := h.done r q
      exact ⟨k, h1, fun z => h2 (sub k z)⟩
    · obtain rfl : r = row := by simpa using q
      exact ⟨p, hp, by rw [zero]; decide⟩
theorem MI.fin {w : Nat} {m : List (List Int)} {cs : List Int} {R : List Pt} {rs : List Int} {B : Int} (h : MI w m cs (leanL w m).length R rs B) (hw : ∀ row ∈ m, row.length = w) : ∀ k, vecOf cs k * DT R = NT k R := by
  have hl := wares_lin w m.length (rowsOf m)
  have z : ∀ k, vecOf rs k = 0 := fun k => by
    refine Classical.byContradiction fun q => ?_
    have hk : 0 < vecOf rs k := by have := h.nn k; omega
    have rd : Round (wares w m.length (rowsOf m)) m.length (vecOf rs) := ⟨fun j hj => vec_out (by rw [h.len]; exact hj), h.nn, ⟨k, hk⟩, h.ev⟩
    obtain ⟨r, lr, hs⟩ := lean_in rd
    obtain ⟨c, lc, hc, g1, hcr⟩ := vec_low hl lr
    have mem : c ∈ leanL w m := (leanL_mem hw c).mpr ⟨lc, hc, g1⟩
    obtain ⟨j, h1, h2⟩ := h.done c (by rw [List.take_length]; exact mem)
    exact h2 (hs j ((hcr j).mp h1))
  intro k
  have e := h.eq k
  rw [z k] at e
  have B0 : B ≠ 0 := by have := h.pos; omega
  exact Int.eq_of_mul_eq_mul_right B0 (by rw [e]; omega)
theorem MI.sorted {w : Nat} {m : List (List Int)} {cs : List Int} {i : Nat} {R : List Pt} {rs : List Int} {B : Int} (h : MI w m cs i R rs B) (hw : ∀ row ∈ m, row.length = w) : (R.reverse.map fun p => p.2.2).Pairwise Ahead :=
  List.Pairwise.sublist (h.srt.trans (List.take_sublist _ _)) (leanL_sorted hw)
end My
set_option Elab.async false
set_option linter.all false
set_option maxRecDepth 100000
set_option maxHeartbeats 4000000
set_option exponentiation.threshold 20000
--NEW
--CUT _law_plant
--LIST _law_plant _law_rows _law_counts
--CUT _law_even
--EXPL _law_even
--LISTFN _law_works _law_even _law_plant _law_more _law_planted
--LIST _law_even _law_left _law_at_here _law_rest _law_unit
--CUT with_ware
--CUT lean_rounds
--OVER ix with_ware entry ix_tup
--CUT evened_pairs
--OVER ix evened_pairs entry ix_tup
--LISTFN evened_pairs
--CUT first_to_run_out
--CUTIN made_of
--OVER ix made_of share ix_tup
--CUT _law_part
--OVER ix _law_part _law_part_here ix_tup
--CUTIN _law_made
--LIST _law_made _law_tops
--OVER ix _law_made _law_parts[_law_k - 1] ix_tup
--OVER ix _law_made _law_parts[_law_k] ix_tup
--CUTIN _law_planted
--LIST _law_planted _law_rows _law_counts _law_more _law_other
--CUT _law_works
--EXPL _law_works
--CUTIN law
--LIST law _law_off _law_rows _law_counts
namespace My
open PySem L2 PyProof.Rows
theorem len1 {α : Type} {l : List α} (h : l.length = 1) : ∃ a, l = [a] := by
  match l, h with
  | [a], _ => exact ⟨a, rfl⟩
theorem len2 {α : Type} {l : List α} (h : l.length = 2) : ∃ a b, l = [a, b] := by
  match l, h with
  | [a, b], _ => exact ⟨a, b, rfl⟩
theorem len3 {α : Type} {l : List α} (h : l.length = 3) : ∃ a b c, l = [a, b, c] := by
  match l, h with
  | [a, b, c], _ => exact ⟨a, b, c, rfl⟩
theorem len4 {α : Type} {l : List α} (h : l.length = 4) : ∃ a b c d, l = [a, b, c, d] := by
  match l, h with
  | [a, b, c, d], _ => exact ⟨a, b, c, d, rfl⟩
theorem len5 {α : Type} {l : List α} (h : l.length = 5) : ∃ a b c d e, l = [a, b, c, d, e] := by
  match l, h with
  | [a, b, c, d, e], _ => exact ⟨a, b, c, d, e, rfl⟩
theorem len6 {α : Type} {l : List α} (h : l.length = 6) : ∃ a b c d e f, l = [a, b, c, d, e, f] := by
  match l, h with
  | [a, b, c, d, e, f], _ => exact ⟨a, b, c, d, e, f, rfl⟩
set_option compiler.extract_closed false
set_option hygiene false
local macro_rules | `(tactic| simp_arith [$as,*]) => do
  let ws (s : String) : Array Lean.Syntax := ((s.splitOn " ").map fun x => Lean.mkNode `Lean.Parser.Tactic.simpLemma #[Lean.mkNullNode, Lean.mkNullNode, (Lean.mkIdent x.toName).raw]).toArray
  let d := ws "tSeq tNext tAsg gName tVar tC tOp rI rI0 rEq rNe scal tTest tB tIfS tRet tRetN tDrop tNot tNotV tOr tAnd tOrV tAndV tCons tNil tCall tCB tUn rU tPar tIf rIxL rIxT tTrue tFor_eq tComp_eq tLst tTup rEqI rEqA rNeA rNeT rSlT rCat rRep tSl rSlL tPart tNoPart tRev gSub rSetL tInts iList iRng1 iRng2 iZip iEnum tSort tBM rAppend List.getElem?_cons_zero List.getElem?_cons_succ List.set_cons_zero List.set_cons_succ List.cons_append List.nil_append cxOf if_true if_false Bool.not_true Bool.not_false reduceIte"
  let l := d ++ ws "Option.some.injEq exists_and_left exists_eq_left exists_eq_left' V.int.injEq V.ref.injEq V.bl.injEq V.ty.injEq List.cons.injEq and_true true_and List.append_nil and_assoc ite_not Bool.false_eq_true Bool.true_eq_false Bool.not_eq_true' decide_eq_false_iff_not decide_eq_true_eq" ++ as.getElems.map (·.raw)
  let dd : Lean.Syntax.TSepArray [`Lean.Parser.Tactic.simpErase, `Lean.Parser.Tactic.simpLemma] "," := ⟨(Lean.mkSepArray d (Lean.mkAtom ","))⟩
  let ll : Lean.Syntax.TSepArray [`Lean.Parser.Tactic.simpStar, `Lean.Parser.Tactic.simpErase, `Lean.Parser.Tactic.simpLemma] "," := ⟨(Lean.mkSepArray l (Lean.mkAtom ","))⟩
  `(tactic| first | (dsimp only [$dd,*]; try simp only [$ll,*]) | simp only [$ll,*])
set_option hygiene true
noncomputable def top (i : Nat) : Stmt := PySem.Challenge.pw_leanmodes_k10_made_of.main.body.getD i (.Pass ⟨0, 0, 0, 0⟩)
noncomputable abbrev s_divisor_of_two : Stmt := top 1
noncomputable abbrev s_divisor : Stmt := top 2
noncomputable abbrev s_lowest : Stmt := top 3
noncomputable abbrev s_fraction : Stmt := top 4
noncomputable abbrev s_end_of : Stmt := top 6
noncomputable abbrev s_places : Stmt := top 7
noncomputable abbrev s_deed_set : Stmt := top 9
noncomputable abbrev s_is_within : Stmt := top 10
noncomputable abbrev s_single : Stmt := top 12
noncomputable abbrev s_evened : Stmt := top 13
noncomputable abbrev s_are_neighbours : Stmt := top 14
noncomputable abbrev s_evened_pairs : Stmt := top 15
noncomputable abbrev s_with_ware : Stmt := top 17
noncomputable abbrev s_lean_rounds : Stmt := top 18
noncomputable abbrev s_first_to_run_out : Stmt := top 20
noncomputable abbrev s_made_of : Stmt := top 21
noncomputable abbrev s_law_at : Stmt := top 23
noncomputable abbrev s_law_mix : Stmt := top 24
noncomputable abbrev s_law_draws : Stmt := top 25
noncomputable abbrev s_law_row : Stmt := top 26
noncomputable abbrev s_law_works : Stmt := top 27
noncomputable abbrev s_law_plant : Stmt := top 28
noncomputable abbrev s_law_whole : Stmt := top 29
noncomputable abbrev s_law_row_of : Stmt := top 30
noncomputable abbrev s_law_row_is : Stmt := top 31
noncomputable abbrev s_law_kept : Stmt := top 32
noncomputable abbrev s_law_even : Stmt := top 33
noncomputable abbrev s_law_sums : Stmt := top 34
noncomputable abbrev s_law_gcd : Stmt := top 35
noncomputable abbrev s_law_is_round : Stmt := top 36
noncomputable abbrev s_law_ahead : Stmt := top 37
noncomputable abbrev s_law_part : Stmt := top 38
noncomputable abbrev s_law_made : Stmt := top 39
noncomputable abbrev s_law_planted : Stmt := top 40
noncomputable abbrev s_law : Stmt := top 41
structure Bi (mg : Str → Option Value) : Prop where
  abs : mg "abs" = none
  bool : mg "bool" = none
  enumerate : mg "enumerate" = none
  int : mg "int" = none
  isinstance : mg "isinstance" = none
  len : mg "len" = none
  list : mg "list" = none
  min : mg "min" = none
  range : mg "range" = none
  sorted : mg "sorted" = none
  sum : mg "sum" = none
  tuple : mg "tuple" = none
  zip : mg "zip" = none
structure Txt (K : PySem.W.Frag) (mg : Str → Option Value) : Prop where
  B : Bi mg
  divisor_of_two : TF K mg "divisor_of_two" s_divisor_of_two ["one", "other"]
  divisor : TF K mg "divisor" s_divisor ["row"]
  lowest : TF K mg "lowest" s_lowest ["row"]
  fraction : TF K mg "fraction" s_fraction ["top", "bottom"]
  end_of : TF K mg "end_of" s_end_of ["deeds", "counts", "ware"]
  places : TF K mg "places" s_places ["counts"]
  deed_set : TF K mg "deed_set" s_deed_set ["counts"]
  is_within : TF K mg "is_within" s_is_within ["one", "other"]
  single : TF K mg "single" s_single ["many", "place"]
  evened : TF K mg "evened" s_evened ["above", "end_above", "other", "end_other"]
  are_neighbours : TF K mg "are_neighbours" s_are_neighbours ["one", "other", "every_set"]
  evened_pairs : TF K mg "evened_pairs" s_evened_pairs ["known"]
  with_ware : TF K mg "with_ware" s_with_ware ["deeds", "rows", "ware"]
  lean_rounds : TF K mg "lean_rounds" s_lean_rounds ["width", "deeds"]
  first_to_run_out : TF K mg "first_to_run_out" s_first_to_run_out ["rest", "row"]
  made_of : TF K mg "made_of" s_made_of ["width", "deeds", "counts"]
  law_at : TF K mg "_law_at" s_law_at ["_law_script", "_law_k"]
  law_mix : TF K mg "_law_mix" s_law_mix ["_law_cell", "_law_k"]
  law_draws : TF K mg "_law_draws" s_law_draws ["_law_cell", "_law_many", "_law_size", "_law_mixed"]
  law_row : TF K mg "_law_row" s_law_row ["_law_cell", "_law_width", "_law_way"]
  law_works : TF K mg "_law_works" s_law_works ["_law_script"]
  law_plant : TF K mg "_law_plant" s_law_plant ["_law_cell", "_law_width"]
  law_whole : TF K mg "_law_whole" s_law_whole ["_law_found"]
  law_row_of : TF K mg "_law_row_of" s_law_row_of ["_law_found", "_law_many"]
  law_row_is : TF K mg "_law_row_is" s_law_row_is ["_law_found", "_law_due"]
  law_kept : TF K mg "_law_kept" s_law_kept ["_law_found", "_law_due"]
  law_even : TF K mg "_law_even" s_law_even ["_law_width", "_law_deeds", "_law_some"]
  law_sums : TF K mg "_law_sums" s_law_sums ["_law_width", "_law_deeds", "_law_counts"]
  law_gcd : TF K mg "_law_gcd" s_law_gcd ["_law_row_here"]
  law_is_round : TF K mg "_law_is_round" s_law_is_round ["_law_width", "_law_deeds", "_law_counts"]
  law_ahead : TF K mg "_law_ahead" s_law_ahead ["_law_one", "_law_other"]
  law_part : TF K mg "_law_part" s_law_part ["_law_width", "_law_deeds", "_law_part_here"]
  law_made : TF K mg "_law_made" s_law_made ["_law_width", "_law_deeds", "_law_counts", "_law_parts"]
  law_planted : TF K mg "_law_planted" s_law_planted ["_law_script"]
  law : TF K mg "law" s_law ["_law_script"]
noncomputable def sp_d2 : Sp := fun vs H Q _ => ∃ a b, vs = [.int a, .int b] ∧ 0 ≤ a ∧ 0 ≤ b ∧ Q (.int (g a b)) H
noncomputable def sp_div (K : PySem.W.Frag) : Sp := fun vs H Q _ => ∃ (l : Addr) (xs : List Int), vs = [.ref l] ∧ SqL K H l (xs.map V.int) ∧ Q (.int (ga xs)) H
noncomputable def sp_at (K : PySem.W.Frag) : Sp := fun vs H Q _ => ∃ (l : Addr) (k : Int), vs = [.ref l, .int k] ∧ 0 ≤ k ∧ ∃ ns : List Int, SqL K H l (ns.map V.int) ∧ Q (.int (ns.getD k.toNat 0)) H
noncomputable def sp_whole : Sp := fun vs H Q _ => ∃ i, vs = [.int i] ∧ Q (.bl true) H
noncomputable def sp_row (K : PySem.W.Frag) : Sp := fun vs H Q _ => ∃ (a b : Addr) (xs ys : List Int), vs = [.ref a, .ref b] ∧ H a = some (.lst (xs.map V.int)) ∧ SqL K H b (ys.map V.int) ∧ ∀ H', Same H H' → Q (.bl (decide (xs = ys))) H'
noncomputable def sp_gcd (K : PySem.W.Frag) : Sp := fun vs H Q _ => ∃ (l : Addr), vs = [.ref l] ∧ ∃ xs : List Int, SqL K H l (xs.map V.int) ∧ Q (.int (ga xs)) H
theorem take_succ_of {α : Type} {xs : List α} {i : Nat} {x : α} (h : xs[i]? = some x) : xs.take (i + 1) = xs.take i ++ [x] := by
  rw [List.take_add_one, h]; rfl
theorem map_int {xs : List Int} {i : Nat} {y : V} (h : (xs.map V.int)[i]? = some y) : ∃ z, xs[i]? = some z ∧ y = V.int z := by
  rw [List.getElem?_map] at h
  cases e : xs[i]? with
  | none => rw [e] at h; cases h
  | some z => rw [e] at h; exact ⟨z, rfl, (Option.some.inj h).symm⟩
theorem gTup2 {K : PySem.W.Frag} {T : Addr} {v1 v2 : V} {i j : Nat} {σ : L2.St} {H : Hp} {Q : L2.St → Hp → Prop} (h : H T = some (.tup [v1, v2])) (q : Q ((σ.set i (some v1)).set j (some v2)) H) :
    gTup K 2 (gCons (gName i) (gCons (gName j) gNil)) (.ref T) σ H Q := ⟨T, _, rfl, SqT.of h, rfl, _, _, rfl, _, _, rfl, rfl, q⟩
theorem pick2 (x y n : Int) : ∃ z, atI [V.int x, V.int y] (n % 2) = some (V.int z) ∧ (z = x ∨ z = y) := by
  have h : n % 2 = 0 ∨ n % 2 = 1 := by omega
  rcases h with h | h
  · rw [h]; exact ⟨x, rfl, .inl rfl⟩
  · rw [h]; exact ⟨y, rfl, .inr rfl⟩
theorem if_neg_of {c A B : Prop} [Decidable c] (h : ¬ c) (b : B) : if c then A else B := by rw [if_neg h]; exact b
theorem if_pos_of {c A B : Prop} [Decidable c] (h : c) (a : A) : if c then A else B := by rw [if_pos h]; exact a
noncomputable def Mat (H : Hp) (d : Addr) (m : List (List Int)) : Prop := ∃ rs : List Addr, H d = some (.lst (rs.map V.ref)) ∧ Paired (fun r row => H r = some (.lst (List.map V.int row))) rs m ∧ d ∉ rs
theorem Paired.impL {α β : Type} {F G : α → β → Prop} : ∀ {l₁ : List α} {l₂ : List β}, Paired F l₁ l₂ → (∀ a b, F a b → G a b) → Paired G l₁ l₂
  | _, _, .nil, _ => .nil
  | _, _, .cons r t, f => .cons (f _ _ r) (Paired.impL t f)
theorem Mat.same {H H' : Hp} {d : Addr} {m : List (List Int)} (h : Mat H d m) (s : Same H H') : Mat H' d m := by
  obtain ⟨rs, h1, h2, h3⟩ := h
  exact ⟨rs, s _ _ h1, Paired.impL h2 fun a b e => s _ _ e, h3⟩
theorem Paired.getL {α β : Type} {F : α → β → Prop} : ∀ {l₁ : List α} {l₂ : List β} {i : Nat} {b : β}, Paired F l₁ l₂ → l₂[i]? = some b → ∃ a, l₁[i]? = some a ∧ F a b
  | _, _, _, _, .nil, e => by simp at e
  | _, _, 0, _, .cons r _, e => by simp at e; subst e; exact ⟨_, rfl, r⟩
  | _, _, i + 1, x, .cons _ t, e => by
    obtain ⟨u, h1, h2⟩ := Paired.getL (i := i) (b := x) t (by simpa using e)
    exact ⟨u, by simpa using h1, h2⟩
theorem Paired.snocL {α β : Type} {F : α → β → Prop} {a : α} {b : β} (h : F a b) : ∀ {l₁ : List α} {l₂ : List β}, Paired F l₁ l₂ → Paired F (l₁ ++ [a]) (l₂ ++ [b])
  | _, _, .nil => .cons h .nil
  | _, _, .cons r t => .cons r (Paired.snocL h t)
theorem Mat.nil {H : Hp} {d : Addr} (h : H d = some (.lst [])) : Mat H d [] := ⟨[], h, .nil, by simp⟩
theorem Paired.memL {α β : Type} {F : α → β → Prop} : ∀ {l₁ : List α} {l₂ : List β} {a : α}, Paired F l₁ l₂ → a ∈ l₁ → ∃ b, b ∈ l₂ ∧ F a b
  | _, _, _, .nil, h => nomatch h
  | _, _, a, .cons r t, h => by
    rcases List.mem_cons.mp h with rfl | h
    · exact ⟨_, .head _, r⟩
    · obtain ⟨b, h1, h2⟩ := Paired.memL t h
      exact ⟨b, .tail _ h1, h2⟩
theorem Paired.impM {α β : Type} {F G : α → β → Prop} : ∀ {l₁ : List α} {l₂ : List β}, Paired F l₁ l₂ → (∀ a b, a ∈ l₁ → F a b → G a b) → Paired G l₁ l₂
  | _, _, .nil, _ => .nil
  | _, _, .cons r t, f => .cons (f _ _ (.head _) r) (Paired.impM t fun a b h => f a b (.tail _ h))
theorem Mat.push {H : Hp} {d r : Addr} {m : List (List Int)} {row : List Int} (h : Mat H d m) (hr : H r = some (.lst (row.map V.int))) (hrd : r ≠ d) : ∃ zs, H d = some (.lst zs) ∧ zs.length = m.length ∧ Mat (upd H d (.lst (zs ++ [V.ref r]))) d (m ++ [row]) := by
  obtain ⟨rs, h1, h2, h3⟩ := h
  refine ⟨_, h1, by rw [List.length_map, h2.length], rs ++ [r], by rw [upd_same, List.map_append]; rfl, Paired.snocL (by rw [upd_ne hrd]; exact hr) (Paired.impM h2 fun a b ha e => ?_), ?_⟩
  · rw [upd_ne (by rintro rfl; exact h3 ha)]; exact e
  · intro z
    rcases List.mem_append.mp z with z | z
    · exact h3 z
    · exact hrd (List.mem_singleton.mp z).symm
theorem Mat.row {K : PySem.W.Frag} {H : Hp} {d : Addr} {m : List (List Int)} {i : Nat} {row : List Int} (h : Mat H d m) (e : m[i]? = some row) : ∃ (rs : List Addr) (r : Addr), SqL K H d (rs.map V.ref) ∧ rs.length = m.length ∧ (rs.map V.ref)[i]? = some (V.ref r) ∧ H r = some (.lst (row.map V.int)) := by
  obtain ⟨rs, h1, h2, _⟩ := h
  obtain ⟨r, e1, e2⟩ := Paired.getL h2 e
  exact ⟨rs, r, SqL.of h1, h2.length, by rw [List.getElem?_map, e1]; rfl, e2⟩
theorem Mat.len {K : PySem.W.Frag} {H : Hp} {d : Addr} {m : List (List Int)} (h : Mat H d m) : ∃ rs : List Addr, SqL K H d (rs.map V.ref) ∧ rs.length = m.length := by
  obtain ⟨rs, h1, h2, _⟩ := h
  exact ⟨rs, SqL.of h1, h2.length⟩
theorem cut_take (xs : List V) (i : Nat) (h : i ≤ xs.length) : cutV xs none (some (i : Int)) = xs.take i := by
  unfold cutV
  have e1 : HT.sIx xs.length 0 none = 0 := by simp [HT.sIx]
  have e2 : HT.sIx xs.length xs.length (some (i : Int)) = i := by rw [HT.sIx_nat]; omega
  rw [e1, e2]; simp
theorem cut_drop (xs : List V) (i : Nat) (h : i ≤ xs.length) : cutV xs (some (i : Int)) none = xs.drop i := by
  unfold cutV
  have e1 : HT.sIx xs.length 0 (some (i : Int)) = i := by rw [HT.sIx_nat]; omega
  have e2 : HT.sIx xs.length xs.length none = xs.length := by simp [HT.sIx]
  rw [e1, e2]
  exact List.take_of_length_le (by rw [List.length_drop]; omega)
theorem Paired.takeL {α β : Type} {F : α → β → Prop} : ∀ {l₁ : List α} {l₂ : List β} (n : Nat), Paired F l₁ l₂ → Paired F (l₁.take n) (l₂.take n)
  | _, _, 0, _ => by simpa using Paired.nil
  | _, _, _ + 1, .nil => .nil
  | _, _, n + 1, .cons r t => .cons r (Paired.takeL n t)
theorem Paired.dropL {α β : Type} {F : α → β → Prop} : ∀ {l₁ : List α} {l₂ : List β} (n : Nat), Paired F l₁ l₂ → Paired F (l₁.drop n) (l₂.drop n)
  | _, _, 0, h => h
  | _, _, _ + 1, .nil => .nil
  | _, _, n + 1, .cons _ t => Paired.dropL n t
theorem Paired.appL {α β : Type} {F : α → β → Prop} : ∀ {l₁ l₃ : List α} {l₂ l₄ : List β}, Paired F l₁ l₂ → Paired F l₃ l₄ → Paired F (l₁ ++ l₃) (l₂ ++ l₄)
  | _, _, _, _, .nil, h => h
  | _, _, _, _, .cons r t, h => .cons r (Paired.appL t h)
theorem map_ref {xs : List Addr} {i : Nat} {y : V} (h : (xs.map V.ref)[i]? = some y) : ∃ z, xs[i]? = some z ∧ y = V.ref z := by
  rw [List.getElem?_map] at h
  cases e : xs[i]? with
  | none => rw [e] at h; cases h
  | some z => rw [e] at h; exact ⟨z, rfl, (Option.some.inj h).symm⟩
structure Wk (w : Nat) (m : List (List Int)) : Prop where
  wid : ∀ row ∈ m, row.length = w
  num : ∀ row ∈ m, ∀ x ∈ row, -9 ≤ x ∧ x ≤ 9
  many : m.length ≤ 10
  w6 : w ≤ 6
structure WkL (tu : Bool) (w : Nat) (m : List (List Int)) : Prop where
  wid : ∀ (j : Nat) row, m[j]? = some row → row.length = w
  num : ∀ (j : Nat) row, m[j]? = some row → ∀ x ∈ row, -9 ≤ x ∧ x ≤ 9
  three : ∀ (j : Nat) row, m[j]? = some row → tu = true → j % 3 ≠ 2 → ∀ x ∈ row, -3 ≤ x ∧ x ≤ 3
theorem WkL.nil {tu : Bool} {w : Nat} : WkL tu w [] := ⟨fun j row e => by simp at e, fun j row e => by simp at e, fun j row e => by simp at e⟩
theorem WkL.snoc {tu : Bool} {w : Nat} {m : List (List Int)} {row : List Int} (h : WkL tu w m) (h1 : row.length = w) (h2 : ∀ x ∈ row, -9 ≤ x ∧ x ≤ 9) (h3 : tu = true → m.length % 3 ≠ 2 → ∀ x ∈ row, -3 ≤ x ∧ x ≤ 3) : WkL tu w (m ++ [row]) := by
  have key : ∀ (j : Nat) (r : List Int), (m ++ [row])[j]? = some r → m[j]? = some r ∨ (j = m.length ∧ r = row) := fun j r e => by
    by_cases hj : j < m.length
    · rw [List.getElem?_append_left hj] at e; exact .inl e
    · rw [List.getElem?_append_right (by omega)] at e
      by_cases hj2 : j - m.length = 0
      · rw [hj2] at e
        exact .inr ⟨by omega, by simpa using e.symm⟩
      · obtain ⟨k, hk⟩ : ∃ k, j - m.length = k + 1 := ⟨j - m.length - 1, by omega⟩
        rw [hk] at e; simp at e
  refine ⟨fun j r e => ?_, fun j r e => ?_, fun j r e ht hj => ?_⟩
  · rcases key j r e with e | ⟨_, rfl⟩
    · exact h.wid j r e
    · exact h1
  · rcases key j r e with e | ⟨_, rfl⟩
    · exact h.num j r e
    · exact h2
  · rcases key j r e with e | ⟨ej, rfl⟩
    · exact h.three j r e ht hj
    · exact h3 ht (by rw [← ej]; exact hj)
theorem WkL.wk {tu : Bool} {w : Nat} {m : List (List Int)} (h : WkL tu w m) (h1 : m.length ≤ 10) (h2 : w ≤ 6) : Wk w m :=
  ⟨fun row hr => by obtain ⟨j, _, e⟩ := List.getElem_of_mem hr; exact h.wid j row (by rw [← e]; simp), fun row hr => by obtain ⟨j, _, e⟩ := List.getElem_of_mem hr; exact h.num j row (by rw [← e]; simp), h1, h2⟩
noncomputable def num (m : List (List Int)) (k j : Nat) : Int := (m.getD k []).getD j 0
noncomputable def sumsOf (w : Nat) (m : List (List Int)) (cs : List Int) : List Int := (List.range w).map fun j => sumTo m.length fun k => cs.getD k 0 * num m k j
noncomputable def sp_mix : Sp := fun vs H Q _ => ∃ c k, vs = [.int c, .int k] ∧ ∀ z : Int, 0 ≤ z → z < 2147483647 → Q (.int z) H
noncomputable def sp_draws : Sp := fun vs H Q _ => ∃ c many size b, vs = [.int c, .int many, .int size, .bl b] ∧ 0 ≤ many ∧ many ≤ 900 ∧ 0 < size ∧ size < 2 ^ 60 ∧
  ∀ p H' xs, H p = none → Same H H' → H' p = some (.lst (List.map V.int xs)) → (xs.length : Int) = many → (∀ x ∈ xs, 0 ≤ x ∧ x < size) → Q (.ref p) H'
noncomputable def sp_rowl : Sp := fun vs H Q _ => ∃ c wd way, vs = [.int c, .int wd, .int way] ∧ 0 ≤ wd ∧ wd ≤ 6 ∧
  ∀ p H' xs, H p = none → Same H H' → H' p = some (.lst (List.map V.int xs)) → (xs.length : Int) = wd → (∀ x ∈ xs, -9 ≤ x ∧ x ≤ 9) → (way = 1 → ∀ x ∈ xs, -3 ≤ x ∧ x ≤ 3) → Q (.ref p) H'
noncomputable def sp_works (K : PySem.W.Frag) : Sp := fun vs H Q _ => ∃ l, vs = [.ref l] ∧ ∃ ns : List Int, SqL K H l (ns.map V.int) ∧
  ∀ p d H' w m, H p = none → Same H H' → H' p = some (.lst [.int (w : Nat), .ref d]) → Mat H' d m → Wk w m → Q (.ref p) H'
noncomputable def sp_kept (K : PySem.W.Frag) : Sp := fun vs H Q _ => ∃ a b, vs = [.ref a, .ref b] ∧ ∃ m1 m2, Mat H a m1 ∧ Mat H b m2 ∧ ∀ H', Same H H' → Q (.bl (decide (m1 = m2))) H'
noncomputable def sp_sums (K : PySem.W.Frag) : Sp := fun vs H Q _ => ∃ wd d c, vs = [.int wd, .ref d, .ref c] ∧ ∃ (w : Nat) (m : List (List Int)) (cs : List Int), wd = (w : Int) ∧ w ≤ 6 ∧ Mat H d m ∧ m.length ≤ 20 ∧ (∀ row ∈ m, row.length = w) ∧ (∀ row ∈ m, ∀ x ∈ row, -(2 ^ 60) < x ∧ x < 2 ^ 60) ∧ SqL K H c (cs.map V.int) ∧ m.length ≤ cs.length ∧
  ∀ p H', H p = none → Same H H' → H' p = some (.lst ((sumsOf w m cs).map V.int)) → Q (.ref p) H'
theorem pick_list {xs : List Int} (hne : 0 < xs.length) (n : Int) : ∃ z, z ∈ xs ∧ atI (xs.map V.int) (n % (xs.length : Int)) = some (V.int z) := by
  have h0 := Int.emod_nonneg n (show (xs.length : Int) ≠ 0 by omega)
  have h1 := Int.emod_lt_of_pos n (show (0 : Int) < xs.length by omega)
  obtain ⟨k, hk⟩ := Int.eq_ofNat_of_zero_le h0
  have hk' : k < xs.length := by omega
  refine ⟨xs[k], List.getElem_mem _, ?_⟩
  rw [hk]
  exact atI_nat (by simp [hk'])
theorem at_list {xs : List Int} {n : Int} (h0 : 0 ≤ n) (h1 : n < xs.length) : ∃ z, z ∈ xs ∧ atI (xs.map V.int) n = some (V.int z) := by
  obtain ⟨k, hk⟩ := Int.eq_ofNat_of_zero_le h0
  have hk' : k < xs.length := by omega
  exact ⟨xs[k], List.getElem_mem _, by rw [hk]; exact atI_nat (by simp [hk'])⟩
noncomputable def offOf (n : Nat) (ss : List Int) : List Int := ((List.range n).filter fun j => decide (¬ ss.getD j 0 = 0)).map fun j : Nat => (j : Int)
theorem offOf_eq {n : Nat} {ss : List Int} (h : ss.getD n 0 = 0) : offOf (n + 1) ss = offOf n ss := by
  unfold offOf
  rw [List.range_succ, List.filter_append, List.map_append]
  simp only [List.filter_cons, h, not_true_eq_false, decide_false, Bool.false_eq_true, if_false, List.filter_nil, List.map_nil, List.append_nil]
theorem offOf_ne {n : Nat} {ss : List Int} (h : ¬ ss.getD n 0 = 0) : offOf (n + 1) ss = offOf n ss ++ [(n : Int)] := by
  unfold offOf
  rw [List.range_succ, List.filter_append, List.map_append]
  simp only [List.filter_cons, h, not_false_eq_true, decide_true, if_true, List.filter_nil, List.map_cons, List.map_nil]
theorem offOf_len (n : Nat) (ss : List Int) : (offOf n ss).length ≤ n := by
  unfold offOf
  rw [List.length_map]
  exact Nat.le_trans (List.length_filter_le _ _) (by rw [List.length_range]; exact Nat.le_refl _)
structure WIn (K : PySem.W.Frag) (H : Hp) (d c : Addr) (w : Nat) (m : List (List Int)) (cs : List Int) : Prop where
  w6 : w ≤ 6
  mat : Mat H d m
  many : m.length ≤ 10
  wid : ∀ row ∈ m, row.length = w
  num : ∀ row ∈ m, ∀ x ∈ row, -18 ≤ x ∧ x ≤ 18
  cnt : SqL K H c (cs.map V.int)
  len : cs.length = m.length
  pos : ∀ x ∈ cs, 0 ≤ x ∧ x < 1000000000000
noncomputable def sp_places (K : PySem.W.Frag) : Sp := fun vs H Q _ => ∃ (c : Addr), vs = [.ref c] ∧ ∃ (cs : List Int), SqL K H c (cs.map V.int) ∧ cs.length ≤ 10 ∧ (∀ x ∈ cs, 0 ≤ x) ∧
  ∀ p H', H p = none → Same H H' → H' p = some (.lst ((offOf cs.length cs).map V.int)) → Q (.ref p) H'
noncomputable def isRound (w : Nat) (m : List (List Int)) (cs : List Int) : Prop := offOf cs.length cs ≠ [] ∧ offOf w (sumsOf w m cs) = []
noncomputable instance {w : Nat} {m : List (List Int)} {cs : List Int} : Decidable (isRound w m cs) := inferInstanceAs (Decidable (_ ∧ _))
theorem e12 : (10 : Int) ^ Int.toNat 12 = 1000000000000 := by decide
noncomputable def TwoA (x : V) (σ : L2.St) : Prop := ∃ u v, σ = [u, v, some x]
theorem tw3 {u v : Option V} {x : V} : TwoA x [u, v, some x] := ⟨_, _, rfl⟩
noncomputable def TwoB (x y : V) (σ : L2.St) : Prop := ∃ u v, σ = [u, v, some x, some y]
theorem tw4 {u v : Option V} {x y : V} : TwoB x y [u, v, some x, some y] := ⟨_, _, rfl⟩
noncomputable def Two (σ : L2.St) : Prop := ∃ u v, σ = [u, v]
theorem two {u v : Option V} : Two [u, v] := ⟨_, _, rfl⟩
section
variable {P : Program} {w : World} {K : PySem.W.Frag} {mg : Str → Option Value} {base : Heap}
theorem sc_divisor_of_two : FnScope ["one", "other", "rest"] ["one", "other"] (defScope s_divisor_of_two) := ⟨rfl, rfl, rfl, by decide +kernel, rfl, by decide +kernel, by decide +kernel⟩
theorem c_divisor_of_two (T : Txt K mg) : Cal P w K mg base "divisor_of_two" 1 ["one", "other"] sp_d2 := by
  refine T.divisor_of_two.ok sc_divisor_of_two (fun vs H Q E h => ?_) (fun f cdv A outer s H vs Q E hr h => ?_)
  · obtain ⟨a, b, rfl, _⟩ := h; rfl
  · obtain ⟨a, b, rfl, ha, hb, k⟩ := h
    have B := T.B
    refine ⟨_, (pss_cons (ps_while PassesOwn.never (pt_cmpR op_ne (pv 1) pe_int (nomark _)) (pss_cons (ps_set (i := 2) sc_divisor_of_two.nd rfl (Or.inl rfl) (pe_op op_modN (pv 0) (pv 1)))
 (pss_cons (ps_set (i := 0) sc_divisor_of_two.nd rfl (Or.inl rfl) (pv 1))
 (pss_one (ps_set (i := 1) sc_divisor_of_two.nd rfl (Or.inl rfl) (pv 2))))))
 (pss_one (ps_ret (pv 0)))), ?_⟩
    refine tw (fun m σ H' => H' = H ∧ ∃ x y r, σ = [some (.int x), some (.int y), r] ∧ m = y.toNat ∧ 0 ≤ x ∧ 0 ≤ y ∧ g x y = g a b) b.toNat ⟨rfl, a, b, none, rfl, rfl, ha, hb, rfl⟩ ?_
    rintro m σ H' ⟨rfl, x, y, r, rfl, rfl, hx, hy, he⟩
    simp_arith []
    refine ite2 (fun hn => ?_) (fun hn => ?_)
    · rw [hn, g_zero hx] at he
      rw [he]; exact k
    · have h0 : 0 < y := by omega
      refine ⟨fun σ H1 => H1 = H' ∧ σ = [some (.int y), some (.int (x.fmod y)), some (.int (x.fmod y))], ?_, hn, rfl, rfl⟩
      rintro σ H1 ⟨rfl, rfl⟩
      exact ⟨_, (g_less h0).2, rfl, _, _, _, rfl, rfl, hy, (g_less h0).1, (g_step h0).trans he⟩
theorem sc_divisor : FnScope ["row", "common", "number"] ["row"] (defScope s_divisor) := ⟨rfl, rfl, rfl, by decide +kernel, rfl, by decide +kernel, by decide +kernel⟩
theorem c_divisor (T : Txt K mg) : Cal P w K mg base "divisor" 2 ["row"] (sp_div K) := by
  refine T.divisor.ok sc_divisor (fun vs H Q E h => ?_) (fun f cdv A outer s H vs Q E hr h => ?_)
  · obtain ⟨l, xs, rfl, _⟩ := h; rfl
  · obtain ⟨l, xs, rfl, hS, k⟩ := h
    have B := T.B
    have c_divisor_of_two := c_divisor_of_two (P := P) (w := w) (base := base) T
    refine ⟨_, (pss_cons (ps_set (i := 1) sc_divisor.nd rfl (Or.inl rfl) pe_int)
 (pss_cons (ps_for PassesOwn.never rfl (pi_list (pv 0)) (pg_name (i := 2) sc_divisor.nd rfl (Or.inl rfl)) (pss_one (ps_set (i := 1) sc_divisor.nd rfl (Or.inl rfl) (pe_cal c_divisor_of_two (hr.mono (by decide)) (pa_cons (pv 1) (pa_cons (pe_callB call_abs rfl B.abs boot_abs (pa_cons (pv 2) pa_nil)) pa_nil))))))
 (pss_one (ps_ret (pv 1))))), ?_⟩
    change tSeq _ _ _ [some (V.ref l), none, none] H
    simp_arith []
    refine ⟨⟨_, hS⟩, loop_list (K := K) (a := l) (xs := xs.map V.int) (fun i σ H2 => H2 = H ∧ ∃ v, σ = [some (.ref l), some (.int (ga (xs.take i))), v]) ⟨rfl, none, rfl⟩ (fun i σ H2 _ ⟨e, _⟩ => e ▸ hS) ?_ ?_⟩
    · rintro i y σ H2 hi ⟨rfl, v, rfl⟩
      rw [List.getElem?_map] at hi
      cases e : xs[i]? with
      | none => rw [e] at hi; cases hi
      | some z =>
        rw [e] at hi
        obtain rfl : V.int z = y := Option.some.inj hi
        simp_arith [sp_d2]
        refine ⟨ga_nonneg _, ab_nonneg z, ?_, _, rfl⟩
        rw [take_succ_of e, ga_snoc]; rfl
    · rintro σ H2 ⟨rfl, v, rfl⟩
      simp_arith []
      rw [List.length_map, List.take_length]
      exact k
noncomputable def sp_low (K : PySem.W.Frag) : Sp := fun vs H Q _ => ∃ (l : Addr), vs = [.ref l] ∧ ∃ xs : List Int, SqL K H l (xs.map V.int) ∧ xs.length ≤ 1000 ∧ (ga xs).natAbs < 2 ^ 1000 ∧ ∀ p H', H p = none → Same H H' → H' p = some (.lst ((lowL xs).map V.int)) → Q (.ref p) H'
theorem sc_lowest : FnScope ["row", "common"] ["row"] (defScope s_lowest) := ⟨rfl, rfl, rfl, by decide +kernel, rfl, by decide +kernel, by decide +kernel⟩
theorem c_lowest (T : Txt K mg) : Cal P w K mg base "lowest" 3 ["row"] (sp_low K) := by
  refine T.lowest.ok sc_lowest (fun vs H Q E h => ?_) (fun f cdv A outer s H vs Q E hr h => ?_)
  · obtain ⟨l, rfl, _⟩ := h; rfl
  · obtain ⟨l, rfl, xs, hS, hl, hb, k⟩ := h
    have B := T.B
    have c_divisor := c_divisor (P := P) (w := w) (base := base) T
    refine ⟨_, (pss_cons (ps_set (i := 1) sc_lowest.nd rfl (Or.inr rfl) (pe_cal c_divisor (hr.mono (by decide)) (pa_cons (pv 0) pa_nil)))
 (pss_cons (ps_if (pt_cmpR op_eq (pv 1) pe_int (nomark _)) (pss_one (ps_ret (pe_callTy call_list_of rfl B.list boot_list (pa_cons (pv 0) pa_nil)))) pss_nil)
 (pss_one (ps_ret (pe_lc (pi_list (pv 0)) (.cons rfl .nil) (.own (x := "number") (.cap (x := "common") (j := 1) rfl (Or.inl rfl) (Or.inl rfl) ⟨_, rfl⟩ .nil)) (fun _ _ _ _ => (pg_name (i := 0) (show (["number", "common"] : List Str).Nodup from by decide +kernel) rfl (Or.inl rfl))) (fun _ _ _ _ => ifs_nil) (fun _ _ _ _ => (pe_op op_fdivB (pv 0) (pv 1)))))))), ?_⟩
    change tSeq _ _ _ [some (V.ref l), none] H
    simp_arith [sp_div]
    refine ⟨xs, hS, ite2 (fun h0 => ?_) fun h0 => ?_⟩
    · refine ⟨_, .inl hS, fun p hp => k p _ hp (same_upd hp) ?_⟩
      unfold lowL
      rw [upd_same, if_pos h0]
    · refine ⟨⟨_, hS⟩, lc_list (K := K) (xs := xs.map V.int) (fun i σ H1 ys => H = H1 ∧ (∃ v, σ = [v, some (V.int (ga xs))]) ∧ ys = ((xs.take i).map fun x => x.fdiv (ga xs)).map V.int) ⟨rfl, ⟨_, rfl⟩, rfl⟩ (fun i σ H1 ys _ ⟨e, _⟩ => e ▸ hS) ?_ ?_⟩
      · rintro i y σ _ ys hi ⟨rfl, ⟨v, rfl⟩, rfl⟩
        obtain ⟨z, hz, rfl⟩ := map_int hi
        have hlt : i < xs.length := (List.getElem?_eq_some_iff.mp hz).1
        simp_arith []
        refine ⟨⟨h0, hb⟩, ?_, ⟨_, rfl⟩, ?_⟩
        · rw [List.length_map, List.length_map, List.length_take]
          exact small1000 (by omega)
        · rw [take_succ_of hz, List.map_append, List.map_append]; rfl
      · rintro σ _ ys ⟨rfl, ⟨v, rfl⟩, rfl⟩
        have e2 : xs.take (xs.map V.int).length = xs := by rw [List.length_map, List.take_length]
        rw [e2]
        refine ⟨?_, fun p hp => k p _ hp (same_upd hp) ?_⟩
        · rw [List.length_map, List.length_map]
          exact Nat.le_of_lt (small1000 hl)
        · unfold lowL
          rw [upd_same, if_neg h0]
noncomputable def sp_end (K : PySem.W.Frag) : Sp := fun vs H Q _ => ∃ (d c : Addr) (wr : Int), vs = [.ref d, .ref c, .int wr] ∧ ∃ (j w : Nat) (m : List (List Int)) (cs : List Int), wr = (j : Int) ∧ j < w ∧ Mat H d m ∧ m.length ≤ 20 ∧ (∀ row ∈ m, row.length = w) ∧ (∀ row ∈ m, ∀ x ∈ row, -(2 ^ 60) < x ∧ x < 2 ^ 60) ∧ SqL K H c (cs.map V.int) ∧ cs.length = m.length ∧
  ∀ H', Same H H' → Q (.int (sumTo m.length fun k => cs.getD k 0 * num m k j)) H'
theorem sum_sumTo (f : Nat → Int) : ∀ n, ((List.range n).map f).sum = sumTo n f
  | 0 => rfl
  | n + 1 => by
    rw [List.range_succ, List.map_append, List.sum_append, sum_sumTo f n]
    simp [sumTo]
theorem sc_end_of : FnScope ["deeds", "counts", "ware"] ["deeds", "counts", "ware"] (defScope s_end_of) := ⟨rfl, rfl, rfl, by decide +kernel, rfl, by decide +kernel, by decide +kernel⟩
theorem c_end_of (T : Txt K mg) : Cal P w K mg base "end_of" 1 ["deeds", "counts", "ware"] (sp_end K) := by
  refine T.end_of.ok sc_end_of (fun vs H Q E h => ?_) (fun f cdv A outer s H vs Q E hr h => ?_)
  · obtain ⟨d, c, wr, rfl, _⟩ := h; rfl
  · obtain ⟨d, c, _, rfl, j, wd, m, cs, rfl, hj, hm, hml, hwid, hnum, hc, hcl, k⟩ := h
    have B := T.B
    refine ⟨_, (pss_one (ps_ret (pe_callB (call_sumL rfl) rfl B.sum boot_sum (pa_cons (pe_lc (pi_zip rfl B.zip (pa_cons (pv 1) (pa_cons (pv 0) pa_nil))) (.cons rfl .nil) (.own (x := "count") (.own (x := "row") (.cap (x := "ware") (j := 2) rfl (Or.inl rfl) (Or.inl rfl) ⟨_, rfl⟩ .nil))) (fun _ _ _ _ => (pg_tupK (K := K) (n := 2) rfl rfl (pgs_cons (pg_name (i := 0) (show (["count", "row", "ware"] : List Str).Nodup from by decide +kernel) rfl (Or.inl rfl)) (pgs_cons (pg_name (i := 1) (show (["count", "row", "ware"] : List Str).Nodup from by decide +kernel) rfl (Or.inl rfl)) pgs_nil)))) (fun _ _ _ _ => ifs_nil) (fun _ _ _ _ => (pe_op op_mulA (pv 0) (pe_ix (ix_listK (K := K) rfl) (pv 1) (pv 2) (fun _ _ => rfl))))) pa_nil)))), ?_⟩
    change tRet _ _ [some (V.ref d), some (V.ref c), some (V.int j)] H
    simp_arith []
    obtain ⟨rs, h1, h2, h3⟩ := hm
    have hlen := h2.length
    refine ⟨⟨_, hc⟩, ⟨_, SqL.of h1⟩, lc_zip (K := K) (xs := cs.map V.int) (ys := rs.map V.ref) (fun i σ H2 zs => Same H H2 ∧ TwoA (V.int j) σ ∧ zs = ((List.range i).map fun k => cs.getD k 0 * num m k j).map V.int)
      ⟨Same.refl _, tw3, rfl⟩ (fun i σ H2 zs _ _ ⟨e, _⟩ => ⟨e.seq hc, SqL.of (e _ _ h1)⟩) ?_ ?_⟩
    · rintro i x y t σ H2 zs hx hy ⟨sm, ⟨u, v, rfl⟩, rfl⟩ ht
      obtain ⟨z, hz, rfl⟩ := map_int hx
      obtain ⟨r, hr, rfl⟩ := map_ref hy
      have hi : i < m.length := by rw [← hlen]; exact (List.getElem?_eq_some_iff.mp hr).1
      obtain ⟨row, hrow⟩ : ∃ row, m[i]? = some row := ⟨_, List.getElem?_eq_getElem hi⟩
      obtain ⟨r', g0, q0⟩ := Paired.getL h2 hrow
      obtain rfl : r = r' := Option.some.inj (hr.symm.trans g0)
      have hl : row.length = wd := hwid row (List.mem_of_getElem? hrow)
      have hnr : num m i j = row[j]'(by omega) := by
        unfold num
        simp only [List.getD_eq_getElem?_getD, hrow, Option.getD_some]
        rw [List.getElem?_eq_getElem (by omega)]; rfl
      have hcs : cs.getD i 0 = z := by rw [List.getD_eq_getElem?_getD, hz]; rfl
      have hb := hnum row (List.mem_of_getElem? hrow) _ (List.getElem_mem (show j < row.length by omega))
      refine gTup2 upd_same ?_
      simp_arith []
      refine ⟨_, SqL.of ((sm.trans (same_upd ht)) _ _ q0), _, atI_nat (by rw [List.getElem?_map, List.getElem?_eq_getElem (show j < row.length by omega)]; rfl), _, rfl, mulA_r (by omega) (by omega), ?_, sm.trans (same_upd ht), tw3, ?_⟩
      · rw [List.length_map, List.length_map, List.length_range]; exact small1000 (by omega)
      · rw [List.range_succ, List.map_append, List.map_append, ← hnr, ← hcs]; rfl
    · rintro σ H2 zs ⟨sm, _, rfl⟩
      have e : min (cs.map V.int).length (rs.map V.ref).length = m.length := by rw [List.length_map, List.length_map, hlen, hcl, Nat.min_self]
      rw [e]
      refine ⟨by rw [List.length_map, List.length_map, List.length_range]; exact Nat.le_of_lt (small1000 (by omega)), fun p hp => ⟨p, rfl, _, SqL.of upd_same, ?_⟩⟩
      rw [sum_sumTo]
      exact k _ (sm.trans (same_upd hp))
end
theorem bitAnd_nat2 (a b : Nat) : Builtin.bitAnd (a : Int) (b : Int) = ((a &&& b : Nat) : Int) := by
  unfold Builtin.bitAnd
  simp
theorem bitOr_nat (a b : Nat) : Builtin.bitOr (a : Int) (b : Int) = ((a ||| b : Nat) : Int) := by
  have e : Builtin.bitOr (a : Int) (b : Int) = Spec.bitOr (a : Int) (b : Int) := rfl
  rw [e]
  unfold Spec.bitOr Spec.bitAnd Spec.bitNot
  have h1 : ¬ (0 : Int) ≤ -(a : Int) - 1 := by omega
  have h2 : ¬ (0 : Int) ≤ -(b : Int) - 1 := by omega
  have e1 : (-(-(a : Int) - 1) - 1).toNat = a := by omega
  have e2 : (-(-(b : Int) - 1) - 1).toNat = b := by omega
  simp only [h1, h2, decide_false, e1, e2]
  omega
noncomputable def sp_set (K : PySem.W.Frag) : Sp := fun vs H Q _ => ∃ (c : Addr), vs = [.ref c] ∧ ∃ cs : List Int, SqL K H c (cs.map V.int) ∧ Q (.int (setN cs)) H
noncomputable def sp_in : Sp := fun vs H Q _ => ∃ (a b : Nat), vs = [.int a, .int b] ∧ Q (.bl (decide (a &&& b = a))) H
section
variable {P : Program} {w : World} {K : PySem.W.Frag} {mg : Str → Option Value} {base : Heap}
theorem sc_deed_set : FnScope ["counts", "found", "count"] ["counts"] (defScope s_deed_set) := ⟨rfl, rfl, rfl, by decide +kernel, rfl, by decide +kernel, by decide +kernel⟩
theorem c_deed_set (T : Txt K mg) : Cal P w K mg base "deed_set" 1 ["counts"] (sp_set K) := by
  refine T.deed_set.ok sc_deed_set (fun vs H Q E h => ?_) (fun f cdv A outer s H vs Q E hr h => ?_)
  · obtain ⟨c, rfl, _⟩ := h; rfl
  · obtain ⟨c, rfl, cs, hS, k⟩ := h
    have B := T.B
    refine ⟨_, (pss_cons (ps_set (i := 1) sc_deed_set.nd rfl (Or.inl rfl) pe_int)
 (pss_cons (ps_for PassesOwn.never rfl (pi_list (pv 0)) (pg_name (i := 2) sc_deed_set.nd rfl (Or.inl rfl)) (pss_cons (ps_set (i := 1) sc_deed_set.nd rfl (Or.inl rfl) (pe_op op_mulA (pv 1) pe_int))
 (pss_one (ps_if (pt_cmpR op_gt (pv 2) pe_int (nomark _)) (pss_one (ps_set (i := 1) sc_deed_set.nd rfl (Or.inl rfl) (pe_op op_add (pv 1) pe_int))) pss_nil))))
 (pss_one (ps_ret (pv 1))))), ?_⟩
    change tSeq _ _ _ [some (V.ref c), none, none] H
    simp_arith []
    refine ⟨⟨_, hS⟩, loop_list (K := K) (a := c) (xs := cs.map V.int) (fun i σ H2 => H = H2 ∧ ∃ v, σ = [some (.ref c), some (.int (setN (cs.take i))), v]) ⟨rfl, none, rfl⟩ (fun i σ H2 _ ⟨e, _⟩ => e ▸ hS) ?_ ?_⟩
    · rintro i y σ _ hi ⟨rfl, v, rfl⟩
      obtain ⟨z, hz, rfl⟩ := map_int hi
      simp_arith []
      refine ⟨mulA_r (by decide) (by decide), ite2 (fun h0 => ?_) fun h0 => ?_⟩
      · refine ⟨?_, _, rfl⟩
        rw [take_succ_of hz, setN_snoc, if_pos h0]; omega
      · refine ⟨?_, _, rfl⟩
        rw [take_succ_of hz, setN_snoc, if_neg h0]; omega
    · rintro σ _ ⟨rfl, v, rfl⟩
      simp_arith []
      rw [List.length_map, List.take_length]
      exact k
theorem sc_is_within : FnScope ["one", "other"] ["one", "other"] (defScope s_is_within) := ⟨rfl, rfl, rfl, by decide +kernel, rfl, by decide +kernel, by decide +kernel⟩
theorem c_is_within (T : Txt K mg) : Cal P w K mg base "is_within" 1 ["one", "other"] sp_in := by
  refine T.is_within.ok sc_is_within (fun vs H Q E h => ?_) (fun f cdv A outer s H vs Q E hr h => ?_)
  · obtain ⟨a, b, rfl, _⟩ := h; rfl
  · obtain ⟨a, b, rfl, k⟩ := h
    have B := T.B
    refine ⟨_, (pss_one (ps_ret (pe_cmpR op_eq (pe_op op_and (pv 0) (pv 1)) (pv 0) (nomark _)))), ?_⟩
    change tRet _ _ [some (V.int a), some (V.int b)] H
    simp_arith [bitAnd_nat2]
    have e : decide (((a &&& b : Nat) : Int) = (a : Int)) = decide (a &&& b = a) := by rw [Bool.eq_iff_iff]; simp only [decide_eq_true_eq]; omega
    rw [e]; exact k
end
theorem small4k {n : Nat} (h : n ≤ 4000) : n < sizeLine := Nat.lt_of_le_of_lt h (by decide)
noncomputable def MatF (H0 H : Hp) (d : Addr) (m : List (List Int)) : Prop := ∃ rs : List Addr, H d = some (.lst (rs.map V.ref)) ∧ Paired (fun r row => H r = some (.lst (List.map V.int row))) rs m ∧ d ∉ rs ∧ rs.Nodup ∧ H0 d = none ∧ ∀ r ∈ rs, H0 r = none
theorem MatF.mat {H0 H : Hp} {d : Addr} {m : List (List Int)} (h : MatF H0 H d m) : Mat H d m := by
  obtain ⟨rs, h1, h2, h3, _⟩ := h
  exact ⟨rs, h1, h2, h3⟩
theorem MatF.same {H0 H H' : Hp} {d : Addr} {m : List (List Int)} (h : MatF H0 H d m) (s : Same H H') : MatF H0 H' d m := by
  obtain ⟨rs, h1, h2, h3, h4, h5, h6⟩ := h
  exact ⟨rs, s _ _ h1, Paired.impL h2 fun a b e => s _ _ e, h3, h4, h5, h6⟩
noncomputable def sp_one (K : PySem.W.Frag) : Sp := fun vs H Q _ => ∃ (n k : Int), vs = [.int n, .int k] ∧ ∃ (n' k' : Nat), n = (n' : Int) ∧ k = (k' : Int) ∧ n' ≤ 20 ∧ ∀ p H', H p = none → Same H H' → H' p = some (.lst ((unitL n' k').map V.int)) → Q (.ref p) H'
noncomputable def sp_evened (K : PySem.W.Frag) : Sp := fun vs H Q _ => ∃ (a : Addr) (ea : Int) (b : Addr) (eb : Int), vs = [.ref a, .int ea, .ref b, .int eb] ∧ ∃ (as bs : List Int), SqL K H a (as.map V.int) ∧ SqL K H b (bs.map V.int) ∧ as.length = bs.length ∧ as.length ≤ 20 ∧
  (∀ x ∈ as, x.natAbs < 2 ^ 350) ∧ (∀ x ∈ bs, x.natAbs < 2 ^ 350) ∧ ea.natAbs < 2 ^ 360 ∧ eb.natAbs < 2 ^ 360 ∧ ∀ p H', H p = none → Same H H' → H' p = some (.lst ((lowL (List.zipWith (fun x y => x * -eb + y * ea) as bs)).map V.int)) → Q (.ref p) H'
noncomputable def sp_near (K : PySem.W.Frag) : Sp := fun vs H Q _ => ∃ (a b : Int) (l : Addr), vs = [.int a, .int b, .ref l] ∧ ∃ (a' b' : Nat) (ss : List Nat), a = (a' : Int) ∧ b = (b' : Int) ∧ SqL K H l (ss.map fun n : Nat => V.int n) ∧ ss.length ≤ 2000 ∧
  ∀ H', Same H H' → Q (.bl (decide ((ss.filter fun r => decide (r &&& (a' ||| b') = r)).length = 2))) H'
theorem map_nat {xs : List Nat} {i : Nat} {y : V} (h : (xs.map fun n : Nat => V.int n)[i]? = some y) : ∃ z : Nat, xs[i]? = some z ∧ y = V.int z := by
  rw [List.getElem?_map] at h
  cases e : xs[i]? with
  | none => rw [e] at h; cases h
  | some z => rw [e] at h; exact ⟨z, rfl, (Option.some.inj h).symm⟩
section
variable {P : Program} {w : World} {K : PySem.W.Frag} {mg : Str → Option Value} {base : Heap}
theorem sc_single : FnScope ["many", "place"] ["many", "place"] (defScope s_single) := ⟨rfl, rfl, rfl, by decide +kernel, rfl, by decide +kernel, by decide +kernel⟩
theorem c_single (T : Txt K mg) : Cal P w K mg base "single" 1 ["many", "place"] (sp_one K) := by
  refine T.single.ok sc_single (fun vs H Q E h => ?_) (fun f cdv A outer s H vs Q E hr h => ?_)
  · obtain ⟨n, k, rfl, _⟩ := h; rfl
  · obtain ⟨_, _, rfl, n, kk, rfl, rfl, hn, k⟩ := h
    have B := T.B
    refine ⟨_, (pss_one (ps_ret (pe_lc (pi_range1 rfl B.range (pa_cons (pv 0) pa_nil)) (.cons rfl .nil) (.own (x := "at") (.cap (x := "place") (j := 1) rfl (Or.inl rfl) (Or.inl rfl) ⟨_, rfl⟩ .nil)) (fun _ _ _ _ => (pg_name (i := 0) (show (["at", "place"] : List Str).Nodup from by decide +kernel) rfl (Or.inl rfl))) (fun _ _ _ _ => ifs_nil) (fun _ _ _ _ => (pe_ifExp (pt_cmpR op_eq (pv 0) (pv 1) (nomark _)) pe_int pe_int))))), ?_⟩
    change tRet _ _ [some (V.int n), some (V.int kk)] H
    simp_arith []
    refine ⟨by omega, by omega, ?_⟩
    rw [Int.toNat_natCast]
    refine lc_range (fun i σ H2 zs => H = H2 ∧ (∃ u, σ = [u, some (V.int kk)]) ∧ zs = ((List.range i).map fun a => if a = kk then (1 : Int) else 0).map V.int) ⟨rfl, ⟨_, rfl⟩, rfl⟩ ?_ ?_
    · rintro i σ _ zs hi ⟨rfl, ⟨u, rfl⟩, rfl⟩
      simp_arith []
      have hz : ((List.range i).map fun a => if a = kk then (1 : Int) else 0).length < sizeLine := by rw [List.length_map, List.length_range]; exact small1000 (by omega)
      refine ite2 (fun h0 => ?_) fun h0 => ?_
      · refine ⟨by rw [List.length_map]; exact hz, ⟨_, rfl⟩, ?_⟩
        rw [List.range_succ, List.map_append, List.map_append]
        have : i = kk := by omega
        simp [this]
      · refine ⟨by rw [List.length_map]; exact hz, ⟨_, rfl⟩, ?_⟩
        rw [List.range_succ, List.map_append, List.map_append]
        have : ¬ i = kk := by omega
        simp [this]
    · rintro σ _ zs ⟨rfl, ⟨u, rfl⟩, rfl⟩
      refine ⟨by rw [List.length_map, List.length_map, List.length_range]; exact Nat.le_of_lt (small1000 (by omega)), fun p hp => k p _ hp (same_upd hp) ?_⟩
      rw [upd_same]; rfl
theorem sc_evened : FnScope ["above", "end_above", "other", "end_other"] ["above", "end_above", "other", "end_other"] (defScope s_evened) := ⟨rfl, rfl, rfl, by decide +kernel, rfl, by decide +kernel, by decide +kernel⟩
theorem c_evened (T : Txt K mg) : Cal P w K mg base "evened" 4 ["above", "end_above", "other", "end_other"] (sp_evened K) := by
  refine T.evened.ok sc_evened (fun vs H Q E h => ?_) (fun f cdv A outer s H vs Q E hr h => ?_)
  · obtain ⟨a, ea, b, eb, rfl, _⟩ := h; rfl
  · obtain ⟨a, ea, b, eb, rfl, as, bs, ha, hb, hl, hl2, ba, bb, bea, beb, k⟩ := h
    have B := T.B
    have c_lowest := c_lowest (P := P) (w := w) (base := base) T
    refine ⟨_, (pss_one (ps_ret (pe_cal c_lowest (hr.mono (by decide)) (pa_cons (pe_lc (pi_zip rfl B.zip (pa_cons (pv 0) (pa_cons (pv 2) pa_nil))) (.cons rfl (.cons rfl .nil)) (.own (x := "one") (.own (x := "two") (.cap (x := "end_above") (j := 1) rfl (Or.inl rfl) (Or.inl rfl) ⟨_, rfl⟩ (.cap (x := "end_other") (j := 3) rfl (Or.inl rfl) (Or.inl rfl) ⟨_, rfl⟩ .nil)))) (fun _ _ _ _ => (pg_tupK (K := K) (n := 2) rfl rfl (pgs_cons (pg_name (i := 0) (show (["one", "two", "end_above", "end_other"] : List Str).Nodup from by decide +kernel) rfl (Or.inl rfl)) (pgs_cons (pg_name (i := 1) (show (["one", "two", "end_above", "end_other"] : List Str).Nodup from by decide +kernel) rfl (Or.inl rfl)) pgs_nil)))) (fun _ _ _ _ => ifs_nil) (fun _ _ _ _ => (pe_op op_add (pe_op op_mulA (pv 0) (pe_un un_neg (pv 3))) (pe_op op_mulA (pv 1) (pv 2))))) pa_nil)))), ?_⟩
    change tRet _ _ [some (V.ref a), some (V.int ea), some (V.ref b), some (V.int eb)] H
    simp_arith [sp_low]
    refine ⟨⟨_, ha⟩, ⟨_, hb⟩, lc_zip (K := K) (xs := as.map V.int) (ys := bs.map V.int) (fun i σ H2 zs => Same H H2 ∧ TwoB (V.int ea) (V.int eb) σ ∧ zs = ((List.zipWith (fun x y => x * -eb + y * ea) as bs).take i).map V.int)
      ⟨Same.refl _, tw4, rfl⟩ (fun i σ H2 zs _ _ ⟨e, _⟩ => ⟨e.seq ha, e.seq hb⟩) ?_ ?_⟩
    · rintro i x y t σ H2 zs hx hy ⟨sm, ⟨u, v, rfl⟩, rfl⟩ ht
      obtain ⟨z, hz, rfl⟩ := map_int hx
      obtain ⟨z2, hz2, rfl⟩ := map_int hy
      have hi : i < as.length := (List.getElem?_eq_some_iff.mp hz).1
      have b1 := ba z (List.mem_of_getElem? hz)
      have b2 := bb z2 (List.mem_of_getElem? hz2)
      refine gTup2 upd_same ?_
      simp_arith []
      refine ⟨mulA_b b1 (by rw [Int.natAbs_neg]; exact beb) (by decide) (by decide), mulA_b b2 bea (by decide) (by decide), ?_, sm.trans (same_upd ht), tw4, ?_⟩
      · rw [List.length_map, List.length_take, List.length_zipWith]; exact small1000 (by omega)
      · rw [take_succ_of (x := z * -eb + z2 * ea) (by rw [List.getElem?_zipWith, hz, hz2]), List.map_append]; rfl
    · rintro σ H2 zs ⟨sm, _, rfl⟩
      have e : (List.zipWith (fun x y => x * -eb + y * ea) as bs).take (min (as.map V.int).length (bs.map V.int).length) = List.zipWith (fun x y => x * -eb + y * ea) as bs := List.take_of_length_le (by rw [List.length_zipWith, List.length_map, List.length_map]; exact Nat.le_refl _)
      rw [e]
      have hz : (List.zipWith (fun x y => x * -eb + y * ea) as bs).length ≤ 20 := by rw [List.length_zipWith]; omega
      refine ⟨by rw [List.length_map]; exact Nat.le_of_lt (small1000 (by omega)), fun p hp => ⟨p, rfl, _, SqL.of upd_same, by omega, ?_, fun p' H' hp' sm' e' => ?_⟩⟩
      · exact Nat.lt_of_lt_of_le (ga_b (zip_b ba bb bea beb)) (Nat.pow_le_pow_right (by decide) (by decide))
      · exact k p' H' (((sm.trans (same_upd hp))).free hp') (sm.trans ((same_upd hp).trans sm')) e'
theorem sc_are_neighbours : FnScope ["one", "other", "every_set", "both"] ["one", "other", "every_set"] (defScope s_are_neighbours) := ⟨rfl, rfl, rfl, by decide +kernel, rfl, by decide +kernel, by decide +kernel⟩
theorem c_are_neighbours (T : Txt K mg) : Cal P w K mg base "are_neighbours" 2 ["one", "other", "every_set"] (sp_near K) := by
  refine T.are_neighbours.ok sc_are_neighbours (fun vs H Q E h => ?_) (fun f cdv A outer s H vs Q E hr h => ?_)
  · obtain ⟨a, b, l, rfl, _⟩ := h; rfl
  · obtain ⟨_, _, l, rfl, a, b, ss, rfl, rfl, hS, hl, k⟩ := h
    have B := T.B
    have c_is_within := c_is_within (P := P) (w := w) (base := base) T
    refine ⟨_, (pss_cons (ps_set (i := 3) sc_are_neighbours.nd rfl (Or.inr rfl) (pe_op op_or (pv 0) (pv 1)))
 (pss_one (ps_ret (pe_cmpR op_eq (pe_callB call_len_seq rfl B.len PySem.boot_len (pa_cons (pe_lc (pi_list (pv 2)) (.cons rfl .nil) (.own (x := "among") (.cap (x := "both") (j := 3) rfl (Or.inl rfl) (Or.inl rfl) ⟨_, rfl⟩ .nil)) (fun _ _ _ _ => (pg_name (i := 0) (show (["among", "both"] : List Str).Nodup from by decide +kernel) rfl (Or.inl rfl))) (fun _ _ _ _ => (ifs_one (pt_val (pe_cal c_is_within (hr.mono (by decide)) (pa_cons (pv 0) (pa_cons (pv 1) pa_nil)))))) (fun _ _ _ _ => (pv 0))) pa_nil)) pe_int (nomark _))))), ?_⟩
    change tSeq _ _ _ [some (V.int a), some (V.int b), some (V.ref l), none] H
    simp_arith [bitOr_nat]
    refine ⟨⟨_, hS⟩, lc_list (K := K) (xs := ss.map fun n : Nat => V.int n) (fun i σ H2 zs => H = H2 ∧ (∃ u, σ = [u, some (V.int ((a ||| b : Nat) : Int))]) ∧ zs = ((ss.take i).filter fun r => decide (r &&& (a ||| b) = r)).map fun n : Nat => V.int n) ⟨rfl, ⟨_, rfl⟩, rfl⟩ (fun i σ H2 zs _ ⟨e, _⟩ => e ▸ hS) ?_ ?_⟩
    · rintro i y σ _ zs hi ⟨rfl, ⟨u, rfl⟩, rfl⟩
      obtain ⟨z, hz, rfl⟩ := map_nat hi
      have hlt : i < ss.length := (List.getElem?_eq_some_iff.mp hz).1
      simp_arith [sp_in]
      refine ⟨z, rfl, a ||| b, rfl, ite2 (fun h0 => ⟨?_, ⟨_, rfl⟩, ?_⟩) fun h0 => ⟨⟨_, rfl⟩, ?_⟩⟩
      · have : ((ss.take i).filter fun r => decide (r &&& (a ||| b) = r)).length ≤ (ss.take i).length := List.length_filter_le _ _
        rw [List.length_take] at this
        rw [List.length_map]; exact small4k (by omega)
      · rw [take_succ_of hz, List.filter_append, List.map_append, List.filter_cons, if_pos (by simpa using h0)]; rfl
      · rw [take_succ_of hz, List.filter_append, List.filter_cons, if_neg (by simpa using h0), List.filter_nil, List.append_nil]
    · rintro σ _ zs ⟨rfl, ⟨u, rfl⟩, rfl⟩
      have e : ss.take (ss.map fun n : Nat => V.int n).length = ss := by rw [List.length_map, List.take_length]
      rw [e]
      have : (ss.filter fun r => decide (r &&& (a ||| b) = r)).length ≤ ss.length := List.length_filter_le _ _
      refine ⟨by rw [List.length_map]; exact Nat.le_of_lt (small4k (by omega)), fun p hp => ⟨p, rfl, _, .inl (SqL.of upd_same), ?_⟩⟩
      rw [List.length_map]
      have e2 : decide (((ss.filter fun r => decide (r &&& (a ||| b) = r)).length : Int) = 2) = decide ((ss.filter fun r => decide (r &&& (a ||| b) = r)).length = 2) := by rw [Bool.eq_iff_iff]; simp only [decide_eq_true_eq]; omega
      rw [e2]
      exact k _ (same_upd hp)
end
theorem MatF.push {H0 H7 H8 : Hp} {f p : Addr} {M : List (List Int)} {row : List Int} (h : MatF H0 H7 f M) (s : Same H7 H8) (hp : H7 p = none) (h0 : H0 p = none) (hr : H8 p = some (.lst (row.map V.int))) :
    ∃ zs, H8 f = some (.lst zs) ∧ zs.length = M.length ∧ MatF H0 (upd H8 f (.lst (zs ++ [V.ref p]))) f (M ++ [row]) := by
  obtain ⟨rs, h1, h2, h3, h4, h5, h6⟩ := h
  have npf : p ≠ f := fun e => by rw [e, h1] at hp; cases hp
  have npr : p ∉ rs := fun e => by
    obtain ⟨b, _, q⟩ := Paired.memL h2 e
    rw [q] at hp; cases hp
  refine ⟨_, s _ _ h1, by rw [List.length_map, h2.length], rs ++ [p], by rw [upd_same, List.map_append]; rfl, Paired.snocL (by rw [upd_ne npf]; exact hr) (Paired.impM h2 fun a b ha e => ?_), ?_, ?_, h5, fun r hr => ?_⟩
  · rw [upd_ne (by rintro rfl; exact h3 ha)]; exact s _ _ e
  · intro z
    rcases List.mem_append.mp z with z | z
    · exact h3 z
    · exact npf (List.mem_singleton.mp z).symm
  · rw [List.nodup_append]
    exact ⟨h4, by simp, fun a ha b hb e => npr (by rw [← List.mem_singleton.mp hb, ← e]; exact ha)⟩
  · rcases List.mem_append.mp hr with z | z
    · exact h6 r z
    · rw [List.mem_singleton.mp z]; exact h0
theorem zipL {α β γ : Type} (g : α → γ) : ∀ (l₁ : List α) (l₂ : List β), l₁.length ≤ l₂.length → List.zipWith (fun a _ => g a) l₁ l₂ = l₁.map g
  | [], _, _ => by simp
  | a :: l₁, [], h => by simp at h
  | a :: l₁, b :: l₂, h => by rw [List.zipWith_cons_cons, List.map_cons, zipL g l₁ l₂ (by simpa using h)]
theorem zipR {α β γ : Type} (g : β → γ) : ∀ (l₁ : List α) (l₂ : List β), l₂.length ≤ l₁.length → List.zipWith (fun _ b => g b) l₁ l₂ = l₂.map g
  | _, [], _ => by simp
  | [], b :: l₂, h => by simp at h
  | a :: l₁, b :: l₂, h => by rw [List.zipWith_cons_cons, List.map_cons, zipR g l₁ l₂ (by simpa using h)]
noncomputable def Ent (e : List Int → Int) (s : List Int → Nat) (H : Hp) (t : Addr) (p : Addr × List Int) : Prop := H t = some (.tup [V.ref p.1, V.int (e p.2), V.int (s p.2)]) ∧ H p.1 = some (.lst (p.2.map V.int))
theorem Ent.same {e : List Int → Int} {st : List Int → Nat} {H H' : Hp} {t : Addr} {p : Addr × List Int} (h : Ent e st H t p) (s : Same H H') : Ent e st H' t p := ⟨s _ _ h.1, s _ _ h.2⟩
theorem paired_zip {α β : Type} {F : α → β → Prop} : ∀ {l₁ : List α} {l₂ : List β}, Paired F l₁ l₂ → ∃ ps : List (α × β), ps.map Prod.fst = l₁ ∧ ps.map Prod.snd = l₂ ∧ ∀ p ∈ ps, F p.1 p.2
  | _, _, .nil => ⟨[], rfl, rfl, fun p hp => nomatch hp⟩
  | a :: _, b :: _, .cons r t => by
    obtain ⟨ps, h1, h2, h3⟩ := paired_zip t
    exact ⟨(a, b) :: ps, by rw [List.map_cons, h1], by rw [List.map_cons, h2], fun p hp => by
      rcases List.mem_cons.mp hp with e | e
      · rw [e]; exact r
      · exact h3 p e⟩
theorem paired_of {α β : Type} {F : α → β → Prop} : ∀ {ps : List (α × β)}, (∀ p ∈ ps, F p.1 p.2) → Paired F (ps.map Prod.fst) (ps.map Prod.snd)
  | [], _ => .nil
  | p :: ps, h => .cons (h p (.head _)) (paired_of fun q hq => h q (.tail _ hq))
noncomputable def nearG (s : List Int → Nat) (L : List (List Int)) (a b : List Int) : Bool := decide (((L.map s).filter fun r => decide (r &&& (s a ||| s b) = r)).length = 2)
noncomputable def mixG (e : List Int → Int) (a b : List Int) : List Int := lowL (List.zipWith (fun x y => x * -e b + y * e a) a b)
noncomputable def addG (e : List Int → Int) (s : List Int → Nat) (L : List (List Int)) (a : List Int) (bs : List (List Int)) : List (List Int) := (bs.filter fun b => nearG s L a b).map fun b => mixG e a b
noncomputable def pairsG (e : List Int → Int) (s : List Int → Nat) (L : List (List Int)) : List (List Int) := (L.filter fun c => decide (0 < e c)).flatMap fun a => addG e s L a (L.filter fun c => decide (e c < 0))
theorem addG_snoc {e : List Int → Int} {s : List Int → Nat} {L : List (List Int)} {a b : List Int} {bs : List (List Int)} : addG e s L a (bs ++ [b]) = addG e s L a bs ++ if nearG s L a b = true then [mixG e a b] else [] := by
  unfold addG
  rw [List.filter_append, List.map_append, List.filter_cons]
  split <;> simp_all
noncomputable def foundL (e : List Int → Int) (s : List Int → Nat) (L : List (List Int)) (i : Nat) : List (List Int) :=
  ((L.filter fun c => decide (0 < e c)).take i).flatMap fun a => addG e s L a (L.filter fun c => decide (e c < 0))
theorem foundL_succ {e : List Int → Int} {s : List Int → Nat} {L : List (List Int)} {i : Nat} {a : List Int} (h : (L.filter fun c => decide (0 < e c))[i]? = some a) : foundL e s L (i + 1) = foundL e s L i ++ addG e s L a (L.filter fun c => decide (e c < 0)) := by
  unfold foundL
  rw [take_succ_of h, List.flatMap_append]
  simp
theorem addG_len {e : List Int → Int} {s : List Int → Nat} {L : List (List Int)} {a : List Int} {bs : List (List Int)} : (addG e s L a bs).length ≤ bs.length := by
  unfold addG
  rw [List.length_map]; exact List.length_filter_le _ _
theorem foundL_len {e : List Int → Int} {s : List Int → Nat} {L : List (List Int)} {i : Nat} (hL : L.length ≤ 60) : (foundL e s L i).length ≤ 3600 := by
  unfold foundL
  rw [List.length_flatMap]
  have h2 : (L.filter fun c => decide (0 < e c)).length ≤ L.length := List.length_filter_le _ _
  have h3 : (L.filter fun c => decide (e c < 0)).length ≤ L.length := List.length_filter_le _ _
  have h4 := sum_le (S := (L.filter fun c => decide (0 < e c)).take i) (G := 60) (f := fun a => (addG e s L a (L.filter fun c => decide (e c < 0))).length) fun a _ => by
    have := addG_len (e := e) (s := s) (L := L) (a := a) (bs := L.filter fun c => decide (e c < 0))
    omega
  have h5 : ((L.filter fun c => decide (0 < e c)).take i).length ≤ 60 := by rw [List.length_take]; omega
  have h6 : ((L.filter fun c => decide (0 < e c)).take i).length * 60 ≤ 60 * 60 := Nat.mul_le_mul_right _ h5
  omega
theorem pairsG_len {e : List Int → Int} {s : List Int → Nat} {L : List (List Int)} (hL : L.length ≤ 60) : (pairsG e s L).length ≤ 3600 := by
  have := foundL_len (e := e) (s := s) (i := L.length) hL
  unfold foundL at this
  rw [List.take_of_length_le (List.length_filter_le _ _)] at this
  exact this
theorem MatF.cat {H0 H1 H2 : Hp} {a b : Addr} {m1 m2 : List (List Int)} (h1 : MatF H0 H1 a m1) (h2 : MatF H1 H2 b m2) (s0 : Same H0 H1) (s1 : Same H1 H2) :
    ∃ z1 z2, H2 a = some (.lst z1) ∧ H2 b = some (.lst z2) ∧ z1.length = m1.length ∧ z2.length = m2.length ∧ ∀ p, H2 p = none → MatF H0 (upd H2 p (.lst (z1 ++ z2))) p (m1 ++ m2) := by
  obtain ⟨rs1, a1, a2, a3, a4, a5, a6⟩ := h1
  obtain ⟨rs2, b1, b2, b3, b4, b5, b6⟩ := h2
  have k1 : ∀ r ∈ rs1, ∃ u, H1 r = some u := fun r hr => by obtain ⟨row, _, q⟩ := Paired.memL a2 hr; exact ⟨_, q⟩
  refine ⟨_, _, s1 _ _ a1, b1, by rw [List.length_map, a2.length], by rw [List.length_map, b2.length], fun p hp => ?_⟩
  have s2 := same_upd (o := .lst (rs1.map V.ref ++ rs2.map V.ref)) hp
  refine ⟨rs1 ++ rs2, by rw [upd_same, List.map_append], Paired.appL (Paired.impL a2 fun _ _ q => s2 _ _ (s1 _ _ q)) (Paired.impL b2 fun _ _ q => s2 _ _ q), fun z => ?_, ?_, s0.free (s1.free hp), fun r hr => ?_⟩
  · rcases List.mem_append.mp z with z | z
    · obtain ⟨row, _, q⟩ := Paired.memL a2 z
      rw [s1 _ _ q] at hp; cases hp
    · obtain ⟨row, _, q⟩ := Paired.memL b2 z
      rw [q] at hp; cases hp
  · rw [List.nodup_append]
    refine ⟨a4, b4, fun x hx y hy e => ?_⟩
    obtain ⟨u, q⟩ := k1 x hx
    rw [e, b6 y hy] at q; cases q
  · rcases List.mem_append.mp hr with z | z
    · exact a6 r z
    · exact s0.free (b6 r z)
noncomputable def sp_pairs (K : PySem.W.Frag) : Sp := fun vs H Q _ => ∃ (kn : Addr), vs = [.ref kn] ∧ ∃ (e : List Int → Int) (s : List Int → Nat) (ts : List Addr) (ps : List (Addr × List Int)), H kn = some (.lst (ts.map V.ref)) ∧ Paired (Ent e s H) ts ps ∧ ∃ n : Nat, ps.length ≤ 60 ∧ n ≤ 20 ∧ (∀ c ∈ ps.map Prod.snd, c.length = n) ∧ Bits 350 (ps.map Prod.snd) ∧ (∀ c ∈ ps.map Prod.snd, (e c).natAbs < 2 ^ 360) ∧
  ∀ p H', Same H H' → MatF H H' p (pairsG e s (ps.map Prod.snd)) → Q (.ref p) H'
noncomputable def sp_ww (K : PySem.W.Frag) : Sp := fun vs H Q _ => ∃ (d rw : Addr) (j' : Int), vs = [.ref d, .ref rw, .int j'] ∧ ∃ (j w : Nat) (m L : List (List Int)) (H0 : Hp), j' = (j : Int) ∧ j < w ∧ Mat H d m ∧ Wk w m ∧ Same H0 H ∧ MatF H0 H rw L ∧ L.length ≤ 60 ∧ (∀ c ∈ L, c.length = m.length) ∧ Bits 350 L ∧
  ∀ p H', Same H H' → MatF H0 H' p (ddStep m j L) → Q (.ref p) H'
noncomputable def SameB (f : Addr) (H H' : Hp) : Prop := ∀ b o, b ≠ f → H b = some o → H' b = some o
noncomputable def SlO (x0 x1 x2 x3 x4 : V) (σ : L2.St) : Prop := ∃ a1 a2 a3 a4 a5 a6, σ = [some x0, some x1, some x2, some x3, some x4, a1, a2, a3, a4, a5, a6]
theorem slO {x0 x1 x2 x3 x4 : V} {a1 a2 a3 a4 a5 a6 : Option V} : SlO x0 x1 x2 x3 x4 [some x0, some x1, some x2, some x3, some x4, a1, a2, a3, a4, a5, a6] := ⟨_, _, _, _, _, _, rfl⟩
noncomputable def SlI (x0 x1 x2 x3 x4 x8 x9 x10 : V) (σ : L2.St) : Prop := ∃ a4 a5 a6, σ = [some x0, some x1, some x2, some x3, some x4, some x8, some x9, some x10, a4, a5, a6]
theorem slI {x0 x1 x2 x3 x4 x8 x9 x10 : V} {a4 a5 a6 : Option V} : SlI x0 x1 x2 x3 x4 x8 x9 x10 [some x0, some x1, some x2, some x3, some x4, some x8, some x9, some x10, a4, a5, a6] := ⟨_, _, _, rfl⟩
noncomputable def One3 (x y : V) (σ : L2.St) : Prop := ∃ u, σ = [u, some x, some y]
theorem one3 {u : Option V} {x y : V} : One3 x y [u, some x, some y] := ⟨_, rfl⟩
noncomputable def One1 (σ : L2.St) : Prop := ∃ u, σ = [u]
theorem one1 {u : Option V} : One1 [u] := ⟨_, rfl⟩
section
variable {P : Program} {w : World} {K : PySem.W.Frag} {mg : Str → Option Value} {base : Heap}
theorem lc_ents {e : List Int → Int} {st : List Int → Nat} {H : Hp} {kn : Addr} {ts : List Addr} {ps : List (Addr × List Int)} {tt : TT} {te : TE} {Q : VK} (q : Addr × List Int → Bool) (val : Addr × List Int → Addr → V) (hk : H kn = some (.lst (ts.map V.ref))) (hE : Paired (Ent e st H) ts ps) (hl : ps.length ≤ 60)
    (htt : ∀ (t : Addr) (p : Addr × List Int) (Q' : Bool → Hp → Prop), Ent e st H t p → Q' (q p) H → tt [some (V.ref t)] H Q')
    (hte : ∀ (t : Addr) (p : Addr × List Int) (Q' : VK), Ent e st H t p → Q' (val p t) H → te [some (V.ref t)] H Q')
    (k : ∀ ss, Paired (Ent e st H) ss (ps.filter q) → ∀ r, H r = none → Q (.ref r) (upd H r (.lst (List.zipWith val (ps.filter q) ss)))) : CompOk (Itl K kn) (gName 0) tt te Q [none] H := by
  have hlen := hE.length
  refine lc_list (K := K) (xs := ts.map V.ref) (fun i σ H2 ys => H = H2 ∧ One1 σ ∧ ∃ ss, Paired (Ent e st H) ss ((ps.take i).filter q) ∧ ys = List.zipWith val ((ps.take i).filter q) ss) ⟨rfl, one1, [], .nil, rfl⟩ (fun i σ H2 ys _ ⟨q, _⟩ => q ▸ SqL.of hk) ?_ ?_
  · rintro i y σ _ ys hi ⟨rfl, ⟨u, rfl⟩, ss, hs, rfl⟩
    obtain ⟨t, ht, rfl⟩ := map_ref hi
    have hip : i < ps.length := by rw [← hlen]; exact (List.getElem?_eq_some_iff.mp ht).1
    obtain ⟨p, hp⟩ : ∃ p, ps[i]? = some p := ⟨_, List.getElem?_eq_getElem hip⟩
    obtain ⟨t', g0, e0⟩ := Paired.getL hE hp
    obtain rfl : t = t' := Option.some.inj (ht.symm.trans g0)
    have hsl := hs.length
    have hfl : ((ps.take i).filter q).length ≤ 60 := Nat.le_trans (List.length_filter_le _ _) (by rw [List.length_take]; omega)
    show tt [some (V.ref t)] H _
    refine htt t p _ e0 ?_
    rw [take_succ_of hp, List.filter_append, List.filter_cons, List.filter_nil]
    cases hq : q p with
    | true =>
      rw [if_pos rfl]
      refine hte t p _ e0 ⟨by rw [List.length_zipWith]; exact small1000 (by omega), rfl, one1, ss ++ [t], ?_, ?_⟩
      · rw [if_pos rfl]; exact Paired.snocL e0 hs
      · rw [if_pos rfl, List.zipWith_append (by omega)]; rfl
    | false =>
      refine ⟨rfl, one1, ss, ?_, ?_⟩
      · simpa using hs
      · simp
  · rintro σ _ ys ⟨rfl, _, ss, hs, rfl⟩
    have e' : ps.take (ts.map V.ref).length = ps := by rw [List.length_map, hlen, List.take_length]
    rw [e'] at hs ⊢
    have hsl := hs.length
    have hfl : (ps.filter q).length ≤ 60 := Nat.le_trans (List.length_filter_le _ _) hl
    exact ⟨by rw [List.length_zipWith]; exact Nat.le_of_lt (small1000 (by omega)), fun r hr => k ss hs r hr⟩
theorem sc_evened_pairs : FnScope ["known", "every_set", "too_much", "too_little", "found", "above", "end_above", "one", "below", "end_below", "other"] ["known"] (defScope s_evened_pairs) := ⟨rfl, rfl, rfl, by decide +kernel, rfl, by decide +kernel, by decide +kernel⟩
theorem c_evened_pairs (T : Txt K mg) : Cal P w K mg base "evened_pairs" 5 ["known"] (sp_pairs K) := by
  refine T.evened_pairs.ok sc_evened_pairs (fun vs H Q E h => ?_) (fun f cdv A outer s H vs Q E hr h => ?_)
  · obtain ⟨kn, rfl, _⟩ := h; rfl
  · obtain ⟨kn, rfl, e, st, ts, ps, hkn, hE, n, hpl, hn20, hlen, hbits, hends, k⟩ := h
    have B := T.B
    have c_are_neighbours := c_are_neighbours (P := P) (w := w) (base := base) T
    have c_evened := c_evened (P := P) (w := w) (base := base) T
    have hL : (ps.map Prod.snd).length ≤ 60 := by rw [List.length_map]; exact hpl
    have hps : ∀ p ∈ ps, ∃ t, Ent e st H t p := fun p hp => by
      obtain ⟨i, hi, e0⟩ := List.getElem_of_mem hp
      obtain ⟨t, _, q⟩ := Paired.getL hE (i := i) (b := p) (by rw [← e0]; simp)
      exact ⟨t, q⟩
    have tl := hE.length
    refine ⟨_, (pss_cut (ps_lc (i := 1) sc_evened_pairs.nd rfl (pi_list (pv 0)) .nil (.own (x := "entry") .nil) (fun _ _ _ _ => (pg_name (i := 0) (show (["entry"] : List Str).Nodup from by decide +kernel) rfl (Or.inl rfl))) (fun _ _ _ _ => ifs_nil) (fun _ _ _ _ => (pe_ix (ix_tupK (K := K) rfl) (pv 0) pe_int (fun _ _ => rfl))))
 (pss_cut (ps_lc (i := 2) sc_evened_pairs.nd rfl (pi_list (pv 0)) .nil (.own (x := "entry") .nil) (fun _ _ _ _ => (pg_name (i := 0) (show (["entry"] : List Str).Nodup from by decide +kernel) rfl (Or.inl rfl))) (fun _ _ _ _ => (ifs_one (pt_cmpR op_gt (pe_ix (ix_tupK (K := K) rfl) (pv 0) pe_int (fun _ _ => rfl)) pe_int (nomark _)))) (fun _ _ _ _ => (pv 0)))
 (pss_cut (ps_lc (i := 3) sc_evened_pairs.nd rfl (pi_list (pv 0)) .nil (.own (x := "entry") .nil) (fun _ _ _ _ => (pg_name (i := 0) (show (["entry"] : List Str).Nodup from by decide +kernel) rfl (Or.inl rfl))) (fun _ _ _ _ => (ifs_one (pt_cmpR op_lt (pe_ix (ix_tupK (K := K) rfl) (pv 0) pe_int (fun _ _ => rfl)) pe_int (nomark _)))) (fun _ _ _ _ => (pv 0)))
 (pss_cut (ps_set (i := 4) sc_evened_pairs.nd rfl (Or.inl rfl) (pe_lst pa_nil))
 (pss_cut (ps_for PassesOwn.never rfl (pi_list (pv 2)) (pg_tup (n := 3) rfl (pgs_cons (pg_name (i := 5) sc_evened_pairs.nd rfl (Or.inl rfl)) (pgs_cons (pg_name (i := 6) sc_evened_pairs.nd rfl (Or.inl rfl)) (pgs_cons (pg_name (i := 7) sc_evened_pairs.nd rfl (Or.inl rfl)) pgs_nil)))) (pss_one (ps_for PassesOwn.never rfl (pi_list (pv 3)) (pg_tup (n := 3) rfl (pgs_cons (pg_name (i := 8) sc_evened_pairs.nd rfl (Or.inl rfl)) (pgs_cons (pg_name (i := 9) sc_evened_pairs.nd rfl (Or.inl rfl)) (pgs_cons (pg_name (i := 10) sc_evened_pairs.nd rfl (Or.inl rfl)) pgs_nil)))) (pss_one (ps_if (pt_val (pe_cal c_are_neighbours (hr.mono (by decide)) (pa_cons (pv 7) (pa_cons (pv 10) (pa_cons (pv 1) pa_nil))))) (pss_one (ps_expr (pe_bm PySem.F.plainAttrs_list PySem.F.slot_list_append PySem.F.type_list_append mt_append (pv 4) (pa_cons (pe_cal c_evened (hr.mono (by decide)) (pa_cons (pv 5) (pa_cons (pv 6) (pa_cons (pv 8) (pa_cons (pv 9) pa_nil))))) pa_nil)))) pss_nil)))))
 (pss_one (ps_ret (pv 4)))))))), ?_⟩
    change tCut _ _ _ [some (V.ref kn), none, none, none, none, none, none, none, none, none, none] H
    -- the sets
    refine cut (fun σ H2 => Same H H2 ∧ ∃ es, H2 es = some (.lst (((ps.map Prod.snd).map st).map fun n : Nat => V.int n)) ∧ σ = [some (V.ref kn), some (V.ref es), none, none, none, none, none, none, none, none, none]) ?_ ?_
    · simp_arith []
      refine ⟨⟨_, SqL.of hkn⟩, lc_ents (e := e) (st := st) (fun _ => true) (fun p _ => V.int (st p.2)) hkn hE hpl (fun t p Q' _ h => h) (fun t p Q' q h => ?_) fun ss hs r hr => ⟨same_upd hr, r, ?_, rfl⟩⟩
      · simp_arith []
        exact ⟨_, SqT.of q.1, _, rfl, h⟩
      · rw [upd_same]
        have sl := hs.length
        have ef : (ps.filter fun _ => true) = ps := List.filter_eq_self.mpr fun _ _ => rfl
        rw [ef] at sl ⊢
        rw [zipL _ _ _ (by omega), List.map_map, List.map_map]; rfl
    rintro σ2 H2 ⟨sm2, es, hes, rfl⟩
    have hkn2 := sm2 _ _ hkn
    have hE2 : Paired (Ent e st H2) ts ps := Paired.impL hE fun t p q => q.same sm2
    -- those above
    refine cut (fun σ H4 => Same H2 H4 ∧ ∃ tm ss, H4 tm = some (.lst (ss.map V.ref)) ∧ Paired (Ent e st H2) ss (ps.filter fun p => decide (0 < e p.2)) ∧ σ = [some (V.ref kn), some (V.ref es), some (V.ref tm), none, none, none, none, none, none, none, none]) ?_ ?_
    · simp_arith []
      refine ⟨⟨_, SqL.of hkn2⟩, lc_ents (e := e) (st := st) (fun p => decide (0 < e p.2)) (fun _ t => V.ref t) hkn2 hE2 hpl (fun t p Q' q h => ?_) (fun t p Q' q h => ?_) fun ss hs r hr => ⟨same_upd hr, r, ss, ?_, hs, rfl⟩⟩
      · simp_arith []
        exact ⟨_, SqT.of q.1, _, rfl, _, rfl, h⟩
      · simp_arith []
        exact h
      · have sl := hs.length
        rw [upd_same, zipR _ _ _ (by omega)]
    rintro σ4 H4 ⟨sm4, tm, ss1, htm, hE4, rfl⟩
    have hkn4 := sm4 _ _ hkn2
    have hE44 : Paired (Ent e st H4) ts ps := Paired.impL hE2 fun t p q => q.same sm4
    -- those below
    refine cut (fun σ H5 => Same H4 H5 ∧ ∃ tl ss, H5 tl = some (.lst (ss.map V.ref)) ∧ Paired (Ent e st H4) ss (ps.filter fun p => decide (e p.2 < 0)) ∧ σ = [some (V.ref kn), some (V.ref es), some (V.ref tm), some (V.ref tl), none, none, none, none, none, none, none]) ?_ ?_
    · simp_arith []
      refine ⟨⟨_, SqL.of hkn4⟩, lc_ents (e := e) (st := st) (fun p => decide (e p.2 < 0)) (fun _ t => V.ref t) hkn4 hE44 hpl (fun t p Q' q h => ?_) (fun t p Q' q h => ?_) fun ss hs r hr => ⟨same_upd hr, r, ss, ?_, hs, rfl⟩⟩
      · simp_arith []
        exact ⟨_, SqT.of q.1, _, rfl, _, rfl, h⟩
      · simp_arith []
        exact h
      · have sl := hs.length
        rw [upd_same, zipR _ _ _ (by omega)]
    rintro σ5 H5 ⟨sm5, tl', ss2, htl, hE5, rfl⟩
    -- found
    refine cut (fun σ H6 => Same H5 H6 ∧ ∃ fo, H5 fo = none ∧ H6 fo = some (.lst []) ∧ σ = [some (V.ref kn), some (V.ref es), some (V.ref tm), some (V.ref tl'), some (V.ref fo), none, none, none, none, none, none]) ?_ ?_
    · simp_arith []
      exact ⟨by show 0 ≤ sizeLine; decide, fun p hp => ⟨same_upd hp, p, hp, upd_same, rfl⟩⟩
    rintro σ6 H6 ⟨sm6, fo, nfo, hfo, rfl⟩
    have sm46 := sm5.trans sm6
    have sm26 := sm4.trans sm46
    have smH5 : Same H H5 := sm2.trans (sm4.trans sm5)
    have smH6 := smH5.trans sm6
    have hHfo : H fo = none := smH5.free nfo
    have E1 : Paired (fun t p => Ent e st H6 t p ∧ t ≠ fo ∧ p.1 ≠ fo) ss1 (ps.filter fun p => decide (0 < e p.2)) := Paired.impL hE4 fun t p q => ⟨q.same sm26, ⟨fun z => (by have := q.1; rw [z, (sm4.trans sm5).free nfo] at this; cases this), fun z => by have := q.2; rw [z, (sm4.trans sm5).free nfo] at this; cases this⟩⟩
    have E2 : Paired (fun t p => Ent e st H6 t p ∧ t ≠ fo ∧ p.1 ≠ fo) ss2 (ps.filter fun p => decide (e p.2 < 0)) := Paired.impL hE5 fun t p q => ⟨q.same sm46, ⟨fun z => (by have := q.1; rw [z, sm5.free nfo] at this; cases this), fun z => by have := q.2; rw [z, sm5.free nfo] at this; cases this⟩⟩
    have ntm' : tm ≠ fo := fun z => by rw [z, sm5.free nfo] at htm; cases htm
    have ntl' : tl' ≠ fo := fun z => by rw [z, nfo] at htl; cases htl
    have nes : es ≠ fo := fun z => by rw [z, (sm4.trans sm5).free nfo] at hes; cases hes
    have hes6 := sm26 _ _ hes
    have htm6 := sm46 _ _ htm
    have htl6 := sm6 _ _ htl
    have ePos : ((ps.map Prod.snd).filter fun c => decide (0 < e c)) = (ps.filter fun p => decide (0 < e p.2)).map Prod.snd := by rw [List.filter_map]; rfl
    have eNeg : ((ps.map Prod.snd).filter fun c => decide (e c < 0)) = (ps.filter fun p => decide (e p.2 < 0)).map Prod.snd := by rw [List.filter_map]; rfl
    have hfo6 : MatF H H6 fo (foundL e st (ps.map Prod.snd) 0) := by
      refine ⟨[], ?_, ?_, ?_, List.nodup_nil, hHfo, fun r hr => nomatch hr⟩
      · exact hfo
      · unfold foundL; rw [List.take_zero, List.flatMap_nil]; exact .nil
      · intro z; cases z
    have toH : ∀ {H7 : Hp}, SameB fo H6 H7 → Same H H7 := fun sb b o q => sb b o (ne_of_none q hHfo) (smH6 _ _ q)
    clear hE hE2 hE4 hE44 hE5 sm2 sm4 sm5 sm6 sm46 sm26 hes htm htl hkn2 hkn4
    generalize hLL : ps.map Prod.snd = L at *
    -- the loops
    refine cut (fun σ H7 => SameB fo H6 H7 ∧ MatF H H7 fo (pairsG e st L) ∧ σ[4]? = some (some (V.ref fo)) ∧ σ.length = 11) ?_ ?_
    · simp_arith []
      refine ⟨⟨_, SqL.of htm6⟩, loop_list (K := K) (a := tm) (xs := ss1.map V.ref) (fun i σ H7 => SameB fo H6 H7 ∧ MatF H H7 fo (foundL e st L i) ∧ SlO (V.ref kn) (V.ref es) (V.ref tm) (V.ref tl') (V.ref fo) σ)
        ⟨fun b o _ q => q, hfo6, slO⟩ (fun i σ H7 _ ⟨q, _⟩ => SqL.of (q _ _ ntm' htm6)) ?_ ?_⟩
      · rintro i y σ H7 hi ⟨sb, hF, a1, a2, a3, a4, a5, a6, rfl⟩
        obtain ⟨t, ht, rfl⟩ := map_ref hi
        have hip : i < (ps.filter fun p => decide (0 < e p.2)).length := by rw [← E1.length]; exact (List.getElem?_eq_some_iff.mp ht).1
        obtain ⟨p, hp⟩ : ∃ p, (ps.filter fun p => decide (0 < e p.2))[i]? = some p := ⟨_, List.getElem?_eq_getElem hip⟩
        obtain ⟨t', g0, ⟨e0, e1⟩, nt, np⟩ := Paired.getL E1 hp
        obtain rfl : t = t' := Option.some.inj (ht.symm.trans g0)
        have hpm := (List.mem_filter.mp (List.mem_of_getElem? hp)).1
        have hpL : p.2 ∈ L := by rw [← hLL]; exact List.mem_map.mpr ⟨p, hpm, rfl⟩
        have hpi : (L.filter fun c => decide (0 < e c))[i]? = some p.2 := by rw [ePos, List.getElem?_map, hp]; rfl
        refine gTup3 (SqT.of (sb _ _ nt e0)) ?_
        simp_arith []
        refine ⟨⟨_, SqL.of (sb _ _ ntl' htl6)⟩, loop_list (K := K) (a := tl') (xs := ss2.map V.ref) (fun i2 σ H8 => SameB fo H6 H8 ∧ MatF H H8 fo (foundL e st L i ++ addG e st L p.2 ((L.filter fun c => decide (e c < 0)).take i2)) ∧ SlI (V.ref kn) (V.ref es) (V.ref tm) (V.ref tl') (V.ref fo) (V.ref p.1) (V.int (e p.2)) (V.int (st p.2)) σ)
          ⟨sb, by simpa [addG] using hF, slI⟩ (fun i2 σ H8 _ ⟨q, _⟩ => SqL.of (q _ _ ntl' htl6)) ?_ ?_⟩
        · rintro i2 y2 σ H8 hi2 ⟨sb8, hF8, b4, b5, b6, rfl⟩
          obtain ⟨t2, ht2, rfl⟩ := map_ref hi2
          have hip2 : i2 < (ps.filter fun p => decide (e p.2 < 0)).length := by rw [← E2.length]; exact (List.getElem?_eq_some_iff.mp ht2).1
          obtain ⟨q, hq⟩ : ∃ p, (ps.filter fun p => decide (e p.2 < 0))[i2]? = some p := ⟨_, List.getElem?_eq_getElem hip2⟩
          obtain ⟨t2', g2, ⟨f0, f1⟩, nt2, np2⟩ := Paired.getL E2 hq
          obtain rfl : t2 = t2' := Option.some.inj (ht2.symm.trans g2)
          have hqm := (List.mem_filter.mp (List.mem_of_getElem? hq)).1
          have hqL : q.2 ∈ L := by rw [← hLL]; exact List.mem_map.mpr ⟨q, hqm, rfl⟩
          have hqi : (L.filter fun c => decide (e c < 0))[i2]? = some q.2 := by rw [eNeg, List.getElem?_map, hq]; rfl
          refine gTup3 (SqT.of (sb8 _ _ nt2 f0)) ?_
          simp_arith [sp_near, sp_evened]
          refine ⟨st p.2, rfl, st q.2, rfl, L.map st, SqL.of (sb8 _ _ nes hes6), by rw [List.length_map]; omega, fun H9 s9 => ?_⟩
          rw [take_succ_of hqi, addG_snoc]
          have hF9 := hF8.same s9
          have sb9 : SameB fo H6 H9 := fun b o hb z => s9 _ _ (sb8 b o hb z)
          refine ite2 (fun hn => ?_) fun hn => ?_
          · rw [if_pos (by unfold nearG; simpa using hn)]
            obtain ⟨zs9, hz9⟩ : ∃ zs, H9 fo = some (.lst zs) := by obtain ⟨rs', h1, _⟩ := hF9; exact ⟨_, h1⟩
            refine ⟨.inl ⟨rfl, _, SqL.of hz9⟩, p.2, SqL.of (sb9 _ _ np e1), q.2, SqL.of (sb9 _ _ np2 f1), by rw [hlen _ hpL, hlen _ hqL], by rw [hlen _ hpL]; omega, hbits _ hpL, hbits _ hqL,
              hends _ hpL, hends _ hqL, fun r H10 hr10 s10 e10 => ?_⟩
            obtain ⟨zs, hz, hzl, hM⟩ := hF9.push s10 hr10 ((toH sb9).free hr10) e10
            have fl := foundL_len (e := e) (s := st) (L := L) (i := i) hL
            have al := addG_len (e := e) (s := st) (L := L) (a := p.2) (bs := (L.filter fun c => decide (e c < 0)).take i2)
            have nl : ((L.filter fun c => decide (e c < 0)).take i2).length ≤ 60 := by
              rw [List.length_take]
              have : (L.filter fun c => decide (e c < 0)).length ≤ L.length := List.length_filter_le _ _
              omega
            refine ⟨zs, hz, ?_, ?_, ?_, slI⟩
            · rw [hzl, List.length_append]
              exact Nat.lt_of_le_of_lt (show _ ≤ 4000 by omega) (by decide)
            · intro b o hb z
              rw [upd_ne hb]; exact s10 _ _ (sb9 b o hb z)
            · rw [List.append_assoc] at hM; exact hM
          · rw [if_neg (by unfold nearG; simpa using hn), List.append_nil]
            exact ⟨sb9, hF9, slI⟩
        · rintro σ H8 ⟨sb8, hF8, b4, b5, b6, rfl⟩
          refine ⟨sb8, ?_, slO⟩
          have z : (L.filter fun c => decide (e c < 0)).take (ss2.map V.ref).length = L.filter fun c => decide (e c < 0) := List.take_of_length_le (by rw [List.length_map, E2.length, eNeg, List.length_map]; exact Nat.le_refl _)
          rw [z] at hF8
          rw [foundL_succ hpi]; exact hF8
      · rintro σ H7 ⟨sb7, hF7, a1, a2, a3, a4, a5, a6, rfl⟩
        refine ⟨sb7, ?_, rfl, rfl⟩
        have z : foundL e st L (ss1.map V.ref).length = pairsG e st L := by
          unfold foundL pairsG
          rw [List.take_of_length_le (by rw [List.length_map, E1.length, ePos, List.length_map]; exact Nat.le_refl _)]
        rw [← z]; exact hF7
    rintro σ7 H7 ⟨sb7, hF7, e7, _⟩
    simp only [tRet, tVar]
    exact ⟨_, e7, k fo H7 (toH sb7) hF7⟩
end
theorem pairs_dd (m : List (List Int)) (j : Nat) (L : List (List Int)) : (L.filter fun c => decide (endL m j c = 0)) ++ pairsG (endL m j) setN L = ddStep m j L := by
  unfold ddStep pairsG
  have e : ∀ a bs, addG (endL m j) setN L a bs = addB m j L a bs := fun a bs => by
    unfold addG addB
    have h1 : (fun b => nearG setN L a b) = fun b => nearB L a b := by
      funext b
      unfold nearG
      rw [near_sets]
    rw [h1]; rfl
  simp only [e]
section
variable {P : Program} {w : World} {K : PySem.W.Frag} {mg : Str → Option Value} {base : Heap}
theorem sc_with_ware : FnScope ["deeds", "rows", "ware", "known"] ["deeds", "rows", "ware"] (defScope s_with_ware) := ⟨rfl, rfl, rfl, by decide +kernel, rfl, by decide +kernel, by decide +kernel⟩
theorem c_with_ware (T : Txt K mg) : Cal P w K mg base "with_ware" 6 ["deeds", "rows", "ware"] (sp_ww K) := by
  refine T.with_ware.ok sc_with_ware (fun vs H Q E h => ?_) (fun f cdv A outer s H vs Q E hr h => ?_)
  · obtain ⟨d, rw, j, rfl, _⟩ := h; rfl
  · obtain ⟨d, rw', _, rfl, j, wd, m, L, H0, rfl, hj, hm, wk, sm0, hR, hL, hlen, hbits, k⟩ := h
    have B := T.B
    have c_end_of := c_end_of (P := P) (w := w) (base := base) T
    have c_deed_set := c_deed_set (P := P) (w := w) (base := base) T
    have c_evened_pairs := c_evened_pairs (P := P) (w := w) (base := base) T
    obtain ⟨rs, r1, r2, r3, r4, r5, r6⟩ := hR
    obtain ⟨ps, p1, p2, p3⟩ := paired_zip r2
    have hpl : ps.length ≤ 60 := by rw [← p2, List.length_map] at hL; exact hL
    refine ⟨_, (pss_cut (ps_lc (i := 3) sc_with_ware.nd rfl (pi_list (pv 1)) (.cons rfl (.cons rfl .nil)) (.own (x := "row") (.cap (x := "deeds") (j := 0) rfl (Or.inl rfl) (Or.inl rfl) ⟨_, rfl⟩ (.cap (x := "ware") (j := 2) rfl (Or.inl rfl) (Or.inl rfl) ⟨_, rfl⟩ .nil))) (fun _ _ _ _ => (pg_name (i := 0) (show (["row", "deeds", "ware"] : List Str).Nodup from by decide +kernel) rfl (Or.inl rfl))) (fun _ _ _ _ => ifs_nil) (fun _ _ _ _ => (pe_tup (pa_cons (pv 0) (pa_cons (pe_cal c_end_of (hr.mono (by decide)) (pa_cons (pv 1) (pa_cons (pv 0) (pa_cons (pv 2) pa_nil)))) (pa_cons (pe_cal c_deed_set (hr.mono (by decide)) (pa_cons (pv 0) pa_nil)) pa_nil))))))
 (pss_one (ps_ret (pe_op op_cat (pe_lc (pi_list (pv 3)) .nil (.own (x := "entry") .nil) (fun _ _ _ _ => (pg_name (i := 0) (show (["entry"] : List Str).Nodup from by decide +kernel) rfl (Or.inl rfl))) (fun _ _ _ _ => (ifs_one (pt_cmpR op_eq (pe_ix (ix_tupK (K := K) rfl) (pv 0) pe_int (fun _ _ => rfl)) pe_int (nomark _)))) (fun _ _ _ _ => (pe_ix (ix_tupK (K := K) rfl) (pv 0) pe_int (fun _ _ => rfl)))) (pe_cal c_evened_pairs (hr.mono (by decide)) (pa_cons (pv 3) pa_nil)))))), ?_⟩
    change tCut _ _ _ [some (V.ref d), some (V.ref rw'), some (V.int j), none] H
    -- known
    refine cut (fun σ H1 => Same H H1 ∧ ∃ kn ts, H1 kn = some (.lst (ts.map V.ref)) ∧ Paired (Ent (endL m j) setN H1) ts ps ∧ σ = [some (V.ref d), some (V.ref rw'), some (V.int j), some (V.ref kn)]) ?_ ?_
    · simp_arith []
      refine ⟨⟨_, SqL.of r1⟩, lc_list (K := K) (xs := rs.map V.ref) (fun i σ H2 ys => Same H H2 ∧ One3 (V.ref d) (V.int j) σ ∧ ∃ ts, ys = ts.map V.ref ∧ Paired (Ent (endL m j) setN H2) ts (ps.take i)) ⟨Same.refl _, one3, [], rfl, .nil⟩ (fun i σ H2 ys _ ⟨e, _⟩ => SqL.of (e _ _ r1)) ?_ ?_⟩
      · rintro i y σ H2 ys hi ⟨sm, ⟨u, rfl⟩, ts, rfl, hE⟩
        obtain ⟨r, hr', rfl⟩ := map_ref hi
        rw [← p1, List.getElem?_map] at hr'
        obtain ⟨p, hp, rfl⟩ : ∃ p, ps[i]? = some p ∧ p.1 = r := by
          cases e : ps[i]? with
          | none => rw [e] at hr'; cases hr'
          | some p => rw [e] at hr'; exact ⟨p, rfl, Option.some.inj hr'⟩
        have hpm := List.mem_of_getElem? hp
        have hrow := p3 p hpm
        have hpL : p.2 ∈ L := by rw [← p2]; exact List.mem_map.mpr ⟨p, hpm, rfl⟩
        have el := hE.length
        rw [List.length_take] at el
        simp_arith [sp_end, sp_set]
        refine ⟨j, rfl, wd, hj, m, hm.same sm, by have := wk.many; omega, wk.wid, fun row hr x hx => by have := wk.num row hr x hx; omega, p.2, SqL.of (sm _ _ hrow), hlen _ hpL, fun H3 s3 => ⟨p.2, SqL.of (s3 _ _ (sm _ _ hrow)), by show 3 ≤ sizeLine; decide, fun q hq => ⟨?_, sm.trans (s3.trans (same_upd hq)), one3, ts ++ [q], by rw [List.map_append]; rfl, ?_⟩⟩⟩
        · rw [List.length_map]; exact small1000 (by omega)
        · rw [take_succ_of hp]
          exact Paired.snocL ⟨upd_same, same_upd hq _ _ (s3 _ _ (sm _ _ hrow))⟩ (Paired.impL hE fun t p e => e.same (s3.trans (same_upd hq)))
      · rintro σ H2 ys ⟨sm, ⟨u, rfl⟩, ts, rfl, hE⟩
        have e : ps.take (rs.map V.ref).length = ps := by rw [← p1, List.length_map, List.length_map, List.take_length]
        rw [e] at hE
        have el := hE.length
        exact ⟨by rw [List.length_map]; exact Nat.le_of_lt (small1000 (by omega)), fun q hq => ⟨sm.trans (same_upd hq), q, ts, upd_same, Paired.impL hE fun t p e => e.same (same_upd hq), rfl⟩⟩
    rintro σ1 H1 ⟨sm1, kn, ts, hkn, hE, rfl⟩
    have hm1 : ∀ p ∈ ps, H1 p.1 = some (.lst (p.2.map V.int)) := fun p hp => sm1 _ _ (p3 p hp)
    simp_arith []
    refine ⟨⟨_, SqL.of hkn⟩, lc_ents (e := endL m j) (st := setN) (fun p => decide (endL m j p.2 = 0)) (fun p _ => V.ref p.1) hkn hE hpl (fun t p Q' e h => ?_) (fun t p Q' e h => ?_) fun ss hs r hr => ?_⟩
    · simp_arith []
      have e2 : decide (V.int (endL m j p.2) = V.int 0) = decide (endL m j p.2 = 0) := by rw [Bool.eq_iff_iff]; simp
      exact ⟨_, SqT.of e.1, _, rfl, rfl, by rw [e2]; exact h⟩
    · simp_arith []
      exact ⟨_, SqT.of e.1, _, rfl, h⟩
    have s2 := same_upd (o := .lst (List.zipWith (fun p x => V.ref p.fst) (ps.filter fun p => decide (endL m j p.2 = 0)) ss)) hr
    have hF : MatF H0 (upd H1 r (.lst (List.zipWith (fun p x => V.ref p.fst) (ps.filter fun p => decide (endL m j p.2 = 0)) ss))) r (L.filter fun c => decide (endL m j c = 0)) := by
      have sl := hs.length
      have e0 : (L.filter fun c => decide (endL m j c = 0)) = (ps.filter fun p => decide (endL m j p.2 = 0)).map Prod.snd := by
        rw [← p2, List.filter_map]; rfl
      rw [e0]
      have nr : ∀ q ∈ (ps.filter fun p => decide (endL m j p.2 = 0)), q ∈ ps := fun q hq => (List.mem_filter.mp hq).1
      refine ⟨(ps.filter fun p => decide (endL m j p.2 = 0)).map Prod.fst, ?_, paired_of fun q hq => ?_, ?_, ?_, ?_, ?_⟩
      · rw [upd_same, zipL _ _ _ (by omega), List.map_map]; rfl
      · exact same_upd hr _ _ (hm1 q (nr q hq))
      · intro z
        obtain ⟨q, hq, e⟩ := List.mem_map.mp z
        have := hm1 q (nr q hq)
        rw [e, hr] at this; cases this
      · refine List.Nodup.sublist ?_ r4
        rw [← p1]
        exact List.filter_sublist.map _
      · exact (sm0.trans sm1).free hr
      · intro q hq
        obtain ⟨p, hp, rfl⟩ := List.mem_map.mp hq
        exact r6 _ (by rw [← p1]; exact List.mem_map.mpr ⟨p, nr p hp, rfl⟩)
    generalize upd H1 r (.lst (List.zipWith (fun p x => V.ref p.fst) (ps.filter fun p => decide (endL m j p.2 = 0)) ss)) = H2 at s2 hF ⊢
    simp_arith [sp_pairs]
    refine ⟨endL m j, setN, ts, s2 _ _ hkn, ps, Paired.impL hE fun t p e => e.same s2, hpl, m.length, by have := wk.many; omega, by rw [p2]; exact hlen, by rw [p2]; exact hbits, by rw [p2]; exact fun c hc => up_b (endL_b wk.num wk.many (hbits _ hc)) (by decide), fun p H3 s3 hP => ?_⟩
    rw [p2] at hP
    obtain ⟨z1, z2, e1, e2, l1, l2, fin⟩ := MatF.cat hF hP (sm0.trans (sm1.trans s2)) s3
    refine ⟨z1, e1, z2, e2, ?_, fun q hq => k q _ (sm1.trans (s2.trans (s3.trans (same_upd hq)))) ?_⟩
    · have := pairsG_len (e := endL m j) (s := setN) hL
      have : (L.filter fun c => decide (endL m j c = 0)).length ≤ L.length := List.length_filter_le _ _
      exact Nat.le_trans (show _ ≤ 4000 by omega) (by decide)
    · rw [← pairs_dd]; exact fin q hq
end
noncomputable def sp_leanF (K : PySem.W.Frag) : Sp := fun vs H Q _ => ∃ wd d, vs = [.int wd, .ref d] ∧ ∃ (w : Nat) (m : List (List Int)), wd = (w : Int) ∧ Mat H d m ∧ Wk w m ∧
  ∀ p H', Same H H' → MatF H H' p (leanL w m) → Q (.ref p) H'
theorem perm_pair {α β : Type} {F : α → β → Prop} {l1 l2 : List α} (h : l1.Perm l2) : ∀ {m2 : List β}, Paired F l2 m2 → ∃ m1, m1.Perm m2 ∧ Paired F l1 m1 := by
  induction h with
  | nil => intro m2 h; exact ⟨m2, List.Perm.refl _, h⟩
  | cons x _ ih =>
    intro m2 h
    cases h with
    | cons r t =>
      obtain ⟨m1, p, q⟩ := ih t
      exact ⟨_ :: m1, p.cons _, .cons r q⟩
  | swap x y l =>
    intro m2 h
    cases h with
    | cons r t =>
      cases t with
      | cons r2 t2 => exact ⟨_ :: _ :: _, List.Perm.swap .., .cons r2 (.cons r t2)⟩
  | trans _ _ ih1 ih2 =>
    intro m2 h
    obtain ⟨m1, p, q⟩ := ih2 h
    obtain ⟨m0, p2, q2⟩ := ih1 q
    exact ⟨m0, p2.trans p, q2⟩
theorem zip_pair {F : Addr → List Int → Prop} : ∀ {rs : List Addr} {L : List (List Int)}, Paired F rs L → Paired (fun (p : Int × V) (q : Addr × List Int) => p = ((setN q.2 : Int), V.ref q.1) ∧ F q.1 q.2) ((L.map fun c => (setN c : Int)).zip (rs.map V.ref)) (rs.zip L)
  | _, _, .nil => .nil
  | _, _, .cons r t => .cons ⟨rfl, r⟩ (zip_pair t)
theorem zip_fst {F : Addr → List Int → Prop} : ∀ {rs : List Addr} {L : List (List Int)}, Paired F rs L → (rs.zip L).map Prod.fst = rs ∧ (rs.zip L).map Prod.snd = L
  | _, _, .nil => ⟨rfl, rfl⟩
  | _, _, .cons r t => by
    obtain ⟨h1, h2⟩ := zip_fst t
    exact ⟨by rw [List.zip_cons_cons, List.map_cons, h1], by rw [List.zip_cons_cons, List.map_cons, h2]⟩
theorem pair_maps {F : Addr → List Int → Prop} : ∀ {ps : List (Int × V)} {qs : List (Addr × List Int)}, Paired (fun (p : Int × V) (q : Addr × List Int) => p = ((setN q.2 : Int), V.ref q.1) ∧ F q.1 q.2) ps qs → ps.map Prod.snd = (qs.map Prod.fst).map V.ref ∧ ps.map Prod.fst = (qs.map Prod.snd).map (fun c => (setN c : Int)) ∧ Paired F (qs.map Prod.fst) (qs.map Prod.snd)
  | _, _, .nil => ⟨rfl, rfl, .nil⟩
  | _, _, .cons r t => by
    obtain ⟨h1, h2, h3⟩ := pair_maps t
    obtain ⟨e, f⟩ := r
    subst e
    exact ⟨by rw [List.map_cons, h1]; rfl, by rw [List.map_cons, h2]; rfl, .cons f h3⟩
section
variable {P : Program} {w : World} {K : PySem.W.Frag} {mg : Str → Option Value} {base : Heap}
theorem sc_lean_rounds : FnScope ["width", "deeds", "many", "rows", "ware"] ["width", "deeds"] (defScope s_lean_rounds) := ⟨rfl, rfl, rfl, by decide +kernel, rfl, by decide +kernel, by decide +kernel⟩
theorem c_lean_rounds (T : Txt K mg) : Cal P w K mg base "lean_rounds" 7 ["width", "deeds"] (sp_leanF K) := by
  refine T.lean_rounds.ok sc_lean_rounds (fun vs H Q E h => ?_) (fun f cdv A outer s H vs Q E hr h => ?_)
  · obtain ⟨wd, d, rfl, _⟩ := h; rfl
  · obtain ⟨_, d, rfl, wd, m, rfl, hm, wk, k⟩ := h
    have B := T.B
    have c_single := c_single (P := P) (w := w) (base := base) T
    have c_with_ware := c_with_ware (P := P) (w := w) (base := base) T
    have c_deed_set := c_deed_set (P := P) (w := w) (base := base) T
    have m10 := wk.many
    have w6 := wk.w6
    refine ⟨_, (pss_cut (ps_set (i := 2) sc_lean_rounds.nd rfl (Or.inr rfl) (pe_callB call_len_seq rfl B.len PySem.boot_len (pa_cons (pv 1) pa_nil)))
 (pss_cut (ps_lc (i := 3) sc_lean_rounds.nd rfl (pi_range1 rfl B.range (pa_cons (pv 2) pa_nil)) (.cons rfl .nil) (.own (x := "place") (.cap (x := "many") (j := 2) rfl (Or.inl rfl) (Or.inl rfl) ⟨_, rfl⟩ .nil)) (fun _ _ _ _ => (pg_name (i := 0) (show (["place", "many"] : List Str).Nodup from by decide +kernel) rfl (Or.inl rfl))) (fun _ _ _ _ => ifs_nil) (fun _ _ _ _ => (pe_cal c_single (hr.mono (by decide)) (pa_cons (pv 1) (pa_cons (pv 0) pa_nil)))))
 (pss_cut (ps_for PassesOwn.never rfl (pi_range1 rfl B.range (pa_cons (pv 0) pa_nil)) (pg_name (i := 4) sc_lean_rounds.nd rfl (Or.inl rfl)) (pss_one (ps_set (i := 3) sc_lean_rounds.nd rfl (Or.inl rfl) (pe_cal c_with_ware (hr.mono (by decide)) (pa_cons (pv 1) (pa_cons (pv 3) (pa_cons (pv 4) pa_nil)))))))
 (pss_one (ps_ret (pe_sortKR c_deed_set (hr.mono (by decide)) B.sorted (pv 3))))))), ?_⟩
    change tCut _ _ _ [some (V.int wd), some (V.ref d), none, none, none] H
    refine cut (fun σ H1 => H = H1 ∧ σ = [some (V.int wd), some (V.ref d), some (V.int m.length), none, none]) ?_ ?_
    · obtain ⟨rs, hrs, hrl⟩ := hm.len (K := K)
      simp_arith []
      exact ⟨_, .inl hrs, by rw [List.length_map, hrl]⟩
    rintro σ1 _ ⟨rfl, rfl⟩
    refine cut (fun σ H2 => Same H H2 ∧ ∃ p, MatF H H2 p (ddL m 0) ∧ σ = [some (V.int wd), some (V.ref d), some (V.int m.length), some (V.ref p), none]) ?_ ?_
    · simp_arith []
      refine ⟨by omega, by omega, ?_⟩
      rw [Int.toNat_natCast]
      refine lc_range (fun i σ H2 zs => Same H H2 ∧ (∃ u, σ = [u, some (V.int m.length)]) ∧ ∃ rs : List Addr, zs = rs.map V.ref ∧ Paired (fun r row => H2 r = some (.lst (List.map V.int row))) rs ((List.range i).map (unitL m.length)) ∧ rs.Nodup ∧ ∀ r ∈ rs, H r = none) ⟨Same.refl _, ⟨_, rfl⟩, [], rfl, .nil, List.nodup_nil, fun r hr => nomatch hr⟩ ?_ ?_
      · rintro i σ H2 zs hi ⟨sm, ⟨u, rfl⟩, rs, rfl, hP, nd, fr⟩
        have hl := hP.length
        rw [List.length_map, List.length_range] at hl
        simp_arith [sp_one]
        refine ⟨m.length, rfl, i, by omega, by omega, fun p H3 hp s3 e3 => ⟨?_, sm.trans s3, ⟨_, rfl⟩, rs ++ [p], by rw [List.map_append]; rfl, ?_, ?_, fun r hr => ?_⟩⟩
        · rw [List.length_map]; exact small1000 (by omega)
        · rw [List.range_succ, List.map_append]
          exact Paired.snocL (F := fun r row => H3 r = some (.lst (List.map V.int row))) e3 (Paired.impL hP fun _ _ e => s3 _ _ e)
        · rw [List.nodup_append]
          refine ⟨nd, by simp, fun a ha b hb e => ?_⟩
          obtain ⟨row, _, q⟩ := Paired.memL hP ha
          rw [e, List.mem_singleton.mp hb, hp] at q; cases q
        · rcases List.mem_append.mp hr with q | q
          · exact fr r q
          · rw [List.mem_singleton.mp q]; exact sm.free hp
      · rintro σ H2 zs ⟨sm, ⟨u, rfl⟩, rs, rfl, hP, nd, fr⟩
        have hl := hP.length
        rw [List.length_map, List.length_range] at hl
        refine ⟨by rw [List.length_map]; exact Nat.le_of_lt (small1000 (by omega)), fun p hp => ⟨sm.trans (same_upd hp), p, ⟨rs, upd_same, Paired.impL hP fun _ _ e => same_upd hp _ _ e, fun z => ?_, nd, sm.free hp, fr⟩, rfl⟩⟩
        obtain ⟨row, _, q⟩ := Paired.memL hP z
        rw [hp] at q; cases q
    rintro σ2 H2 ⟨sm2, p, hp, rfl⟩
    refine cut (fun σ H3 => Same H H3 ∧ ∃ p, MatF H H3 p (ddL m wd) ∧ ∃ u, σ = [some (V.int wd), some (V.ref d), some (V.int m.length), some (V.ref p), u]) ?_ ?_
    · simp_arith []
      refine ⟨by omega, by omega, ?_⟩
      rw [Int.toNat_natCast]
      refine loop_range (fun i σ H3 => Same H H3 ∧ ∃ p, MatF H H3 p (ddL m i) ∧ ∃ u, σ = [some (V.int wd), some (V.ref d), some (V.int m.length), some (V.ref p), u]) ⟨sm2, p, hp, _, rfl⟩ ?_ ?_
      · rintro i σ H3 hi ⟨sm3, p3, hp3, u, rfl⟩
        have A := dd_all m i
        simp_arith [sp_ww]
        refine ⟨i, by omega, wd, hi, m, hm.same sm3, wk, ddL m i, H, sm3, hp3, dd_len m m10 i, fun c hc => ((A.mem c).mp hc).1, fun c hc x hx => up_b (dd_bits wk.num m10 i c hc x hx) (by have := bitT_lt (j := i) (by omega); omega), fun p4 H4 s4 e4 => ⟨sm3.trans s4, p4, e4, rfl, _, rfl⟩⟩
      · rintro σ H3 h
        exact h
    rintro σ3 H3 ⟨sm3, p3, ⟨rs, h1, h2, h3, h4, h5, h6⟩, u, rfl⟩
    simp_arith [sp_set]
    have hl := h2.length
    have hd := dd_len m m10 wd
    refine ⟨rs.map V.ref, SqL.of h1, (ddL m wd).map fun c => (setN c : Int), by rw [List.length_map, List.length_map, hl], by rw [List.length_map]; omega, fun i x kk hx hk Q' hQ => ?_, fun ps hp hs r hr => ?_⟩
    · obtain ⟨r, hr', rfl⟩ := map_ref hx
      have hi : i < (ddL m wd).length := by rw [← hl]; exact (List.getElem?_eq_some_iff.mp hr').1
      obtain ⟨row, hrow⟩ : ∃ row, (ddL m wd)[i]? = some row := ⟨_, List.getElem?_eq_getElem hi⟩
      obtain ⟨r', g0, q0⟩ := Paired.getL h2 hrow
      obtain rfl : r = r' := Option.some.inj (hr'.symm.trans g0)
      rw [List.getElem?_map, hrow] at hk
      obtain rfl := Option.some.inj hk
      exact ⟨r, rfl, row, SqL.of q0, hQ⟩
    · obtain ⟨qs, q1, q2⟩ := perm_pair hp (zip_pair h2)
      obtain ⟨e1, e2, e3⟩ := pair_maps (F := fun r row => H3 r = some (.lst (List.map V.int row))) q2
      obtain ⟨z1, z2⟩ := zip_fst h2
      have pf : (qs.map Prod.fst).Perm rs := by have := q1.map Prod.fst; rw [z1] at this; exact this
      have pn : (qs.map Prod.snd).Perm (ddL m wd) := by have := q1.map Prod.snd; rw [z2] at this; exact this
      have eL : qs.map Prod.snd = leanL wd m := by
        refine sorted_lean wk.wid pn ?_
        have : (ps.map Prod.fst).Pairwise (fun a b => b ≤ a) := List.pairwise_map.mpr hs
        rw [e2] at this
        exact List.pairwise_map.mp this
      rw [eL] at e3
      refine k r _ (sm3.trans (same_upd hr)) ⟨qs.map Prod.fst, by rw [upd_same, e1], Paired.impL e3 fun _ _ e => same_upd hr _ _ e, fun z => ?_, pf.nodup_iff.mpr h4, sm3.free hr, fun x hx => h6 x (pf.mem_iff.mp hx)⟩
      obtain ⟨row, _, q⟩ := Paired.memL e3 z
      rw [hr] at q; cases q
end
theorem copy_rowsF {K : PySem.W.Frag} {H : Hp} {d : Addr} {m : List (List Int)} {te : TE} {Q : VK} (hm : Mat H d m) (hl : m.length ≤ 1500)
    (hte : ∀ (r : Addr) (row : List Int) (H2 : Hp) (Q' : VK), H2 r = some (.lst (row.map V.int)) → (∀ q, H2 q = none → Q' (.ref q) (upd H2 q (.lst (row.map V.int)))) → te [some (V.ref r)] H2 Q')
    (k : ∀ p H', Same H H' → MatF H H' p m → Q (.ref p) H') : CompOk (Itl K d) (gName 0) tTrue te Q [none] H := by
  obtain ⟨rs, h1, h2, h3⟩ := hm
  have hlen := h2.length
  refine lc_list (K := K) (xs := rs.map V.ref) (fun i σ H2 ys => Same H H2 ∧ (∃ v, σ = [v]) ∧ ∃ qs : List Addr, ys = qs.map V.ref ∧ Paired (fun r row => H2 r = some (.lst (List.map V.int row))) qs (m.take i) ∧ qs.Nodup ∧ ∀ q ∈ qs, H q = none)
    ⟨Same.refl _, ⟨_, rfl⟩, [], rfl, .nil, List.nodup_nil, fun q hq => nomatch hq⟩ (fun i σ H2 ys _ ⟨e, _⟩ => SqL.of (e _ _ h1)) ?_ ?_
  · rintro i y σ H2 ys hi ⟨sm, ⟨v', rfl⟩, qs, rfl, hq, nd, fr⟩
    obtain ⟨r0, hr0, rfl⟩ := map_ref hi
    have hi4 : i < m.length := by rw [← hlen]; exact (List.getElem?_eq_some_iff.mp hr0).1
    obtain ⟨row, hrow⟩ : ∃ row, m[i]? = some row := ⟨_, List.getElem?_eq_getElem hi4⟩
    obtain ⟨r0', g0, q0⟩ := Paired.getL h2 hrow
    obtain rfl : r0 = r0' := Option.some.inj (hr0.symm.trans g0)
    have ql := hq.length
    rw [List.length_take] at ql
    refine hte r0 row H2 _ (sm _ _ q0) fun q hqn => ⟨?_, sm.trans (same_upd hqn), ⟨_, rfl⟩, qs ++ [q], by rw [List.map_append]; rfl, ?_, ?_, fun z hz => ?_⟩
    · rw [List.length_map]; exact Nat.lt_of_le_of_lt (show qs.length ≤ 1500 by omega) (by decide)
    · rw [take_succ_of hrow]
      refine Paired.snocL ?_ (Paired.impL hq fun _ _ e => same_upd hqn _ _ e)
      exact upd_same
    · rw [List.nodup_append]
      refine ⟨nd, by simp, fun a ha b hb e => ?_⟩
      obtain ⟨row', _, z⟩ := Paired.memL hq ha
      rw [e, List.mem_singleton.mp hb, hqn] at z; cases z
    · rcases List.mem_append.mp hz with z' | z'
      · exact fr z z'
      · rw [List.mem_singleton.mp z']; exact sm.free hqn
  · rintro σ H2 ys ⟨sm, ⟨v', rfl⟩, qs, rfl, hq, nd, fr⟩
    rw [List.length_map, hlen, List.take_length] at hq
    have ql := hq.length
    refine ⟨by rw [List.length_map]; exact Nat.le_of_lt (Nat.lt_of_le_of_lt (show qs.length ≤ 1500 by omega) (by decide)), fun q hqn => k q _ (sm.trans (same_upd hqn)) ⟨qs, upd_same, Paired.impL hq fun _ _ e => same_upd hqn _ _ e, ?_, nd, sm.free hqn, fr⟩⟩
    intro hin
    obtain ⟨b, _, e⟩ := Paired.memL hq hin
    rw [e] at hqn; cases hqn
noncomputable def sp_fr : Sp := fun vs H Q _ => ∃ t b, vs = [.int t, .int b] ∧ b ≠ 0 ∧ b.natAbs < 2 ^ 1000 ∧ ∀ p H' n d, H p = none → Same H H' → H' p = some (.tup [.int n, .int d]) → IsFr n d t b → Q (.ref p) H'
section
variable {P : Program} {w : World} {K : PySem.W.Frag} {mg : Str → Option Value} {base : Heap}
theorem sc_fraction : FnScope ["top", "bottom", "common"] ["top", "bottom"] (defScope s_fraction) := ⟨rfl, rfl, rfl, by decide +kernel, rfl, by decide +kernel, by decide +kernel⟩
theorem c_fraction (T : Txt K mg) : Cal P w K mg base "fraction" 3 ["top", "bottom"] sp_fr := by
  refine T.fraction.ok sc_fraction (fun vs H Q E h => ?_) (fun f cdv A outer s H vs Q E hr h => ?_)
  · obtain ⟨t, b, rfl, _⟩ := h; rfl
  · obtain ⟨t, b, rfl, hb, hB, k⟩ := h
    have B := T.B
    have c_divisor := c_divisor (P := P) (w := w) (base := base) T
    refine ⟨_, (pss_cons (ps_set (i := 2) sc_fraction.nd rfl (Or.inl rfl) (pe_cal c_divisor (hr.mono (by decide)) (pa_cons (pe_lst (pa_cons (pv 0) (pa_cons (pv 1) pa_nil))) pa_nil)))
 (pss_cons (ps_if (pt_cmpR op_lt (pv 1) pe_int (nomark _)) (pss_one (ps_set (i := 2) sc_fraction.nd rfl (Or.inl rfl) (pe_un un_neg (pv 2)))) pss_nil)
 (pss_one (ps_ret (pe_tup (pa_cons (pe_op op_fdivB (pv 0) (pv 2)) (pa_cons (pe_op op_fdivB (pv 1) (pv 2)) pa_nil))))))), ?_⟩
    change tSeq _ _ _ [some (V.int t), some (V.int b), none] H
    simp_arith [sp_div]
    refine ⟨by show 2 ≤ sizeLine; decide, fun p hp => ⟨[t, b], SqL.of upd_same, ?_⟩⟩
    refine ite2 (fun h0 => ?_) fun h0 => ?_
    · obtain ⟨q1, q2, q3⟩ := isFr_run (t := t) (c := -ga [t, b]) hb (by rw [if_pos h0])
      exact ⟨⟨q1, Nat.lt_of_le_of_lt q2 hB⟩, ⟨q1, Nat.lt_of_le_of_lt q2 hB⟩, by show 2 ≤ sizeLine; decide, fun q hq => k q _ _ _ ((same_upd hp).free hq) ((same_upd hp).trans (same_upd hq)) upd_same q3⟩
    · obtain ⟨q1, q2, q3⟩ := isFr_run (t := t) (c := ga [t, b]) hb (by rw [if_neg h0])
      exact ⟨⟨q1, Nat.lt_of_le_of_lt q2 hB⟩, ⟨q1, Nat.lt_of_le_of_lt q2 hB⟩, by show 2 ≤ sizeLine; decide, fun q hq => k q _ _ _ ((same_upd hp).free hq) ((same_upd hp).trans (same_upd hq)) upd_same q3⟩
end
section
variable {P : Program} {w : World} {K : PySem.W.Frag} {mg : Str → Option Value} {base : Heap}
theorem sc_places : FnScope ["counts"] ["counts"] (defScope s_places) := ⟨rfl, rfl, rfl, by decide +kernel, rfl, by decide +kernel, by decide +kernel⟩
theorem c_places (T : Txt K mg) : Cal P w K mg base "places" 1 ["counts"] (sp_places K) := by
  refine T.places.ok sc_places (fun vs H Q E h => ?_) (fun f cdv A outer s H vs Q E hr h => ?_)
  · obtain ⟨c, rfl, _⟩ := h; rfl
  · obtain ⟨c, rfl, cs, hc, hl, hpos, k⟩ := h
    have B := T.B
    refine ⟨_, (pss_one (ps_ret (pe_lc (pi_enum rfl B.enumerate (pa_cons (pv 0) pa_nil)) .nil (.own (x := "place") (.own (x := "count") .nil)) (fun _ _ _ _ => (pg_tupK (K := K) (n := 2) rfl rfl (pgs_cons (pg_name (i := 0) (show (["place", "count"] : List Str).Nodup from by decide +kernel) rfl (Or.inl rfl)) (pgs_cons (pg_name (i := 1) (show (["place", "count"] : List Str).Nodup from by decide +kernel) rfl (Or.inl rfl)) pgs_nil)))) (fun _ _ _ _ => (ifs_one (pt_cmpR op_gt (pv 1) pe_int (nomark _)))) (fun _ _ _ _ => (pv 0))))), ?_⟩
    change tRet _ _ [some (V.ref c)] H
    simp_arith []
    refine ⟨⟨_, hc⟩, ?_⟩
    refine lc_enum (K := K) (xs := cs.map V.int) (fun i σ H2 zs => Same H H2 ∧ Two σ ∧ zs = (offOf i cs).map V.int) ⟨Same.refl _, two, rfl⟩ (fun i σ H2 zs _ ⟨e, _⟩ => e.seq hc) ?_ ?_
    · rintro i x t σ H2 zs hx ⟨sm, ⟨u, v, rfl⟩, rfl⟩ ht
      obtain ⟨z, hz, rfl⟩ := map_int hx
      have hi : i < cs.length := (List.getElem?_eq_some_iff.mp hz).1
      have hg : cs.getD i 0 = z := by rw [List.getD_eq_getElem?_getD, hz]; rfl
      have h0 := hpos z (List.mem_of_getElem? hz)
      refine gTup2 upd_same ?_
      simp_arith []
      have hl := offOf_len i cs
      refine ite2 (fun h1 => ⟨?_, sm.trans (same_upd ht), two, ?_⟩) fun h1 => ⟨sm.trans (same_upd ht), two, ?_⟩
      · rw [List.length_map]; exact small1000 (by omega)
      · rw [offOf_ne (by rw [hg]; omega), List.map_append]; rfl
      · rw [offOf_eq (by rw [hg]; omega)]
    · rintro σ H2 zs ⟨sm, _, rfl⟩
      have e2 : (cs.map V.int).length = cs.length := List.length_map ..
      rw [e2]
      have hl := offOf_len cs.length cs
      refine ⟨by rw [List.length_map]; exact Nat.le_of_lt (small1000 (by omega)), fun p hp => k p _ (sm.free hp) (sm.trans (same_upd hp)) upd_same⟩
theorem sc_law_at : FnScope ["_law_script", "_law_k"] ["_law_script", "_law_k"] (defScope s_law_at) := ⟨rfl, rfl, rfl, by decide +kernel, rfl, by decide +kernel, by decide +kernel⟩
theorem c_law_at (T : Txt K mg) : Cal P w K mg base "_law_at" 1 ["_law_script", "_law_k"] (sp_at K) := by
  refine T.law_at.ok sc_law_at (fun vs H Q E h => ?_) (fun f cdv A outer s H vs Q E hr h => ?_)
  · obtain ⟨l, n, rfl, _⟩ := h; rfl
  · obtain ⟨l, n', rfl, hn0, xs, hS, k⟩ := h
    obtain ⟨n, rfl⟩ := Int.eq_ofNat_of_zero_le hn0
    rw [Int.toNat_natCast] at k
    have B := T.B
    refine ⟨_, (pss_cons (ps_if (pt_cmpR op_lt (pv 1) (pe_callB call_len_seq rfl B.len PySem.boot_len (pa_cons (pv 0) pa_nil)) (nomark _)) (pss_one (ps_ret (pe_ix ix_list (pv 0) (pv 1) (fun _ _ => rfl)))) pss_nil)
 (pss_one (ps_ret pe_int))), ?_⟩
    change tSeq _ _ _ [some (V.ref l), some (V.int n)] H
    simp_arith []
    refine ⟨_, .inl hS, ite2 (fun hn => ?_) fun hn => ?_⟩
    · rw [List.length_map] at hn
      have hn' : n < xs.length := by omega
      refine ⟨_, hS, V.int xs[n], atI_nat (by simp [hn']), ?_⟩
      rw [List.getD_eq_getElem?_getD, List.getElem?_eq_getElem hn'] at k
      exact k
    · rw [List.length_map] at hn
      have hn' : xs.length ≤ n := by omega
      rw [List.getD_eq_getElem?_getD, List.getElem?_eq_none hn'] at k
      exact k
theorem sc_law_whole : FnScope ["_law_found"] ["_law_found"] (defScope s_law_whole) := ⟨rfl, rfl, rfl, by decide +kernel, rfl, by decide +kernel, by decide +kernel⟩
theorem c_law_whole (T : Txt K mg) : Cal P w K mg base "_law_whole" 1 ["_law_found"] sp_whole := by
  refine T.law_whole.ok sc_law_whole (fun vs H Q E h => ?_) (fun f cdv A outer s H vs Q E hr h => ?_)
  · obtain ⟨i, rfl, _⟩ := h; rfl
  · obtain ⟨i, rfl, k⟩ := h
    have B := T.B
    refine ⟨_, (pss_one (ps_ret (pe_and (pe_callB call_isinst rfl B.isinstance boot_isinstance (pa_cons (pv 0) (pa_cons (pe_bltn (v := .ty "int") rfl B.int boot_int rfl) pa_nil))) (pe_one (pe_not (pe_callB call_isinst rfl B.isinstance boot_isinstance (pa_cons (pv 0) (pa_cons (pe_bltn (v := .ty "bool") rfl B.bool boot_bool rfl) pa_nil)))))))), ?_⟩
    change tRet _ _ [some (V.int i)] H
    simp_arith []
    exact ⟨_, .int i, true, rfl, iteT ⟨_, .int i, false, rfl, k⟩⟩
theorem sc_law_row_is : FnScope ["_law_found", "_law_due", "_law_one", "_law_other"] ["_law_found", "_law_due"] (defScope s_law_row_is) := ⟨rfl, rfl, rfl, by decide +kernel, rfl, by decide +kernel, by decide +kernel⟩
theorem c_law_row_is (T : Txt K mg) : Cal P w K mg base "_law_row_is" 2 ["_law_found", "_law_due"] (sp_row K) := by
  refine T.law_row_is.ok sc_law_row_is (fun vs H Q E h => ?_) (fun f cdv A outer s H vs Q E hr h => ?_)
  · obtain ⟨a, b, xs, ys, rfl, _⟩ := h; rfl
  · obtain ⟨a, b, xs, ys, rfl, h1, h2, k⟩ := h
    have B := T.B
    have c_law_whole := c_law_whole (P := P) (w := w) (base := base) T
    have h1s : SqL K H a (xs.map V.int) := SqL.of h1
    refine ⟨_, (pss_cons (ps_if (PW.pt (pw_or (pt_not (pt_val (pe_callB call_isinst rfl B.isinstance boot_isinstance (pa_cons (pv 0) (pa_cons (pe_bltn (v := .ty "list") rfl B.list boot_list rfl) pa_nil))))) (pw_or1 (pt_cmpR op_ne (pe_callB call_len_seq rfl B.len PySem.boot_len (pa_cons (pv 0) pa_nil)) (pe_callB call_len_seq rfl B.len PySem.boot_len (pa_cons (pv 1) pa_nil)) (nomark _))))) (pss_one (ps_ret pe_bl)) pss_nil)
 (pss_cons (ps_for PassesOwn.never rfl (pi_zip rfl B.zip (pa_cons (pv 0) (pa_cons (pv 1) pa_nil))) (pg_tup (n := 2) rfl (pgs_cons (pg_name (i := 2) sc_law_row_is.nd rfl (Or.inl rfl)) (pgs_cons (pg_name (i := 3) sc_law_row_is.nd rfl (Or.inl rfl)) pgs_nil))) (pss_one (ps_if (PW.pt (pw_or (pt_not (pt_val (pe_cal c_law_whole (hr.mono (by decide)) (pa_cons (pv 2) pa_nil)))) (pw_or1 (pt_cmpR op_ne (pv 2) (pv 3) (nomark _))))) (pss_one (ps_ret pe_bl)) pss_nil)))
 (pss_one (ps_ret pe_bl)))), ?_⟩
    change tSeq _ _ _ [some (V.ref a), some (V.ref b), none, none] H
    simp_arith []
    refine ⟨_, .lst h1, true, rfl, if_neg_of (by decide) ?_⟩
    refine ⟨_, .inl h1s, _, .inl h2, ite2 (fun hn => ?_) fun hn => ?_⟩
    · have hlen : xs.length = ys.length := by
        rw [List.length_map, List.length_map] at hn
        omega
      refine ⟨⟨_, h1s⟩, ⟨_, h2⟩, loop_zip (K := K) (xs := xs.map V.int) (ys := ys.map V.int)
        (fun i σ H2 => Same H H2 ∧ (∃ u v, σ = [some (.ref a), some (.ref b), u, v]) ∧ ∀ j, j < i → xs[j]? = ys[j]?) ⟨Same.refl H, ⟨_, _, rfl⟩, fun j hj => absurd hj (Nat.not_lt_zero j)⟩ (fun i σ H2 _ _ ⟨e, _⟩ => ⟨e.seq h1s, e.seq h2⟩) ?_ ?_⟩
      · rintro i x y T' σ H2 hx hy ⟨hs, ⟨u, v, rfl⟩, hj⟩ hT
        obtain ⟨x', hx', rfl⟩ := map_int hx
        obtain ⟨y', hy', rfl⟩ := map_int hy
        have hs' : Same H (upd H2 T' (.tup [V.int x', V.int y'])) := fun c o e => by rw [upd_ne (ne_of_none (hs c o e) hT)]; exact hs c o e
        refine gTup2 upd_same ?_
        simp_arith [sp_whole]
        refine ite2 (fun e => ?_) fun e => ?_
        · refine ⟨hs', ⟨_, rfl⟩, fun j hj' => ?_⟩
          rcases Nat.lt_succ_iff_lt_or_eq.mp hj' with h | h
          · exact hj j h
          · rw [h, hx', hy', e]
        · have : ¬ xs = ys := fun q => by
            rw [q, hy'] at hx'
            exact e (Option.some.inj hx').symm
          rw [← decide_eq_false this]
          exact k _ hs'
      · rintro σ H2 ⟨hs, ⟨u, v, rfl⟩, hj⟩
        have : xs = ys := by
          apply List.ext_getElem?
          intro j
          by_cases h : j < xs.length
          · exact hj j (by rw [List.length_map, List.length_map]; omega)
          · rw [List.getElem?_eq_none (by omega), List.getElem?_eq_none (by omega)]
        simp_arith []
        have := k H2 hs
        rw [decide_eq_true ‹xs = ys›] at this
        exact this
    · have : ¬ xs = ys := fun e => hn (by rw [e])
      rw [← decide_eq_false this]
      exact k H (Same.refl H)
theorem sc_law_mix : FnScope ["_law_cell", "_law_k", "_law_once"] ["_law_cell", "_law_k"] (defScope s_law_mix) := ⟨rfl, rfl, rfl, by decide +kernel, rfl, by decide +kernel, by decide +kernel⟩
theorem c_law_mix (T : Txt K mg) : Cal P w K mg base "_law_mix" 1 ["_law_cell", "_law_k"] sp_mix := by
  refine T.law_mix.ok sc_law_mix (fun vs H Q E h => ?_) (fun f cdv A outer s H vs Q E hr h => ?_)
  · obtain ⟨c, k, rfl, _⟩ := h; rfl
  · obtain ⟨c, n, rfl, k⟩ := h
    have B := T.B
    refine ⟨_, (pss_cons (ps_set (i := 2) sc_law_mix.nd rfl (Or.inl rfl) (pe_op op_mod (pe_op op_add (pe_op op_add (pe_op op_mulA (pv 0) pe_int) (pe_op op_mulA (pv 1) pe_int)) pe_int) pe_int))
 (pss_one (ps_ret (pe_op op_mod (pe_op op_mulA (pe_op op_mod (pe_op op_mulA (pv 2) (pv 2)) pe_int) pe_int) pe_int)))), ?_⟩
    change tSeq _ _ _ [some (V.int c), some (V.int n), none] H
    simp_arith []
    have h0 : ∀ x : Int, 0 ≤ x % 2147483647 ∧ x % 2147483647 < 2147483647 := fun x => ⟨Int.emod_nonneg _ (by decide), Int.emod_lt_of_pos _ (by decide)⟩
    have hx := h0 (c * 48271 + n * 7368787 + 1)
    refine ⟨mulA_r (by decide) (by decide), mulA_r (by decide) (by decide), by decide, mulA_l (by omega) (by omega), by decide, mulA_r (by decide) (by decide), by decide, k _ (h0 _).1 (h0 _).2⟩
theorem sc_law_draws : FnScope ["_law_cell", "_law_many", "_law_size", "_law_mixed", "_law_told", "_law_k"] ["_law_cell", "_law_many", "_law_size", "_law_mixed"] (defScope s_law_draws) := ⟨rfl, rfl, rfl, by decide +kernel, rfl, by decide +kernel, by decide +kernel⟩
theorem c_law_draws (T : Txt K mg) : Cal P w K mg base "_law_draws" 2 ["_law_cell", "_law_many", "_law_size", "_law_mixed"] sp_draws := by
  refine T.law_draws.ok sc_law_draws (fun vs H Q E h => ?_) (fun f cdv A outer s H vs Q E hr h => ?_)
  · obtain ⟨c, many, size, b, rfl, _⟩ := h; rfl
  · obtain ⟨c, many, size, b, rfl, hm0, hm1, hs0, hs1, k⟩ := h
    have B := T.B
    have c_law_mix := c_law_mix (P := P) (w := w) (base := base) T
    refine ⟨_, (pss_cons (ps_set (i := 4) sc_law_draws.nd rfl (Or.inl rfl) (pe_lst pa_nil))
 (pss_cons (ps_for PassesOwn.never rfl (pi_range1 rfl B.range (pa_cons (pv 1) pa_nil)) (pg_name (i := 5) sc_law_draws.nd rfl (Or.inl rfl)) (pss_one (ps_if (pt_val (pv 3)) (pss_one (ps_expr (pe_bm PySem.F.plainAttrs_list PySem.F.slot_list_append PySem.F.type_list_append mt_append (pv 4) (pa_cons (pe_op op_modN (pe_op op_fdiv (pe_cal c_law_mix (hr.mono (by decide)) (pa_cons (pv 0) (pa_cons (pv 5) pa_nil))) pe_int) (pv 2)) pa_nil)))) (pss_cons (ps_expr (pe_bm PySem.F.plainAttrs_list PySem.F.slot_list_append PySem.F.type_list_append mt_append (pv 4) (pa_cons (pe_op op_modN (pv 0) (pv 2)) pa_nil)))
 (pss_one (ps_set (i := 0) sc_law_draws.nd rfl (Or.inl rfl) (pe_op op_fdivB (pv 0) (pv 2))))))))
 (pss_one (ps_ret (pv 4))))), ?_⟩
    change tSeq _ _ _ [some (V.int c), some (V.int many), some (V.int size), some (V.bl b), none, none] H
    simp_arith []
    refine ⟨by show 0 ≤ sizeLine; decide, fun r hr0 => ⟨by omega, by omega, ?_⟩⟩
    refine loop_range (fun i σ H2 => Same H H2 ∧ ∃ (c' : Int) (u : Option V) (xs : List Int), H2 r = some (.lst (xs.map V.int)) ∧ xs.length = i ∧ (∀ x ∈ xs, 0 ≤ x ∧ x < size) ∧ σ = [some (V.int c'), some (V.int many), some (V.int size), some (V.bl b), some (V.ref r), u])
      ⟨same_upd hr0, c, none, [], upd_same, rfl, (fun _ h => nomatch h), rfl⟩ ?_ ?_
    · rintro i σ H2 hi ⟨sm, c', u, xs, hx, hl, hb, rfl⟩
      have hsz : (xs.map V.int).length < sizeLine := by rw [List.length_map]; exact small1000 (by omega)
      have fin : ∀ z : Int, 0 ≤ z → z < size → Same H (upd H2 r (.lst (xs.map V.int ++ [V.int z]))) ∧ ∃ ys : List Int, upd H2 r (.lst (xs.map V.int ++ [V.int z])) r = some (.lst (ys.map V.int)) ∧ ys.length = i + 1 ∧ ∀ x ∈ ys, 0 ≤ x ∧ x < size := fun z z0 z1 => by
        refine ⟨fun b o e => by rw [upd_ne (ne_of_none e hr0)]; exact sm b o e, xs ++ [z], by rw [upd_same, List.map_append]; rfl, by rw [List.length_append, hl]; rfl, fun x hx => ?_⟩
        rcases List.mem_append.mp hx with hx | hx
        · exact hb x hx
        · rw [List.mem_singleton.mp hx]; exact ⟨z0, z1⟩
      simp_arith [sp_mix]
      refine ite2 (fun _ => ?_) fun _ => ?_
      · refine ⟨.inl ⟨rfl, _, SqL.of hx⟩, fun z z0 z1 => ?_⟩
        have f0 := Int.fmod_nonneg_of_pos (z / 7) hs0
        have f1 := Int.fmod_lt_of_pos (z / 7) hs0
        obtain ⟨q0, ys, q1, q2, q3⟩ := fin _ f0 f1
        exact ⟨⟨by decide, by decide⟩, by omega, _, hx, hsz, q0, _, _, ys, q1, q2, q3, rfl, rfl⟩
      · have f0 := Int.fmod_nonneg_of_pos c' hs0
        have f1 := Int.fmod_lt_of_pos c' hs0
        obtain ⟨q0, ys, q1, q2, q3⟩ := fin _ f0 f1
        refine ⟨.inl ⟨rfl, _, SqL.of hx⟩, by omega, _, hx, hsz, ⟨by omega, Nat.lt_of_lt_of_le (show _ < 2 ^ 60 by omega) (by decide)⟩, q0, ?_⟩
        exact ⟨_, _, ys, q1, q2, q3, rfl, rfl⟩
    · rintro σ H2 ⟨sm, c', u, xs, hx, hl, hb, rfl⟩
      simp_arith []
      exact k r H2 xs hr0 sm hx (by omega) hb
theorem sc_law_kept : FnScope ["_law_found", "_law_due", "_law_one", "_law_other"] ["_law_found", "_law_due"] (defScope s_law_kept) := ⟨rfl, rfl, rfl, by decide +kernel, rfl, by decide +kernel, by decide +kernel⟩
theorem c_law_kept (T : Txt K mg) : Cal P w K mg base "_law_kept" 3 ["_law_found", "_law_due"] (sp_kept K) := by
  refine T.law_kept.ok sc_law_kept (fun vs H Q E h => ?_) (fun f cdv A outer s H vs Q E hr h => ?_)
  · obtain ⟨a, b, rfl, _⟩ := h; rfl
  · obtain ⟨a, b, rfl, m1, m2, h1, h2, k⟩ := h
    have B := T.B
    have c_law_row_is := c_law_row_is (P := P) (w := w) (base := base) T
    obtain ⟨rs1, e1, p1, _⟩ := id h1
    obtain ⟨rs2, e2, p2, _⟩ := id h2
    have l1 := p1.length
    have l2 := p2.length
    refine ⟨_, (pss_cons (ps_if (PW.pt (pw_or (pt_not (pt_val (pe_callB call_isinst rfl B.isinstance boot_isinstance (pa_cons (pv 0) (pa_cons (pe_bltn (v := .ty "list") rfl B.list boot_list rfl) pa_nil))))) (pw_or1 (pt_cmpR op_ne (pe_callB call_len_seq rfl B.len PySem.boot_len (pa_cons (pv 0) pa_nil)) (pe_callB call_len_seq rfl B.len PySem.boot_len (pa_cons (pv 1) pa_nil)) (nomark _))))) (pss_one (ps_ret pe_bl)) pss_nil)
 (pss_cons (ps_for PassesOwn.never rfl (pi_zip rfl B.zip (pa_cons (pv 0) (pa_cons (pv 1) pa_nil))) (pg_tup (n := 2) rfl (pgs_cons (pg_name (i := 2) sc_law_kept.nd rfl (Or.inl rfl)) (pgs_cons (pg_name (i := 3) sc_law_kept.nd rfl (Or.inl rfl)) pgs_nil))) (pss_one (ps_if (pt_not (pt_val (pe_cal c_law_row_is (hr.mono (by decide)) (pa_cons (pv 2) (pa_cons (pv 3) pa_nil))))) (pss_one (ps_ret pe_bl)) pss_nil)))
 (pss_one (ps_ret pe_bl)))), ?_⟩
    change tSeq _ _ _ [some (V.ref a), some (V.ref b), none, none] H
    simp_arith []
    refine ⟨_, .lst e1, true, rfl, if_neg_of (by decide) ⟨_, .inl (SqL.of e1), _, .inl (SqL.of e2), ite2 (fun hn => ?_) fun hn => ?_⟩⟩
    · rw [List.length_map, List.length_map] at hn
      have hlen : m1.length = m2.length := by omega
      refine ⟨⟨_, SqL.of e1⟩, ⟨_, SqL.of e2⟩, loop_zip (K := K) (xs := rs1.map V.ref) (ys := rs2.map V.ref)
        (fun i σ H2 => Same H H2 ∧ (∃ u v, σ = [some (.ref a), some (.ref b), u, v]) ∧ ∀ j, j < i → m1[j]? = m2[j]?) ⟨Same.refl H, ⟨_, _, rfl⟩, fun j hj => absurd hj (Nat.not_lt_zero j)⟩ (fun i σ H2 _ _ ⟨e, _⟩ => ⟨e.seq (SqL.of e1), e.seq (SqL.of e2)⟩) ?_ ?_⟩
      · rintro i x y T' σ H2 hx hy ⟨hs, ⟨u, v, rfl⟩, hj⟩ hT
        have hi : i < m1.length := by
          have := (List.getElem?_eq_some_iff.mp hx).1
          rw [List.length_map] at this; omega
        obtain ⟨w1, hw1⟩ : ∃ w1, m1[i]? = some w1 := ⟨_, List.getElem?_eq_getElem hi⟩
        obtain ⟨w2, hw2⟩ : ∃ w2, m2[i]? = some w2 := ⟨_, List.getElem?_eq_getElem (by omega)⟩
        obtain ⟨r1, g1, q1⟩ := Paired.getL p1 hw1
        obtain ⟨r2, g2, q2⟩ := Paired.getL p2 hw2
        rw [List.getElem?_map, g1] at hx
        rw [List.getElem?_map, g2] at hy
        obtain rfl : V.ref r1 = x := Option.some.inj hx
        obtain rfl : V.ref r2 = y := Option.some.inj hy
        have hs' : Same H (upd H2 T' (.tup [V.ref r1, V.ref r2])) := hs.trans (same_upd hT)
        refine gTup2 upd_same ?_
        simp_arith [sp_row]
        refine ⟨w1, hs' _ _ q1, w2, SqL.of (hs' _ _ q2), fun H3 sm3 => ite2 (fun e => ?_) fun e => ?_⟩
        · refine ⟨hs'.trans sm3, ⟨_, rfl⟩, fun j hj' => ?_⟩
          rcases Nat.lt_succ_iff_lt_or_eq.mp hj' with h | h
          · exact hj j h
          · rw [h, hw1, hw2, e]
        · have ne : ¬ m1 = m2 := fun q => by
            rw [q, hw2] at hw1
            exact e (Option.some.inj hw1).symm
          rw [← decide_eq_false ne]
          exact k _ (hs'.trans sm3)
      · rintro σ H2 ⟨hs, ⟨u, v, rfl⟩, hj⟩
        have eq : m1 = m2 := by
          apply List.ext_getElem?
          intro j
          by_cases h : j < m1.length
          · exact hj j (by rw [List.length_map, List.length_map]; omega)
          · rw [List.getElem?_eq_none (by omega), List.getElem?_eq_none (by omega)]
        simp_arith []
        have := k H2 hs
        rw [decide_eq_true eq] at this
        exact this
    · rw [List.length_map, List.length_map] at hn
      have ne : ¬ m1 = m2 := fun e => hn (by rw [l1, l2, e])
      rw [← decide_eq_false ne]
      exact k H (Same.refl H)
theorem sc_law_sums : FnScope ["_law_width", "_law_deeds", "_law_counts", "_law_told", "_law_ware", "_law_total", "_law_k"] ["_law_width", "_law_deeds", "_law_counts"] (defScope s_law_sums) := ⟨rfl, rfl, rfl, by decide +kernel, rfl, by decide +kernel, by decide +kernel⟩
theorem c_law_sums (T : Txt K mg) : Cal P w K mg base "_law_sums" 1 ["_law_width", "_law_deeds", "_law_counts"] (sp_sums K) := by
  refine T.law_sums.ok sc_law_sums (fun vs H Q E h => ?_) (fun f cdv A outer s H vs Q E hr h => ?_)
  · obtain ⟨wd, d, c, rfl, _⟩ := h; rfl
  · obtain ⟨_, d, c, rfl, wd, m, cs, rfl, w6, hm, hml, hwid, hnum, hc, hcl, k⟩ := h
    have B := T.B
    refine ⟨_, (pss_cons (ps_set (i := 3) sc_law_sums.nd rfl (Or.inl rfl) (pe_lst pa_nil))
 (pss_cons (ps_for PassesOwn.never rfl (pi_range1 rfl B.range (pa_cons (pv 0) pa_nil)) (pg_name (i := 4) sc_law_sums.nd rfl (Or.inl rfl)) (pss_cons (ps_set (i := 5) sc_law_sums.nd rfl (Or.inl rfl) pe_int)
 (pss_cons (ps_for PassesOwn.never rfl (pi_range1 rfl B.range (pa_cons (pe_callB call_len_seq rfl B.len PySem.boot_len (pa_cons (pv 1) pa_nil)) pa_nil)) (pg_name (i := 6) sc_law_sums.nd rfl (Or.inl rfl)) (pss_one (ps_set (i := 5) sc_law_sums.nd rfl (Or.inl rfl) (pe_op op_add (pv 5) (pe_op op_mulA (pe_ix ix_list (pv 2) (pv 6) (fun _ _ => rfl)) (pe_ix ix_list (pe_ix ix_list (pv 1) (pv 6) (fun _ _ => rfl)) (pv 4) (fun _ _ => rfl)))))))
 (pss_one (ps_expr (pe_bm PySem.F.plainAttrs_list PySem.F.slot_list_append PySem.F.type_list_append mt_append (pv 3) (pa_cons (pv 5) pa_nil)))))))
 (pss_one (ps_ret (pv 3))))), ?_⟩
    change tSeq _ _ _ [some (V.int wd), some (V.ref d), some (V.ref c), none, none, none, none] H
    simp_arith []
    refine ⟨by show 0 ≤ sizeLine; decide, fun r hr0 => ⟨by omega, by omega, ?_⟩⟩
    have e0 : (wd : Int).toNat = wd := by omega
    rw [e0]
    refine loop_range (fun i σ H2 => Same H H2 ∧ (∃ u v x, σ = [some (V.int wd), some (V.ref d), some (V.ref c), some (V.ref r), u, v, x]) ∧ H2 r = some (.lst ((sumsOf i m cs).map V.int)))
      ⟨same_upd hr0, ⟨_, _, _, rfl⟩, upd_same⟩ ?_ ?_
    · rintro i σ H2 hi ⟨sm, ⟨u, v, x, rfl⟩, hr2⟩
      obtain ⟨rs, hrs, hrl⟩ := (hm.same sm).len (K := K)
      simp_arith []
      refine ⟨_, .inl hrs, ?_, ?_, ?_⟩
      · rw [List.length_map]; omega
      · rw [List.length_map]; omega
      rw [List.length_map, hrl, Int.toNat_natCast]
      refine loop_range (fun j σ H3 => H2 = H3 ∧ ∃ x, σ = [some (V.int wd), some (V.ref d), some (V.ref c), some (V.ref r), some (V.int (0 + (i : Int))), some (V.int (sumTo j fun k => cs.getD k 0 * num m k i)), x]) ⟨rfl, _, rfl⟩ ?_ ?_
      · rintro j σ _ hj ⟨rfl, x, rfl⟩
        obtain ⟨row, hrow⟩ : ∃ row, m[j]? = some row := ⟨_, List.getElem?_eq_getElem hj⟩
        obtain ⟨rs', r', s1, l1, g1, q1⟩ := (hm.same sm).row (K := K) hrow
        have hlen : row.length = wd := hwid row (List.mem_of_getElem? hrow)
        have hnr : num m j i = row[i]'(by omega) := by
          unfold num
          simp only [List.getD_eq_getElem?_getD, hrow, Option.getD_some]
          rw [List.getElem?_eq_getElem (by omega)]; rfl
        have hcs : cs.getD j 0 = cs[j]'(by omega) := by
          rw [List.getD_eq_getElem?_getD, List.getElem?_eq_getElem (by omega)]; rfl
        have hb := hnum row (List.mem_of_getElem? hrow) _ (List.getElem_mem (show i < row.length by omega))
        simp_arith [Int.zero_add]
        refine ⟨_, sm.seq hc, _, atI_nat (by rw [List.getElem?_map, List.getElem?_eq_getElem (by omega)]; rfl), _, s1, _, atI_nat g1, _, rfl, _, SqL.of q1, _, atI_nat (by rw [List.getElem?_map, List.getElem?_eq_getElem (show i < row.length by omega)]; rfl), _, rfl, _, rfl, mulA_r (by omega) (by omega), ?_, _, rfl⟩
        rw [← hnr, ← hcs]; rfl
      · rintro σ _ ⟨rfl, x, rfl⟩
        simp_arith []
        refine ⟨.inl ⟨rfl, _, SqL.of hr2⟩, _, hr2, ?_, fun b o e => by rw [upd_ne (ne_of_none e hr0)]; exact sm b o e, ⟨_, rfl⟩, ?_⟩
        · rw [List.length_map]; unfold sumsOf; rw [List.length_map, List.length_range]; exact small1000 (by omega)
        · rw [upd_same]
          unfold sumsOf
          rw [List.range_succ, List.map_append, List.map_append]; rfl
    · rintro σ H2 ⟨sm, ⟨u, v, x, rfl⟩, hr2⟩
      simp_arith []
      exact k r H2 hr0 sm hr2
end
noncomputable def ebit (b : Nat) : Nat → Nat
  | 0 => b
  | j + 1 => 2 * ebit b j + 1
theorem steps_small {b : Nat} {L : List (List Int)} (h : ∀ r ∈ L, ∀ x ∈ r, x.natAbs < 2 ^ b) : ∀ (j : Nat), ∀ r ∈ stepsL j L, ∀ x ∈ r, x.natAbs < 2 ^ ebit b j
  | 0 => h
  | j + 1 => by
    have ih := steps_small h j
    intro r hr x hx
    have up : ∀ y : Int, y.natAbs < 2 ^ ebit b j → y.natAbs < 2 ^ (2 * ebit b j + 1) := fun y hy => Nat.lt_of_lt_of_le hy (Nat.pow_le_pow_right (by decide) (by omega))
    change r ∈ stepL j (stepsL j L) at hr
    unfold stepL at hr
    split at hr
    · exact up x (ih r hr x hx)
    · rename_i p hp
      obtain ⟨r', hr', rfl⟩ := List.mem_map.mp hr
      have hp' := ih p (List.mem_of_find?_eq_some hp)
      have hr'' := ih r' (List.mem_of_mem_eraseP hr')
      have g0 : ∀ (l : List Int) (i : Nat), (∀ x ∈ l, x.natAbs < 2 ^ ebit b j) → (l.getD i 0).natAbs < 2 ^ ebit b j := fun l i hl => by
        rw [List.getD_eq_getElem?_getD]
        by_cases hi : i < l.length
        · rw [List.getElem?_eq_getElem hi]; exact hl _ (List.getElem_mem hi)
        · rw [List.getElem?_eq_none (by omega)]; exact Nat.two_pow_pos _
      unfold mixRow at hx
      obtain ⟨i, hi, rfl⟩ := List.getElem_of_mem hx
      rw [List.getElem_zipWith]
      rw [List.length_zipWith] at hi
      have a1 := g0 p j hp'
      have a2 := g0 r' j hr''
      have a3 := hr'' _ (List.getElem_mem (show i < r'.length by omega))
      have a4 := hp' _ (List.getElem_mem (show i < p.length by omega))
      have m1 : ∀ u v : Int, u.natAbs < 2 ^ ebit b j → v.natAbs < 2 ^ ebit b j → (u * v).natAbs < 2 ^ (2 * ebit b j) := fun u v hu hv => by
        rw [Int.natAbs_mul, Nat.two_mul, Nat.pow_add]; exact Nat.mul_lt_mul'' hu hv
      have b1 := m1 _ _ a1 a3
      have b2 := m1 _ _ a2 a4
      show _ < 2 ^ (2 * ebit b j + 1)
      rw [Nat.pow_succ]; omega
theorem start_small {n b : Nat} {rows : Nat → List Int} (hb : 1 ≤ b) (h : ∀ k, k < n → ∀ x ∈ rows k, x.natAbs < 2 ^ b) : ∀ r ∈ startL n rows, ∀ x ∈ r, x.natAbs < 2 ^ b := by
  intro r hr x hx
  obtain ⟨k, hk, rfl⟩ := List.mem_map.mp hr
  rcases List.mem_append.mp hx with hx | hx
  · exact h k (List.mem_range.mp hk) x hx
  · unfold unitRow at hx
    have two : (2 : Nat) ≤ 2 ^ b := by
      calc 2 = 2 ^ 1 := rfl
        _ ≤ 2 ^ b := Nat.pow_le_pow_right (by decide) hb
    rcases List.mem_or_eq_of_mem_set hx with hx | hx
    · have := (List.mem_replicate.mp hx).2
      rw [this]; show 0 < 2 ^ b; omega
    · rw [hx]; show 1 < 2 ^ b; omega
theorem steps_len (j : Nat) (L : List (List Int)) : (stepsL j L).length ≤ L.length := by
  induction j with
  | zero => exact Nat.le_refl _
  | succ j ih =>
    refine Nat.le_trans ?_ ih
    show (stepL j (stepsL j L)).length ≤ _
    unfold stepL
    split
    · exact Nat.le_refl _
    · rw [List.length_map]
      exact List.length_eraseP_le
theorem ebit_le {i : Nat} (h : i ≤ 6) : ebit 60 i ≤ 10000 := by
  have : i = 0 ∨ i = 1 ∨ i = 2 ∨ i = 3 ∨ i = 4 ∨ i = 5 ∨ i = 6 := by omega
  rcases this with rfl | rfl | rfl | rfl | rfl | rfl | rfl <;> decide
theorem mix_at {j : Nat} {p r : List Int} {t : Nat} {a b : Int} (ha : r[t]? = some a) (hb : p[t]? = some b) : (mixRow j p r)[t]? = some (p.getD j 0 * a - r.getD j 0 * b) := by
  unfold mixRow
  rw [List.getElem?_zipWith, ha, hb]
noncomputable def natV (ss : List Nat) : List V := ss.map fun (k : Nat) => V.int (k : Int)
theorem natV_len (ss : List Nat) : (natV ss).length = ss.length := by unfold natV; rw [List.length_map]
theorem rep_flat (n : Nat) (v : V) : (List.replicate n [v]).flatten = List.replicate n v := by
  induction n with
  | zero => rfl
  | succ n ih => rw [List.replicate_succ, List.flatten_cons, ih, List.replicate_succ]; rfl
theorem unit_map (n i : Nat) : (List.replicate n (V.int 0)).set i (V.int 1) = (unitRow n i).map V.int := by
  unfold unitRow
  rw [List.map_set, List.map_replicate]
noncomputable def sp_even (K : PySem.W.Frag) : Sp := fun vs H Q _ => ∃ wd d so, vs = [.int wd, .ref d, .ref so] ∧ ∃ (w : Nat) (m : List (List Int)) (ss : List Nat), wd = (w : Int) ∧ w ≤ 6 ∧ Mat H d m ∧ SqL K H so (natV ss) ∧ ss.length ≤ 20 ∧ (∀ k ∈ ss, k < m.length) ∧ (∀ row ∈ m, row.length = w) ∧ (∀ row ∈ m, ∀ x ∈ row, x.natAbs < 2 ^ 60) ∧
  ∀ p H', H p = none → Same H H' → Mat H' p (evenOf w ss.length (rowsAt m ss)) → Q (.ref p) H'
section
variable {P : Program} {w : World} {K : PySem.W.Frag} {mg : Str → Option Value} {base : Heap}
theorem sc_law_even : FnScope ["_law_width", "_law_deeds", "_law_some", "_law_left", "_law_k", "_law_unit", "_law_place", "_law_at_here", "_law_pivot", "_law_rest", "_law_row_here"] ["_law_width", "_law_deeds", "_law_some"] (defScope s_law_even) := ⟨rfl, rfl, rfl, by decide +kernel, rfl, by decide +kernel, by decide +kernel⟩
theorem c_law_even (T : Txt K mg) : Cal P w K mg base "_law_even" 1 ["_law_width", "_law_deeds", "_law_some"] (sp_even K) := by
  refine T.law_even.ok sc_law_even (fun vs H Q E h => ?_) (fun f cdv A outer s H vs Q E hr h => ?_)
  · obtain ⟨wd, d, so, rfl, _⟩ := h; rfl
  · obtain ⟨_, d, so, rfl, wd, m, ss, rfl, w6, hm, hss, hsl, hlt, hwid, hnum, k⟩ := h
    have B := T.B
    refine ⟨_, (@pss_cut _ _ _ _ _ (@ps_set _ _ (3) _ _ _ _ sc_law_even.nd rfl (Or.inr rfl) (@pe_lst _ _ _ _ (@pa_nil _)) (by rfl) (by first | exact .inl rfl | exact .inr rfl)) (@pss_cut _ _ _ _ _ (@ps_for _ _ _ _ _ _ _ _ PassesOwn.never rfl (@pi_range1 _ _ _ _ _ _ rfl B.range (@pa_cons _ _ _ _ _ (@pe_callB _ _ _ _ _ _ _ _ _ call_len_seq rfl B.len PySem.boot_len (@pa_cons _ _ _ _ _ (@pv _ 2 _ _ (by rfl) (by first | exact Or.inl rfl | exact Or.inr (Or.inl rfl) | exact Or.inr (Or.inr rfl)) (by decide) (by decide)) (@pa_nil _) (by rfl)) (by decide) (by decide) (by rfl) (by rfl)) (@pa_nil _) (by rfl)) (by rfl)) (@pg_name _ _ (4) _ sc_law_even.nd rfl (Or.inl rfl) (by first | exact .inl rfl | exact .inr rfl)) (@pss_cons _ _ _ _ _ (@ps_set _ _ (5) _ _ _ _ sc_law_even.nd rfl (Or.inl rfl) (@pe_op _ _ _ _ _ _ _ _ op_rep (@pe_lst _ _ _ _ (@pa_cons _ _ _ _ _ (@pe_int _ _ _ _) (@pa_nil _) (by rfl))) (@pe_callB _ _ _ _ _ _ _ _ _ call_len_seq rfl B.len PySem.boot_len (@pa_cons _ _ _ _ _ (@pv _ 2 _ _ (by rfl) (by first | exact Or.inl rfl | exact Or.inr (Or.inl rfl) | exact Or.inr (Or.inr rfl)) (by decide) (by decide)) (@pa_nil _) (by rfl)) (by decide) (by decide) (by rfl) (by rfl))) (by rfl) (by first | exact .inl rfl | exact .inr rfl)) (@pss_cons _ _ _ _ _ (@ps_asg _ _ _ _ _ _ (@pe_int _ _ _ _) (@pg_sub _ _ _ _ _ _ _ (@pv _ 5 _ _ (by rfl) (by first | exact Or.inl rfl | exact Or.inr (Or.inl rfl) | exact Or.inr (Or.inr rfl)) (by decide) (by decide)) (@pv _ 4 _ _ (by rfl) (by first | exact Or.inl rfl | exact Or.inr (Or.inl rfl) | exact Or.inr (Or.inr rfl)) (by decide) (by decide)) set_list (by intro _; rfl)) (by rfl) (by rfl) (by rfl)) (@pss_one _ _ _ (@ps_expr _ _ _ _ (pe_bm PySem.F.plainAttrs_list PySem.F.slot_list_append PySem.F.type_list_append mt_append (pv 3) (pa_cons (pe_op op_cat (pe_callTy call_list_of rfl B.list boot_list (pa_cons (pe_ix ix_list (pv 1) (pe_ix ix_list (pv 2) (pv 4) (fun _ _ => rfl)) (fun _ _ => rfl)) pa_nil)) (pv 5)) pa_nil)) (by rfl))))) (by intro _; rfl)) (@pss_cut _ _ _ _ _ (@ps_for _ _ _ _ _ _ _ _ PassesOwn.never rfl (@pi_range1 _ _ _ _ _ _ rfl B.range (@pa_cons _ _ _ _ _ (@pv _ 0 _ _ (by rfl) (by first | exact Or.inl rfl | exact Or.inr (Or.inl rfl) | exact Or.inr (Or.inr rfl)) (by decide) (by decide)) (@pa_nil _) (by rfl)) (by rfl)) (@pg_name _ _ (6) _ sc_law_even.nd rfl (Or.inr rfl) (by first | exact .inl rfl | exact .inr rfl)) (@pss_cons _ _ _ _ _ (@ps_lc _ _ _ _ _ _ _ _ _ _ _ _ _ _ (7) _ _ _ sc_law_even.nd rfl (@pi_range1 _ _ _ _ _ _ rfl B.range (@pa_cons _ _ _ _ _ (@pe_callB _ _ _ _ _ _ _ _ _ call_len_seq rfl B.len PySem.boot_len (@pa_cons _ _ _ _ _ (@pv _ 3 _ _ (by rfl) (by first | exact Or.inl rfl | exact Or.inr (Or.inl rfl) | exact Or.inr (Or.inr rfl)) (by decide) (by decide)) (@pa_nil _) (by rfl)) (by decide) (by decide) (by rfl) (by rfl)) (@pa_nil _) (by rfl)) (by rfl)) (.cons rfl (.cons rfl .nil)) (.own (x := "_law_k") (.cap (x := "_law_place") (j := 6) rfl (Or.inl rfl) (Or.inl rfl) ⟨_, rfl⟩ (.cap (x := "_law_left") (j := 3) rfl (Or.inl rfl) (Or.inl rfl) ⟨_, rfl⟩ .nil))) (fun _ _ _ _ => (@pg_name _ _ (0) _ (show (["_law_k", "_law_place", "_law_left"] : List Str).Nodup from by decide +kernel) rfl (Or.inl rfl) (by first | exact .inl rfl | exact .inr rfl))) (fun _ _ _ _ => (@ifs_one _ _ _ (@pt_cmpR _ _ _ _ _ _ _ _ op_ne (@pe_ix _ _ _ _ _ _ _ (ix_listK (K := K) rfl) (@pe_ix _ _ _ _ _ _ _ (ix_listK (K := K) rfl) (@pv _ 2 _ _ (by rfl) (by first | exact Or.inl rfl | exact Or.inr (Or.inl rfl) | exact Or.inr (Or.inr rfl)) (by decide) (by decide)) (@pv _ 0 _ _ (by rfl) (by first | exact Or.inl rfl | exact Or.inr (Or.inl rfl) | exact Or.inr (Or.inr rfl)) (by decide) (by decide)) (fun _ _ => rfl)) (@pv _ 1 _ _ (by rfl) (by first | exact Or.inl rfl | exact Or.inr (Or.inl rfl) | exact Or.inr (Or.inr rfl)) (by decide) (by decide)) (fun _ _ => rfl)) (@pe_int _ _ _ _) (nomark _)))) (fun _ _ _ _ => (@pv _ 0 _ _ (by rfl) (by first | exact Or.inl rfl | exact Or.inr (Or.inl rfl) | exact Or.inr (Or.inr rfl)) (by decide) (by decide))) (by rfl) (by rfl) (by rfl) (by rfl) (by rfl) (by rfl) (by rfl) (by rfl) (by intro _; rfl)) (@pss_one _ _ _ (@ps_if _ _ _ _ _ _ _ _ (@pt_cmpR _ _ _ _ _ _ _ _ (op_neA hr.units0) (@pv _ 7 _ _ (by rfl) (by first | exact Or.inl rfl | exact Or.inr (Or.inl rfl) | exact Or.inr (Or.inr rfl)) (by decide) (by decide)) (@pe_lst _ _ _ _ (@pa_nil _)) (nomark _)) (@pss_cons _ _ _ _ _ (@ps_set _ _ (8) _ _ _ _ sc_law_even.nd rfl (Or.inr rfl) (@pe_ix _ _ _ _ _ _ _ ix_list (@pv _ 3 _ _ (by rfl) (by first | exact Or.inl rfl | exact Or.inr (Or.inl rfl) | exact Or.inr (Or.inr rfl)) (by decide) (by decide)) (@pe_ix _ _ _ _ _ _ _ ix_list (@pv _ 7 _ _ (by rfl) (by first | exact Or.inl rfl | exact Or.inr (Or.inl rfl) | exact Or.inr (Or.inr rfl)) (by decide) (by decide)) (@pe_int _ _ _ _) (fun _ _ => rfl)) (fun _ _ => rfl)) (by rfl) (by first | exact .inl rfl | exact .inr rfl)) (@pss_cons _ _ _ _ _ (@ps_set _ _ (9) _ _ _ _ sc_law_even.nd rfl (Or.inl rfl) (@pe_op _ _ _ _ _ _ _ _ op_cat (@pe_slice _ _ _ _ _ _ _ _ _ _ sl_list (@pv _ 3 _ _ (by rfl) (by first | exact Or.inl rfl | exact Or.inr (Or.inl rfl) | exact Or.inr (Or.inr rfl)) (by decide) (by decide)) (@po_none _) (@po_some _ _ _ (@pe_ix _ _ _ _ _ _ _ ix_list (@pv _ 7 _ _ (by rfl) (by first | exact Or.inl rfl | exact Or.inr (Or.inl rfl) | exact Or.inr (Or.inr rfl)) (by decide) (by decide)) (@pe_int _ _ _ _) (fun _ _ => rfl)))) (@pe_slice _ _ _ _ _ _ _ _ _ _ sl_list (@pv _ 3 _ _ (by rfl) (by first | exact Or.inl rfl | exact Or.inr (Or.inl rfl) | exact Or.inr (Or.inr rfl)) (by decide) (by decide)) (@po_some _ _ _ (@pe_op _ _ _ _ _ _ _ _ op_add (@pe_ix _ _ _ _ _ _ _ ix_list (@pv _ 7 _ _ (by rfl) (by first | exact Or.inl rfl | exact Or.inr (Or.inl rfl) | exact Or.inr (Or.inr rfl)) (by decide) (by decide)) (@pe_int _ _ _ _) (fun _ _ => rfl)) (@pe_int _ _ _ _))) (@po_none _))) (by rfl) (by first | exact .inl rfl | exact .inr rfl)) (@pss_cons _ _ _ _ _ (@ps_set _ _ (3) _ _ _ _ sc_law_even.nd rfl (Or.inr rfl) (@pe_lst _ _ _ _ (@pa_nil _)) (by rfl) (by first | exact .inl rfl | exact .inr rfl)) (@pss_one _ _ _ (@ps_for _ _ _ _ _ _ _ _ PassesOwn.never rfl (@pi_list _ _ _ _ (@pv _ 9 _ _ (by rfl) (by first | exact Or.inl rfl | exact Or.inr (Or.inl rfl) | exact Or.inr (Or.inr rfl)) (by decide) (by decide))) (@pg_name _ _ (10) _ sc_law_even.nd rfl (Or.inr rfl) (by first | exact .inl rfl | exact .inr rfl)) (@pss_one _ _ _ (@ps_expr _ _ _ _ (pe_bm PySem.F.plainAttrs_list PySem.F.slot_list_append PySem.F.type_list_append mt_append (pv 3) (pa_cons (pe_lc (pi_zip rfl B.zip (pa_cons (pv 10) (pa_cons (pv 8) pa_nil))) (.cons rfl (.cons rfl (.cons rfl .nil))) (.own (x := "_law_x") (.own (x := "_law_y") (.cap (x := "_law_pivot") (j := 8) rfl (Or.inl rfl) (Or.inl rfl) ⟨_, rfl⟩ (.cap (x := "_law_place") (j := 6) rfl (Or.inl rfl) (Or.inl rfl) ⟨_, rfl⟩ (.cap (x := "_law_row_here") (j := 10) rfl (Or.inl rfl) (Or.inl rfl) ⟨_, rfl⟩ .nil))))) (fun _ _ _ _ => (pg_tupK (K := K) (n := 2) rfl rfl (pgs_cons (pg_name (i := 0) (show (["_law_x", "_law_y", "_law_pivot", "_law_place", "_law_row_here"] : List Str).Nodup from by decide +kernel) rfl (Or.inl rfl)) (pgs_cons (pg_name (i := 1) (show (["_law_x", "_law_y", "_law_pivot", "_law_place", "_law_row_here"] : List Str).Nodup from by decide +kernel) rfl (Or.inl rfl)) pgs_nil)))) (fun _ _ _ _ => ifs_nil) (fun _ _ _ _ => (pe_op op_sub (pe_op op_mulA (pe_ix (ix_listK (K := K) rfl) (pv 2) (pv 3) (fun _ _ => rfl)) (pv 0)) (pe_op op_mulA (pe_ix (ix_listK (K := K) rfl) (pv 4) (pv 3) (fun _ _ => rfl)) (pv 1))))) pa_nil)) (by rfl))) (by intro _; rfl)))))) (@pss_nil _)))) (by intro _; rfl)) (@pss_one _ _ _ (@ps_ret _ _ _ _ (@pe_lc _ _ _ _ _ _ _ _ _ _ _ _ _ _ (@pi_list _ _ _ _ (@pv _ 3 _ _ (by rfl) (by first | exact Or.inl rfl | exact Or.inr (Or.inl rfl) | exact Or.inr (Or.inr rfl)) (by decide) (by decide))) (.cons rfl .nil) (.own (x := "_law_row_here") (.cap (x := "_law_width") (j := 0) rfl (Or.inl rfl) (Or.inl rfl) ⟨_, rfl⟩ .nil)) (fun _ _ _ _ => (@pg_name _ _ (0) _ (show (["_law_row_here", "_law_width"] : List Str).Nodup from by decide +kernel) rfl (Or.inl rfl) (by first | exact .inl rfl | exact .inr rfl))) (fun _ _ _ _ => (@ifs_nil _)) (fun _ _ _ _ => (@pe_slice _ _ _ _ _ _ _ _ _ _ (sl_listK (K := K) rfl) (@pv _ 0 _ _ (by rfl) (by first | exact Or.inl rfl | exact Or.inr (Or.inl rfl) | exact Or.inr (Or.inr rfl)) (by decide) (by decide)) (@po_some _ _ _ (@pv _ 1 _ _ (by rfl) (by first | exact Or.inl rfl | exact Or.inr (Or.inl rfl) | exact Or.inr (Or.inr rfl)) (by decide) (by decide))) (@po_none _))) (by rfl) (by rfl) (by rfl) (by rfl) (by rfl) (by rfl) (by intro _; rfl))))))), ?_⟩
    change tCut _ _ _ [some (V.int wd), some (V.ref d), some (V.ref so), none, none, none, none, none, none, none, none] H
    refine cut (fun σ H1 => Same H H1 ∧ ∃ L, H L = none ∧ H1 L = some (.lst []) ∧ σ = [some (V.int wd), some (V.ref d), some (V.ref so), some (V.ref L), none, none, none, none, none, none, none]) ?_ ?_
    · simp_arith []
      exact ⟨by show 0 ≤ sizeLine; decide, fun p hp => ⟨same_upd hp, p, hp, upd_same, rfl⟩⟩
    rintro σ1 H1 ⟨sm1, L, nL, hL, rfl⟩
    refine cut (fun σ H2 => Same H H2 ∧ Mat H2 L (startL ss.length (rowsAt m ss)) ∧ ∃ u v, σ = [some (V.int wd), some (V.ref d), some (V.ref so), some (V.ref L), u, v, none, none, none, none, none]) ?_ ?_
    · simp_arith []
      refine ⟨_, .inl (sm1.seq hss), ?_, ?_, ?_⟩
      · rw [natV_len]; omega
      · rw [natV_len]; omega
      have e0 : ((natV ss).length : Int).toNat = ss.length := by rw [natV_len, Int.toNat_natCast]
      rw [e0]
      refine loop_range (fun i σ H2 => Same H H2 ∧ Mat H2 L ((List.range i).map fun k => rowsAt m ss k ++ unitRow ss.length k) ∧ ∃ u v, σ = [some (V.int wd), some (V.ref d), some (V.ref so), some (V.ref L), u, v, none, none, none, none, none])
        ⟨sm1, Mat.nil hL, none, none, rfl⟩ ?_ ?_
      · rintro i σ H2 hi ⟨sm2, hm2, u, v, rfl⟩
        simp_arith []
        refine ⟨by show 1 ≤ sizeLine; decide, fun p hp => ?_⟩
        have smp := sm2.trans (same_upd (o := HO.lst [V.int 0]) hp)
        refine ⟨natV ss, .inl (smp.seq hss), _, upd_same, by rw [natV_len]; omega, by rw [natV_len]; omega, ?_, fun q hq => ?_⟩
        · rw [e0]; show 1 * ss.length ≤ sizeLine; exact Nat.le_of_lt (small1000 (by omega))
        rw [e0, rep_flat]
        obtain ⟨x, hx⟩ : ∃ x, ss[i]? = some x := ⟨_, List.getElem?_eq_getElem hi⟩
        have hxm : x < m.length := hlt x (List.mem_of_getElem? hx)
        obtain ⟨row, hrow⟩ : ∃ row, m[x]? = some row := ⟨_, List.getElem?_eq_getElem hxm⟩
        have hrat : rowsAt m ss i = row := by
          unfold rowsAt
          rw [List.getD_eq_getElem?_getD (l := ss), hx, Option.getD_some, List.getD_eq_getElem?_getD, hrow]; rfl
        have hrl : row.length = wd := hwid row (List.mem_of_getElem? hrow)
        simp only [upd_upd]
        refine ⟨_, upd_same, i, ?_, ?_⟩
        · rw [List.length_replicate]; unfold ixN; rw [if_pos (by omega), if_pos (by omega)]; congr 1; omega
        rw [unit_map]
        have smq := smp.trans (same_upd (o := HO.lst ((unitRow ss.length i).map V.int)) hq)
        have smq2 : Same H2 (upd (upd H2 p (HO.lst [V.int 0])) q (HO.lst ((unitRow ss.length i).map V.int))) := (same_upd hp).trans (same_upd hq)
        have hqG : upd (upd H2 p (HO.lst [V.int 0])) q (HO.lst ((unitRow ss.length i).map V.int)) q = some (.lst ((unitRow ss.length i).map V.int)) := upd_same
        generalize upd (upd H2 p (HO.lst [V.int 0])) q (HO.lst ((unitRow ss.length i).map V.int)) = G at smq smq2 hqG ⊢
        obtain ⟨rs, r, s1, l1, g1, hr1⟩ := (hm.same smq).row (K := K) hrow
        have hL2 := hm2.same smq2
        obtain ⟨zs, hz1, hz2, _⟩ := id hL2
        refine ⟨.inl ⟨rfl, _, SqL.of hz1⟩, natV ss, smq.seq hss, _, ?_, _, _, rfl, s1, _, atI_nat g1, _, rfl, _, .inl (SqL.of hr1), fun c hc => ?_⟩
        · have ei : (0 : Int) + (i : Int) = ((i : Nat) : Int) := by omega
          rw [ei]
          exact atI_nat (by unfold natV; rw [List.getElem?_map, hx]; rfl)
        have smc := same_upd (o := HO.lst (row.map V.int)) hc
        refine ⟨_, upd_same, _, smc _ _ hqG, ?_, fun e he => ?_⟩
        · rw [List.length_map, List.length_map]
          unfold unitRow
          rw [List.length_set, List.length_replicate]
          exact Nat.le_of_lt (small1000 (by omega))
        have sme := smc.trans (same_upd (o := HO.lst (row.map V.int ++ (unitRow ss.length i).map V.int)) he)
        have hLe := hL2.same sme
        have neL : e ≠ L := by
          rintro rfl
          obtain ⟨zs', hz', _⟩ := hL2.same smc
          rw [hz'] at he; cases he
        obtain ⟨zs3, y1, y2, y3⟩ := hLe.push (r := e) (row := row ++ unitRow ss.length i) (by rw [upd_same, List.map_append]) neL
        refine ⟨_, y1, small1000 (by rw [y2, List.length_map, List.length_range]; omega), fun b o eb => by rw [upd_ne (ne_of_none eb nL)]; exact (smq.trans sme) b o eb, ?_, _, rfl⟩
        rw [List.range_succ, List.map_append]
        show Mat _ _ (_ ++ [rowsAt m ss i ++ unitRow ss.length i])
        rw [hrat]
        exact y3
      · rintro σ H2 ⟨sm2, hm2, u, v, rfl⟩
        exact ⟨sm2, hm2, u, v, rfl⟩
    rintro σ2 H2 ⟨sm2, hm2, u, v, rfl⟩
    have hrows : ∀ k, k < ss.length → (rowsAt m ss k).length = wd ∧ ∀ x ∈ rowsAt m ss k, x.natAbs < 2 ^ 60 := fun k hk => by
      have hxm := hlt _ (List.getElem_mem hk)
      have e : rowsAt m ss k = m[ss[k]] := by
        unfold rowsAt
        rw [List.getD_eq_getElem?_getD (l := ss), List.getElem?_eq_getElem hk, Option.getD_some, List.getD_eq_getElem?_getD, List.getElem?_eq_getElem hxm]; rfl
      rw [e]
      exact ⟨hwid _ (List.getElem_mem hxm), hnum _ (List.getElem_mem hxm)⟩
    have hfit : ∀ {j : Nat}, j ≤ wd → ∀ r ∈ stepsL j (startL ss.length (rowsAt m ss)), Fit wd ss.length (fun k j => (rowsAt m ss k).getD j 0) r := fun hj => steps_fit (start_fit fun k hk => (hrows k hk).1) hj
    have hsm := steps_small (start_small (b := 60) (by decide) fun k hk => (hrows k hk).2)
    have hcnt : ∀ j, (stepsL j (startL ss.length (rowsAt m ss))).length ≤ 20 := fun j => Nat.le_trans (steps_len j _) (by unfold startL; rw [List.length_map, List.length_range]; exact hsl)
    refine cut (fun σ H3 => Same H H3 ∧ ∃ L', H L' = none ∧ Mat H3 L' (stepsL wd (startL ss.length (rowsAt m ss))) ∧ ∃ a b c e f g h, σ = [some (V.int wd), some (V.ref d), some (V.ref so), some (V.ref L'), a, b, c, e, f, g, h]) ?_ ?_
    · simp_arith []
      refine ⟨by omega, by omega, ?_⟩
      have e1 : (wd : Int).toNat = wd := by omega
      rw [e1]
      refine loop_range (fun i σ H3 => Same H H3 ∧ ∃ L', H L' = none ∧ Mat H3 L' (stepsL i (startL ss.length (rowsAt m ss))) ∧ ∃ a b c e f g h, σ = [some (V.int wd), some (V.ref d), some (V.ref so), some (V.ref L'), a, b, c, e, f, g, h])
        ⟨sm2, L, nL, hm2, _, _, _, _, _, _, _, rfl⟩ ?_ ?_
      · rintro i σ H3 hi ⟨sm3, L', nL', hm3, a, b, c, e, f', g', h', rfl⟩
        have fitC := hfit (j := i) (by omega)
        have smC := hsm i
        have cntC := hcnt i
        generalize hcur : stepsL i (startL ss.length (rowsAt m ss)) = cur at *
        obtain ⟨rs, hL1, hpr, hLn⟩ := id hm3
        have hrsl := hpr.length
        simp_arith []
        refine ⟨_, .inl (SqL.of hL1), ?_, ?_, ?_⟩
        · rw [List.length_map]; omega
        · rw [List.length_map]; omega
        have e2 : ((rs.map V.ref).length : Int).toNat = cur.length := by rw [List.length_map, Int.toNat_natCast, hrsl]
        rw [e2]
        refine lc_range (fun j σ H4 ys => H3 = H4 ∧ (∃ v, σ = [v, some (V.int (0 + (i : Int))), some (V.ref L')]) ∧ ys = natV ((List.range j).filter fun k => (cur[k]?).any fun r => decide (r.getD i 0 ≠ 0))) ⟨rfl, ⟨_, rfl⟩, rfl⟩ ?_ ?_
        · rintro j σ _ ys hj ⟨rfl, ⟨v, rfl⟩, rfl⟩
          simp_arith [Int.zero_add]
          obtain ⟨row, hrow⟩ : ∃ row, cur[j]? = some row := ⟨_, List.getElem?_eq_getElem hj⟩
          obtain ⟨rs', r', s1, l1, g1, q1⟩ := hm3.row (K := K) hrow
          have hrl : i < row.length := by rw [(fitC row (List.mem_of_getElem? hrow)).len]; omega
          have hgd : row.getD i 0 = row[i] := by rw [List.getD_eq_getElem?_getD, List.getElem?_eq_getElem hrl]; rfl
          refine ⟨_, s1, _, atI_nat g1, _, rfl, _, SqL.of q1, V.int row[i], atI_nat (by rw [List.getElem?_map, List.getElem?_eq_getElem hrl]; rfl), rfl, ?_⟩
          rw [List.range_succ, List.filter_append]
          refine ite2 (fun h0 => ⟨⟨_, rfl⟩, ?_⟩) fun h0 => ⟨?_, ⟨_, rfl⟩, ?_⟩
          · have h0' : row[i] = 0 := by injection h0
            have : List.filter (fun k => (cur[k]?).any fun r => decide (r.getD i 0 ≠ 0)) [j] = [] := by
              rw [List.filter_cons, hrow]
              simp [← hgd] at h0' ⊢
              simpa using h0'
            rw [this, List.append_nil]
          · rw [natV_len]
            exact small1000 (Nat.le_trans (List.length_filter_le _ _) (by rw [List.length_range]; omega))
          · have h0' : row[i] ≠ 0 := fun z => h0 (by rw [z])
            have : List.filter (fun k => (cur[k]?).any fun r => decide (r.getD i 0 ≠ 0)) [j] = [j] := by
              rw [List.filter_cons, hrow]
              rw [← hgd] at h0'
              simp
              simpa using h0'
            rw [this]
            unfold natV
            rw [List.map_append]; rfl
        · rintro σ _ ys ⟨rfl, ⟨v, rfl⟩, rfl⟩
          refine ⟨?_, fun q hq => ?_⟩
          · rw [natV_len]
            exact Nat.le_of_lt (small1000 (Nat.le_trans (List.length_filter_le _ _) (by rw [List.length_range]; omega)))
          simp_arith []
          refine ⟨by show 0 ≤ sizeLine; decide, fun p hp => ?_⟩
          have smq : Same H3 (upd H3 q (HO.lst (natV ((List.range cur.length).filter fun k => (cur[k]?).any fun r => decide (r.getD i 0 ≠ 0))))) := same_upd hq
          have smp := smq.trans (same_upd (o := HO.lst []) hp)
          have hqv : upd (upd H3 q (HO.lst (natV ((List.range cur.length).filter fun k => (cur[k]?).any fun r => decide (r.getD i 0 ≠ 0))))) p (HO.lst []) q = some (.lst (natV ((List.range cur.length).filter fun k => (cur[k]?).any fun r => decide (r.getD i 0 ≠ 0)))) := same_upd hp _ _ upd_same
          refine ⟨_, SqL.of hqv, [], SqL.of upd_same, .inr (.inl rfl), ?_⟩
          have hstep : stepsL (i + 1) (startL ss.length (rowsAt m ss)) = stepL i cur := by rw [← hcur]; rfl
          rw [hstep]
          rcases first_idx (fun r : List Int => decide (r.getD i 0 ≠ 0)) cur with ⟨ei, ef⟩ | ⟨i0, ir, x, ei, ex, ef, ee⟩
          · rw [ei]
            have es : stepL i cur = cur := by unfold stepL; rw [ef]
            rw [es]
            refine if_pos_of rfl ⟨sm3.trans (by rw [ei] at smp; exact smp), L', nL', hm3.same (by rw [ei] at smp; exact smp), by simp⟩
          · have es : stepL i cur = (cur.take i0 ++ cur.drop (i0 + 1)).map (mixRow i x) := by unfold stepL; rw [ef, ee]
            rw [es]
            have ne : ¬ natV ((List.range cur.length).filter fun k => (cur[k]?).any fun r => decide (r.getD i 0 ≠ 0)) = [] := by
              rw [ei]; unfold natV; simp
            refine if_neg_of ne ?_
            rw [ei] at smp hqv ⊢
            generalize upd (upd H3 q (HO.lst (natV (i0 :: ir)))) p (HO.lst []) = G at smp hqv ⊢
            have hi0 : i0 < cur.length := (List.getElem?_eq_some_iff.mp ex).1
            obtain ⟨rsG, hG1, hGp, hGn⟩ := hm3.same smp
            have hGl := hGp.length
            have hG1s : SqL K G L' (rsG.map V.ref) := SqL.of hG1
            have a0 : atI (natV (i0 :: ir)) 0 = some (V.int (i0 : Int)) := atI_nat (j := 0) (by rfl)
            obtain ⟨pv, gpv, hpv⟩ := Paired.getL hGp ex
            have hpvM : (rsG.map V.ref)[i0]? = some (V.ref pv) := by rw [List.getElem?_map, gpv]; rfl
            refine ⟨_, SqL.of hqv, _, a0, _, _, rfl, hG1s, _, atI_nat hpvM, _, SqL.of hqv, _, a0, _, rfl, _, hG1s, fun p1 hp1 => ?_⟩
            have s1 := same_upd (o := HO.lst (cutV (rsG.map V.ref) none (some (i0 : Int)))) hp1
            refine ⟨_, SqL.of (s1 _ _ hqv), _, a0, _, rfl, _, s1.seq hG1s, fun p2 hp2 => ?_⟩
            have e3 : (i0 : Int) + 1 = ((i0 + 1 : Nat) : Int) := by omega
            rw [e3, cut_take _ _ (by rw [List.length_map]; omega), cut_drop _ _ (by rw [List.length_map]; omega)] at *
            have s2 := same_upd (o := HO.lst ((rsG.map V.ref).drop (i0 + 1))) hp2
            refine ⟨_, s2 _ _ upd_same, _, upd_same, ?_, fun p3 hp3 => ?_⟩
            · rw [List.length_take, List.length_drop, List.length_map]; exact Nat.le_of_lt (small1000 (by omega))
            have s3 := same_upd (o := HO.lst ((rsG.map V.ref).take i0 ++ (rsG.map V.ref).drop (i0 + 1))) hp3
            refine ⟨by show 0 ≤ sizeLine; decide, fun p4 hp4 => ?_⟩
            have smM := s1.trans (s2.trans s3)
            have hp3v : upd (upd (upd G p1 (HO.lst ((rsG.map V.ref).take i0))) p2 (HO.lst ((rsG.map V.ref).drop (i0 + 1)))) p3 (HO.lst ((rsG.map V.ref).take i0 ++ (rsG.map V.ref).drop (i0 + 1))) p3 = some (.lst ((rsG.take i0 ++ rsG.drop (i0 + 1)).map V.ref)) := by
              rw [upd_same, List.map_append, List.map_take, List.map_drop]
            generalize upd (upd (upd G p1 (HO.lst ((rsG.map V.ref).take i0))) p2 (HO.lst ((rsG.map V.ref).drop (i0 + 1)))) p3 (HO.lst ((rsG.map V.ref).take i0 ++ (rsG.map V.ref).drop (i0 + 1))) = M0 at smM hp3v hp4 ⊢
            have hprr : Paired (fun r row => M0 r = some (.lst (List.map V.int row))) (rsG.take i0 ++ rsG.drop (i0 + 1)) (cur.take i0 ++ cur.drop (i0 + 1)) := Paired.impL (Paired.appL (Paired.takeL i0 hGp) (Paired.dropL (i0 + 1) hGp)) fun r row e => smM _ _ e
            have hpvM0 := smM _ _ hpv
            have smHM : Same H M0 := sm3.trans (smp.trans smM)
            generalize hrr : rsG.take i0 ++ rsG.drop (i0 + 1) = rr at hp3v hprr
            have hRRsub : ∀ r ∈ cur.take i0 ++ cur.drop (i0 + 1), r ∈ cur := fun r h => by
              rcases List.mem_append.mp h with h | h
              · exact List.mem_of_mem_take h
              · exact List.mem_of_mem_drop h
            have hRRlen : (cur.take i0 ++ cur.drop (i0 + 1)).length ≤ 20 := by rw [List.length_append, List.length_take, List.length_drop]; omega
            generalize hRR : cur.take i0 ++ cur.drop (i0 + 1) = RR at hprr hRRsub hRRlen ⊢
            have hx : x ∈ cur := List.mem_of_getElem? ex
            have fx := fitC x hx
            have eb := ebit_le (i := i) (by omega)
            have g0 : ∀ (l : List Int), l ∈ cur → ∃ z : Int, l[i]? = some z ∧ l.getD i 0 = z ∧ z.natAbs < 2 ^ ebit 60 i := fun l hl => by
              have hil : i < l.length := by rw [(fitC l hl).len]; omega
              exact ⟨l[i], List.getElem?_eq_getElem hil, by rw [List.getD_eq_getElem?_getD, List.getElem?_eq_getElem hil]; rfl, smC l hl _ (List.getElem_mem hil)⟩
            refine ⟨⟨_, (same_upd hp4).seq (SqL.of hp3v)⟩, loop_list (K := K) (xs := rr.map V.ref) (fun j σ H5 => Same M0 H5 ∧ Mat H5 p4 ((RR.take j).map (mixRow i x)) ∧ ∃ v, σ = [some (V.int wd), some (V.ref d), some (V.ref so), some (V.ref p4), a, b, some (V.int (0 + (i : Int))), some (V.ref q), some (V.ref pv), some (V.ref p3), v])
              ⟨same_upd hp4, Mat.nil upd_same, _, rfl⟩ (fun j σ H5 _ ⟨e5, _⟩ => e5.seq (SqL.of hp3v)) ?_ ?_⟩
            · rintro j y σ H5 hj ⟨sm5, hm5, v, rfl⟩
              have hjl : j < RR.length := by
                have := (List.getElem?_eq_some_iff.mp hj).1
                rw [List.length_map, hprr.length] at this; exact this
              obtain ⟨row, hrow⟩ : ∃ row, RR[j]? = some row := ⟨_, List.getElem?_eq_getElem hjl⟩
              obtain ⟨r', gr, hr'⟩ := Paired.getL hprr hrow
              rw [List.getElem?_map, gr] at hj
              obtain rfl : V.ref r' = y := Option.some.inj hj
              have hrc := hRRsub row (List.mem_of_getElem? hrow)
              have fr := fitC row hrc
              obtain ⟨zx, zx1, zx2, zx3⟩ := g0 x hx
              obtain ⟨zr, zr1, zr2, zr3⟩ := g0 row hrc
              obtain ⟨zs5, hz5, _⟩ := id hm5
              simp_arith []
              refine ⟨.inl ⟨rfl, _, SqL.of hz5⟩, ⟨_, SqL.of (sm5 _ _ hr')⟩, ⟨_, SqL.of (sm5 _ _ hpvM0)⟩, ?_⟩
              refine lc_zip (K := K) (xs := row.map V.int) (ys := x.map V.int) (fun t σ H6 zs => Same H5 H6 ∧ (∃ u v, σ = [u, v, some (V.ref pv), some (V.int (0 + (i : Int))), some (V.ref r')]) ∧ zs = ((mixRow i x row).take t).map V.int)
                ⟨Same.refl _, ⟨_, _, rfl⟩, rfl⟩ (fun t σ H6 zs _ _ ⟨e6, _⟩ => ⟨e6.seq (SqL.of (sm5 _ _ hr')), e6.seq (SqL.of (sm5 _ _ hpvM0))⟩) ?_ ?_
              · rintro t vx vy T' σ H6 zs hvx hvy ⟨sm6, ⟨u6, v6, rfl⟩, rfl⟩ hT
                obtain ⟨xa, ha, rfl⟩ := map_int hvx
                obtain ⟨xb, hb, rfl⟩ := map_int hvy
                refine gTup2 upd_same ?_
                have smT := sm6.trans (same_upd (o := HO.tup [V.int xa, V.int xb]) hT)
                have ba := smC row hrc xa (List.mem_of_getElem? ha)
                have bb := smC x hx xb (List.mem_of_getElem? hb)
                simp_arith [Int.zero_add]
                refine ⟨_, SqL.of (smT _ _ (sm5 _ _ hpvM0)), _, atI_nat (by rw [List.getElem?_map, zx1]; rfl), _, rfl, mulA_b zx3 ba eb eb, _, SqL.of (smT _ _ (sm5 _ _ hr')), _, atI_nat (by rw [List.getElem?_map, zr1]; rfl), _, rfl, mulA_b zr3 bb eb eb, ?_, smT, ⟨_, rfl⟩, ?_⟩
                · rw [List.length_map, List.length_take, mix_len fx fr]; exact small1000 (by omega)
                · rw [take_succ_of (mix_at ha hb), List.map_append, zx2, zr2]; rfl
              · rintro σ H6 zs ⟨sm6, ⟨u6, v6, rfl⟩, rfl⟩
                have ml : (mixRow i x row).length = wd + ss.length := mix_len fx fr
                have e4 : (mixRow i x row).take (min (row.map V.int).length (x.map V.int).length) = mixRow i x row := by
                  rw [List.length_map, List.length_map]
                  exact List.take_of_length_le (by rw [ml, fr.len, fx.len]; omega)
                rw [e4]
                refine ⟨by rw [List.length_map, ml]; exact Nat.le_of_lt (small1000 (by omega)), fun e6 he6 => ?_⟩
                have ne4 : e6 ≠ p4 := by
                  rintro rfl
                  rw [sm6 _ _ hz5] at he6; cases he6
                have sm7 := sm6.trans (same_upd (o := HO.lst ((mixRow i x row).map V.int)) he6)
                obtain ⟨zs7, y1, y2, y3⟩ := (hm5.same sm7).push (r := e6) (row := mixRow i x row) upd_same ne4
                refine ⟨_, y1, small1000 (by rw [y2, List.length_map, List.length_take]; omega), fun bb oo ebb => by rw [upd_ne (ne_of_none ebb hp4)]; exact (sm5.trans sm7) bb oo ebb, ?_, _, rfl⟩
                rw [take_succ_of hrow, List.map_append]
                exact y3
            · rintro σ H5 ⟨sm5, hm5, v, rfl⟩
              have e5 : RR.take (rr.map V.ref).length = RR := by rw [List.length_map, hprr.length, List.take_length]
              rw [e5] at hm5
              exact ⟨smHM.trans sm5, p4, smHM.free hp4, hm5, _, _, _, _, _, _, _, rfl⟩
      · rintro σ H3 ⟨sm3, L', nL', hm3, a, b, c, e, f', g', h', rfl⟩
        exact ⟨sm3, L', nL', hm3, a, b, c, e, f', g', h', rfl⟩
    rintro σ3 H3 ⟨sm3, L', nL', hm3, a, b, c, e, f', g', h', rfl⟩
    simp_arith []
    have hfitW := hfit (Nat.le_refl wd)
    have hcntW := hcnt wd
    have hev : evenOf wd ss.length (rowsAt m ss) = (stepsL wd (startL ss.length (rowsAt m ss))).map (List.drop wd) := rfl
    generalize stepsL wd (startL ss.length (rowsAt m ss)) = cur at hm3 hfitW hcntW hev
    obtain ⟨rs, hL1, hpr, hLn⟩ := id hm3
    have hrsl := hpr.length
    refine ⟨⟨_, SqL.of hL1⟩, lc_list (K := K) (xs := rs.map V.ref) (fun j σ H4 ys => Same H3 H4 ∧ (∃ v, σ = [v, some (V.int (wd : Int))]) ∧ ∃ es : List Addr, ys = es.map V.ref ∧ Paired (fun r row => H4 r = some (.lst (List.map V.int row))) es ((cur.take j).map (List.drop wd)))
      ⟨Same.refl _, ⟨_, rfl⟩, [], rfl, .nil⟩ (fun j σ H4 ys _ ⟨e4, _⟩ => e4.seq (SqL.of hL1)) ?_ ?_⟩
    · rintro j y σ H4 ys hj ⟨sm4, ⟨v, rfl⟩, es, rfl, hes⟩
      have hjl : j < cur.length := by
        have := (List.getElem?_eq_some_iff.mp hj).1
        rw [List.length_map, hrsl] at this; exact this
      obtain ⟨row₁, hrow⟩ : ∃ row, cur[j]? = some row := ⟨_, List.getElem?_eq_getElem hjl⟩
      obtain ⟨r', gr, hr'⟩ := Paired.getL hpr hrow
      rw [List.getElem?_map, gr] at hj
      obtain rfl : V.ref r' = y := Option.some.inj hj
      have fr := hfitW row₁ (List.mem_of_getElem? hrow)
      simp_arith []
      refine ⟨_, SqL.of (sm4 _ _ hr'), fun p hp => ?_⟩
      rw [cut_drop _ _ (by rw [List.length_map, fr.len]; omega), ← List.map_drop]
      refine ⟨?_, sm4.trans (same_upd hp), ⟨_, rfl⟩, es ++ [p], by rw [List.map_append]; rfl, ?_⟩
      · rw [List.length_map, hes.length, List.length_map, List.length_take]; exact small1000 (by omega)
      · rw [take_succ_of hrow, List.map_append]
        have hes2 : Paired (fun r row => upd H4 p (HO.lst (List.map V.int (List.drop wd row₁))) r = some (.lst (List.map V.int row))) es ((cur.take j).map (List.drop wd)) := Paired.impL hes fun r w e => same_upd hp _ _ e
        exact Paired.snocL (F := fun r row => upd H4 p (HO.lst (List.map V.int (List.drop wd row₁))) r = some (.lst (List.map V.int row))) upd_same hes2
    · rintro σ H4 ys ⟨sm4, ⟨v, rfl⟩, es, rfl, hes⟩
      have e5 : cur.take (rs.map V.ref).length = cur := by rw [List.length_map, hrsl, List.take_length]
      rw [e5, ← hev] at hes
      have hl : es.length ≤ 20 := by rw [hes.length, hev, List.length_map]; exact hcntW
      refine ⟨by rw [List.length_map]; exact Nat.le_of_lt (small1000 (by omega)), fun p hp => k p _ (sm3.free (sm4.free hp)) (sm3.trans (sm4.trans (same_upd hp))) ⟨es, upd_same, Paired.impL hes fun r w e => same_upd hp _ _ e, fun hm' => ?_⟩⟩
      obtain ⟨w, _, e⟩ := Paired.memL hes hm'
      rw [hp] at e; cases e
end
noncomputable def suppL (n : Nat) (c : List Int) : List Nat := (List.range n).filter fun k => decide (0 < vecOf c k)
theorem suppL_mem {fs : List (Vec → Int)} {n : Nat} {c : List Int} (h : Round fs n (vecOf c)) (k : Nat) : k ∈ suppL n c ↔ 0 < vecOf c k := by
  unfold suppL
  rw [List.mem_filter, List.mem_range]
  constructor
  · intro q; simpa using q.2
  · intro q; exact ⟨h.lt q, by simpa using q⟩
theorem suppL_nodup (n : Nat) (c : List Int) : (suppL n c).Nodup := List.Nodup.sublist List.filter_sublist List.nodup_range
theorem suppL_lt {n : Nat} {c : List Int} : ∀ k ∈ suppL n c, k < n := fun k hk => List.mem_range.mp (List.mem_filter.mp hk).1
theorem suppL_len (n : Nat) (c : List Int) : (suppL n c).length ≤ n := Nat.le_trans (List.length_filter_le _ _) (by rw [List.length_range]; exact Nat.le_refl _)
theorem suppL_succ {n : Nat} {c : List Int} : suppL (n + 1) c = if 0 < vecOf c n then suppL n c ++ [n] else suppL n c := by
  unfold suppL
  rw [List.range_succ, List.filter_append, List.filter_cons, List.filter_nil]
  by_cases h : 0 < vecOf c n
  · rw [if_pos h, if_pos (by simpa using h)]
  · rw [if_neg h, if_neg (by simpa using h), List.append_nil]
theorem lc_supp {H : Hp} {n : Nat} {c : List Int} {tt : TT} {te : TE} {Q : VK} {σ0 : L2.St} (rest : L2.St) (h0 : σ0 = none :: rest) (hn : n ≤ 1000)
    (htt : ∀ (i : Nat) (Q' : Bool → Hp → Prop), i < n → Q' (decide (0 < vecOf c i)) H → tt (some (V.int i) :: rest) H Q') (hte : ∀ (i : Nat) (Q' : VK), Q' (.int i) H → te (some (V.int i) :: rest) H Q')
    (k : ∀ p, H p = none → Q (.ref p) (upd H p (.lst (natV (suppL n c))))) : CompOk (Itr 0 n) (gName 0) tt te Q σ0 H := by
  subst h0
  refine lc_range (fun i σ H2 zs => H = H2 ∧ (∃ u, σ = u :: rest) ∧ zs = natV (suppL i c)) ⟨rfl, ⟨_, rfl⟩, rfl⟩ ?_ ?_
  · rintro i σ _ zs hi ⟨rfl, ⟨u, rfl⟩, rfl⟩
    show tt (some (V.int (0 + (i : Int))) :: rest) H _
    rw [Int.zero_add]
    refine htt i _ hi ?_
    have hl := suppL_len i c
    have hz : (natV (suppL i c)).length = (suppL i c).length := by unfold natV; rw [List.length_map]
    rw [suppL_succ]
    by_cases h : 0 < vecOf c i
    · rw [decide_eq_true h, if_pos rfl]
      refine hte i _ ⟨by rw [hz]; exact Nat.lt_of_le_of_lt hl (small1000 (by omega)), rfl, ⟨_, rfl⟩, ?_⟩
      rw [if_pos h]
      unfold natV; rw [List.map_append]; rfl
    · rw [decide_eq_false h]
      refine ⟨rfl, ⟨_, rfl⟩, ?_⟩
      rw [if_neg h]
  · rintro σ _ zs ⟨rfl, _, rfl⟩
    have hl := suppL_len n c
    exact ⟨by unfold natV; rw [List.length_map]; exact Nat.le_of_lt (Nat.lt_of_le_of_lt hl (small1000 (by omega))), fun p hp => k p hp⟩
structure Plt (w : Nat) (m : List (List Int)) (cs : List Int) : Prop where
  wid : ∀ row ∈ m, row.length = w
  small : ∀ row ∈ m, ∀ x ∈ row, -9 ≤ x ∧ x ≤ 9
  len : cs.length = m.length
  lo : 2 ≤ m.length
  hi : m.length ≤ 5
  cnt : ∀ x ∈ cs, 1 ≤ x ∧ x ≤ 3
  one : (1 : Int) ∈ cs
  ev : ∀ j, j < w → (sumTo m.length fun k => cs.getD k 0 * num m k j) = 0
noncomputable def P4 (mn : Nat) (wi sz : Int) : Prop := (mn = 1 ∧ wi = 3 ∧ sz = 3) ∨ (mn = 2 ∧ wi = 2 ∧ sz = 2) ∨ (mn = 3 ∧ wi = 1 ∧ sz = 3) ∨ (mn = 4 ∧ wi = 1 ∧ sz = 2)
theorem sumTo_sym {f : Nat → Int} {c : Int} : ∀ n, (∀ k, k < n → -c ≤ f k ∧ f k ≤ c) → -(n * c) ≤ sumTo n f ∧ sumTo n f ≤ n * c
  | 0, _ => by show -((0 : Nat) * c) ≤ (0 : Int) ∧ (0 : Int) ≤ (0 : Nat) * c; simp
  | n + 1, h => by
    have ih := sumTo_sym n fun k hk => h k (by omega)
    have := h n (by omega)
    show -(((n + 1 : Nat) : Int) * c) ≤ sumTo n f + f n ∧ sumTo n f + f n ≤ ((n + 1 : Nat) : Int) * c
    have e : ((n + 1 : Nat) : Int) * c = n * c + c := by push_cast; grind
    rw [e]; omega
theorem cut_mid (xs : List V) (a n : Nat) (h : a + n ≤ xs.length) : cutV xs (some (a : Int)) (some ((a : Int) + n)) = (xs.drop a).take n := by
  unfold cutV
  have e0 : (a : Int) + n = ((a + n : Nat) : Int) := by omega
  have e1 : HT.sIx xs.length 0 (some (a : Int)) = a := by rw [HT.sIx_nat]; omega
  have e2 : HT.sIx xs.length xs.length (some ((a + n : Nat) : Int)) = a + n := by rw [HT.sIx_nat]; omega
  rw [e0, e1, e2]
  congr 1; omega
noncomputable def sp_plant : Sp := fun vs H Q _ => ∃ cell wd, vs = [.int cell, .int wd] ∧ ∃ w : Nat, wd = (w : Int) ∧ w ≤ 6 ∧
  ∀ p rw cn H' m cs, H p = none → Same H H' → H' p = some (.lst [.ref rw, .ref cn]) → MatF H H' rw m → H cn = none → H' cn = some (.lst (List.map V.int cs)) → Plt w m cs → Q (.ref p) H'
section
variable {P : Program} {w : World} {K : PySem.W.Frag} {mg : Str → Option Value} {base : Heap}
theorem sc_law_plant : FnScope ["_law_cell", "_law_width", "_law_many", "_law_mixed", "_law_wide", "_law_counts", "_law_drawn", "_law_rows", "_law_k", "_law_last", "_law_ware"] ["_law_cell", "_law_width"] (defScope s_law_plant) := ⟨rfl, rfl, rfl, by decide +kernel, rfl, by decide +kernel, by decide +kernel⟩
theorem c_law_plant (T : Txt K mg) : Cal P w K mg base "_law_plant" 3 ["_law_cell", "_law_width"] sp_plant := by
  refine T.law_plant.ok sc_law_plant (fun vs H Q E h => ?_) (fun f cdv A outer s H vs Q E hr h => ?_)
  · obtain ⟨c, wd, rfl, _⟩ := h; rfl
  · obtain ⟨cell, _, rfl, wd, rfl, w6, k⟩ := h
    have B := T.B
    have c_law_draws := c_law_draws (P := P) (w := w) (base := base) T
    refine ⟨_, (pss_cut (ps_set (i := 2) sc_law_plant.nd rfl (Or.inl rfl) (pe_op op_add pe_int (pe_op op_mod (pv 0) pe_int)))
 (pss_cut (ps_set (i := 3) sc_law_plant.nd rfl (Or.inl rfl) (pe_cmpR op_eq (pe_op op_mod (pe_op op_fdiv (pv 0) pe_int) pe_int) pe_int (nomark _)))
 (pss_cut (ps_set (i := 0) sc_law_plant.nd rfl (Or.inl rfl) (pe_op op_fdiv (pv 0) pe_int))
 (pss_cut (ps_set (i := 4) sc_law_plant.nd rfl (Or.inr rfl) (pe_ix ix_list (pe_lstC (ns := [3, 2, 1, 1]) rfl) (pe_op op_sub (pv 2) pe_int) (fun _ _ => rfl)))
 (pss_cut (ps_lc (i := 5) sc_law_plant.nd rfl (pi_list (pe_cal c_law_draws (hr.mono (by decide)) (pa_cons (pv 0) (pa_cons (pv 2) (pa_cons (pe_ix ix_list (pe_lstC (ns := [3, 2, 3, 2]) rfl) (pe_op op_sub (pv 2) pe_int) (fun _ _ => rfl)) (pa_cons (pv 3) pa_nil)))))) .nil (.own (x := "_law_x") .nil) (fun _ _ _ _ => (pg_name (i := 0) (show (["_law_x"] : List Str).Nodup from by decide +kernel) rfl (Or.inl rfl))) (fun _ _ _ _ => ifs_nil) (fun _ _ _ _ => (pe_op op_add pe_int (pv 0))))
 (pss_cut (ps_set (i := 0) sc_law_plant.nd rfl (Or.inl rfl) (pe_op op_fdiv (pv 0) pe_int))
 (pss_cut (ps_set (i := 6) sc_law_plant.nd rfl (Or.inl rfl) (pe_cal c_law_draws (hr.mono (by decide)) (pa_cons (pe_op op_add (pv 0) pe_int) (pa_cons (pe_op op_mulA (pv 2) (pv 1)) (pa_cons (pe_op op_add (pe_op op_mulA pe_int (pv 4)) pe_int) (pa_cons (pv 3) pa_nil))))))
 (pss_cut (ps_set (i := 7) sc_law_plant.nd rfl (Or.inl rfl) (pe_lst pa_nil))
 (pss_cut (ps_for PassesOwn.never rfl (pi_range1 rfl B.range (pa_cons (pv 2) pa_nil)) (pg_name (i := 8) sc_law_plant.nd rfl (Or.inl rfl)) (pss_one (ps_expr (pe_bm PySem.F.plainAttrs_list PySem.F.slot_list_append PySem.F.type_list_append mt_append (pv 7) (pa_cons (pe_lc (pi_list (pe_slice sl_list (pv 6) (po_some (pe_op op_mulA (pv 8) (pv 1))) (po_some (pe_op op_add (pe_op op_mulA (pv 8) (pv 1)) (pv 1))))) (.cons rfl .nil) (.own (x := "_law_x") (.cap (x := "_law_wide") (j := 4) rfl (Or.inl rfl) (Or.inl rfl) ⟨_, rfl⟩ .nil)) (fun _ _ _ _ => (pg_name (i := 0) (show (["_law_x", "_law_wide"] : List Str).Nodup from by decide +kernel) rfl (Or.inl rfl))) (fun _ _ _ _ => ifs_nil) (fun _ _ _ _ => (pe_op op_sub (pv 0) (pv 1)))) pa_nil)))))
 (pss_cut (ps_set (i := 9) sc_law_plant.nd rfl (Or.inl rfl) (pe_lst pa_nil))
 (pss_cut (ps_for PassesOwn.never rfl (pi_range1 rfl B.range (pa_cons (pv 1) pa_nil)) (pg_name (i := 10) sc_law_plant.nd rfl (Or.inr rfl)) (pss_one (ps_expr (pe_bm PySem.F.plainAttrs_list PySem.F.slot_list_append PySem.F.type_list_append mt_append (pv 9) (pa_cons (pe_un un_neg (pe_callB (call_sumL rfl) rfl B.sum boot_sum (pa_cons (pe_lc (pi_zip rfl B.zip (pa_cons (pv 5) (pa_cons (pv 7) pa_nil))) (.cons rfl .nil) (.own (x := "_law_c") (.own (x := "_law_row_here") (.cap (x := "_law_ware") (j := 10) rfl (Or.inl rfl) (Or.inl rfl) ⟨_, rfl⟩ .nil))) (fun _ _ _ _ => (pg_tupK (K := K) (n := 2) rfl rfl (pgs_cons (pg_name (i := 0) (show (["_law_c", "_law_row_here", "_law_ware"] : List Str).Nodup from by decide +kernel) rfl (Or.inl rfl)) (pgs_cons (pg_name (i := 1) (show (["_law_c", "_law_row_here", "_law_ware"] : List Str).Nodup from by decide +kernel) rfl (Or.inl rfl)) pgs_nil)))) (fun _ _ _ _ => ifs_nil) (fun _ _ _ _ => (pe_op op_mulA (pv 0) (pe_ix (ix_listK (K := K) rfl) (pv 1) (pv 2) (fun _ _ => rfl))))) pa_nil))) pa_nil)))))
 (pss_one (ps_ret (pe_lst (pa_cons (pe_op op_cat (pv 7) (pe_lst (pa_cons (pv 9) pa_nil))) (pa_cons (pe_op op_cat (pv 5) (pe_lst (pa_cons pe_int pa_nil))) pa_nil)))))))))))))))), ?_⟩
    change tCut _ _ _ [some (V.int cell), some (V.int wd), none, none, none, none, none, none, none, none, none] H
    refine cut (fun σ H1 => H = H1 ∧ ∃ mn : Nat, (1 ≤ mn ∧ mn ≤ 4) ∧ σ = [some (V.int cell), some (V.int wd), some (V.int mn), none, none, none, none, none, none, none, none]) ?_ ?_
    · simp_arith []
      exact ⟨by decide, (1 + cell % 4).toNat, by omega, by omega, by congr 2; omega⟩
    rintro σ1 _ ⟨rfl, mn, hmn, rfl⟩
    refine cut (fun σ H1 => H = H1 ∧ ∃ b : Bool, σ = [some (V.int cell), some (V.int wd), some (V.int mn), some (V.bl b), none, none, none, none, none, none, none]) ?_ ?_
    · simp_arith []
      exact ⟨⟨by decide, by decide⟩, by decide, _, rfl⟩
    rintro σ2 _ ⟨rfl, mx, rfl⟩
    refine cut (fun σ H1 => H = H1 ∧ ∃ cell : Int, σ = [some (V.int cell), some (V.int wd), some (V.int mn), some (V.bl mx), none, none, none, none, none, none, none]) ?_ ?_
    · simp_arith []
      exact ⟨⟨by decide, by decide⟩, _, rfl⟩
    rintro σ3 _ ⟨rfl, cell2, rfl⟩
    refine cut (fun σ H1 => Same H H1 ∧ ∃ wi sz : Int, P4 mn wi sz ∧ σ = [some (V.int cell2), some (V.int wd), some (V.int mn), some (V.bl mx), some (V.int wi), none, none, none, none, none, none]) ?_ ?_
    · simp_arith []
      refine ⟨by show 4 ≤ sizeLine; decide, fun p hp => ⟨_, SqL.of upd_same, ?_⟩⟩
      have e : (mn : Int) - 1 = ((mn - 1 : Nat) : Int) := by omega
      rw [e]
      have : mn = 1 ∨ mn = 2 ∨ mn = 3 ∨ mn = 4 := by omega
      rcases this with rfl | rfl | rfl | rfl
      · exact ⟨_, atI_nat rfl, same_upd hp, 3, 3, .inl ⟨rfl, rfl, rfl⟩, rfl⟩
      · exact ⟨_, atI_nat rfl, same_upd hp, 2, 2, .inr (.inl ⟨rfl, rfl, rfl⟩), rfl⟩
      · exact ⟨_, atI_nat rfl, same_upd hp, 1, 3, .inr (.inr (.inl ⟨rfl, rfl, rfl⟩)), rfl⟩
      · exact ⟨_, atI_nat rfl, same_upd hp, 1, 2, .inr (.inr (.inr ⟨rfl, rfl, rfl⟩)), rfl⟩
    rintro σ4 H4 ⟨sm4, wi, sz, hp4, rfl⟩
    have szb : 2 ≤ sz ∧ sz ≤ 3 ∧ 1 ≤ wi ∧ wi ≤ 3 := by unfold P4 at hp4; omega
    -- counts
    refine cut (fun σ H5 => Same H H5 ∧ ∃ cn, H cn = none ∧ ∃ cs : List Int, H5 cn = some (.lst (cs.map V.int)) ∧ cs.length = mn ∧ (∀ x ∈ cs, 1 ≤ x ∧ x ≤ sz) ∧ σ = [some (V.int cell2), some (V.int wd), some (V.int mn), some (V.bl mx), some (V.int wi), some (V.ref cn), none, none, none, none, none]) ?_ ?_
    · simp_arith [sp_draws]
      refine ⟨by show 4 ≤ sizeLine; decide, fun p hp => ⟨_, SqL.of upd_same, V.int sz, ?_, sz, rfl, by omega, by omega, by omega, by omega, fun p2 H5 xs hp2 s5 e5 xl xb => ⟨⟨_, SqL.of e5⟩, ?_⟩⟩⟩
      · have e : (mn : Int) - 1 = ((mn - 1 : Nat) : Int) := by omega
        rw [e]
        unfold P4 at hp4
        rcases hp4 with ⟨rfl, _, rfl⟩ | ⟨rfl, _, rfl⟩ | ⟨rfl, _, rfl⟩ | ⟨rfl, _, rfl⟩ <;> exact atI_nat rfl
      · have sm5 := sm4.trans ((same_upd hp).trans s5)
        refine lc_list (K := K) (xs := xs.map V.int) (fun i σ H6 ys => H5 = H6 ∧ One1 σ ∧ ys = ((xs.take i).map (1 + ·)).map V.int) ⟨rfl, one1, rfl⟩ (fun i σ H6 ys _ ⟨e, _⟩ => e ▸ SqL.of e5) ?_ ?_
        · rintro i y σ _ ys hi ⟨rfl, ⟨u, rfl⟩, rfl⟩
          obtain ⟨z, hz, rfl⟩ := map_int hi
          have hlt : i < xs.length := (List.getElem?_eq_some_iff.mp hz).1
          simp_arith []
          refine ⟨?_, one1, ?_⟩
          · rw [List.length_map, List.length_map, List.length_take]; exact small1000 (by omega)
          · rw [take_succ_of hz, List.map_append, List.map_append]; rfl
        · rintro σ _ ys ⟨rfl, _, rfl⟩
          have e2 : xs.take (xs.map V.int).length = xs := by rw [List.length_map, List.take_length]
          rw [e2]
          refine ⟨by rw [List.length_map, List.length_map]; exact Nat.le_of_lt (small1000 (by omega)), fun q hq => ⟨sm5.trans (same_upd hq), q, sm5.free hq, xs.map (1 + ·), upd_same, by rw [List.length_map]; omega, fun x hx => ?_, rfl⟩⟩
          obtain ⟨y, hy, rfl⟩ := List.mem_map.mp hx
          have := xb y hy
          omega
    rintro σ5 H5 ⟨sm5, cn, ncn, cs, hcn, csl, csb, rfl⟩
    refine cut (fun σ H6 => H5 = H6 ∧ ∃ cell : Int, σ = [some (V.int cell), some (V.int wd), some (V.int mn), some (V.bl mx), some (V.int wi), some (V.ref cn), none, none, none, none, none]) ?_ ?_
    · simp_arith []
      exact ⟨⟨by decide, by decide⟩, _, rfl⟩
    rintro σ6 _ ⟨rfl, cell3, rfl⟩
    have mw : mn * wd ≤ 24 := Nat.le_trans (Nat.mul_le_mul hmn.2 w6) (by decide)
    -- drawn
    refine cut (fun σ H6 => Same H5 H6 ∧ ∃ dr, ∃ xs : List Int, H6 dr = some (.lst (xs.map V.int)) ∧ xs.length = mn * wd ∧ (∀ x ∈ xs, 0 ≤ x ∧ x ≤ 2 * wi) ∧ σ = [some (V.int cell3), some (V.int wd), some (V.int mn), some (V.bl mx), some (V.int wi), some (V.ref cn), some (V.ref dr), none, none, none, none]) ?_ ?_
    · simp_arith [sp_draws]
      have e : (mn : Int) * (wd : Int) = ((mn * wd : Nat) : Int) := by push_cast; rfl
      refine ⟨mulA_l (by omega) (by omega), mulA_l (by decide) (by decide), by omega, by omega, by omega, by omega, fun p H6 xs hp s6 e6 xl xb => ⟨s6, p, xs, e6, by omega, fun x hx => by have := xb x hx; omega, rfl⟩⟩
    rintro σ7 H6 ⟨sm6, dr, xs, hdr, xl, xb, rfl⟩
    have smH6 := sm5.trans sm6
    -- rows
    refine cut (fun σ H7 => Same H6 H7 ∧ ∃ rw', H6 rw' = none ∧ H7 rw' = some (.lst []) ∧ σ = [some (V.int cell3), some (V.int wd), some (V.int mn), some (V.bl mx), some (V.int wi), some (V.ref cn), some (V.ref dr), some (V.ref rw'), none, none, none]) ?_ ?_
    · simp_arith []
      exact ⟨by show 0 ≤ sizeLine; decide, fun p hp => ⟨same_upd hp, p, hp, upd_same, rfl⟩⟩
    rintro σ8 H7 ⟨sm7, rw', nrw, hrw, rfl⟩
    refine cut (fun σ H8 => Same H6 H8 ∧ ∃ m : List (List Int), MatF H6 H8 rw' m ∧ m.length = mn ∧ (∀ row ∈ m, row.length = wd) ∧ (∀ row ∈ m, ∀ x ∈ row, -wi ≤ x ∧ x ≤ wi) ∧ ∃ u, σ = [some (V.int cell3), some (V.int wd), some (V.int mn), some (V.bl mx), some (V.int wi), some (V.ref cn), some (V.ref dr), some (V.ref rw'), u, none, none]) ?_ ?_
    · simp_arith []
      refine ⟨by omega, by omega, ?_⟩
      rw [Int.toNat_natCast]
      refine loop_range (fun i σ H8 => Same H6 H8 ∧ (∃ m : List (List Int), MatF H6 H8 rw' m ∧ m.length = i ∧ (∀ row ∈ m, row.length = wd) ∧ ∀ row ∈ m, ∀ x ∈ row, -wi ≤ x ∧ x ≤ wi) ∧ ∃ u, σ = [some (V.int cell3), some (V.int wd), some (V.int mn), some (V.bl mx), some (V.int wi), some (V.ref cn), some (V.ref dr), some (V.ref rw'), u, none, none])
        ⟨sm7, ⟨[], ⟨[], hrw, .nil, by simp, List.nodup_nil, nrw, fun r hr => nomatch hr⟩, rfl, (fun _ hr => nomatch hr), (fun _ hr => nomatch hr)⟩, _, rfl⟩ ?_ ?_
      · rintro i σ H8 hi ⟨sm8, ⟨m, hm, ml, mw', mb⟩, u, rfl⟩
        have hdr8 := sm8 _ _ hdr
        obtain ⟨zs8, hz8⟩ : ∃ zs, H8 rw' = some (.lst zs) := by obtain ⟨rs, h1, _⟩ := hm; exact ⟨_, h1⟩
        simp_arith [Int.zero_add]
        refine ⟨.inl ⟨rfl, _, SqL.of hz8⟩, ?_⟩
        have iw : i * wd + wd ≤ mn * wd := by
          have : (i + 1) * wd ≤ mn * wd := Nat.mul_le_mul_right _ (by omega)
          rw [Nat.add_mul] at this; omega
        have e : (i : Int) * (wd : Int) = ((i * wd : Nat) : Int) := by push_cast; rfl
        rw [e]
        refine ⟨mulA_l (by omega) (by omega), mulA_l (by omega) (by omega), _, SqL.of hdr8, fun p hp => ?_⟩
        rw [cut_mid _ _ _ (by rw [List.length_map]; omega), ← List.map_drop, ← List.map_take]
        have sl : ((xs.drop (i * wd)).take wd).length = wd := by rw [List.length_take, List.length_drop]; omega
        have sb : ∀ x ∈ (xs.drop (i * wd)).take wd, 0 ≤ x ∧ x ≤ 2 * wi := fun x hx => xb x (List.mem_of_mem_drop (List.mem_of_mem_take hx))
        generalize (xs.drop (i * wd)).take wd = ys at sl sb
        refine ⟨⟨_, SqL.of upd_same⟩, lc_list (K := K) (xs := ys.map V.int) (fun i2 σ H9 zs => upd H8 p (.lst (ys.map V.int)) = H9 ∧ (∃ u, σ = [u, some (V.int wi)]) ∧ zs = ((ys.take i2).map (· - wi)).map V.int) ⟨rfl, ⟨_, rfl⟩, rfl⟩ (fun i2 σ H9 zs _ ⟨e, _⟩ => e ▸ SqL.of upd_same) ?_ ?_⟩
        · rintro i2 y σ _ zs hi2 ⟨rfl, ⟨u', rfl⟩, rfl⟩
          obtain ⟨z, hz, rfl⟩ := map_int hi2
          have hlt : i2 < ys.length := (List.getElem?_eq_some_iff.mp hz).1
          simp_arith []
          refine ⟨?_, ⟨_, rfl⟩, ?_⟩
          · rw [List.length_map, List.length_map, List.length_take]; exact small1000 (by omega)
          · rw [take_succ_of hz, List.map_append, List.map_append]; rfl
        · rintro σ _ zs ⟨rfl, _, rfl⟩
          have e2 : ys.take (ys.map V.int).length = ys := by rw [List.length_map, List.take_length]
          rw [e2]
          refine ⟨by rw [List.length_map, List.length_map]; exact Nat.le_of_lt (small1000 (by omega)), fun q hq => ?_⟩
          have sq := same_upd (o := HO.lst (ys.map V.int)) hp
          obtain ⟨zs, hz, hzl, hM⟩ := (hm.same sq).push (same_upd (o := .lst ((ys.map (· - wi)).map V.int)) hq) hq ((sm8.trans sq).free hq) upd_same
          refine ⟨zs, hz, small1000 (by omega), fun b o e => ?_, ⟨_, hM, by rw [List.length_append, ml]; rfl, fun row hr => ?_, fun row hr x hx => ?_⟩, _, rfl⟩
          · rw [upd_ne (ne_of_none e nrw)]
            exact (same_upd hq) _ _ (sq _ _ (sm8 _ _ e))
          · rcases List.mem_append.mp hr with z | z
            · exact mw' row z
            · rw [List.mem_singleton.mp z, List.length_map, sl]
          · rcases List.mem_append.mp hr with z | z
            · exact mb row z x hx
            · rw [List.mem_singleton.mp z] at hx
              obtain ⟨y, hy, rfl⟩ := List.mem_map.mp hx
              have := sb y hy
              omega
      · rintro σ H8 ⟨sm8, ⟨m, hm, ml, mw', mb⟩, u, rfl⟩
        exact ⟨sm8, m, hm, ml, mw', mb, u, rfl⟩
    rintro σ9 H8 ⟨sm8, m, hm, ml, mw', mb, u, rfl⟩
    -- last
    refine cut (fun σ H9 => Same H8 H9 ∧ ∃ la, H8 la = none ∧ H9 la = some (.lst []) ∧ σ = [some (V.int cell3), some (V.int wd), some (V.int mn), some (V.bl mx), some (V.int wi), some (V.ref cn), some (V.ref dr), some (V.ref rw'), u, some (V.ref la), none]) ?_ ?_
    · simp_arith []
      exact ⟨by show 0 ≤ sizeLine; decide, fun p hp => ⟨same_upd hp, p, hp, upd_same, rfl⟩⟩
    rintro σ10 H9 ⟨sm9, la, nla, hla, rfl⟩
    have hcn8 := sm8 _ _ (sm6 _ _ hcn)
    refine cut (fun σ H10 => Same H8 H10 ∧ H10 la = some (.lst (((List.range wd).map fun j => -(sumTo mn fun k => cs.getD k 0 * num m k j)).map V.int)) ∧ ∃ u v, σ = [some (V.int cell3), some (V.int wd), some (V.int mn), some (V.bl mx), some (V.int wi), some (V.ref cn), some (V.ref dr), some (V.ref rw'), u, some (V.ref la), v]) ?_ ?_
    · simp_arith []
      refine ⟨by omega, by omega, ?_⟩
      rw [Int.toNat_natCast]
      refine loop_range (fun i σ H10 => Same H8 H10 ∧ H10 la = some (.lst (((List.range i).map fun j => -(sumTo mn fun k => cs.getD k 0 * num m k j)).map V.int)) ∧ ∃ u v, σ = [some (V.int cell3), some (V.int wd), some (V.int mn), some (V.bl mx), some (V.int wi), some (V.ref cn), some (V.ref dr), some (V.ref rw'), u, some (V.ref la), v]) ⟨sm9, hla, _, _, rfl⟩ ?_ ?_
      · rintro i σ H10 hi ⟨sm10, hla10, u', v', rfl⟩
        obtain ⟨rs, g1, g2, g3⟩ := hm.mat.same sm10
        have rl := g2.length
        simp_arith [Int.zero_add]
        refine ⟨.inl ⟨rfl, _, SqL.of hla10⟩, ⟨_, SqL.of (sm10 _ _ hcn8)⟩, ⟨_, SqL.of g1⟩, ?_⟩
        refine lc_zip (K := K) (xs := cs.map V.int) (ys := rs.map V.ref) (fun i2 σ H11 zs => Same H10 H11 ∧ TwoA (V.int i) σ ∧ zs = ((List.range i2).map fun k => cs.getD k 0 * num m k i).map V.int)
          ⟨Same.refl _, tw3, rfl⟩ (fun i2 σ H11 zs _ _ ⟨e, _⟩ => ⟨e.seq (SqL.of (sm10 _ _ hcn8)), SqL.of (e _ _ g1)⟩) ?_ ?_
        · rintro i2 x y t σ H11 zs hx hy ⟨sm11, ⟨u2, v2, rfl⟩, rfl⟩ ht
          obtain ⟨z, hz, rfl⟩ := map_int hx
          obtain ⟨r, hr', rfl⟩ := map_ref hy
          have hi2 : i2 < m.length := by rw [← rl]; exact (List.getElem?_eq_some_iff.mp hr').1
          obtain ⟨row, hrow⟩ : ∃ row, m[i2]? = some row := ⟨_, List.getElem?_eq_getElem hi2⟩
          obtain ⟨r', g0, q0⟩ := Paired.getL g2 hrow
          obtain rfl : r = r' := Option.some.inj (hr'.symm.trans g0)
          have hl : row.length = wd := mw' row (List.mem_of_getElem? hrow)
          have hnr : num m i2 i = row[i]'(by omega) := by
            unfold num
            simp only [List.getD_eq_getElem?_getD, hrow, Option.getD_some]
            rw [List.getElem?_eq_getElem (by omega)]; rfl
          have hcs : cs.getD i2 0 = z := by rw [List.getD_eq_getElem?_getD, hz]; rfl
          have hb := mb row (List.mem_of_getElem? hrow) _ (List.getElem_mem (show i < row.length by omega))
          refine gTup2 upd_same ?_
          simp_arith []
          refine ⟨_, SqL.of ((sm11.trans (same_upd ht)) _ _ q0), _, atI_nat (by rw [List.getElem?_map, List.getElem?_eq_getElem (show i < row.length by omega)]; rfl), _, rfl, mulA_r (by omega) (by omega), ?_, sm11.trans (same_upd ht), tw3, ?_⟩
          · rw [List.length_map, List.length_map, List.length_range]; exact small1000 (by omega)
          · rw [List.range_succ, List.map_append, List.map_append, ← hnr, ← hcs]; rfl
        · rintro σ H11 zs ⟨sm11, _, rfl⟩
          have e : min (cs.map V.int).length (rs.map V.ref).length = mn := by rw [List.length_map, List.length_map, rl, csl, ml, Nat.min_self]
          rw [e]
          refine ⟨by rw [List.length_map, List.length_map, List.length_range]; exact Nat.le_of_lt (small1000 (by omega)), fun p hp => ⟨p, rfl, _, SqL.of upd_same, ?_⟩⟩
          rw [sum_sumTo]
          have hla11 := (sm11.trans (same_upd (o := HO.lst (((List.range mn).map fun k => cs.getD k 0 * num m k i).map V.int)) hp)) _ _ hla10
          refine ⟨_, hla11, by rw [List.length_map, List.length_map, List.length_range]; exact small1000 (by omega), fun b o e => ?_, ?_, _, rfl⟩
          · rw [upd_ne (ne_of_none e nla)]
            exact (same_upd hp) _ _ (sm11 _ _ (sm10 _ _ e))
          · rw [upd_same, List.range_succ, List.map_append, List.map_append]; rfl
      · rintro σ H10 h
        exact h
    rintro σ11 H10 ⟨sm10, hla10, u2, v2, rfl⟩
    obtain ⟨rs, f1, f2, g3, g4, g5, g6⟩ := hm
    have g1 := sm10 _ _ f1
    have g2 : Paired (fun r row => H10 r = some (.lst (List.map V.int row))) rs m := Paired.impL f2 fun _ _ e => sm10 _ _ e
    have hcn10 := sm10 _ _ hcn8
    have rl := g2.length
    have nlr : la ∉ rs := fun z => by
      obtain ⟨row, _, e⟩ := Paired.memL f2 z
      rw [e] at nla; cases nla
    have smH8 := smH6.trans sm8
    have smH10 := smH8.trans sm10
    generalize hlast : ((List.range wd).map fun j => -(sumTo mn fun k => cs.getD k 0 * num m k j)) = last at hla10
    simp_arith []
    refine ⟨by show 1 ≤ sizeLine; decide, fun p hp => ?_⟩
    have sA := same_upd (o := HO.lst [V.ref la]) hp
    refine ⟨_, sA _ _ g1, _, upd_same, by rw [List.length_map]; exact Nat.le_of_lt (small1000 (by simp only [List.length_cons, List.length_nil]; omega)), fun p1 hp1 => ⟨by show 1 ≤ sizeLine; decide, fun p2 hp2 => ?_⟩⟩
    have sB := sA.trans (same_upd (o := HO.lst (rs.map V.ref ++ [V.ref la])) hp1)
    have sC := sB.trans (same_upd (o := HO.lst [V.int 1]) hp2)
    refine ⟨_, sC _ _ hcn10, _, upd_same, by rw [List.length_map]; exact Nat.le_of_lt (small1000 (by simp only [List.length_cons, List.length_nil]; omega)), fun p3 hp3 => ⟨by show 2 ≤ sizeLine; decide, fun p4 hp4' => ?_⟩⟩
    have sD' := same_upd (o := HO.lst (cs.map V.int ++ [V.int 1])) hp3
    have sE' := same_upd (o := HO.lst [V.ref p1, V.ref p3]) hp4'
    have sBE := ((same_upd (o := HO.lst [V.int 1]) hp2).trans sD').trans sE'
    have sE := (sC.trans sD').trans sE'
    have csb0 : ∀ k, k < mn → 1 ≤ cs.getD k 0 ∧ cs.getD k 0 ≤ sz := fun k hk => csb _ (getD_mem (by omega))
    have numb : ∀ k j, k < mn → j < wd → -wi ≤ num m k j ∧ num m k j ≤ wi := fun k j hk hj => by
      have e : m.getD k [] = m[k]'(by omega) := by rw [List.getD_eq_getElem?_getD, List.getElem?_eq_getElem (by omega)]; rfl
      unfold num
      rw [e]
      have hmem := List.getElem_mem (l := m) (show k < m.length by omega)
      exact mb _ hmem _ (getD_mem (by rw [mw' _ hmem]; exact hj))
    have lastb : ∀ j, j < wd → -9 ≤ -(sumTo mn fun k => cs.getD k 0 * num m k j) ∧ -(sumTo mn fun k => cs.getD k 0 * num m k j) ≤ 9 := fun j hj => by
      have h1 : ∀ k, k < mn → -(sz * wi) ≤ cs.getD k 0 * num m k j ∧ cs.getD k 0 * num m k j ≤ sz * wi := fun k hk => by
        have c1 := csb0 k hk
        have n1 := numb k j hk hj
        have a1 : cs.getD k 0 * num m k j ≤ cs.getD k 0 * wi := Int.mul_le_mul_of_nonneg_left n1.2 (by omega)
        have a2 : cs.getD k 0 * wi ≤ sz * wi := Int.mul_le_mul_of_nonneg_right c1.2 (by omega)
        have a3 : cs.getD k 0 * -wi ≤ cs.getD k 0 * num m k j := Int.mul_le_mul_of_nonneg_left n1.1 (by omega)
        have e3 : cs.getD k 0 * -wi = -(cs.getD k 0 * wi) := by grind
        omega
      have h2 := sumTo_sym mn h1
      unfold P4 at hp4
      rcases hp4 with ⟨rfl, rfl, rfl⟩ | ⟨rfl, rfl, rfl⟩ | ⟨rfl, rfl, rfl⟩ | ⟨rfl, rfl, rfl⟩ <;> omega
    refine k p4 p1 p3 _ (m ++ [last]) (cs ++ [1]) ((smH10.trans (sC.trans sD')).free hp4') (smH10.trans sE) upd_same ⟨rs ++ [la], ?_, ?_, ?_, ?_, (smH10.trans sA).free hp1, fun r hr => ?_⟩ ((smH10.trans sC).free hp3) ?_ ?_
    · rw [sBE _ _ upd_same, List.map_append]; rfl
    · refine Paired.snocL ?_ (Paired.impL g2 fun _ _ e => sE _ _ e)
      exact sE _ _ hla10
    · intro z
      rcases List.mem_append.mp z with z | z
      · obtain ⟨row, _, e⟩ := Paired.memL g2 z
        have := sA _ _ e
        rw [hp1] at this; cases this
      · rw [List.mem_singleton.mp z] at hp1
        have := sA _ _ hla10
        rw [hp1] at this; cases this
    · rw [List.nodup_append]
      exact ⟨g4, by simp, fun x hx y hy e => nlr (by rw [← List.mem_singleton.mp hy, ← e]; exact hx)⟩
    · rcases List.mem_append.mp hr with z | z
      · exact smH6.free (g6 r z)
      · rw [List.mem_singleton.mp z]; exact smH8.free nla
    · rw [sE' _ _ upd_same, List.map_append]; rfl
    · have ll : last.length = wd := by rw [← hlast, List.length_map, List.length_range]
      have lm : (m ++ [last]).length = mn + 1 := by rw [List.length_append, ml]; rfl
      refine ⟨fun row hr => ?_, fun row hr x hx => ?_, ?_, by omega, by omega, fun x hx => ?_, by simp, fun j hj => ?_⟩
      · rcases List.mem_append.mp hr with z | z
        · exact mw' row z
        · rw [List.mem_singleton.mp z, ll]
      · rcases List.mem_append.mp hr with z | z
        · have := mb row z x hx; omega
        · rw [List.mem_singleton.mp z, ← hlast] at hx
          obtain ⟨j, hj, rfl⟩ := List.mem_map.mp hx
          exact lastb j (List.mem_range.mp hj)
      · rw [lm, List.length_append, csl]; rfl
      · rcases List.mem_append.mp hx with z | z
        · have := csb x z; omega
        · rw [List.mem_singleton.mp z]; decide
      · rw [lm]
        show (sumTo mn fun k => (cs ++ [1]).getD k 0 * num (m ++ [last]) k j) + (cs ++ [1]).getD mn 0 * num (m ++ [last]) mn j = 0
        have e1 : (sumTo mn fun k => (cs ++ [1]).getD k 0 * num (m ++ [last]) k j) = sumTo mn fun k => cs.getD k 0 * num m k j := by
          apply sumTo_congr
          intro k hk
          have q1 : (cs ++ [1]).getD k 0 = cs.getD k 0 := by rw [List.getD_eq_getElem?_getD, List.getElem?_append_left (by omega), ← List.getD_eq_getElem?_getD]
          have q2 : num (m ++ [last]) k j = num m k j := by unfold num; rw [List.getD_eq_getElem?_getD (l := m ++ [last]), List.getElem?_append_left (by omega), ← List.getD_eq_getElem?_getD]
          rw [q1, q2]
        have e2 : (cs ++ [1]).getD mn 0 = 1 := by rw [List.getD_eq_getElem?_getD, List.getElem?_append_right (by omega), csl, Nat.sub_self]; rfl
        have e3 : num (m ++ [last]) mn j = -(sumTo mn fun k => cs.getD k 0 * num m k j) := by
          unfold num
          rw [List.getD_eq_getElem?_getD (l := m ++ [last]), List.getElem?_append_right (by omega), ml, Nat.sub_self]
          show last.getD j 0 = _
          rw [← hlast, List.getD_eq_getElem?_getD, List.getElem?_map, List.getElem?_range hj]; rfl
        rw [e1, e2, e3]; omega
end
noncomputable def PtH (H : Hp) (t : Addr) (p : Pt) : Prop := ∃ c, H t = some (.tup [.int p.1, .int p.2.1, .ref c]) ∧ H c = some (.lst (p.2.2.map V.int))
theorem PtH.same {H H' : Hp} {t : Addr} {p : Pt} (h : PtH H t p) (s : Same H H') : PtH H' t p := by
  obtain ⟨c, h1, h2⟩ := h
  exact ⟨c, s _ _ h1, s _ _ h2⟩
noncomputable def Parts (H : Hp) (pl : Addr) (ps : List Pt) : Prop := ∃ ts : List Addr, H pl = some (.lst (ts.map V.ref)) ∧ Paired (PtH H) ts ps
theorem Parts.same {H H' : Hp} {pl : Addr} {ps : List Pt} (h : Parts H pl ps) (s : Same H H') : Parts H' pl ps := by
  obtain ⟨ts, h1, h2⟩ := h
  exact ⟨ts, s _ _ h1, Paired.impL h2 fun _ _ e => e.same s⟩
noncomputable def PtX (r : Addr) (H : Hp) (t : Addr) (p : Pt) : Prop := t ≠ r ∧ ∃ c, c ≠ r ∧ H t = some (.tup [.int p.1, .int p.2.1, .ref c]) ∧ H c = some (.lst (p.2.2.map V.int))
noncomputable def PartsX (H : Hp) (r : Addr) (ps : List Pt) : Prop := ∃ ts : List Addr, H r = some (.lst (ts.map V.ref)) ∧ Paired (PtX r H) ts ps
theorem PartsX.parts {H : Hp} {r : Addr} {ps : List Pt} (h : PartsX H r ps) : Parts H r ps := by
  obtain ⟨ts, h1, h2⟩ := h
  exact ⟨ts, h1, Paired.impL h2 fun _ _ ⟨_, c, _, e1, e2⟩ => ⟨c, e1, e2⟩⟩
theorem PtX.same {r : Addr} {H H' : Hp} {t : Addr} {p : Pt} (h : PtX r H t p) (s : Same H H') : PtX r H' t p := by
  obtain ⟨a, c, b, e1, e2⟩ := h
  exact ⟨a, c, b, s _ _ e1, s _ _ e2⟩
theorem PartsX.same {H H' : Hp} {r : Addr} {ps : List Pt} (h : PartsX H r ps) (s : Same H H') : PartsX H' r ps := by
  obtain ⟨ts, h1, h2⟩ := h
  exact ⟨ts, s _ _ h1, Paired.impL h2 fun _ _ e => e.same s⟩
theorem PartsX.add {H : Hp} {r q c : Addr} {ps : List Pt} {t b : Int} {row : List Int} {xs : List V} (h : PartsX H r ps) (hq : H q = none) (hc : H c = some (.lst (row.map V.int))) (ncr : c ≠ r) (hx : (upd H q (.tup [.int t, .int b, .ref c])) r = some (.lst xs)) :
    PartsX (upd (upd H q (.tup [.int t, .int b, .ref c])) r (.lst (xs ++ [.ref q]))) r (ps ++ [(t, b, row)]) := by
  obtain ⟨ts, t1, t2⟩ := h
  have nqr : q ≠ r := fun e => by rw [e, t1] at hq; cases hq
  have e : xs = ts.map V.ref := by
    rw [upd_ne (Ne.symm nqr), t1] at hx; cases hx; rfl
  refine ⟨ts ++ [q], by rw [upd_same, List.map_append, e]; rfl, Paired.snocL ?_ (Paired.impL t2 fun t' p' ⟨a1, c', b1', e1, e2⟩ => ?_)⟩
  · exact ⟨nqr, c, ncr, by rw [upd_ne nqr]; exact upd_same, by rw [upd_ne ncr]; exact same_upd hq _ _ hc⟩
  · exact ⟨a1, c', b1', by rw [upd_ne a1]; exact same_upd hq _ _ e1, by rw [upd_ne b1']; exact same_upd hq _ _ e2⟩
noncomputable def someL (row : List Int) : List Nat := (List.range row.length).filter fun j => decide (¬ row.getD j 0 = 0)
theorem someL_off (row : List Int) : (offOf row.length row).map V.int = (someL row).map fun j : Nat => V.int (j : Int) := by
  unfold offOf someL; rw [List.map_map]; rfl
theorem someL_mem {row : List Int} (hn : ∀ k, 0 ≤ vecOf row k) {k : Nat} : k ∈ someL row ↔ 0 < vecOf row k := by
  unfold someL
  rw [List.mem_filter, List.mem_range, decide_eq_true_eq]
  have e : vecOf row k = row.getD k 0 := rfl
  constructor
  · rintro ⟨_, h2⟩
    have := hn k
    rw [e] at this ⊢; omega
  · intro h
    refine ⟨Classical.byContradiction fun z => by rw [vec_out (by omega)] at h; omega, ?_⟩
    rw [e] at h; omega
noncomputable def sp_ftr (K : PySem.W.Frag) : Sp := fun vs H Q _ => ∃ (r l : Addr), vs = [.ref r, .ref l] ∧ ∃ rs row : List Int, SqL K H r (rs.map V.int) ∧ SqL K H l (row.map V.int) ∧ rs.length = row.length ∧ row.length ≤ 10 ∧ (∀ k, 0 ≤ vecOf row k) ∧ (∀ k, (vecOf row k).natAbs < 2 ^ 36 + 1) ∧ (∃ k, 0 < vecOf row k) ∧
  ∀ (p : Nat) H', Same H H' → 0 < vecOf row p → (∀ k, 0 < vecOf row k → vecOf rs p * vecOf row k ≤ vecOf rs k * vecOf row p) → Q (.int p) H'
theorem vec_at' {c : List Int} {i : Nat} (h : i < c.length) : (c.map V.int)[i]? = some (V.int (vecOf c i)) := by
  rw [List.getElem?_map, List.getElem?_eq_getElem h]
  unfold vecOf
  rw [List.getD_eq_getElem?_getD, List.getElem?_eq_getElem h]; rfl
section
variable {P : Program} {w : World} {K : PySem.W.Frag} {mg : Str → Option Value} {base : Heap}
theorem sc_first_to_run_out : FnScope ["rest", "row", "scarcest", "place"] ["rest", "row"] (defScope s_first_to_run_out) := ⟨rfl, rfl, rfl, by decide +kernel, rfl, by decide +kernel, by decide +kernel⟩
theorem c_first_to_run_out (T : Txt K mg) : Cal P w K mg base "first_to_run_out" 2 ["rest", "row"] (sp_ftr K) := by
  refine T.first_to_run_out.ok sc_first_to_run_out (fun vs H Q E h => ?_) (fun f cdv A outer s H vs Q E hr h => ?_)
  · obtain ⟨r, l, rfl, _⟩ := h; rfl
  · obtain ⟨r, l, rfl, rs, row, hR, hL, len, l10, rn, rb, hsome, k⟩ := h
    have B := T.B
    have c_places := c_places (P := P) (w := w) (base := base) T
    have hpos : ∀ x ∈ row, 0 ≤ x := fun x hx => by
      obtain ⟨i, hi, rfl⟩ := List.getElem_of_mem hx
      have := rn i
      unfold vecOf at this
      rwa [List.getD_eq_getElem?_getD, List.getElem?_eq_getElem hi] at this
    have mem := fun k => someL_mem (k := k) rn
    have lt : ∀ k, 0 < vecOf row k → k < row.length := fun k hk => Classical.byContradiction fun z => by rw [vec_out (by omega)] at hk; omega
    obtain ⟨k0, rest', he⟩ : ∃ k0 rest', someL row = k0 :: rest' := by
      obtain ⟨k0, hk0⟩ := hsome
      cases e : someL row with
      | nil => have := (mem k0).mpr hk0; rw [e] at this; cases this
      | cons a l => exact ⟨a, l, rfl⟩
    have h0 : 0 < vecOf row k0 := (mem k0).mp (by rw [he]; exact .head _)
    have mA : ∀ (x : Int) k, CMulA x (vecOf row k) := fun x k => by have := rb k; exact mulA_r (by omega) (by omega)
    have atR : ∀ {H' : Hp} (i : Nat), 0 < vecOf row i → atI (rs.map V.int) (i : Int) = some (V.int (vecOf rs i)) := fun i hi => atI_nat (vec_at' (by rw [len]; exact lt i hi))
    have atL : ∀ {H' : Hp} (i : Nat), 0 < vecOf row i → atI (row.map V.int) (i : Int) = some (V.int (vecOf row i)) := fun i hi => atI_nat (vec_at' (lt i hi))
    refine ⟨_, (pss_cut (ps_set (i := 2) sc_first_to_run_out.nd rfl (Or.inl rfl) (pe_ix ix_list (pe_cal c_places (hr.mono (by decide)) (pa_cons (pv 1) pa_nil)) pe_int (fun _ _ => rfl)))
 (pss_cut (ps_for PassesOwn.never rfl (pi_list (pe_cal c_places (hr.mono (by decide)) (pa_cons (pv 1) pa_nil))) (pg_name (i := 3) sc_first_to_run_out.nd rfl (Or.inl rfl)) (pss_one (ps_if (pt_cmpR op_lt (pe_op op_mulA (pe_ix ix_list (pv 0) (pv 3) (fun _ _ => rfl)) (pe_ix ix_list (pv 1) (pv 2) (fun _ _ => rfl))) (pe_op op_mulA (pe_ix ix_list (pv 0) (pv 2) (fun _ _ => rfl)) (pe_ix ix_list (pv 1) (pv 3) (fun _ _ => rfl))) (nomark _)) (pss_one (ps_set (i := 2) sc_first_to_run_out.nd rfl (Or.inl rfl) (pv 3))) pss_nil)))
 (pss_one (ps_ret (pv 2))))), ?_⟩
    change tCut _ _ _ [some (V.ref r), some (V.ref l), none, none] H
    refine cut (fun σ H1 => Same H H1 ∧ σ = [some (V.ref r), some (V.ref l), some (V.int k0), none]) ?_ ?_
    · simp_arith [sp_places]
      refine ⟨row, hL, l10, hpos, fun p H' _ sm e1 => ?_⟩
      rw [someL_off, he] at e1
      exact ⟨_, SqL.of e1, _, atI_nat (j := 0) rfl, sm, rfl⟩
    rintro σ1 H1 ⟨sm1, rfl⟩
    refine cut (fun σ H2 => Same H H2 ∧ ∃ q : Nat, (0 < vecOf row q ∧ ∀ k, 0 < vecOf row k → vecOf rs q * vecOf row k ≤ vecOf rs k * vecOf row q) ∧ ∃ u, σ = [some (V.ref r), some (V.ref l), some (V.int q), u]) ?_ ?_
    · simp_arith [sp_places]
      refine ⟨row, sm1.seq hL, l10, hpos, fun p H2 _ sm2 e2 => ?_⟩
      rw [someL_off] at e2
      refine ⟨⟨_, SqL.of e2⟩, loop_list (K := K) (xs := (someL row).map fun j : Nat => V.int (j : Int)) (fun i σ H3 => H2 = H3 ∧ ∃ q : Nat, (0 < vecOf row q ∧ ∀ k ∈ (someL row).take i, vecOf rs q * vecOf row k ≤ vecOf rs k * vecOf row q) ∧ ∃ u, σ = [some (V.ref r), some (V.ref l), some (V.int q), u])
        ⟨rfl, k0, ⟨h0, fun k hk => by simp at hk⟩, _, rfl⟩ (fun i σ H3 _ ⟨e, _⟩ => e ▸ SqL.of e2) ?_ ?_⟩
      · rintro i y σ _ hi ⟨rfl, q, ⟨hq, hmin⟩, u, rfl⟩
        rw [List.getElem?_map] at hi
        obtain ⟨j, hj, rfl⟩ := Option.map_eq_some_iff.mp hi
        have hjp : 0 < vecOf row j := (mem j).mp (List.mem_of_getElem? hj)
        have hR2 := sm2.seq (sm1.seq hR)
        have hL2 := sm2.seq (sm1.seq hL)
        simp_arith []
        refine ⟨_, hR2, _, atR (H' := H2) j hjp, _, hL2, _, atL (H' := H2) q hq, _, rfl, _, rfl, mA _ _, _, hR2, _, atR (H' := H2) q hq, _, hL2, _, atL (H' := H2) j hjp, _, rfl, _, rfl, mA _ _, ite2 (fun hlt => ?_) fun hge => ?_⟩
        · refine ⟨j, hjp, fun k hk => ?_, rfl, _, rfl⟩
          rw [List.take_add_one, hj] at hk
          rcases List.mem_append.mp hk with z | z
          · have h1 := hmin k z
            have hkp : 0 < vecOf row k := (mem k).mp (List.mem_of_mem_take z)
            have e1 : vecOf rs j * vecOf row q * vecOf row k ≤ vecOf rs q * vecOf row j * vecOf row k := Int.mul_le_mul_of_nonneg_right (by omega) (by omega)
            have e2 : vecOf rs q * vecOf row k * vecOf row j ≤ vecOf rs k * vecOf row q * vecOf row j := Int.mul_le_mul_of_nonneg_right h1 (by omega)
            have e3 : vecOf row q * (vecOf rs j * vecOf row k) ≤ vecOf row q * (vecOf rs k * vecOf row j) := by
              have a1 : vecOf row q * (vecOf rs j * vecOf row k) = vecOf rs j * vecOf row q * vecOf row k := by grind
              have a2 : vecOf row q * (vecOf rs k * vecOf row j) = vecOf rs k * vecOf row q * vecOf row j := by grind
              have a3 : vecOf rs q * vecOf row j * vecOf row k = vecOf rs q * vecOf row k * vecOf row j := by grind
              rw [a1, a2]; omega
            exact Int.le_of_mul_le_mul_left e3 hq
          · obtain rfl : k = j := by simpa using z
            exact Int.le_refl _
        · refine ⟨q, hq, fun k hk => ?_, rfl, _, rfl⟩
          rw [List.take_add_one, hj] at hk
          rcases List.mem_append.mp hk with z | z
          · exact hmin k z
          · obtain rfl : k = j := by simpa using z
            omega
      · rintro σ _ ⟨rfl, q, ⟨hq, hmin⟩, u, rfl⟩
        rw [List.length_map, List.take_length] at hmin
        exact ⟨sm1.trans sm2, q, hq, fun k hk => hmin k ((mem k).mpr hk), u, rfl⟩
    rintro σ2 H2 ⟨sm2, q, ⟨hq, hmin⟩, u, rfl⟩
    simp_arith []
    exact k q H2 sm2 hq hmin
end
noncomputable def sp_made (K : PySem.W.Frag) : Sp := fun vs H Q _ => ∃ (wd : Int) (d c : Addr), vs = [.int wd, .ref d, .ref c] ∧ ∃ (w : Nat) (m : List (List Int)) (cs : List Int), wd = (w : Int) ∧ Mat H d m ∧ Wk w m ∧ SqL K H c (cs.map V.int) ∧ My.Rd w m cs ∧ (∀ x ∈ cs, x ≤ 10 ^ 12) ∧
  ∀ r H' ps, Same H H' → Parts H' r ps → (∃ rs B, MI w m cs (leanL w m).length ps.reverse rs B) → Q (.ref r) H'
noncomputable def But (r : Addr) (H H' : Hp) : Prop := ∀ b o, b ≠ r → H b = some o → H' b = some o
theorem But.trans {r : Addr} {H H1 H2 : Hp} (a : But r H H1) (b : But r H1 H2) : But r H H2 := fun c o n h => b c o n (a c o n h)
theorem But.of {r : Addr} {H H1 : Hp} (a : Same H H1) : But r H H1 := fun c o _ h => a c o h
structure Wst (w : Nat) (m : List (List Int)) (cs : List Int) (i : Nat) (H1 H2 : Hp) (r re : Addr) (B : Int) (ps : List Pt) (rs : List Int) : Prop where
  but : But r H1 H2
  rest : H2 re = some (.lst (rs.map V.int))
  ne : re ≠ r
  parts : PartsX H2 r ps
  mi : MI w m cs i ps.reverse rs B
noncomputable def WstE (w : Nat) (m : List (List Int)) (cs : List Int) (i : Nat) (H1 H2 : Hp) (r re : Addr) (B : Int) : Prop := ∃ ps rs, Wst w m cs i H1 H2 r re B ps rs
section
variable {P : Program} {w : World} {K : PySem.W.Frag} {mg : Str → Option Value} {base : Heap}
theorem sc_made_of : FnScope ["width", "deeds", "counts", "rest", "bottom", "parts", "row", "place", "have", "need", "share"] ["width", "deeds", "counts"] (defScope s_made_of) := ⟨rfl, rfl, rfl, by decide +kernel, rfl, by decide +kernel, by decide +kernel⟩
theorem c_made_of (T : Txt K mg) : Cal P w K mg base "made_of" 8 ["width", "deeds", "counts"] (sp_made K) := by
  refine T.made_of.ok sc_made_of (fun vs H Q E h => ?_) (fun f cdv A outer s H vs Q E hr h => ?_)
  · obtain ⟨wd, d, c, rfl, _⟩ := h; rfl
  · obtain ⟨_, d, c, rfl, wd, m, cs, rfl, hm, wk, hc, rd, cb, k⟩ := h
    have B := T.B
    have c_lean_rounds := c_lean_rounds (P := P) (w := w) (base := base) T
    have c_is_within := c_is_within (P := P) (w := w) (base := base) T
    have c_deed_set := c_deed_set (P := P) (w := w) (base := base) T
    have c_first_to_run_out := c_first_to_run_out (P := P) (w := w) (base := base) T
    have c_fraction := c_fraction (P := P) (w := w) (base := base) T
    refine ⟨_, (pss_cut (ps_set (i := 3) sc_made_of.nd rfl (Or.inl rfl) (pe_callTy call_list_of rfl B.list boot_list (pa_cons (pv 2) pa_nil)))
 (pss_cut (ps_set (i := 4) sc_made_of.nd rfl (Or.inl rfl) pe_int)
 (pss_cut (ps_set (i := 5) sc_made_of.nd rfl (Or.inl rfl) (pe_lst pa_nil))
 (pss_cut (ps_for PassesOwn.never rfl (pi_list (pe_cal c_lean_rounds (hr.mono (by decide)) (pa_cons (pv 0) (pa_cons (pv 1) pa_nil)))) (pg_name (i := 6) sc_made_of.nd rfl (Or.inl rfl)) (pss_one (ps_if (pt_val (pe_cal c_is_within (hr.mono (by decide)) (pa_cons (pe_cal c_deed_set (hr.mono (by decide)) (pa_cons (pv 6) pa_nil)) (pa_cons (pe_cal c_deed_set (hr.mono (by decide)) (pa_cons (pv 3) pa_nil)) pa_nil)))) (pss_cut (ps_set (i := 7) sc_made_of.nd rfl (Or.inl rfl) (pe_cal c_first_to_run_out (hr.mono (by decide)) (pa_cons (pv 3) (pa_cons (pv 6) pa_nil))))
 (pss_cut (ps_set (i := 8) sc_made_of.nd rfl (Or.inr rfl) (pe_ix ix_list (pv 3) (pv 7) (fun _ _ => rfl)))
 (pss_cut (ps_set (i := 9) sc_made_of.nd rfl (Or.inr rfl) (pe_ix ix_list (pv 6) (pv 7) (fun _ _ => rfl)))
 (pss_cut (ps_set (i := 10) sc_made_of.nd rfl (Or.inl rfl) (pe_cal c_fraction (hr.mono (by decide)) (pa_cons (pv 8) (pa_cons (pe_op op_mulA (pv 4) (pv 9)) pa_nil))))
 (pss_cut (ps_expr (pe_bm PySem.F.plainAttrs_list PySem.F.slot_list_append PySem.F.type_list_append mt_append (pv 5) (pa_cons (pe_tup (pa_cons (pe_ix ix_tup (pv 10) pe_int (fun _ _ => rfl)) (pa_cons (pe_ix ix_tup (pv 10) pe_int (fun _ _ => rfl)) (pa_cons (pv 6) pa_nil)))) pa_nil)))
 (pss_cut (ps_lc (i := 3) sc_made_of.nd rfl (pi_zip rfl B.zip (pa_cons (pv 3) (pa_cons (pv 6) pa_nil))) (.cons rfl (.cons rfl .nil)) (.own (x := "left") (.own (x := "count") (.cap (x := "need") (j := 9) rfl (Or.inl rfl) (Or.inl rfl) ⟨_, rfl⟩ (.cap (x := "have") (j := 8) rfl (Or.inl rfl) (Or.inl rfl) ⟨_, rfl⟩ .nil)))) (fun _ _ _ _ => (pg_tupK (K := K) (n := 2) rfl rfl (pgs_cons (pg_name (i := 0) (show (["left", "count", "need", "have"] : List Str).Nodup from by decide +kernel) rfl (Or.inl rfl)) (pgs_cons (pg_name (i := 1) (show (["left", "count", "need", "have"] : List Str).Nodup from by decide +kernel) rfl (Or.inl rfl)) pgs_nil)))) (fun _ _ _ _ => ifs_nil) (fun _ _ _ _ => (pe_op op_sub (pe_op op_mulA (pv 0) (pv 2)) (pe_op op_mulA (pv 3) (pv 1)))))
 (pss_one (ps_set (i := 4) sc_made_of.nd rfl (Or.inl rfl) (pe_op op_mulA (pv 4) (pv 9)))))))))) pss_nil)))
 (pss_one (ps_ret (pv 5))))))), ?_⟩
    change tCut _ _ _ [some (V.int wd), some (V.ref d), some (V.ref c), none, none, none, none, none, none, none, none] H
    refine cut (fun σ H1 => Same H H1 ∧ ∃ re, H re = none ∧ H1 re = some (.lst (cs.map V.int)) ∧ σ = [some (V.int wd), some (V.ref d), some (V.ref c), some (V.ref re), none, none, none, none, none, none, none]) ?_ ?_
    · simp_arith []
      exact ⟨_, .inl hc, fun q hq => ⟨same_upd hq, q, hq, upd_same, rfl⟩⟩
    rintro σ1 H1 ⟨sm1, re, nre, hre, rfl⟩
    refine cut (fun σ H2 => H1 = H2 ∧ σ = [some (V.int wd), some (V.ref d), some (V.ref c), some (V.ref re), some (V.int 1), none, none, none, none, none, none]) ?_ ?_
    · simp_arith []
    rintro σ2 _ ⟨rfl, rfl⟩
    refine cut (fun σ H2 => Same H1 H2 ∧ ∃ r, H1 r = none ∧ H2 r = some (.lst []) ∧ σ = [some (V.int wd), some (V.ref d), some (V.ref c), some (V.ref re), some (V.int 1), some (V.ref r), none, none, none, none, none]) ?_ ?_
    · simp_arith []
      exact ⟨by show 0 ≤ sizeLine; decide, fun q hq => ⟨same_upd hq, q, hq, upd_same, rfl⟩⟩
    rintro σ3 H2 ⟨sm2, r, nr, hr2, rfl⟩
    have sm12 := sm1.trans sm2
    have hre2 := sm2 _ _ hre
    have ner : re ≠ r := fun e => by rw [e, nr] at hre; cases hre
    refine cut (fun σ H3 => Same H H3 ∧ ∃ ps, Parts H3 r ps ∧ (∃ rs B, MI wd m cs (leanL wd m).length ps.reverse rs B) ∧ ∃ x0 x1 x2 x3 x4 x5 x6, σ = [some (V.int wd), some (V.ref d), some (V.ref c), x0, x1, some (V.ref r), x2, x3, x4, x5, x6]) ?_ ?_
    · simp_arith [sp_leanF]
      refine ⟨wd, rfl, m, hm.same sm12, wk, fun lr H3 sm3 hM => ?_⟩
      obtain ⟨ls, l1, l2, l3, l4, l5, l6⟩ := hM
      have ll := l2.length
      have nlr : lr ≠ r := fun e => by rw [e, hr2] at l5; cases l5
      have nl : ∀ x ∈ ls, x ≠ r := fun x hx e => by have := l6 x hx; rw [e, hr2] at this; cases this
      have smH := sm12.trans sm3
      refine ⟨⟨_, SqL.of l1⟩, loop_list (K := K) (xs := ls.map V.ref) (fun i σ H4 => ∃ re B, WstE wd m cs i H3 H4 r re B ∧ ∃ x2 x3 x4 x5 x6, σ = [some (V.int wd), some (V.ref d), some (V.ref c), some (V.ref re), some (V.int B), some (V.ref r), x2, x3, x4, x5, x6])
        ⟨re, 1, ⟨[], cs, But.of (Same.refl _), sm3 _ _ hre2, ner, ⟨[], sm3 _ _ hr2, .nil⟩, rd.mi cb⟩, _, _, _, _, _, rfl⟩ (fun i σ H4 _ ⟨_, _, ⟨_, _, W⟩, _⟩ => SqL.of (W.but _ _ nlr l1)) ?_ ?_⟩
      · rintro i y σ H4 hi ⟨re4, Bt, ⟨ps, rs, W⟩, x2, x3, x4, x5, x6, rfl⟩
        obtain ⟨l, hl, rfl⟩ := map_ref hi
        have hip : i < (leanL wd m).length := by rw [← ll]; exact (List.getElem?_eq_some_iff.mp hl).1
        obtain ⟨row, hrow⟩ : ∃ row, (leanL wd m)[i]? = some row := ⟨_, List.getElem?_eq_getElem hip⟩
        obtain ⟨l', g0, q0⟩ := Paired.getL l2 hrow
        obtain rfl : l = l' := Option.some.inj (hl.symm.trans g0)
        have nlx := nl l (List.mem_of_getElem? hl)
        have hl4 := W.but _ _ nlx q0
        obtain ⟨lrow, lean, gr⟩ := (leanL_mem wk.wid row).mp (List.mem_of_getElem? hrow)
        have sml := lean_small wk.wid wk.w6 wk.num lrow lean gr
        have hre4 := W.rest
        have lrs := W.mi.len
        simp_arith [sp_in, sp_set]
        have nnr := lean.1.nn
        have vb : ∀ k, vecOf row k ≤ 62523502209 := fun k => by
          by_cases hk : k < row.length
          · exact sml _ (getD_mem hk)
          · rw [vec_out (by omega)]; decide
        have m10 := wk.many
        have R10 : ps.reverse.length ≤ 10 := by
          have h1 := W.mi.num
          have h2 := size_le m.length (vecOf cs)
          omega
        have Bt1 := W.mi.pos
        have BtN : Bt.natAbs ≤ 2 ^ 360 := by
          have h1 := W.mi.bb
          have e1 : ((2 ^ (36 * ps.reverse.length) : Nat) : Int) = 2 ^ (36 * ps.reverse.length) := Int.natCast_pow 2 _
          have h2 := Nat.pow_le_pow_right (n := 2) (by decide) (show 36 * ps.reverse.length ≤ 360 by omega)
          omega
        refine ⟨row, SqL.of hl4, rs, SqL.of hre4, _, rfl, _, rfl, ite2 (fun hin => ?_) fun hin => ?_⟩
        · have hs := (within_one lrow lrs).mp hin
          refine cut (fun σ H5 => Same H4 H5 ∧ ∃ p : Nat, (0 < vecOf row p ∧ ∀ k, 0 < vecOf row k → vecOf rs p * vecOf row k ≤ vecOf rs k * vecOf row p) ∧ σ = [some (V.int wd), some (V.ref d), some (V.ref c), some (V.ref re4), some (V.int Bt), some (V.ref r), some (V.ref l), some (V.int p), x4, x5, x6]) ?_ ?_
          · simp_arith [sp_ftr]
            exact ⟨rs, SqL.of hre4, row, SqL.of hl4, by omega, by omega, nnr, fun k => by have := vb k; have := nnr k; omega, lean.1.some, fun p H5 s5 h1 h2 => ⟨s5, p, h1, h2, rfl⟩⟩
          rintro σ5 H5 ⟨s5, p, ⟨hp, hmin⟩, rfl⟩
          have pl : p < m.length := lean.1.lt hp
          have pb := vb p
          have hre5 := s5 _ _ hre4
          have hl5 := s5 _ _ hl4
          refine cut (fun σ H6 => H5 = H6 ∧ σ = [some (V.int wd), some (V.ref d), some (V.ref c), some (V.ref re4), some (V.int Bt), some (V.ref r), some (V.ref l), some (V.int p), some (V.int (vecOf rs p)), x5, x6]) ?_ ?_
          · simp_arith []
            exact ⟨_, SqL.of hre5, _, atI_nat (vec_at' (by omega)), rfl⟩
          rintro σ6 _ ⟨rfl, rfl⟩
          refine cut (fun σ H6 => H5 = H6 ∧ σ = [some (V.int wd), some (V.ref d), some (V.ref c), some (V.ref re4), some (V.int Bt), some (V.ref r), some (V.ref l), some (V.int p), some (V.int (vecOf rs p)), some (V.int (vecOf row p)), x6]) ?_ ?_
          · simp_arith []
            exact ⟨_, SqL.of hl5, _, atI_nat (vec_at' (by omega)), rfl⟩
          rintro σ7 _ ⟨rfl, rfl⟩
          refine cut (fun σ H6 => Same H5 H6 ∧ ∃ sh, (∃ t b, H6 sh = some (.tup [.int t, .int b]) ∧ IsFr t b (vecOf rs p) (Bt * vecOf row p)) ∧ σ = [some (V.int wd), some (V.ref d), some (V.ref c), some (V.ref re4), some (V.int Bt), some (V.ref r), some (V.ref l), some (V.int p), some (V.int (vecOf rs p)), some (V.int (vecOf row p)), some (V.ref sh)]) ?_ ?_
          · simp_arith [sp_fr]
            refine ⟨mulA_r (by omega) (by omega), ?_, ?_, fun q H6 t b _ s6 e6 hF => ⟨s6, q, ⟨t, b, e6, hF⟩, rfl⟩⟩
            · have := Int.mul_pos (show 0 < Bt by omega) hp; omega
            · rw [Int.natAbs_mul]
              exact Nat.lt_of_le_of_lt (Nat.mul_le_mul BtN (show _ ≤ 2 ^ 36 by omega)) (by decide)
          rintro σ8 H6 ⟨s6, sh, ⟨t, b, hsh, hF⟩, rfl⟩
          have s46 := s5.trans s6
          have hre6 := s6 _ _ hre5
          have hl6 := s6 _ _ hl5
          have PX := W.parts.same s46
          obtain ⟨ts, t1, t2⟩ := id PX
          have tl := t2.length
          rw [List.length_reverse] at R10
          refine cut (fun σ H7 => But r H6 H7 ∧ PartsX H7 r (ps ++ [(t, b, row)]) ∧ σ = [some (V.int wd), some (V.ref d), some (V.ref c), some (V.ref re4), some (V.int Bt), some (V.ref r), some (V.ref l), some (V.int p), some (V.int (vecOf rs p)), some (V.int (vecOf row p)), some (V.ref sh)]) ?_ ?_
          · simp_arith []
            refine ⟨.inl ⟨rfl, _, SqL.of t1⟩, _, SqT.of hsh, _, rfl, _, SqT.of hsh, _, rfl, by show 3 ≤ sizeLine; decide, fun q hq => ⟨_, (same_upd hq) _ _ t1, by rw [List.length_map]; exact small1000 (by omega), fun b' o nb e => ?_, PX.add hq hl6 nlx ((same_upd hq) _ _ t1)⟩⟩
            rw [upd_ne nb]
            exact same_upd hq _ _ e
          rintro σ9 H7 ⟨bt7, PX7, rfl⟩
          have hre7 := bt7 _ _ W.ne hre6
          have hl7 := bt7 _ _ nlx hl6
          refine cut (fun σ H8 => Same H7 H8 ∧ ∃ re5, (re5 ≠ r ∧ H8 re5 = some (.lst ((takeOff (vecOf row p) (vecOf rs p) rs row).map V.int))) ∧ σ = [some (V.int wd), some (V.ref d), some (V.ref c), some (V.ref re5), some (V.int Bt), some (V.ref r), some (V.ref l), some (V.int p), some (V.int (vecOf rs p)), some (V.int (vecOf row p)), some (V.ref sh)]) ?_ ?_
          · simp_arith []
            refine ⟨⟨_, SqL.of hre7⟩, ⟨_, SqL.of hl7⟩, lc_zip (K := K) (xs := rs.map V.int) (ys := row.map V.int) (fun i σ H2 zs => Same H7 H2 ∧ TwoB (V.int (vecOf row p)) (V.int (vecOf rs p)) σ ∧ zs = ((takeOff (vecOf row p) (vecOf rs p) rs row).take i).map V.int)
              ⟨Same.refl _, tw4, rfl⟩ (fun i σ H2 zs _ _ ⟨e, _⟩ => ⟨SqL.of (e _ _ hre7), SqL.of (e _ _ hl7)⟩) ?_ ?_⟩
            · rintro i x y t σ H2 zs hx hy ⟨sm, ⟨u, v, rfl⟩, rfl⟩ ht
              obtain ⟨z, hz, rfl⟩ := map_int hx
              obtain ⟨z2, hz2, rfl⟩ := map_int hy
              have b2 := sml z2 (List.mem_of_getElem? hz2)
              have b3 : 0 ≤ z2 := by
                have := nnr i
                unfold vecOf at this
                rwa [List.getD_eq_getElem?_getD, hz2] at this
              refine gTup2 upd_same ?_
              simp_arith []
              refine ⟨mulA_r (by omega) (by omega), mulA_r (by omega) (by omega), ?_, sm.trans (same_upd ht), tw4, ?_⟩
              · unfold takeOff
                rw [List.length_map, List.length_take, List.length_zipWith]; exact small1000 (by omega)
              · rw [take_succ_of (x := z * vecOf row p - vecOf rs p * z2) (by unfold takeOff; rw [List.getElem?_zipWith, hz, hz2]), List.map_append]; rfl
            · rintro σ H2 zs ⟨sm, _, rfl⟩
              have tlen : (takeOff (vecOf row p) (vecOf rs p) rs row).length = m.length := by unfold takeOff; rw [List.length_zipWith]; omega
              rw [List.take_of_length_le (by rw [tlen, List.length_map, List.length_map]; omega)]
              refine ⟨by rw [List.length_map]; exact Nat.le_of_lt (small1000 (by omega)), fun q hq => ⟨sm.trans (same_upd hq), q, fun e => ?_, upd_same, rfl⟩⟩
              obtain ⟨ts7, z7, _⟩ := PX7
              rw [e, sm _ _ z7] at hq; cases hq
          rintro σ10 H8 ⟨s8, re5, ⟨ne5, hre8⟩, rfl⟩
          simp_arith []
          refine ⟨mulA_r (by omega) (by omega), re5, _, ⟨ps ++ [(t, b, row)], takeOff (vecOf row p) (vecOf rs p) rs row, ?_, hre8, ne5, PX7.same s8, ?_⟩, rfl, rfl, _, rfl⟩
          · exact W.but.trans ((But.of s46).trans (bt7.trans (But.of s8)))
          · rw [List.reverse_append]
            exact W.mi.step wk.wid wk.w6 wk.num m10 hrow hs hp hmin hF
        · have hs : ¬ ∀ k, 0 < vecOf row k → 0 < vecOf rs k := fun z => hin ((within_one lrow lrs).mpr z)
          exact ⟨re4, Bt, ⟨ps, rs, W.but, W.rest, W.ne, W.parts, W.mi.skip hrow hs⟩, rfl, rfl, _, rfl⟩
      · rintro σ H4 ⟨re4, Bt, ⟨ps, rs, W⟩, x2, x3, x4, x5, x6, rfl⟩
        have e2 : (ls.map V.ref).length = (leanL wd m).length := by rw [List.length_map, ll]
        have W' := W.mi
        rw [e2] at W'
        refine ⟨fun b o e => W.but b o (fun q => ?_) (smH _ _ e), ps, W.parts.parts, ⟨rs, Bt, W'⟩, _, _, _, _, _, _, _, rfl⟩
        have := sm1 _ _ e
        rw [q, nr] at this; cases this
    rintro σ4 H3 ⟨sm3, ps, hP, hMI, x0, x1, x2, x3, x4, x5, x6, rfl⟩
    simp_arith []
    exact k r H3 ps sm3 hP hMI
end
section
variable {P : Program} {w : World} {K : PySem.W.Frag} {mg : Str → Option Value} {base : Heap}
theorem sc_law_gcd : FnScope ["_law_row_here", "_law_found", "_law_x", "_law_one"] ["_law_row_here"] (defScope s_law_gcd) := ⟨rfl, rfl, rfl, by decide +kernel, rfl, by decide +kernel, by decide +kernel⟩
theorem c_law_gcd (T : Txt K mg) : Cal P w K mg base "_law_gcd" 1 ["_law_row_here"] (sp_gcd K) := by
  refine T.law_gcd.ok sc_law_gcd (fun vs H Q E h => ?_) (fun f cdv A outer s H vs Q E hr h => ?_)
  · obtain ⟨l, rfl, _⟩ := h; rfl
  · obtain ⟨l, rfl, xs, hS, k⟩ := h
    have B := T.B
    refine ⟨_, (pss_cons (ps_set (i := 1) sc_law_gcd.nd rfl (Or.inl rfl) pe_int)
 (pss_cons (ps_for PassesOwn.never rfl (pi_list (pv 0)) (pg_name (i := 2) sc_law_gcd.nd rfl (Or.inl rfl)) (pss_cons (ps_set (i := 3) sc_law_gcd.nd rfl (Or.inl rfl) (pe_callB call_abs rfl B.abs boot_abs (pa_cons (pv 2) pa_nil)))
 (pss_one (ps_while PassesOwn.never (pt_cmpR op_ne (pv 3) pe_int (nomark _)) (pss_one (ps_par (i := 1) (j := 3) rfl sc_law_gcd.nd rfl rfl (by decide) rfl rfl (pa_cons (pv 3) (pa_cons (pe_op op_modN (pv 1) (pv 3)) pa_nil)) rfl))))))
 (pss_one (ps_ret (pv 1))))), ?_⟩
    change tSeq _ _ _ [some (V.ref l), none, none, none] H
    simp_arith []
    refine ⟨⟨_, hS⟩, loop_list (K := K) (xs := xs.map V.int) (fun i σ H1 => H = H1 ∧ ∃ u v, σ = [some (V.ref l), some (V.int (ga (xs.take i))), u, v]) ⟨rfl, _, _, rfl⟩ (fun i σ H2 _ ⟨e, _⟩ => e ▸ hS) ?_ ?_⟩
    · rintro i y σ _ hi ⟨rfl, u, v, rfl⟩
      obtain ⟨z, hz, rfl⟩ := map_int hi
      simp_arith []
      refine tw (fun m σ H' => H = H' ∧ ∃ x y, σ = [some (V.ref l), some (V.int x), some (V.int z), some (V.int y)] ∧ m = y.toNat ∧ 0 ≤ x ∧ 0 ≤ y ∧ g x y = ga (xs.take (i + 1))) _ ⟨rfl, _, _, rfl, rfl, ga_nonneg _, ab_nonneg z, ?_⟩ ?_
      · rw [take_succ_of hz, ga_snoc]; rfl
      · rintro m σ _ ⟨rfl, x, y, rfl, rfl, hx, hy, he⟩
        simp_arith []
        refine ite2 (fun hn => ?_) (fun hn => ?_)
        · rw [hn, g_zero hx] at he
          exact ⟨he, _, rfl⟩
        · have h0 : 0 < y := by omega
          refine ⟨fun σ H1 => H = H1 ∧ σ = [some (V.ref l), some (V.int y), some (V.int z), some (V.int (x.fmod y))], ?_, hn, rfl, rfl⟩
          rintro σ _ ⟨rfl, rfl⟩
          exact ⟨_, (g_less h0).2, rfl, _, _, rfl, rfl, hy, (g_less h0).1, (g_step h0).trans he⟩
    · rintro σ _ ⟨rfl, u, v, rfl⟩
      simp_arith []
      rw [List.length_map, List.take_length]
      exact k
end
noncomputable def sp_rowof (K : PySem.W.Frag) : Sp := fun vs H Q _ => ∃ (a : Addr) (n : Int), vs = [.ref a, .int n] ∧ ∃ xs : List Int, H a = some (.lst (xs.map V.int)) ∧ Q (.bl (decide ((xs.length : Int) = n))) H
noncomputable def sp_ahead (K : PySem.W.Frag) : Sp := fun vs H Q _ => ∃ (a b : Addr), vs = [.ref a, .ref b] ∧ ∃ xs ys : List Int, SqL K H a (xs.map V.int) ∧ SqL K H b (ys.map V.int) ∧ xs.length = ys.length ∧ xs.length ≤ 1000 ∧ ∀ t : Bool, (t = true ↔ Ahead xs ys) → Q (.bl t) H
noncomputable def RoundL (w : Nat) (m : List (List Int)) (xs : List Int) : Prop := xs ≠ [] ∧ (∀ x ∈ xs, 0 ≤ x) ∧ ga xs = 1 ∧ ∀ s ∈ sumsOf w m xs, s = 0
noncomputable instance {w : Nat} {m : List (List Int)} {xs : List Int} : Decidable (RoundL w m xs) := inferInstanceAs (Decidable (_ ∧ _ ∧ _ ∧ _))
theorem sums_wares (w : Nat) (m : List (List Int)) (xs : List Int) : sumsOf w m xs = (wares w m.length (rowsOf m)).map fun f => f (vecOf xs) := by
  unfold sumsOf
  rw [List.map_map]; rfl
theorem sums_zero {w : Nat} {m : List (List Int)} {xs : List Int} : (∀ s ∈ sumsOf w m xs, s = 0) ↔ ∀ f ∈ wares w m.length (rowsOf m), f (vecOf xs) = 0 := by
  rw [sums_wares]
  constructor
  · intro h f hf
    exact h _ (List.mem_map.mpr ⟨f, hf, rfl⟩)
  · intro h s hs
    obtain ⟨f, hf, rfl⟩ := List.mem_map.mp hs
    exact h f hf
theorem roundL_iff {w : Nat} {m : List (List Int)} {xs : List Int} (hl : xs.length = m.length) : RoundL w m xs ↔ Round (wares w m.length (rowsOf m)) m.length (vecOf xs) ∧ ga xs = 1 := by
  have at1 : ∀ {x : Int}, x ∈ xs → ∃ k, vecOf xs k = x := fun {x} hx => by
    obtain ⟨j, hj, e⟩ := List.getElem_of_mem hx
    exact ⟨j, by unfold vecOf; rw [List.getD_eq_getElem?_getD, List.getElem?_eq_getElem hj]; exact e⟩
  have out : ∀ k, xs.length ≤ k → vecOf xs k = 0 := fun k hk => by
    unfold vecOf
    rw [List.getD_eq_getElem?_getD, List.getElem?_eq_none hk]; rfl
  have inn : ∀ k, k < xs.length → vecOf xs k ∈ xs := fun k hk => getD_mem hk
  constructor
  · rintro ⟨_, hnn, hg, hz⟩
    refine ⟨⟨fun k hk => out k (by omega), fun k => ?_, ?_, sums_zero.mp hz⟩, hg⟩
    · by_cases hk : k < xs.length
      · exact hnn _ (inn k hk)
      · rw [out k (by omega)]; exact Int.le_refl 0
    · refine Classical.byContradiction fun q => ?_
      have : ga xs = 0 := ga_zero fun x hx => by
        obtain ⟨k, rfl⟩ := at1 hx
        have h1 := hnn _ hx
        have h2 : ¬ 0 < vecOf xs k := fun z => q ⟨k, z⟩
        omega
      omega
  · rintro ⟨hR, hg⟩
    refine ⟨?_, fun x hx => ?_, hg, sums_zero.mpr hR.ev⟩
    · rintro rfl
      rw [ga_nil] at hg; exact absurd hg (by decide)
    · obtain ⟨k, rfl⟩ := at1 hx
      exact hR.nn k
noncomputable def sp_rnd (K : PySem.W.Frag) : Sp := fun vs H Q _ => ∃ (wd : Int) (d c : Addr), vs = [.int wd, .ref d, .ref c] ∧ ∃ (w : Nat) (m : List (List Int)) (xs : List Int), wd = (w : Int) ∧ w ≤ 6 ∧ Mat H d m ∧ m.length ≤ 20 ∧ (∀ row ∈ m, row.length = w) ∧ (∀ row ∈ m, ∀ x ∈ row, -(2 ^ 60) < x ∧ x < 2 ^ 60) ∧ SqL K H c (xs.map V.int) ∧ xs.length = m.length ∧
  ∀ H', Same H H' → Q (.bl (decide (RoundL w m xs))) H'
section
variable {P : Program} {w : World} {K : PySem.W.Frag} {mg : Str → Option Value} {base : Heap}
theorem sc_law_row_of : FnScope ["_law_found", "_law_many", "_law_one"] ["_law_found", "_law_many"] (defScope s_law_row_of) := ⟨rfl, rfl, rfl, by decide +kernel, rfl, by decide +kernel, by decide +kernel⟩
theorem c_law_row_of (T : Txt K mg) : Cal P w K mg base "_law_row_of" 2 ["_law_found", "_law_many"] (sp_rowof K) := by
  refine T.law_row_of.ok sc_law_row_of (fun vs H Q E h => ?_) (fun f cdv A outer s H vs Q E hr h => ?_)
  · obtain ⟨a, n, rfl, _⟩ := h; rfl
  · obtain ⟨a, n, rfl, xs, h1, k⟩ := h
    have B := T.B
    have c_law_whole := c_law_whole (P := P) (w := w) (base := base) T
    have h1s : SqL K H a (xs.map V.int) := SqL.of h1
    refine ⟨_, (pss_cons (ps_if (PW.pt (pw_or (pt_not (pt_val (pe_callB call_isinst rfl B.isinstance boot_isinstance (pa_cons (pv 0) (pa_cons (pe_bltn (v := .ty "list") rfl B.list boot_list rfl) pa_nil))))) (pw_or1 (pt_cmpR op_ne (pe_callB call_len_seq rfl B.len PySem.boot_len (pa_cons (pv 0) pa_nil)) (pv 1) (nomark _))))) (pss_one (ps_ret pe_bl)) pss_nil)
 (pss_cons (ps_for PassesOwn.never rfl (pi_list (pv 0)) (pg_name (i := 2) sc_law_row_of.nd rfl (Or.inl rfl)) (pss_one (ps_if (pt_not (pt_val (pe_cal c_law_whole (hr.mono (by decide)) (pa_cons (pv 2) pa_nil)))) (pss_one (ps_ret pe_bl)) pss_nil)))
 (pss_one (ps_ret pe_bl)))), ?_⟩
    change tSeq _ _ _ [some (V.ref a), some (V.int n), none] H
    simp_arith []
    refine ⟨_, .lst h1, true, rfl, if_neg_of (by decide) ⟨_, .inl h1s, ite2 (fun hn => ?_) fun hn => ?_⟩⟩
    · rw [List.length_map] at hn
      refine ⟨⟨_, h1s⟩, loop_list (K := K) (xs := xs.map V.int) (fun i σ H2 => H = H2 ∧ ∃ u, σ = [some (V.ref a), some (V.int n), u]) ⟨rfl, _, rfl⟩ (fun i σ H2 _ ⟨e, _⟩ => e ▸ h1s) ?_ ?_⟩
      · rintro i y σ _ hi ⟨rfl, u, rfl⟩
        obtain ⟨z, hz, rfl⟩ := map_int hi
        simp_arith [sp_whole]
        exact ⟨_, rfl⟩
      · rintro σ _ ⟨rfl, u, rfl⟩
        rw [decide_eq_true hn] at k
        simp_arith []
        exact k
    · rw [List.length_map] at hn
      rw [decide_eq_false hn] at k
      exact k
end
section
variable {P : Program} {w : World} {K : PySem.W.Frag} {mg : Str → Option Value} {base : Heap}
theorem sc_law_ahead : FnScope ["_law_one", "_law_other", "_law_k"] ["_law_one", "_law_other"] (defScope s_law_ahead) := ⟨rfl, rfl, rfl, by decide +kernel, rfl, by decide +kernel, by decide +kernel⟩
theorem c_law_ahead (T : Txt K mg) : Cal P w K mg base "_law_ahead" 1 ["_law_one", "_law_other"] (sp_ahead K) := by
  refine T.law_ahead.ok sc_law_ahead (fun vs H Q E h => ?_) (fun f cdv A outer s H vs Q E hr h => ?_)
  · obtain ⟨a, b, rfl, _⟩ := h; rfl
  · obtain ⟨a, b, rfl, xs, ys, h1, h2, hl, hk, k⟩ := h
    have B := T.B
    refine ⟨_, (pss_cons (ps_for PassesOwn.never rfl (pi_range1 rfl B.range (pa_cons (pe_callB call_len_seq rfl B.len PySem.boot_len (pa_cons (pv 0) pa_nil)) pa_nil)) (pg_name (i := 2) sc_law_ahead.nd rfl (Or.inl rfl)) (pss_one (ps_if (pt_cmpR op_ne (pe_cmpR op_gt (pe_ix ix_list (pv 0) (pv 2) (fun _ _ => rfl)) pe_int (nomark _)) (pe_cmpR op_gt (pe_ix ix_list (pv 1) (pv 2) (fun _ _ => rfl)) pe_int (nomark _)) (nomark _)) (pss_one (ps_ret (pe_cmpR op_gt (pe_ix ix_list (pv 0) (pv 2) (fun _ _ => rfl)) pe_int (nomark _)))) pss_nil)))
 (pss_one (ps_ret pe_bl))), ?_⟩
    change tSeq _ _ _ [some (V.ref a), some (V.ref b), none] H
    simp_arith []
    refine ⟨_, .inl h1, by rw [List.length_map]; omega, by rw [List.length_map]; omega, ?_⟩
    rw [List.length_map, Int.toNat_natCast]
    refine loop_range (fun i σ H2 => H = H2 ∧ (∃ u, σ = [some (V.ref a), some (V.ref b), u]) ∧ ∀ j, j < i → (0 < vecOf xs j ↔ 0 < vecOf ys j)) ⟨rfl, ⟨_, rfl⟩, fun j hj => absurd hj (Nat.not_lt_zero j)⟩ ?_ ?_
    · rintro i σ _ hi ⟨rfl, ⟨u, rfl⟩, hj⟩
      have gx : xs[i]? = some (vecOf xs i) := by unfold vecOf; rw [List.getD_eq_getElem?_getD, List.getElem?_eq_getElem hi]; rfl
      have gy : ys[i]? = some (vecOf ys i) := by unfold vecOf; rw [List.getD_eq_getElem?_getD, List.getElem?_eq_getElem (by omega)]; rfl
      simp_arith [Int.zero_add]
      refine ⟨_, h1, V.int (vecOf xs i), atI_nat (by rw [List.getElem?_map, gx]; rfl), _, rfl, _, h2, V.int (vecOf ys i), atI_nat (by rw [List.getElem?_map, gy]; rfl), _, rfl, ?_⟩
      refine ite2 (fun h => ?_) fun h => ?_
      · refine ⟨⟨_, rfl⟩, fun j hj' => ?_⟩
        rcases Nat.lt_succ_iff_lt_or_eq.mp hj' with h' | h'
        · exact hj j h'
        · rw [h']; exact decide_eq_decide.mp h
      · refine ⟨_, h1, V.int (vecOf xs i), atI_nat (by rw [List.getElem?_map, gx]; rfl), _, rfl, k _ ?_⟩
        have hne : ¬ (0 < vecOf xs i ↔ 0 < vecOf ys i) := fun q => h (decide_eq_decide.mpr q)
        rw [decide_eq_true_eq]
        constructor
        · intro hx
          exact ⟨i, hj, hx, fun hy => hne ⟨fun _ => hy, fun _ => hx⟩⟩
        · rintro ⟨q, q1, q2, q3⟩
          rcases Nat.lt_trichotomy q i with h' | h' | h'
          · exact absurd ((hj q h').mp q2) q3
          · rw [h'] at q2; exact q2
          · exact absurd (q1 i h') hne
    · rintro σ _ ⟨rfl, ⟨u, rfl⟩, hj⟩
      simp_arith []
      refine k false (Iff.intro (fun h => Bool.noConfusion h) ?_)
      rintro ⟨q, _, q2, q3⟩
      exfalso
      by_cases hq : q < xs.length
      · exact q3 ((hj q hq).mp q2)
      · unfold vecOf at q2
        rw [List.getD_eq_getElem?_getD, List.getElem?_eq_none (by omega)] at q2
        exact absurd q2 (by decide)
end
section
variable {P : Program} {w : World} {K : PySem.W.Frag} {mg : Str → Option Value} {base : Heap}
theorem sc_law_is_round : FnScope ["_law_width", "_law_deeds", "_law_counts", "_law_total"] ["_law_width", "_law_deeds", "_law_counts"] (defScope s_law_is_round) := ⟨rfl, rfl, rfl, by decide +kernel, rfl, by decide +kernel, by decide +kernel⟩
theorem c_law_is_round (T : Txt K mg) : Cal P w K mg base "_law_is_round" 2 ["_law_width", "_law_deeds", "_law_counts"] (sp_rnd K) := by
  refine T.law_is_round.ok sc_law_is_round (fun vs H Q E h => ?_) (fun f cdv A outer s H vs Q E hr h => ?_)
  · obtain ⟨_, d, c, rfl, _⟩ := h; rfl
  · obtain ⟨_, d, c, rfl, wd, m, xs, rfl, w6, hm, hml, hwid, hnum, hc, hcl, k⟩ := h
    have B := T.B
    have c_law_gcd := c_law_gcd (P := P) (w := w) (base := base) T
    have c_law_sums := c_law_sums (P := P) (w := w) (base := base) T
    refine ⟨_, (pss_cons (ps_if (PW.pt (pw_or (pt_cmpR op_isN (pv 2) pe_non (nomark _)) (pw_or (pt_cmpR (op_eqA hr.units0) (pv 2) (pe_lst pa_nil) (nomark _)) (pw_or (pt_cmpR op_lt (pe_callB (call_minL rfl) rfl B.min boot_min (pa_cons (pv 2) pa_nil)) pe_int (nomark _)) (pw_or1 (pt_cmpR op_ne (pe_cal c_law_gcd (hr.mono (by decide)) (pa_cons (pv 2) pa_nil)) pe_int (nomark _))))))) (pss_one (ps_ret pe_bl)) pss_nil)
 (pss_cons (ps_for PassesOwn.never rfl (pi_list (pe_cal c_law_sums (hr.mono (by decide)) (pa_cons (pv 0) (pa_cons (pv 1) (pa_cons (pv 2) pa_nil))))) (pg_name (i := 3) sc_law_is_round.nd rfl (Or.inl rfl)) (pss_one (ps_if (pt_cmpR op_ne (pv 3) pe_int (nomark _)) (pss_one (ps_ret pe_bl)) pss_nil)))
 (pss_one (ps_ret pe_bl)))), ?_⟩
    change tSeq _ _ _ [some (V.int wd), some (V.ref d), some (V.ref c), none] H
    simp_arith [sp_gcd, sp_sums]
    have no : ∀ H', Same H H' → ¬ RoundL wd m xs → Q (.bl false) H' := fun H' sm h => by
      have := k H' sm
      rw [decide_eq_false h] at this; exact this
    refine if_neg_of (fun e => nomatch e) ⟨by show 0 ≤ sizeLine; decide, fun p hp => ?_⟩
    have smp : Same H (upd H p (.lst [])) := same_upd hp
    refine ⟨_, smp.seq hc, _, SqL.of upd_same, .inr (.inl rfl), ite2 (fun h => no _ smp fun q => q.1 (by simpa using h)) fun h => ?_⟩
    have hne : xs ≠ [] := by simpa using h
    refine ⟨xs, smp.seq hc, hne, fun mn hmn => ite2 (fun h2 => no _ smp fun q => ?_) fun h2 => ?_⟩
    · have := q.2.1 mn hmn.1; omega
    have hnn : ∀ x ∈ xs, 0 ≤ x := fun x hx => by have := hmn.2 x hx; omega
    refine ⟨xs, smp.seq hc, ite2 (fun h3 => ?_) fun h3 => no _ smp fun q => h3 q.2.2.1⟩
    refine ⟨wd, rfl, w6, m, hm.same smp, hml, hwid, hnum, xs, smp.seq hc, by omega, fun p1 H1 hp1 sm1 e1 => ⟨⟨_, SqL.of e1⟩, ?_⟩⟩
    refine loop_list (K := K) (xs := (sumsOf wd m xs).map V.int) (fun i σ H2 => H1 = H2 ∧ (∃ u, σ = [some (V.int wd), some (V.ref d), some (V.ref c), u]) ∧ ∀ s ∈ (sumsOf wd m xs).take i, s = 0) ⟨rfl, ⟨_, rfl⟩, fun s hs => by simp at hs⟩ (fun i σ H2 _ ⟨e, _⟩ => e ▸ SqL.of e1) ?_ ?_
    · rintro i y σ _ hi ⟨rfl, ⟨u, rfl⟩, hz⟩
      obtain ⟨z, hz1, rfl⟩ := map_int hi
      simp_arith []
      refine ite2 (fun h => ?_) fun h => ?_
      · have h' : z = 0 := by simpa using h
        refine ⟨⟨_, rfl⟩, fun s hs => ?_⟩
        rw [take_succ_of hz1] at hs
        rcases List.mem_append.mp hs with q | q
        · exact hz s q
        · rw [List.mem_singleton.mp q]; exact h'
      · have h' : ¬ z = 0 := by simpa using h
        exact no _ (smp.trans sm1) fun q => h' (q.2.2.2 z (List.mem_of_getElem? hz1))
    · rintro σ _ ⟨rfl, ⟨u, rfl⟩, hz⟩
      rw [List.length_map, List.take_length] at hz
      have := k H1 (smp.trans sm1)
      rw [decide_eq_true (show RoundL wd m xs from ⟨hne, hnn, h3, hz⟩)] at this
      simp_arith []
      exact this
end
noncomputable def sp_part : Sp := fun vs H Q _ => ∃ (wd : Int) (d t : Addr), vs = [.int wd, .ref d, .ref t] ∧ ∃ (w : Nat) (m : List (List Int)) (p : Pt), wd = (w : Int) ∧ Mat H d m ∧ Wk w m ∧ PtH H t p ∧ PtM w m p ∧ ∀ H', Same H H' → Q (.bl true) H'
section
variable {P : Program} {w : World} {K : PySem.W.Frag} {mg : Str → Option Value} {base : Heap}
theorem sc_law_part : FnScope ["_law_width", "_law_deeds", "_law_part_here", "_law_some"] ["_law_width", "_law_deeds", "_law_part_here"] (defScope s_law_part) := ⟨rfl, rfl, rfl, by decide +kernel, rfl, by decide +kernel, by decide +kernel⟩
theorem c_law_part (T : Txt K mg) : Cal P w K mg base "_law_part" 3 ["_law_width", "_law_deeds", "_law_part_here"] sp_part := by
  refine T.law_part.ok sc_law_part (fun vs H Q E h => ?_) (fun f cdv A outer s H vs Q E hr h => ?_)
  · obtain ⟨wd, d, t, rfl, _⟩ := h; rfl
  · obtain ⟨_, d, t, rfl, wd, m, p, rfl, hm, wk, ⟨c, h1, h2⟩, pm, k⟩ := h
    have B := T.B
    have c_law_whole := c_law_whole (P := P) (w := w) (base := base) T
    have c_law_gcd := c_law_gcd (P := P) (w := w) (base := base) T
    have c_law_row_of := c_law_row_of (P := P) (w := w) (base := base) T
    have c_law_is_round := c_law_is_round (P := P) (w := w) (base := base) T
    have c_law_even := c_law_even (P := P) (w := w) (base := base) T
    have m10 := wk.many
    have s1 : SqT K H t [V.int p.1, V.int p.2.1, V.ref c] := SqT.of h1
    obtain ⟨lr, Rr, gr⟩ := (leanL_mem wk.wid p.2.2).mp pm.mem
    obtain ⟨rd, hrd, hrdl⟩ := hm.len (K := K)
    have pt := pm.top.1
    have pb := pm.bot.1
    refine ⟨_, (pss_cut (ps_if (PW.pt (pw_or (pt_not (pt_val (pe_callB call_isinst rfl B.isinstance boot_isinstance (pa_cons (pv 2) (pa_cons (pe_bltn (v := .ty "tuple") rfl B.tuple boot_tuple rfl) pa_nil))))) (pw_or1 (pt_cmpR op_ne (pe_callB call_len_seq rfl B.len PySem.boot_len (pa_cons (pv 2) pa_nil)) pe_int (nomark _))))) (pss_one (ps_ret pe_bl)) pss_nil)
 (pss_cut (ps_if (PW.pt (pw_or (pt_not (pt_val (pe_cal c_law_whole (hr.mono (by decide)) (pa_cons (pe_ix ix_tup (pv 2) pe_int (fun _ _ => rfl)) pa_nil)))) (pw_or (pt_not (pt_val (pe_cal c_law_whole (hr.mono (by decide)) (pa_cons (pe_ix ix_tup (pv 2) pe_int (fun _ _ => rfl)) pa_nil)))) (pw_or (pt_cmpR op_lt (pe_ix ix_tup (pv 2) pe_int (fun _ _ => rfl)) pe_int (nomark _)) (pw_or1 (pt_cmpR op_lt (pe_ix ix_tup (pv 2) pe_int (fun _ _ => rfl)) pe_int (nomark _))))))) (pss_one (ps_ret pe_bl)) pss_nil)
 (pss_cut (ps_if (PW.pt (pw_or (pt_cmpR op_ne (pe_cal c_law_gcd (hr.mono (by decide)) (pa_cons (pe_lst (pa_cons (pe_ix ix_tup (pv 2) pe_int (fun _ _ => rfl)) (pa_cons (pe_ix ix_tup (pv 2) pe_int (fun _ _ => rfl)) pa_nil))) pa_nil)) pe_int (nomark _)) (pw_or1 (pt_not (pt_val (pe_cal c_law_row_of (hr.mono (by decide)) (pa_cons (pe_ix ix_tup (pv 2) pe_int (fun _ _ => rfl)) (pa_cons (pe_callB call_len_seq rfl B.len PySem.boot_len (pa_cons (pv 1) pa_nil)) pa_nil)))))))) (pss_one (ps_ret pe_bl)) pss_nil)
 (pss_cut (ps_lc (i := 3) sc_law_part.nd rfl (pi_range1 rfl B.range (pa_cons (pe_callB call_len_seq rfl B.len PySem.boot_len (pa_cons (pv 1) pa_nil)) pa_nil)) (.cons rfl .nil) (.own (x := "_law_k") (.cap (x := "_law_part_here") (j := 2) rfl (Or.inl rfl) (Or.inl rfl) ⟨_, rfl⟩ .nil)) (fun _ _ _ _ => (pg_name (i := 0) (show (["_law_k", "_law_part_here"] : List Str).Nodup from by decide +kernel) rfl (Or.inl rfl))) (fun _ _ _ _ => (ifs_one (pt_cmpR op_gt (pe_ix (ix_listK (K := K) rfl) (pe_ix (ix_tupK (K := K) rfl) (pv 1) pe_int (fun _ _ => rfl)) (pv 0) (fun _ _ => rfl)) pe_int (nomark _)))) (fun _ _ _ _ => (pv 0)))
 (pss_one (ps_ret (pe_and (pe_cal c_law_is_round (hr.mono (by decide)) (pa_cons (pv 0) (pa_cons (pv 1) (pa_cons (pe_ix ix_tup (pv 2) pe_int (fun _ _ => rfl)) pa_nil)))) (pe_one (pe_cmpR op_eq (pe_callB call_len_seq rfl B.len PySem.boot_len (pa_cons (pe_cal c_law_even (hr.mono (by decide)) (pa_cons (pv 0) (pa_cons (pv 1) (pa_cons (pv 3) pa_nil)))) pa_nil)) pe_int (nomark _)))))))))), ?_⟩
    change tCut _ _ _ [some (V.int wd), some (V.ref d), some (V.ref t), none] H
    refine cut (fun σ H1 => H = H1 ∧ σ = [some (V.int wd), some (V.ref d), some (V.ref t), none]) ?_ ?_
    · simp_arith []
      exact ⟨_, .tup h1, true, rfl, if_neg_of (by decide) ⟨_, .inr s1, if_pos_of (by rfl) trivial⟩⟩
    rintro σ1 _ ⟨rfl, rfl⟩
    refine cut (fun σ H1 => H = H1 ∧ σ = [some (V.int wd), some (V.ref d), some (V.ref t), none]) ?_ ?_
    · simp_arith [sp_whole]
      exact ⟨_, s1, _, rfl, _, rfl, _, s1, _, rfl, _, rfl, _, s1, _, rfl, _, rfl, if_neg_of (by omega) ⟨_, s1, _, rfl, _, rfl, if_neg_of (by omega) trivial⟩⟩
    rintro σ2 _ ⟨rfl, rfl⟩
    refine cut (fun σ H1 => Same H H1 ∧ σ = [some (V.int wd), some (V.ref d), some (V.ref t), none]) ?_ ?_
    · simp_arith [sp_gcd, sp_rowof]
      refine ⟨_, s1, _, rfl, _, s1, _, rfl, by show 2 ≤ sizeLine; decide, fun q hq => ⟨[p.1, p.2.1], SqL.of upd_same, if_pos_of pm.low ⟨_, SqT.of (same_upd hq _ _ h1), _, rfl, _, .inl ((same_upd hq).seq hrd), _, rfl, p.2.2, same_upd hq _ _ h2, if_pos_of (by rw [List.length_map, hrdl, lr]) (same_upd hq)⟩⟩⟩
    rintro σ3 H1 ⟨sm1, rfl⟩
    have hmem := suppL_mem Rr.1
    obtain ⟨ev1, _, _, _⟩ := lean_accept wk.wid (suppL_nodup m.length p.2.2) suppL_lt Rr hmem
    have sl := suppL_len m.length p.2.2
    refine cut (fun σ H2 => Same H H2 ∧ ∃ so, SqL K H2 so (natV (suppL m.length p.2.2)) ∧ σ = [some (V.int wd), some (V.ref d), some (V.ref t), some (V.ref so)]) ?_ ?_
    · simp_arith []
      have s1' : SqT K H1 t [V.int p.1, V.int p.2.1, V.ref c] := SqT.of (sm1 _ _ h1)
      refine ⟨_, .inl (sm1.seq hrd), by rw [List.length_map]; omega, by rw [List.length_map]; omega +splitDisjunctions, ?_⟩
      rw [List.length_map, hrdl, Int.toNat_natCast]
      refine lc_supp (c := p.2.2) [some (V.ref t)] rfl (by omega) (fun j Q' hj h => ?_) (fun j Q' h => ?_) fun q hq => ?_
      · simp_arith []
        exact ⟨_, s1', _, rfl, _, rfl, _, SqL.of (sm1 _ _ h2), _, atI_nat (vec_at' (by omega)), _, rfl, h⟩
      · simp_arith []
        exact h
      · exact ⟨sm1.trans (same_upd hq), q, SqL.of upd_same, rfl⟩
    rintro σ4 H2 ⟨sm2, so, hso, rfl⟩
    simp_arith [sp_rnd, sp_even]
    have n60 : ∀ row ∈ m, ∀ x ∈ row, -(2 : Int) ^ 60 < x ∧ x < 2 ^ 60 := fun row h x hx => by have := wk.num row h x hx; omega
    refine ⟨_, SqT.of (sm2 _ _ h1), _, rfl, _, rfl, wd, rfl, wk.w6, m, hm.same sm2, by omega, wk.wid, n60, p.2.2, SqL.of (sm2 _ _ h2), lr, fun H3 s3 => if_pos_of ((roundL_iff lr).mpr ⟨Rr.1, gr⟩) ?_⟩
    have s23 := sm2.trans s3
    refine ⟨wd, rfl, wk.w6, m, hm.same s23, _, s3.seq hso, by omega, suppL_lt, wk.wid, fun row h x hx => by have := wk.num row h x hx; omega, fun pe H5 hpe s5 he => ?_⟩
    obtain ⟨re, hre, hrel⟩ := he.len (K := K)
    refine ⟨_, .inl hre, ?_⟩
    have e : decide (((re.map V.ref).length : Int) = 1) = true := by rw [List.length_map, hrel, ev1]; rfl
    rw [e]
    exact k _ (s23.trans s5)
end
theorem cs_range {n : Nat} {cs : List Int} (h : cs.length = n) : cs = (List.range n).map (vecOf cs) := by
  refine List.ext_getElem? fun i => ?_
  rw [List.getElem?_map]
  by_cases hi : i < n
  · rw [List.getElem?_range hi, List.getElem?_eq_getElem (by omega : i < cs.length)]
    show _ = some (cs.getD i 0)
    rw [List.getD_eq_getElem?_getD, List.getElem?_eq_getElem (by omega : i < cs.length)]; rfl
  · rw [List.getElem?_eq_none (by omega : cs.length ≤ i), List.getElem?_eq_none (by rw [List.length_range]; omega)]; rfl
theorem size_filter {n : Nat} {cs : List Int} (h : cs.length = n) : size n (vecOf cs) = (cs.filter fun x => decide (0 < x)).length := by
  have e := congrArg (fun l : List Int => (l.filter fun x => decide (0 < x)).length) (cs_range h)
  have e' : (cs.filter fun x => decide (0 < x)).length = (((List.range n).map (vecOf cs)).filter fun x => decide (0 < x)).length := e
  unfold size
  rw [e', List.filter_map, List.length_map]; rfl
theorem tops_nil (n : Nat) : (List.replicate n [V.int 0]).flatten = (((List.range n).map fun k => NT k []).map V.int) := by
  rw [List.flatten_replicate_singleton, List.map_map]
  symm
  refine List.eq_replicate_iff.mpr ⟨by simp, fun b hb => ?_⟩
  obtain ⟨a, _, rfl⟩ := List.mem_map.mp hb
  rfl
theorem DT_b {w : Nat} {m : List (List Int)} : ∀ {R : List Pt}, (∀ p ∈ R, PtM w m p) → 1 ≤ DT R ∧ (DT R).natAbs ≤ 2 ^ (360 * R.length)
  | [], _ => by simp [DT]
  | p :: R, h => by
    obtain ⟨h1, h2⟩ := DT_b (R := R) fun q hq => h q (.tail _ hq)
    have hb := (h p (.head _)).bot
    show 1 ≤ DT R * p.2.1 ∧ (DT R * p.2.1).natAbs ≤ 2 ^ (360 * (R.length + 1))
    have a1 : 1 * 1 ≤ DT R * p.2.1 := Int.mul_le_mul h1 hb.1 (by decide) (by omega +splitDisjunctions)
    refine ⟨by omega +splitDisjunctions, ?_⟩
    have e : ((2 ^ 360 : Nat) : Int) = 2 ^ 360 := Int.natCast_pow 2 360
    rw [Int.natAbs_mul, show 360 * (R.length + 1) = 360 * R.length + 360 by omega +splitDisjunctions, Nat.pow_add]
    exact Nat.mul_le_mul h2 (by omega +splitDisjunctions)
theorem NT_bM {w : Nat} {m : List (List Int)} (wk : Wk w m) {k : Nat} : ∀ {R : List Pt}, (∀ p ∈ R, PtM w m p) → (NT k R).natAbs ≤ R.length * 2 ^ (500 * R.length)
  | [], _ => by simp [NT]
  | p :: R, h => by
    have ih := NT_bM wk (k := k) (R := R) fun q hq => h q (.tail _ hq)
    have d := DT_b (R := R) fun q hq => h q (.tail _ hq)
    have pok := h p (.head _)
    have hb := pok.bot
    have ht := pok.top
    obtain ⟨lr, Rr, gr⟩ := (leanL_mem wk.wid p.2.2).mp pok.mem
    have sml := lean_small wk.wid wk.w6 wk.num lr Rr gr
    have hv : (vecOf p.2.2 k).natAbs ≤ 2 ^ 36 := by
      have h0 := Rr.1.nn k
      by_cases hk : k < p.2.2.length
      · have := sml _ (getD_mem hk)
        have e : vecOf p.2.2 k = p.2.2.getD k 0 := rfl
        rw [e] at h0 ⊢; omega +splitDisjunctions
      · rw [vec_out (by omega +splitDisjunctions)]; decide
    have e36 : ((2 ^ 360 : Nat) : Int) = 2 ^ 360 := Int.natCast_pow 2 360
    have hbn : p.2.1.natAbs ≤ 2 ^ 360 := by omega +splitDisjunctions
    have htn : p.1.natAbs ≤ 2 ^ 40 * 2 ^ 360 := by omega +splitDisjunctions
    show (NT k R * p.2.1 + DT R * p.1 * vecOf p.2.2 k).natAbs ≤ (R.length + 1) * 2 ^ (500 * (R.length + 1))
    have e1 : (NT k R * p.2.1).natAbs ≤ R.length * 2 ^ (500 * R.length) * 2 ^ 360 := by
      rw [Int.natAbs_mul]; exact Nat.mul_le_mul ih hbn
    have e2 : (DT R * p.1 * vecOf p.2.2 k).natAbs ≤ 2 ^ (360 * R.length) * (2 ^ 40 * 2 ^ 360) * 2 ^ 36 := by
      rw [Int.natAbs_mul, Int.natAbs_mul]
      exact Nat.mul_le_mul (Nat.mul_le_mul d.2 htn) hv
    have e3 := Int.natAbs_add_le (NT k R * p.2.1) (DT R * p.1 * vecOf p.2.2 k)
    have q1 : R.length * 2 ^ (500 * R.length) * 2 ^ 360 ≤ R.length * 2 ^ (500 * (R.length + 1)) := by
      rw [Nat.mul_assoc, ← Nat.pow_add]; exact Nat.mul_le_mul_left _ (Nat.pow_le_pow_right (by decide) (by omega +splitDisjunctions))
    have q2 : 2 ^ (360 * R.length) * (2 ^ 40 * 2 ^ 360) * 2 ^ 36 ≤ 2 ^ (500 * (R.length + 1)) := by
      rw [← Nat.pow_add, ← Nat.pow_add, ← Nat.pow_add]; exact Nat.pow_le_pow_right (by decide) (by omega +splitDisjunctions)
    rw [Nat.add_mul, Nat.one_mul]
    omega +splitDisjunctions
noncomputable def Thr (x y z : V) (σ : L2.St) : Prop := ∃ u v, σ = [u, v, some x, some y, some z]
theorem thr {u v : Option V} {x y z : V} : Thr x y z [u, v, some x, some y, some z] := ⟨_, _, rfl⟩
noncomputable def topsOf (n : Nat) (R : List Pt) : List Int := (List.range n).map fun k => NT k R
noncomputable def sp_lmade (K : PySem.W.Frag) : Sp := fun vs H Q _ => ∃ (wd : Int) (d c pa : Addr), vs = [.int wd, .ref d, .ref c, .ref pa] ∧ ∃ (w : Nat) (m : List (List Int)) (cs : List Int) (ps : List Pt), wd = (w : Int) ∧ Mat H d m ∧ Wk w m ∧ SqL K H c (cs.map V.int) ∧ cs.length = m.length ∧ (∀ x ∈ cs, 0 ≤ x ∧ x ≤ 10 ^ 12) ∧ Parts H pa ps ∧ (∃ rs B, MI w m cs (leanL w m).length ps.reverse rs B) ∧ ∀ H', Same H H' → Q (.bl true) H'
section
variable {P : Program} {w : World} {K : PySem.W.Frag} {mg : Str → Option Value} {base : Heap}
theorem sc_law_made : FnScope ["_law_width", "_law_deeds", "_law_counts", "_law_parts", "_law_tops", "_law_under", "_law_k", "_law_top", "_law_bottom", "_law_lean"] ["_law_width", "_law_deeds", "_law_counts", "_law_parts"] (defScope s_law_made) := ⟨rfl, rfl, rfl, by decide +kernel, rfl, by decide +kernel, by decide +kernel⟩
theorem c_law_made (T : Txt K mg) : Cal P w K mg base "_law_made" 4 ["_law_width", "_law_deeds", "_law_counts", "_law_parts"] (sp_lmade K) := by
  refine T.law_made.ok sc_law_made (fun vs H Q E h => ?_) (fun f cdv A outer s H vs Q E hr h => ?_)
  · obtain ⟨wd, d, c, pa, rfl, _⟩ := h; rfl
  · obtain ⟨_, d, c, pa, rfl, wd, m, cs, ps, rfl, hm, wk, hc, lcs, cb, hP, ⟨rs, Bz, mi⟩, k⟩ := h
    have B := T.B
    have c_law_part := c_law_part (P := P) (w := w) (base := base) T
    have c_law_ahead := c_law_ahead (P := P) (w := w) (base := base) T
    have m10 := wk.many
    obtain ⟨ts, t1, t2⟩ := id hP
    have tl := t2.length
    have szf := size_filter lcs
    have num := mi.num
    rw [List.length_reverse] at num
    have szl := size_le m.length (vecOf cs)
    have p10 : ps.length ≤ 10 := by omega
    have pmA : ∀ q ∈ ps, PtM wd m q := fun q hq => mi.ok q (List.mem_reverse.mpr hq)
    have pmR : ∀ j, ∀ q ∈ (ps.take j).reverse, PtM wd m q := fun j q hq => pmA q (List.mem_of_mem_take (List.mem_reverse.mp hq))
    have lnR : ∀ j, (ps.take j).reverse.length ≤ 10 := fun j => by rw [List.length_reverse, List.length_take]; omega
    have bD : ∀ j, (DT (ps.take j).reverse).natAbs < 2 ^ 3601 := fun j => Nat.lt_of_le_of_lt (Nat.le_trans (DT_b (pmR j)).2 (Nat.pow_le_pow_right (by decide) (show _ ≤ 3600 by have := lnR j; omega))) (Nat.pow_lt_pow_right (by decide) (by decide))
    have bN : ∀ i j, (NT i (ps.take j).reverse).natAbs < 2 ^ 5005 := fun i j => by
      have h1 := NT_bM wk (k := i) (pmR j)
      have h2 := lnR j
      have h3 : (ps.take j).reverse.length * 2 ^ (500 * (ps.take j).reverse.length) ≤ 2 ^ 4 * 2 ^ 5000 := Nat.mul_le_mul (by omega) (Nat.pow_le_pow_right (by decide) (by omega))
      rw [← Nat.pow_add] at h3
      exact Nat.lt_of_le_of_lt (Nat.le_trans h1 h3) (Nat.pow_lt_pow_right (by decide) (by decide))
    have srt := mi.sorted wk.wid
    rw [List.reverse_reverse] at srt
    have fin := mi.fin wk.wid
    obtain ⟨rd, hrd, hrdl⟩ := hm.len (K := K)
    refine ⟨_, (pss_cut (ps_if (PW.pt (pw_or (pt_not (pt_val (pe_callB call_isinst rfl B.isinstance boot_isinstance (pa_cons (pv 3) (pa_cons (pe_bltn (v := .ty "list") rfl B.list boot_list rfl) pa_nil))))) (pw_or1 (pt_cmpR op_gt (pe_callB call_len_seq rfl B.len PySem.boot_len (pa_cons (pv 3) pa_nil)) (pe_callB call_len_seq rfl B.len PySem.boot_len (pa_cons (pe_lc (pi_list (pv 2)) .nil (.own (x := "_law_x") .nil) (fun _ _ _ _ => (pg_name (i := 0) (show (["_law_x"] : List Str).Nodup from by decide +kernel) rfl (Or.inl rfl))) (fun _ _ _ _ => (ifs_one (pt_cmpR op_gt (pv 0) pe_int (nomark _)))) (fun _ _ _ _ => (pv 0))) pa_nil)) (nomark _))))) (pss_one (ps_ret pe_bl)) pss_nil)
 (pss_cut (ps_set (i := 4) sc_law_made.nd rfl (Or.inl rfl) (pe_op op_rep (pe_lst (pa_cons pe_int pa_nil)) (pe_callB call_len_seq rfl B.len PySem.boot_len (pa_cons (pv 1) pa_nil))))
 (pss_cut (ps_set (i := 5) sc_law_made.nd rfl (Or.inr rfl) pe_int)
 (pss_cut (ps_for PassesOwn.never rfl (pi_range1 rfl B.range (pa_cons (pe_callB call_len_seq rfl B.len PySem.boot_len (pa_cons (pv 3) pa_nil)) pa_nil)) (pg_name (i := 6) sc_law_made.nd rfl (Or.inl rfl)) (pss_cut (ps_if (pt_not (pt_val (pe_cal c_law_part (hr.mono (by decide)) (pa_cons (pv 0) (pa_cons (pv 1) (pa_cons (pe_ix ix_list (pv 3) (pv 6) (fun _ _ => rfl)) pa_nil)))))) (pss_one (ps_ret pe_bl)) pss_nil)
 (pss_cut (ps_if (PW.pt (pw_and (pt_cmpR op_gt (pv 6) pe_int (nomark _)) (pw_and1 (pt_not (pt_val (pe_cal c_law_ahead (hr.mono (by decide)) (pa_cons (pe_ix ix_tup (pe_ix ix_list (pv 3) (pe_op op_sub (pv 6) pe_int) (fun _ _ => rfl)) pe_int (fun _ _ => rfl)) (pa_cons (pe_ix ix_tup (pe_ix ix_list (pv 3) (pv 6) (fun _ _ => rfl)) pe_int (fun _ _ => rfl)) pa_nil)))))))) (pss_one (ps_ret pe_bl)) pss_nil)
 (pss_cut (ps_asg (pe_ix ix_list (pv 3) (pv 6) (fun _ _ => rfl)) (pg_tup (n := 3) rfl (pgs_cons (pg_name (i := 7) sc_law_made.nd rfl (Or.inr rfl)) (pgs_cons (pg_name (i := 8) sc_law_made.nd rfl (Or.inr rfl)) (pgs_cons (pg_name (i := 9) sc_law_made.nd rfl (Or.inl rfl)) pgs_nil)))))
 (pss_cut (ps_lc (i := 4) sc_law_made.nd rfl (pi_zip rfl B.zip (pa_cons (pv 4) (pa_cons (pv 9) pa_nil))) (.cons rfl (.cons rfl (.cons rfl .nil))) (.own (x := "_law_x") (.own (x := "_law_y") (.cap (x := "_law_bottom") (j := 8) rfl (Or.inl rfl) (Or.inl rfl) ⟨_, rfl⟩ (.cap (x := "_law_top") (j := 7) rfl (Or.inl rfl) (Or.inl rfl) ⟨_, rfl⟩ (.cap (x := "_law_under") (j := 5) rfl (Or.inl rfl) (Or.inl rfl) ⟨_, rfl⟩ .nil))))) (fun _ _ _ _ => (pg_tupK (K := K) (n := 2) rfl rfl (pgs_cons (pg_name (i := 0) (show (["_law_x", "_law_y", "_law_bottom", "_law_top", "_law_under"] : List Str).Nodup from by decide +kernel) rfl (Or.inl rfl)) (pgs_cons (pg_name (i := 1) (show (["_law_x", "_law_y", "_law_bottom", "_law_top", "_law_under"] : List Str).Nodup from by decide +kernel) rfl (Or.inl rfl)) pgs_nil)))) (fun _ _ _ _ => ifs_nil) (fun _ _ _ _ => (pe_op op_add (pe_op op_mulA (pv 0) (pv 2)) (pe_op op_mulA (pe_op op_mulA (pv 3) (pv 4)) (pv 1)))))
 (pss_one (ps_set (i := 5) sc_law_made.nd rfl (Or.inr rfl) (pe_op op_mulA (pv 5) (pv 8)))))))))
 (pss_one (ps_ret (pe_cmpR (op_eqA hr.units0) (pv 4) (pe_lc (pi_list (pv 2)) (.cons rfl .nil) (.own (x := "_law_x") (.cap (x := "_law_under") (j := 5) rfl (Or.inl rfl) (Or.inl rfl) ⟨_, rfl⟩ .nil)) (fun _ _ _ _ => (pg_name (i := 0) (show (["_law_x", "_law_under"] : List Str).Nodup from by decide +kernel) rfl (Or.inl rfl))) (fun _ _ _ _ => ifs_nil) (fun _ _ _ _ => (pe_op op_mulA (pv 0) (pv 1)))) (nomark _)))))))), ?_⟩
    change tCut _ _ _ [some (V.int wd), some (V.ref d), some (V.ref c), some (V.ref pa), none, none, none, none, none, none] H
    refine cut (fun σ H1 => Same H H1 ∧ σ = [some (V.int wd), some (V.ref d), some (V.ref c), some (V.ref pa), none, none, none, none, none, none]) ?_ ?_
    · simp_arith []
      refine ⟨_, .lst t1, true, rfl, if_neg_of (by decide) ⟨_, .inl (SqL.of t1), ⟨_, hc⟩, lc_list (K := K) (xs := cs.map V.int) (fun i σ H2 zs => Same H H2 ∧ (∃ v, σ = [v]) ∧ zs = ((cs.take i).filter fun x => decide (0 < x)).map V.int) ⟨Same.refl _, ⟨_, rfl⟩, rfl⟩ (fun i σ H2 zs _ ⟨e, _⟩ => e.seq hc) ?_ ?_⟩⟩
      · rintro i y σ H2 zs hi ⟨sm, ⟨v, rfl⟩, rfl⟩
        obtain ⟨z, hz, rfl⟩ := map_int hi
        have il : i < cs.length := (List.getElem?_eq_some_iff.mp hz).1
        have fl := List.length_filter_le (fun x : Int => decide (0 < x)) (cs.take i)
        rw [List.length_take] at fl
        simp_arith []
        refine ite2 (fun h0 => ⟨?_, sm, ⟨_, rfl⟩, ?_⟩) fun h0 => ⟨sm, ⟨_, rfl⟩, ?_⟩
        · rw [List.length_map]; exact small1000 (by omega)
        · rw [take_succ_of hz, List.filter_append, List.map_append]
          simp only [List.filter_cons, h0, decide_true, if_true, List.filter_nil, List.map_cons, List.map_nil]
        · rw [take_succ_of hz, List.filter_append]
          simp only [List.filter_cons, h0, decide_false, Bool.false_eq_true, if_false, List.filter_nil, List.append_nil]
      · rintro σ H2 zs ⟨sm, ⟨v, rfl⟩, rfl⟩
        have e2 : (cs.map V.int).length = cs.length := List.length_map ..
        rw [e2, List.take_length]
        have fl := List.length_filter_le (fun x : Int => decide (0 < x)) cs
        refine ⟨by rw [List.length_map]; exact Nat.le_of_lt (small1000 (by omega)), fun q hq => ⟨q, rfl, _, .inl (SqL.of upd_same), if_neg_of ?_ (sm.trans (same_upd hq))⟩⟩
        rw [List.length_map, List.length_map]; omega
    rintro σ1 H1 ⟨sm1, rfl⟩
    refine cut (fun σ H2 => Same H H2 ∧ ∃ tp, H2 tp = some (.lst ((topsOf m.length []).map V.int)) ∧ σ = [some (V.int wd), some (V.ref d), some (V.ref c), some (V.ref pa), some (V.ref tp), none, none, none, none, none]) ?_ ?_
    · simp_arith []
      refine ⟨by show 1 ≤ sizeLine; decide, fun p hp => ⟨_, .inl ((same_upd hp).seq (sm1.seq hrd)), _, upd_same, by rw [List.length_map]; omega, by rw [List.length_map]; omega, ?_, fun q hq => ⟨sm1.trans ((same_upd hp).trans (same_upd hq)), q, ?_, rfl⟩⟩⟩
      · rw [List.length_map, hrdl, Int.toNat_natCast]
        exact Nat.le_of_lt (small1000 (by show 1 * m.length ≤ 1000; omega))
      · rw [upd_same, List.length_map, hrdl, Int.toNat_natCast, tops_nil]; rfl
    rintro σ2 H2 ⟨sm2, tp, htp, rfl⟩
    refine cut (fun σ H3 => H2 = H3 ∧ σ = [some (V.int wd), some (V.ref d), some (V.ref c), some (V.ref pa), some (V.ref tp), some (V.int 1), none, none, none, none]) ?_ ?_
    · simp_arith []
    rintro σ3 _ ⟨rfl, rfl⟩
    refine cut (fun σ H3 => Same H H3 ∧ ∃ tp, H3 tp = some (.lst ((topsOf m.length ps.reverse).map V.int)) ∧ ∃ x1 x2 x3 x4, σ = [some (V.int wd), some (V.ref d), some (V.ref c), some (V.ref pa), some (V.ref tp), some (V.int (DT ps.reverse)), x1, x2, x3, x4]) ?_ ?_
    · simp_arith []
      refine ⟨_, .inl (SqL.of (sm2 _ _ t1)), by rw [List.length_map]; omega, by rw [List.length_map]; omega, ?_⟩
      rw [Int.toNat_natCast, List.length_map, tl]
      refine loop_range (fun i σ H3 => Same H H3 ∧ ∃ tp, H3 tp = some (.lst ((topsOf m.length (ps.take i).reverse).map V.int)) ∧ ∃ x1 x2 x3 x4, σ = [some (V.int wd), some (V.ref d), some (V.ref c), some (V.ref pa), some (V.ref tp), some (V.int (DT (ps.take i).reverse)), x1, x2, x3, x4])
        ⟨sm2, tp, htp, _, _, _, _, rfl⟩ ?_ ?_
      · rintro i σ H3 hi ⟨sm3, tp5, htp5, x1, x2, x3, x4, rfl⟩
        show tCut _ _ _ [some (V.int wd), some (V.ref d), some (V.ref c), some (V.ref pa), some (V.ref tp5), some (V.int (DT (ps.take i).reverse)), some (V.int (0 + (i : Int))), x2, x3, x4] H3
        rw [Int.zero_add]
        obtain ⟨p, hp⟩ : ∃ p, ps[i]? = some p := ⟨_, List.getElem?_eq_getElem hi⟩
        obtain ⟨t, b0, cl, b1, b2⟩ := Paired.getL t2 hp
        have pm := pmA p (List.mem_of_getElem? hp)
        obtain ⟨lr, Rr, gr⟩ := (leanL_mem wk.wid p.2.2).mp pm.mem
        have sml := lean_small wk.wid wk.w6 wk.num lr Rr gr
        have e36 : ((2 ^ 360 : Nat) : Int) = 2 ^ 360 := Int.natCast_pow 2 360
        have pbb : p.2.1.natAbs < 2 ^ 361 := by
          have := pm.bot
          exact Nat.lt_of_le_of_lt (show _ ≤ 2 ^ 360 by omega) (by decide)
        have ptb : p.1.natAbs < 2 ^ 401 := by
          have := pm.top
          exact Nat.lt_of_le_of_lt (show _ ≤ 2 ^ 40 * 2 ^ 360 by omega) (by decide)
        have q1 : atI (ts.map V.ref) (i : Int) = some (V.ref t) := atI_nat (by rw [List.getElem?_map, b0]; rfl)
        refine cut (fun σ H4 => Same H3 H4 ∧ σ = [some (V.int wd), some (V.ref d), some (V.ref c), some (V.ref pa), some (V.ref tp5), some (V.int (DT (ps.take i).reverse)), some (V.int i), x2, x3, x4]) ?_ ?_
        · simp_arith [sp_part]
          exact ⟨_, SqL.of (sm3 _ _ t1), _, q1, _, rfl, wd, rfl, m, hm.same sm3, wk, p, ⟨cl, sm3 _ _ b1, sm3 _ _ b2⟩, pm, fun H' s' => s'⟩
        rintro σ5 H4 ⟨s4, rfl⟩
        have sm4 := sm3.trans s4
        refine cut (fun σ H5 => H4 = H5 ∧ σ = [some (V.int wd), some (V.ref d), some (V.ref c), some (V.ref pa), some (V.ref tp5), some (V.int (DT (ps.take i).reverse)), some (V.int i), x2, x3, x4]) ?_ ?_
        · simp_arith [sp_ahead]
          refine ite2 (fun hi0 => ?_) fun _ => ?_
          · have e1 : (i : Int) - 1 = ((i - 1 : Nat) : Int) := by omega
            rw [e1]
            obtain ⟨p', hp'⟩ : ∃ p, ps[i - 1]? = some p := ⟨_, List.getElem?_eq_getElem (by omega)⟩
            obtain ⟨t', b0', cl', b1', b2'⟩ := Paired.getL t2 hp'
            obtain ⟨lr', _, _⟩ := (leanL_mem wk.wid p'.2.2).mp (pmA p' (List.mem_of_getElem? hp')).mem
            have q2 : atI (ts.map V.ref) ((i - 1 : Nat) : Int) = some (V.ref t') := atI_nat (by rw [List.getElem?_map, b0']; rfl)
            have ah : Ahead p'.2.2 p.2.2 := by
              have h1 := List.pairwise_iff_getElem.mp srt (i - 1) i (by rw [List.length_map]; omega) (by rw [List.length_map]; omega) (by omega)
              rw [List.getElem_map, List.getElem_map] at h1
              have z1 : ps[i]'hi = p := Option.some.inj ((List.getElem?_eq_getElem hi).symm.trans hp)
              have z2 : ps[i - 1]'(by omega) = p' := Option.some.inj ((List.getElem?_eq_getElem (by omega)).symm.trans hp')
              rw [z1, z2] at h1
              exact h1
            exact ⟨_, SqL.of (sm4 _ _ t1), _, q2, _, rfl, _, SqT.of (sm4 _ _ b1'), _, rfl, _, SqL.of (sm4 _ _ t1), _, q1, _, rfl, _, SqT.of (sm4 _ _ b1), _, rfl, _, rfl, _, rfl, _, SqL.of (sm4 _ _ b2'), _, SqL.of (sm4 _ _ b2), by omega, by omega, fun tt ht => if_neg_of (by rw [ht.mpr ah]; decide) trivial⟩
          · trivial
        rintro σ6 _ ⟨rfl, rfl⟩
        refine cut (fun σ H5 => H4 = H5 ∧ σ = [some (V.int wd), some (V.ref d), some (V.ref c), some (V.ref pa), some (V.ref tp5), some (V.int (DT (ps.take i).reverse)), some (V.int i), some (V.int p.1), some (V.int p.2.1), some (V.ref cl)]) ?_ ?_
        · simp_arith []
          exact ⟨_, SqL.of (sm4 _ _ t1), _, q1, gTup3 (SqT.of (sm4 _ _ b1)) ⟨rfl, rfl⟩⟩
        rintro σ7 _ ⟨rfl, rfl⟩
        have erev : (ps.take (i + 1)).reverse = p :: (ps.take i).reverse := by rw [take_succ_of hp, List.reverse_append]; rfl
        refine cut (fun σ H5 => Same H4 H5 ∧ ∃ tp6, H5 tp6 = some (.lst ((topsOf m.length (ps.take (i + 1)).reverse).map V.int)) ∧ σ = [some (V.int wd), some (V.ref d), some (V.ref c), some (V.ref pa), some (V.ref tp6), some (V.int (DT (ps.take i).reverse)), some (V.int i), some (V.int p.1), some (V.int p.2.1), some (V.ref cl)]) ?_ ?_
        · simp_arith []
          have htp4 := s4 _ _ htp5
          have hcl4 := sm4 _ _ b2
          refine ⟨⟨_, SqL.of htp4⟩, ⟨_, SqL.of hcl4⟩, lc_zip (K := K) (xs := (topsOf m.length (ps.take i).reverse).map V.int) (ys := p.2.2.map V.int) (fun j σ H2 zs => Same H4 H2 ∧ Thr (V.int p.2.1) (V.int p.1) (V.int (DT (ps.take i).reverse)) σ ∧ zs = (topsOf j (p :: (ps.take i).reverse)).map V.int)
            ⟨Same.refl _, thr, rfl⟩ (fun j σ H2 zs _ _ ⟨e, _⟩ => ⟨SqL.of (e _ _ htp4), SqL.of (e _ _ hcl4)⟩) ?_ ?_⟩
          · rintro j x y T' σ H2 zs hx hy ⟨sm, ⟨u, v, rfl⟩, rfl⟩ hT
            obtain ⟨z, hz, rfl⟩ := map_int hx
            obtain ⟨z2, hz2, rfl⟩ := map_int hy
            have jl : j < p.2.2.length := (List.getElem?_eq_some_iff.mp hz2).1
            have ez : z = NT j (ps.take i).reverse := by
              unfold topsOf at hz
              rw [List.getElem?_map, List.getElem?_range (by omega)] at hz
              exact (Option.some.inj hz).symm
            have ez2 : z2 = vecOf p.2.2 j := by unfold vecOf; rw [List.getD_eq_getElem?_getD, hz2]; rfl
            have zb := sml z2 (List.mem_of_getElem? hz2)
            have zn : 0 ≤ z2 := by rw [ez2]; exact Rr.1.nn j
            refine gTup2 upd_same ?_
            simp_arith []
            refine ⟨by rw [ez]; exact mulA_b (bN j i) pbb (by decide) (by decide), mulA_b ptb (bD i) (by decide) (by decide), mulA_r (by omega) (by omega), ?_, sm.trans (same_upd hT), thr, ?_⟩
            · unfold topsOf
              rw [List.length_map, List.length_map, List.length_range]; exact small1000 (by omega)
            · rw [ez, ez2, Int.mul_comm p.1 (DT (ps.take i).reverse)]
              unfold topsOf
              rw [List.range_succ, List.map_append, List.map_append]; rfl
          · rintro σ H2 zs ⟨sm, _, rfl⟩
            have e2 : min ((topsOf m.length (ps.take i).reverse).map V.int).length (p.2.2.map V.int).length = m.length := by
              unfold topsOf
              rw [List.length_map, List.length_map, List.length_map, List.length_range]; omega
            rw [e2, ← erev]
            refine ⟨?_, fun q hq => ⟨sm.trans (same_upd hq), q, upd_same, rfl⟩⟩
            unfold topsOf
            rw [List.length_map, List.length_map, List.length_range]; exact Nat.le_of_lt (small1000 (by omega))
        rintro σ8 H5 ⟨s5, tp6, htp6, rfl⟩
        simp_arith []
        exact ⟨mulA_b (bD i) pbb (by decide) (by decide), sm4.trans s5, tp6, htp6, rfl, by rw [erev]; rfl, _, rfl⟩
      · rintro σ H3 ⟨sm3, tp5, htp5, x1, x2, x3, x4, rfl⟩
        rw [List.take_length] at htp5 ⊢
        exact ⟨sm3, tp5, htp5, _, _, _, _, rfl⟩
    rintro σ4 H4 ⟨sm4, tp4, htp4, x1, x2, x3, x4, rfl⟩
    simp_arith []
    refine ⟨⟨_, sm4.seq hc⟩, lc_list (K := K) (xs := cs.map V.int) (fun i σ H2 zs => Same H4 H2 ∧ (∃ v, σ = [v, some (V.int (DT ps.reverse))]) ∧ zs = ((cs.take i).map fun x => x * DT ps.reverse).map V.int) ⟨Same.refl _, ⟨_, rfl⟩, rfl⟩ (fun i σ H2 zs _ ⟨e, _⟩ => e.seq (sm4.seq hc)) ?_ ?_⟩
    · rintro i y σ H2 zs hi ⟨sm, ⟨v, rfl⟩, rfl⟩
      obtain ⟨z, hz, rfl⟩ := map_int hi
      have il : i < cs.length := (List.getElem?_eq_some_iff.mp hz).1
      have zb := cb z (List.mem_of_getElem? hz)
      simp_arith []
      refine ⟨mulA_l (by omega) (by omega), ?_, sm, ⟨_, rfl⟩, ?_⟩
      · rw [List.length_map, List.length_map, List.length_take]; exact small1000 (by omega)
      · rw [take_succ_of hz, List.map_append, List.map_append]; rfl
    · rintro σ H2 zs ⟨sm, ⟨v, rfl⟩, rfl⟩
      have e2 : (cs.map V.int).length = cs.length := List.length_map ..
      rw [e2, List.take_length]
      refine ⟨by rw [List.length_map, List.length_map]; exact Nat.le_of_lt (small1000 (by omega)), fun q hq => ⟨q, rfl, _, SqL.of ((sm.trans (same_upd hq)) _ _ htp4), _, SqL.of upd_same, .inr (.inr ⟨intsV_map _, intsV_map _⟩), ?_⟩⟩
      have e : topsOf m.length ps.reverse = cs.map fun x => x * DT ps.reverse := by
        have e1 := congrArg (fun l : List Int => l.map fun x => x * DT ps.reverse) (cs_range lcs)
        have e2 : (cs.map fun x => x * DT ps.reverse) = ((List.range m.length).map (vecOf cs)).map fun x => x * DT ps.reverse := e1
        rw [e2, List.map_map]
        unfold topsOf
        exact List.map_congr_left fun k _ => (fin k).symm
      rw [e, decide_eq_true rfl]
      exact k _ (sm4.trans (sm.trans (same_upd hq)))
end
theorem Mat.rot {H : Hp} {rw' p p2 p3 : Addr} {m : List (List Int)} {t : Nat} {rs : List Addr} (h1 : H rw' = some (.lst (rs.map V.ref))) (h2 : Paired (fun r row => H r = some (.lst (List.map V.int row))) rs m)
    (hp : H p = none) (hp2 : upd H p (.lst ((rs.map V.ref).drop t)) p2 = none) (hp3 : upd (upd H p (.lst ((rs.map V.ref).drop t))) p2 (.lst ((rs.map V.ref).take t)) p3 = none) :
    Mat (upd (upd (upd H p (.lst ((rs.map V.ref).drop t))) p2 (.lst ((rs.map V.ref).take t))) p3 (.lst ((rs.map V.ref).drop t ++ (rs.map V.ref).take t))) p3 (m.drop t ++ m.take t) := by
  have sA := (same_upd (o := HO.lst ((rs.map V.ref).drop t)) hp).trans (same_upd (o := HO.lst ((rs.map V.ref).take t)) hp2)
  have sB := sA.trans (same_upd (o := HO.lst ((rs.map V.ref).drop t ++ (rs.map V.ref).take t)) hp3)
  refine ⟨rs.drop t ++ rs.take t, by rw [upd_same, List.map_append, List.map_drop, List.map_take], Paired.appL (Paired.dropL t (Paired.impL h2 fun _ _ e => sB _ _ e)) (Paired.takeL t (Paired.impL h2 fun _ _ e => sB _ _ e)), fun z => ?_⟩
  have zr : p3 ∈ rs := by
    rcases List.mem_append.mp z with z | z
    · exact List.mem_of_mem_drop z
    · exact List.mem_of_mem_take z
  obtain ⟨row, _, e⟩ := Paired.memL h2 zr
  have := sA _ _ e
  rw [hp3] at this; cases this
theorem Plt.rd {w : Nat} {m : List (List Int)} {cs : List Int} (h : Plt w m cs) : My.Rd w m cs := ⟨h.wid, h.small, h.len, fun x hx => by have := h.cnt x hx; omega, ⟨1, h.one, by decide⟩, fun j hj => by rw [zsum_sumTo j cs m h.len]; exact h.ev j hj⟩
structure RdH (w : Nat) (H : Hp) (rw' cn : Addr) (lim : Nat) (m : List (List Int)) (cs : List Int) : Prop where
  mat : Mat H rw' m
  cnt : H cn = some (.lst (cs.map V.int))
  rd : My.Rd w m cs
  len : m.length ≤ lim
  hi : ∀ x ∈ cs, x ≤ 10 ^ 12
noncomputable def RdE (w : Nat) (H : Hp) (rw' cn : Addr) (lim : Nat) : Prop := ∃ m cs, RdH w H rw' cn lim m cs
noncomputable def sp_planted (K : PySem.W.Frag) : Sp := fun vs H Q _ => ∃ l, vs = [.ref l] ∧ ∃ ns : List Int, SqL K H l (ns.map V.int) ∧
  ∀ p d c H' (w : Nat), Same H H' → H' p = some (.lst [.int (w : Nat), .ref d, .ref c]) → w ≤ 6 → RdE w H' d c 10 → Q (.ref p) H'
theorem scale_b {w : Nat} {m : List (List Int)} {cs : List Int} {s : Int} (pl : Plt w m cs) (hs : 1 ≤ s ∧ s ≤ 100000000000) : My.Rd w m (cs.map (s * ·)) ∧ ∀ x ∈ cs.map (s * ·), x ≤ 10 ^ 12 := by
  refine ⟨pl.rd.scale (by omega), fun x hx => ?_⟩
  obtain ⟨y, hy, rfl⟩ := List.mem_map.mp hx
  have c3 := pl.cnt y hy
  have h2 : s * y ≤ s * 3 := Int.mul_le_mul_of_nonneg_left c3.2 (by omega)
  show s * y ≤ _
  omega
theorem comp_scale {K : PySem.W.Frag} {H : Hp} {cn : Addr} {cs : List Int} {te : TE} {Q : VK} {σ0 : L2.St} (rest : L2.St) (h0 : σ0 = none :: rest) (sc : Int) (hcn : H cn = some (.lst (cs.map V.int))) (hl : cs.length ≤ 10)
    (hte : ∀ (z : Int) (Q' : VK), z ∈ cs → Q' (.int (z * sc)) H → te (some (V.int z) :: rest) H Q')
    (k : ∀ p, H p = none → Q (.ref p) (upd H p (.lst ((cs.map (sc * ·)).map V.int)))) : CompOk (Itl K cn) (gName 0) tTrue te Q σ0 H := by
  subst h0
  refine lc_list (K := K) (xs := cs.map V.int) (fun i σ H3 ys => H = H3 ∧ (∃ u, σ = u :: rest) ∧ ys = ((cs.take i).map (sc * ·)).map V.int) ⟨rfl, ⟨_, rfl⟩, rfl⟩ (fun i σ H3 ys _ ⟨e, _⟩ => e ▸ SqL.of hcn) ?_ ?_
  · rintro i y σ _ ys hi ⟨rfl, ⟨u', rfl⟩, rfl⟩
    obtain ⟨z, hz, rfl⟩ := map_int hi
    have hlt : i < cs.length := (List.getElem?_eq_some_iff.mp hz).1
    refine hte z _ (List.mem_of_getElem? hz) ⟨?_, rfl, ⟨_, rfl⟩, ?_⟩
    · rw [List.length_map, List.length_map, List.length_take]; exact small1000 (by omega)
    · rw [take_succ_of hz, List.map_append, List.map_append, Int.mul_comm z sc]; rfl
  · rintro σ _ ys ⟨rfl, _, rfl⟩
    have e2 : cs.take (cs.map V.int).length = cs := by rw [List.length_map, List.take_length]
    rw [e2]
    exact ⟨by rw [List.length_map, List.length_map]; exact Nat.le_of_lt (small1000 (by omega)), k⟩
theorem Mat.app {H : Hp} {a b p : Addr} {m n : List (List Int)} {rs ts : List Addr} (h2 : Paired (fun r row => H r = some (.lst (List.map V.int row))) rs m) (g2 : Paired (fun r row => H r = some (.lst (List.map V.int row))) ts n) (hp : H p = none) :
    Mat (upd H p (.lst (rs.map V.ref ++ ts.map V.ref))) p (m ++ n) := by
  have s := same_upd (o := HO.lst (rs.map V.ref ++ ts.map V.ref)) hp
  refine ⟨rs ++ ts, by rw [upd_same, List.map_append], Paired.appL (Paired.impL h2 fun _ _ e => s _ _ e) (Paired.impL g2 fun _ _ e => s _ _ e), fun z => ?_⟩
  rcases List.mem_append.mp z with z | z
  · obtain ⟨b, _, e⟩ := Paired.memL h2 z
    rw [hp] at e; cases e
  · obtain ⟨b, _, e⟩ := Paired.memL g2 z
    rw [hp] at e; cases e
section
variable {P : Program} {w : World} {K : PySem.W.Frag} {mg : Str → Option Value} {base : Heap}
theorem sc_law_planted : FnScope ["_law_script", "_law_width", "_law_size", "_law_rows", "_law_counts", "_law_cell", "_law_more", "_law_other", "_law_turn"] ["_law_script"] (defScope s_law_planted) := ⟨rfl, rfl, rfl, by decide +kernel, rfl, by decide +kernel, by decide +kernel⟩
theorem c_law_planted (T : Txt K mg) : Cal P w K mg base "_law_planted" 4 ["_law_script"] (sp_planted K) := by
  refine T.law_planted.ok sc_law_planted (fun vs H Q E h => ?_) (fun f cdv A outer s H vs Q E hr h => ?_)
  · obtain ⟨l, rfl, _⟩ := h; rfl
  · obtain ⟨a, rfl, ns, hS, k⟩ := h
    have B := T.B
    have c_law_at := c_law_at (P := P) (w := w) (base := base) T
    have c_law_plant := c_law_plant (P := P) (w := w) (base := base) T
    refine ⟨_, (pss_cut (ps_set (i := 1) sc_law_planted.nd rfl (Or.inl rfl) (pe_op op_mod (pe_cal c_law_at (hr.mono (by decide)) (pa_cons (pv 0) (pa_cons pe_int pa_nil))) pe_int))
 (pss_cut (ps_set (i := 2) sc_law_planted.nd rfl (Or.inr rfl) (pe_ix ix_list (pe_lst (pa_cons pe_int (pa_cons (pe_op op_pow pe_int pe_int) pa_nil))) (pe_op op_mod (pe_cal c_law_at (hr.mono (by decide)) (pa_cons (pv 0) (pa_cons pe_int pa_nil))) pe_int) (fun _ _ => rfl)))
 (pss_cut (ps_asg (pe_cal c_law_plant (hr.mono (by decide)) (pa_cons (pe_cal c_law_at (hr.mono (by decide)) (pa_cons (pv 0) (pa_cons pe_int pa_nil))) (pa_cons (pv 1) pa_nil))) (pg_tupL (n := 2) rfl (pgs_cons (pg_name (i := 3) sc_law_planted.nd rfl (Or.inl rfl)) (pgs_cons (pg_name (i := 4) sc_law_planted.nd rfl (Or.inl rfl)) pgs_nil))))
 (pss_cut (ps_lc (i := 4) sc_law_planted.nd rfl (pi_list (pv 4)) (.cons rfl (.cons rfl .nil)) (.own (x := "_law_x") (.cap (x := "_law_size") (j := 2) rfl (Or.inl rfl) (Or.inl rfl) ⟨_, rfl⟩ (.cap (x := "_law_script") (j := 0) rfl (Or.inl rfl) (Or.inl rfl) ⟨_, rfl⟩ .nil))) (fun _ _ _ _ => (pg_name (i := 0) (show (["_law_x", "_law_size", "_law_script"] : List Str).Nodup from by decide +kernel) rfl (Or.inl rfl))) (fun _ _ _ _ => ifs_nil) (fun _ _ _ _ => (pe_op op_mulA (pv 0) (pe_op op_add pe_int (pe_op op_modN (pe_cal c_law_at (hr.mono (by decide)) (pa_cons (pv 2) (pa_cons pe_int pa_nil))) (pv 1))))))
 (pss_cut (ps_if (pt_cmpR op_gt (pe_op op_mod (pe_op op_fdiv (pe_cal c_law_at (hr.mono (by decide)) (pa_cons (pv 0) (pa_cons pe_int pa_nil))) pe_int) pe_int) pe_int (nomark _)) (pss_cut (ps_set (i := 5) sc_law_planted.nd rfl (Or.inl rfl) (pe_cal c_law_at (hr.mono (by decide)) (pa_cons (pv 0) (pa_cons pe_int pa_nil))))
 (pss_cut (ps_asg (pe_cal c_law_plant (hr.mono (by decide)) (pa_cons (pe_op op_add (pe_op op_mulA (pe_op op_fdiv (pv 5) pe_int) pe_int) (pe_op op_mod (pv 5) pe_int)) (pa_cons (pv 1) pa_nil))) (pg_tupL (n := 2) rfl (pgs_cons (pg_name (i := 6) sc_law_planted.nd rfl (Or.inl rfl)) (pgs_cons (pg_name (i := 7) sc_law_planted.nd rfl (Or.inl rfl)) pgs_nil))))
 (pss_cut (ps_set (i := 3) sc_law_planted.nd rfl (Or.inl rfl) (pe_op op_cat (pv 3) (pv 6)))
 (pss_one (ps_set (i := 4) sc_law_planted.nd rfl (Or.inl rfl) (pe_op op_cat (pv 4) (pe_lc (pi_list (pv 7)) (.cons rfl (.cons rfl .nil)) (.own (x := "_law_x") (.cap (x := "_law_size") (j := 2) rfl (Or.inl rfl) (Or.inl rfl) ⟨_, rfl⟩ (.cap (x := "_law_script") (j := 0) rfl (Or.inl rfl) (Or.inl rfl) ⟨_, rfl⟩ .nil))) (fun _ _ _ _ => (pg_name (i := 0) (show (["_law_x", "_law_size", "_law_script"] : List Str).Nodup from by decide +kernel) rfl (Or.inl rfl))) (fun _ _ _ _ => ifs_nil) (fun _ _ _ _ => (pe_op op_mulA (pv 0) (pe_op op_add pe_int (pe_op op_modN (pe_cal c_law_at (hr.mono (by decide)) (pa_cons (pv 2) (pa_cons pe_int pa_nil))) (pv 1)))))))))))) pss_nil)
 (pss_cut (ps_set (i := 8) sc_law_planted.nd rfl (Or.inl rfl) (pe_op op_modN (pe_cal c_law_at (hr.mono (by decide)) (pa_cons (pv 0) (pa_cons pe_int pa_nil))) (pe_callB call_len_seq rfl B.len PySem.boot_len (pa_cons (pv 3) pa_nil))))
 (pss_one (ps_ret (pe_lst (pa_cons (pv 1) (pa_cons (pe_op op_cat (pe_slice sl_list (pv 3) (po_some (pv 8)) po_none) (pe_slice sl_list (pv 3) po_none (po_some (pv 8)))) (pa_cons (pe_op op_cat (pe_slice sl_list (pv 4) (po_some (pv 8)) po_none) (pe_slice sl_list (pv 4) po_none (po_some (pv 8)))) pa_nil)))))))))))), ?_⟩
    change tCut _ _ _ [some (V.ref a), none, none, none, none, none, none, none, none] H
    refine cut (fun σ H1 => H = H1 ∧ ∃ wd : Nat, wd ≤ 6 ∧ σ = [some (V.ref a), some (V.int wd), none, none, none, none, none, none, none]) ?_ ?_
    · simp_arith [sp_at]
      exact ⟨by decide, ns, hS, by decide, (ns.getD (Int.toNat 0) 0 % 7).toNat, by omega, by congr 2; omega⟩
    rintro σ1 _ ⟨rfl, wd, w6, rfl⟩
    refine cut (fun σ H1 => Same H H1 ∧ ∃ sz : Int, (1 ≤ sz ∧ sz ≤ 100000000000) ∧ σ = [some (V.ref a), some (V.int wd), some (V.int sz), none, none, none, none, none, none]) ?_ ?_
    · simp_arith [sp_at]
      have e11 : (10 : Int) ^ Int.toNat 11 = 100000000000 := by decide
      rw [e11]
      obtain ⟨z, hz, hz'⟩ := pick2 12 100000000000 (ns.getD (Int.toNat 1) 0)
      exact ⟨⟨by decide, by decide, by decide⟩, by show 2 ≤ sizeLine; decide, fun p hp => ⟨by decide, ns, (same_upd hp).seq hS, by decide, _, SqL.of upd_same, _, hz, same_upd hp, z, by omega, by omega, rfl⟩⟩
    rintro σ2 H1 ⟨sm1, sz, hsz, rfl⟩
    have hS1 := sm1.seq hS
    refine cut (fun σ H2 => Same H1 H2 ∧ ∃ rw', (∃ m, Mat H2 rw' m ∧ ∃ cn cs, H2 cn = some (.lst (List.map V.int cs)) ∧ Plt wd m cs ∧ σ = [some (V.ref a), some (V.int wd), some (V.int sz), some (V.ref rw'), some (V.ref cn), none, none, none, none])) ?_ ?_
    · simp_arith [sp_at, sp_plant]
      refine ⟨by decide, ns, hS1, wd, rfl, w6, fun p rw' cn H1 m cs hp s1 e1 hm ncn hcn pl => gTupL2 (SqL.of e1) ⟨s1, rw', m, hm.mat, cn, cs, hcn, pl, rfl⟩⟩
    rintro σ3 H2 ⟨sm2, rw', m, hm, cn, cs, hcn, pl, rfl⟩
    have hS2 := sm2.seq hS1
    have smH2 := sm1.trans sm2
    have sc : ∀ i : Nat, 1 ≤ 1 + (ns.getD i 0).fmod sz ∧ 1 + (ns.getD i 0).fmod sz ≤ 100000000000 := fun i => by
      have f0 := Int.fmod_nonneg_of_pos (ns.getD i 0) (show (0 : Int) < sz by omega)
      have f1 := Int.fmod_lt_of_pos (ns.getD i 0) (show (0 : Int) < sz by omega)
      omega
    refine cut (fun σ H3 => Same H H3 ∧ ∃ cn, RdE wd H3 rw' cn 5 ∧ σ = [some (V.ref a), some (V.int wd), some (V.int sz), some (V.ref rw'), some (V.ref cn), none, none, none, none]) ?_ ?_
    · simp_arith []
      have phi := pl.hi
      have pll := pl.len
      refine ⟨⟨_, SqL.of hcn⟩, comp_scale [some (V.int sz), some (V.ref a)] rfl (1 + (ns.getD (Int.toNat 3) 0).fmod sz) hcn (by omega) (fun z Q' hz h => ?_) fun q hq => ?_⟩
      · have c3 := pl.cnt z hz
        simp_arith [sp_at]
        exact ⟨by decide, ns, hS2, by omega, mulA_l (by omega) (by omega), h⟩
      · obtain ⟨r1, r2⟩ := scale_b pl (sc (Int.toNat 3))
        exact ⟨smH2.trans (same_upd hq), q, ⟨m, _, hm.same (same_upd hq), upd_same, r1, phi, r2⟩, rfl⟩
    rintro σ4 H3 ⟨smH3, cn3, rd3, rfl⟩
    clear hm hcn pl sm2 sm1 hS1 hS2
    refine cut (fun σ H4 => Same H H4 ∧ ∃ rw4 cn4, RdE wd H4 rw4 cn4 10 ∧ ∃ x1 x2 x3, σ = [some (V.ref a), some (V.int wd), some (V.int sz), some (V.ref rw4), some (V.ref cn4), x1, x2, x3, none]) ?_ ?_
    · simp_arith [sp_at]
      have hS3 := smH3.seq hS
      refine ⟨by decide, ns, hS3, ⟨by decide, by decide⟩, by decide, ite2 (fun _ => ?_) fun _ => ?_⟩
      · refine cut (fun σ H4 => H3 = H4 ∧ ∃ ce : Int, σ = [some (V.ref a), some (V.int wd), some (V.int sz), some (V.ref rw'), some (V.ref cn3), some (V.int ce), none, none, none]) ?_ ?_
        · simp_arith [sp_at]
          exact ⟨by decide, ns, hS3, _, rfl⟩
        rintro σ5 _ ⟨rfl, ce, rfl⟩
        refine cut (fun σ H4 => Same H3 H4 ∧ ∃ mo, (∃ m2, Mat H4 mo m2 ∧ ∃ ot cs2, H4 ot = some (.lst (List.map V.int cs2)) ∧ Plt wd m2 cs2 ∧ σ = [some (V.ref a), some (V.int wd), some (V.int sz), some (V.ref rw'), some (V.ref cn3), some (V.int ce), some (V.ref mo), some (V.ref ot), none])) ?_ ?_
        · simp_arith [sp_plant]
          refine ⟨⟨by decide, by decide⟩, mulA_r (by decide) (by decide), by decide, wd, rfl, w6, fun p rw2 cn2 H1 m cs hp s1 e1 hm ncn hcn pl => gTupL2 (SqL.of e1) ⟨s1, rw2, m, hm.mat, cn2, cs, hcn, pl, rfl⟩⟩
        rintro σ6 H4 ⟨sm4, mo, m2, hm2, ot, cs2, hot, pl2, rfl⟩
        obtain ⟨m3, cs3, R3⟩ := rd3
        obtain ⟨rs, g1, g2, g3⟩ := R3.mat.same sm4
        obtain ⟨ts, t1, t2, t3⟩ := hm2
        have rl := g2.length
        have tl := t2.length
        have l3 := R3.len
        have l2 := pl2.hi
        have cl3 := R3.rd.len
        have cl2 := pl2.len
        refine cut (fun σ H5 => Same H4 H5 ∧ ∃ rw5, Mat H5 rw5 (m3 ++ m2) ∧ σ = [some (V.ref a), some (V.int wd), some (V.int sz), some (V.ref rw5), some (V.ref cn3), some (V.int ce), some (V.ref mo), some (V.ref ot), none]) ?_ ?_
        · simp_arith []
          exact ⟨_, g1, _, t1, by rw [List.length_map, List.length_map]; exact Nat.le_of_lt (small1000 (by omega)), fun p hp => ⟨same_upd hp, p, Mat.app (a := p) (b := p) g2 t2 hp, rfl⟩⟩
        rintro σ7 H5 ⟨sm5, rw5, hm5, rfl⟩
        have hot5 := sm5 _ _ hot
        have hcn5 := sm5 _ _ (sm4 _ _ R3.cnt)
        have smH5 := smH3.trans (sm4.trans sm5)
        simp_arith []
        refine ⟨⟨_, SqL.of hot5⟩, comp_scale [some (V.int sz), some (V.ref a)] rfl (1 + (ns.getD (Int.toNat 5) 0).fmod sz) hot5 (by omega) (fun z Q' hz h => ?_) fun q hq => ?_⟩
        · have c3 := pl2.cnt z hz
          simp_arith [sp_at]
          exact ⟨by decide, ns, smH5.seq hS, by omega, mulA_l (by omega) (by omega), h⟩
        · obtain ⟨r1, r2⟩ := scale_b pl2 (sc (Int.toNat 5))
          refine ⟨q, rfl, _, (same_upd hq) _ _ hcn5, _, upd_same, by rw [List.length_map, List.length_map, List.length_map]; exact Nat.le_of_lt (small1000 (by omega)), fun q2 hq2 => ?_⟩
          have sE := (same_upd (o := HO.lst ((cs2.map ((1 + (ns.getD (Int.toNat 5) 0).fmod sz) * ·)).map V.int)) hq).trans (same_upd (o := HO.lst (cs3.map V.int ++ (cs2.map ((1 + (ns.getD (Int.toNat 5) 0).fmod sz) * ·)).map V.int)) hq2)
          refine ⟨smH5.trans sE, rw5, q2, ⟨m3 ++ m2, _, hm5.same sE, by rw [upd_same, ← List.map_append], R3.rd.app r1, by rw [List.length_append]; omega, fun x hx => ?_⟩, rfl, rfl, _, rfl⟩
          rcases List.mem_append.mp hx with z | z
          · exact R3.hi x z
          · exact r2 x z
      · obtain ⟨m3, cs3, R3⟩ := rd3
        exact ⟨smH3, rw', cn3, ⟨m3, cs3, R3.mat, R3.cnt, R3.rd, Nat.le_trans R3.len (by decide), R3.hi⟩, rfl, rfl, _, rfl⟩
    rintro σ5 H4 ⟨smH4, rw4, cn4, ⟨m4, cs4, R4⟩, x1, x2, x3, rfl⟩
    have mpos : 0 < m4.length := by
      obtain ⟨x, hx, _⟩ := R4.rd.some
      rw [← R4.rd.len]; exact List.length_pos_of_mem hx
    have m10 := R4.len
    refine cut (fun σ H5 => H4 = H5 ∧ ∃ t : Nat, t < m4.length ∧ σ = [some (V.ref a), some (V.int wd), some (V.int sz), some (V.ref rw4), some (V.ref cn4), x1, x2, x3, some (V.int t)]) ?_ ?_
    · obtain ⟨rs, e1, l1⟩ := R4.mat.len (K := K)
      simp_arith [sp_at]
      refine ⟨by decide, ns, smH4.seq hS, _, .inl e1, ?_⟩
      rw [List.length_map, l1]
      have f0 := Int.fmod_nonneg_of_pos (ns.getD (Int.toNat 6) 0) (show (0 : Int) < m4.length by omega)
      have f1 := Int.fmod_lt_of_pos (ns.getD (Int.toNat 6) 0) (show (0 : Int) < m4.length by omega)
      exact ⟨by omega, ((ns.getD (Int.toNat 6) 0).fmod m4.length).toNat, by omega, by congr 2; omega⟩
    rintro σ6 _ ⟨rfl, t, ht, rfl⟩
    obtain ⟨rs, g1, g2, g3⟩ := R4.mat
    have rl := g2.length
    have cl := R4.rd.len
    simp_arith []
    refine ⟨_, SqL.of g1, fun p hp => ?_⟩
    rw [cut_drop _ _ (by rw [List.length_map]; omega)]
    refine ⟨_, SqL.of ((same_upd hp) _ _ g1), fun p2 hp2 => ?_⟩
    rw [cut_take _ _ (by rw [List.length_map]; omega)]
    have sA := (same_upd (o := HO.lst ((rs.map V.ref).drop t)) hp).trans (same_upd (o := HO.lst ((rs.map V.ref).take t)) hp2)
    refine ⟨_, (same_upd hp2) _ _ upd_same, _, upd_same, by rw [List.length_drop, List.length_take, List.length_map]; exact Nat.le_of_lt (small1000 (by omega)), fun p3 hp3 => ?_⟩
    have hM := Mat.rot (t := t) g1 g2 hp hp2 hp3
    have sB := sA.trans (same_upd (o := HO.lst ((rs.map V.ref).drop t ++ (rs.map V.ref).take t)) hp3)
    generalize upd (upd (upd H4 p (HO.lst ((rs.map V.ref).drop t))) p2 (HO.lst ((rs.map V.ref).take t))) p3 (HO.lst ((rs.map V.ref).drop t ++ (rs.map V.ref).take t)) = H9 at hM sB ⊢
    have hc9 := sB _ _ R4.cnt
    refine ⟨_, SqL.of hc9, fun p4 hp4 => ?_⟩
    rw [cut_drop _ _ (by rw [List.length_map]; omega)]
    refine ⟨_, SqL.of ((same_upd hp4) _ _ hc9), fun p5 hp5 => ?_⟩
    rw [cut_take _ _ (by rw [List.length_map]; omega)]
    have sC := (same_upd (o := HO.lst ((cs4.map V.int).drop t)) hp4).trans (same_upd (o := HO.lst ((cs4.map V.int).take t)) hp5)
    refine ⟨_, (same_upd hp5) _ _ upd_same, _, upd_same, by rw [List.length_drop, List.length_take, List.length_map]; exact Nat.le_of_lt (small1000 (by omega)), fun p6 hp6 => ⟨by show 3 ≤ sizeLine; decide, fun p7 hp7 => ?_⟩⟩
    have sD := sC.trans (same_upd (o := HO.lst ((cs4.map V.int).drop t ++ (cs4.map V.int).take t)) hp6)
    have sE := sD.trans (same_upd (o := HO.lst [V.int wd, V.ref p3, V.ref p6]) hp7)
    refine k p7 p3 p6 _ wd (smH4.trans (sB.trans sE)) upd_same w6 ⟨m4.drop t ++ m4.take t, cs4.drop t ++ cs4.take t, hM.same sE, ?_, R4.rd.rot, ?_, fun x hx => ?_⟩
    · refine (same_upd hp7) _ _ ?_
      rw [upd_same, List.map_append, List.map_drop, List.map_take]
    · rw [List.length_append, List.length_drop, List.length_take]; omega
    · rcases List.mem_append.mp hx with z | z
      · exact R4.hi x (List.mem_of_mem_drop z)
      · exact R4.hi x (List.mem_of_mem_take z)
end
section
variable {P : Program} {w : World} {K : PySem.W.Frag} {mg : Str → Option Value} {base : Heap}
theorem sc_law_row : FnScope ["_law_cell", "_law_width", "_law_way"] ["_law_cell", "_law_width", "_law_way"] (defScope s_law_row) := ⟨rfl, rfl, rfl, by decide +kernel, rfl, by decide +kernel, by decide +kernel⟩
theorem c_law_row (T : Txt K mg) : Cal P w K mg base "_law_row" 3 ["_law_cell", "_law_width", "_law_way"] sp_rowl := by
  refine T.law_row.ok sc_law_row (fun vs H Q E h => ?_) (fun f cdv A outer s H vs Q E hr h => ?_)
  · obtain ⟨c, wd, way, rfl, _⟩ := h; rfl
  · obtain ⟨c, wd, way, rfl, h0, h6, k⟩ := h
    have B := T.B
    have c_law_draws := c_law_draws (P := P) (w := w) (base := base) T
    refine ⟨_, (pss_cons (ps_if (pt_cmpR op_eq (pv 2) pe_int (nomark _)) (pss_one (ps_ret (pe_lc (pi_list (pe_cal c_law_draws (hr.mono (by decide)) (pa_cons (pv 0) (pa_cons (pv 1) (pa_cons pe_int (pa_cons pe_bl pa_nil)))))) .nil (.own (x := "_law_x") .nil) (fun _ _ _ _ => (pg_name (i := 0) (show (["_law_x"] : List Str).Nodup from by decide +kernel) rfl (Or.inl rfl))) (fun _ _ _ _ => ifs_nil) (fun _ _ _ _ => (pe_ix (ix_listK (K := K) rfl) (pe_lstC (ns := [0, 1, -1, 0, 2, -2, 1, -1, 3, -3, 0]) rfl) (pv 0) (fun _ _ => rfl)))))) pss_nil)
 (pss_cons (ps_if (pt_cmpR op_eq (pv 2) pe_int (nomark _)) (pss_one (ps_ret (pe_lc (pi_list (pe_cal c_law_draws (hr.mono (by decide)) (pa_cons (pv 0) (pa_cons (pv 1) (pa_cons pe_int (pa_cons pe_bl pa_nil)))))) .nil (.own (x := "_law_x") .nil) (fun _ _ _ _ => (pg_name (i := 0) (show (["_law_x"] : List Str).Nodup from by decide +kernel) rfl (Or.inl rfl))) (fun _ _ _ _ => ifs_nil) (fun _ _ _ _ => (pe_ix (ix_listK (K := K) rfl) (pe_lstC (ns := [0, 1, -1, 0]) rfl) (pv 0) (fun _ _ => rfl)))))) pss_nil)
 (pss_one (ps_ret (pe_lc (pi_list (pe_cal c_law_draws (hr.mono (by decide)) (pa_cons (pv 0) (pa_cons (pv 1) (pa_cons pe_int (pa_cons (pe_cmpR op_eq (pv 2) pe_int (nomark _)) pa_nil)))))) .nil (.own (x := "_law_x") .nil) (fun _ _ _ _ => (pg_name (i := 0) (show (["_law_x"] : List Str).Nodup from by decide +kernel) rfl (Or.inl rfl))) (fun _ _ _ _ => ifs_nil) (fun _ _ _ _ => (pe_op op_sub (pe_op op_mod (pe_op op_add (pv 0) pe_int) pe_int) pe_int))))))), ?_⟩
    change tSeq _ _ _ [some (V.int c), some (V.int wd), some (V.int way)] H
    simp_arith [sp_draws]
    have pickC : ∀ (menu : List Int), (∀ y ∈ menu, -3 ≤ y ∧ y ≤ 3) → 0 < menu.length → menu.length ≤ 20 → ∀ (p : Addr) (H1 : Hp) (xs : List Int), H p = none → Same H H1 → H1 p = some (.lst (xs.map V.int)) → (xs.length : Int) = wd → (∀ x ∈ xs, 0 ≤ x ∧ x < (menu.length : Int)) →
        ∀ (te : TE), (∀ x : Int, ∀ H2 (Q' : VK), (∀ q, H2 q = none → ∀ z, z ∈ menu → Q' (.int z) (upd H2 q (.lst (menu.map V.int)))) → 0 ≤ x → x < (menu.length : Int) → te [some (V.int x)] H2 Q') →
        CompOk (Itl K p) (gName 0) tTrue te Q [none] H1 := by
      intro menu hm1 hm2 hm3 p H1 xs hp sm hx hl hb te hte
      refine lc_list (K := K) (xs := xs.map V.int) (fun i σ H2 ys => Same H1 H2 ∧ (∃ v, σ = [v]) ∧ ∃ zs : List Int, ys = zs.map V.int ∧ zs.length = i ∧ ∀ z ∈ zs, -3 ≤ z ∧ z ≤ 3) ⟨Same.refl _, ⟨_, rfl⟩, [], rfl, rfl, (fun _ h => nomatch h)⟩ (fun i σ H2 ys _ ⟨e, _⟩ => e.seq (SqL.of hx)) ?_ ?_
      · rintro i y σ H2 ys hi ⟨sm2, ⟨v, rfl⟩, zs, rfl, hzl, hz⟩
        obtain ⟨x, hx1, rfl⟩ := map_int hi
        have hlt : i < xs.length := (List.getElem?_eq_some_iff.mp hx1).1
        have hxb := hb x (List.mem_of_getElem? hx1)
        simp_arith []
        refine hte x H2 _ (fun q hq z hzm => ⟨?_, sm2.trans (same_upd hq), ⟨_, rfl⟩, zs ++ [z], by rw [List.map_append]; rfl, by rw [List.length_append, hzl]; rfl, fun y hy => ?_⟩) hxb.1 hxb.2
        · rw [List.length_map]; exact small1000 (by omega)
        · rcases List.mem_append.mp hy with hy | hy
          · exact hz y hy
          · rw [List.mem_singleton.mp hy]; exact hm1 z hzm
      · rintro σ H2 ys ⟨sm2, ⟨v, rfl⟩, zs, rfl, hzl, hz⟩
        rw [List.length_map] at hzl
        refine ⟨by rw [List.length_map]; exact Nat.le_of_lt (small1000 (by omega)), fun q hq => k q _ zs (sm.free (sm2.free hq)) (sm.trans (sm2.trans (same_upd hq))) upd_same (by omega) (fun z h => by have := hz z h; omega) fun _ => hz⟩
    refine ite2 (fun _ => ?_) fun hw1 => ite2 (fun _ => ?_) fun _ => ?_
    · refine ⟨h0, by omega, by decide, by decide, fun p H1 xs hp sm hx hl hb => ⟨⟨_, SqL.of hx⟩, ?_⟩⟩
      refine pickC [0, 1, -1, 0, 2, -2, 1, -1, 3, -3, 0] (by decide) (by decide) (by decide) p H1 xs hp sm hx hl hb _ fun x H2 Q' hq x0 x1 => ?_
      simp_arith []
      refine ⟨by show 11 ≤ sizeLine; decide, fun q hq' => ⟨_, SqL.of upd_same, ?_⟩⟩
      obtain ⟨z, hz, e⟩ := at_list (xs := [0, 1, -1, 0, 2, -2, 1, -1, 3, -3, 0]) x0 x1
      exact ⟨_, e, hq q hq' z hz⟩
    · refine ⟨h0, by omega, by decide, by decide, fun p H1 xs hp sm hx hl hb => ⟨⟨_, SqL.of hx⟩, ?_⟩⟩
      refine pickC [0, 1, -1, 0] (by decide) (by decide) (by decide) p H1 xs hp sm hx hl hb _ fun x H2 Q' hq x0 x1 => ?_
      simp_arith []
      refine ⟨by show 4 ≤ sizeLine; decide, fun q hq' => ⟨_, SqL.of upd_same, ?_⟩⟩
      obtain ⟨z, hz, e⟩ := at_list (xs := [0, 1, -1, 0]) x0 x1
      exact ⟨_, e, hq q hq' z hz⟩
    · refine ⟨h0, by omega, by decide, by decide, fun p H1 xs hp sm hx hl hb => ⟨⟨_, SqL.of hx⟩, ?_⟩⟩
      refine lc_list (K := K) (xs := xs.map V.int) (fun i σ H2 ys => H1 = H2 ∧ (∃ v, σ = [v]) ∧ ∃ zs : List Int, ys = zs.map V.int ∧ zs.length = i ∧ ∀ z ∈ zs, -9 ≤ z ∧ z ≤ 9) ⟨rfl, ⟨_, rfl⟩, [], rfl, rfl, (fun _ h => nomatch h)⟩ (fun i σ H2 ys _ ⟨e, _⟩ => e ▸ SqL.of hx) ?_ ?_
      · rintro i y σ _ ys hi ⟨rfl, ⟨v, rfl⟩, zs, rfl, hzl, hz⟩
        obtain ⟨x, hx1, rfl⟩ := map_int hi
        have hlt : i < xs.length := (List.getElem?_eq_some_iff.mp hx1).1
        simp_arith []
        refine ⟨by decide, by rw [List.length_map]; exact small1000 (by omega), ⟨_, rfl⟩, zs ++ [(x + 9) % 19 - 9], by rw [List.map_append]; rfl, by rw [List.length_append, hzl]; rfl, fun y hy => ?_⟩
        rcases List.mem_append.mp hy with hy | hy
        · exact hz y hy
        · rw [List.mem_singleton.mp hy]; omega
      · rintro σ _ ys ⟨rfl, ⟨v, rfl⟩, zs, rfl, hzl, hz⟩
        rw [List.length_map] at hzl
        exact ⟨by rw [List.length_map]; exact Nat.le_of_lt (small1000 (by omega)), fun q hq => k q _ zs (sm.free hq) (sm.trans (same_upd hq)) upd_same (by omega) hz fun h => absurd h hw1⟩
noncomputable def BImp (b : Bool) (p : Prop) : Prop := b = true → p
theorem sc_law_works : FnScope ["_law_script", "_law_way", "_law_turned", "_law_width", "_law_many", "_law_deeds", "_law_k", "_law_cell", "_law_row_here"] ["_law_script"] (defScope s_law_works) := ⟨rfl, rfl, rfl, by decide +kernel, rfl, by decide +kernel, by decide +kernel⟩
theorem c_law_works (T : Txt K mg) : Cal P w K mg base "_law_works" 4 ["_law_script"] (sp_works K) := by
  refine T.law_works.ok sc_law_works (fun vs H Q E h => ?_) (fun f cdv A outer s H vs Q E hr h => ?_)
  · obtain ⟨l, rfl, _⟩ := h; rfl
  · obtain ⟨l, rfl, ns, hS, k⟩ := h
    have B := T.B
    have c_law_row := c_law_row (P := P) (w := w) (base := base) T
    have c_law_at := c_law_at (P := P) (w := w) (base := base) T
    refine ⟨_, (@pss_cut _ _ _ _ _ (@ps_set _ _ (1) _ _ _ _ sc_law_works.nd rfl (Or.inl rfl) (@pe_ix _ _ _ _ _ _ _ ix_list (@pe_lstC _ _ _ ([0, 1, 0, 2, 0, 3, 0, 1]) rfl) (@pe_op _ _ _ _ _ _ _ _ op_mod (@pe_cal _ _ _ _ _ _ _ _ _ _ c_law_at (hr.mono (by decide)) (@pa_cons _ _ _ _ _ (@pv _ 0 _ _ (by rfl) (by first | exact Or.inl rfl | exact Or.inr (Or.inl rfl) | exact Or.inr (Or.inr rfl)) (by decide) (by decide)) (@pa_cons _ _ _ _ _ (@pe_int _ _ _ _) (@pa_nil _) (by rfl)) (by rfl)) (by rfl) (by decide) (by rfl) (by rfl)) (@pe_int _ _ _ _)) (fun _ _ => rfl)) (by rfl) (by first | exact .inl rfl | exact .inr rfl)) (@pss_cut _ _ _ _ _ (@ps_set _ _ (2) _ _ _ _ sc_law_works.nd rfl (Or.inl rfl) (@pe_cmpR _ _ _ _ _ _ _ _ op_eq (@pe_op _ _ _ _ _ _ _ _ op_mod (@pe_cal _ _ _ _ _ _ _ _ _ _ c_law_at (hr.mono (by decide)) (@pa_cons _ _ _ _ _ (@pv _ 0 _ _ (by rfl) (by first | exact Or.inl rfl | exact Or.inr (Or.inl rfl) | exact Or.inr (Or.inr rfl)) (by decide) (by decide)) (@pa_cons _ _ _ _ _ (@pe_int _ _ _ _) (@pa_nil _) (by rfl)) (by rfl)) (by rfl) (by decide) (by rfl) (by rfl)) (@pe_int _ _ _ _)) (@pe_int _ _ _ _) (nomark _)) (by rfl) (by first | exact .inl rfl | exact .inr rfl)) (@pss_cut _ _ _ _ _ (@ps_set _ _ (3) _ _ _ _ sc_law_works.nd rfl (Or.inl rfl) (@pe_ix _ _ _ _ _ _ _ ix_list (@pe_lstC _ _ _ ([2, 3, 1, 2, 4, 3, 0, 5, 2, 6, 3, 1]) rfl) (@pe_op _ _ _ _ _ _ _ _ op_mod (@pe_cal _ _ _ _ _ _ _ _ _ _ c_law_at (hr.mono (by decide)) (@pa_cons _ _ _ _ _ (@pv _ 0 _ _ (by rfl) (by first | exact Or.inl rfl | exact Or.inr (Or.inl rfl) | exact Or.inr (Or.inr rfl)) (by decide) (by decide)) (@pa_cons _ _ _ _ _ (@pe_int _ _ _ _) (@pa_nil _) (by rfl)) (by rfl)) (by rfl) (by decide) (by rfl) (by rfl)) (@pe_int _ _ _ _)) (fun _ _ => rfl)) (by rfl) (by first | exact .inl rfl | exact .inr rfl)) (@pss_cut _ _ _ _ _ (@ps_set _ _ (4) _ _ _ _ sc_law_works.nd rfl (Or.inl rfl) (@pe_ix _ _ _ _ _ _ _ ix_list (@pe_lstC _ _ _ ([4, 5, 6, 5, 3, 6, 7, 4, 5, 6, 2, 8, 1, 0, 9, 10]) rfl) (@pe_op _ _ _ _ _ _ _ _ op_mod (@pe_cal _ _ _ _ _ _ _ _ _ _ c_law_at (hr.mono (by decide)) (@pa_cons _ _ _ _ _ (@pv _ 0 _ _ (by rfl) (by first | exact Or.inl rfl | exact Or.inr (Or.inl rfl) | exact Or.inr (Or.inr rfl)) (by decide) (by decide)) (@pa_cons _ _ _ _ _ (@pe_int _ _ _ _) (@pa_nil _) (by rfl)) (by rfl)) (by rfl) (by decide) (by rfl) (by rfl)) (@pe_int _ _ _ _)) (fun _ _ => rfl)) (by rfl) (by first | exact .inl rfl | exact .inr rfl)) (@pss_cut _ _ _ _ _ (@ps_set _ _ (5) _ _ _ _ sc_law_works.nd rfl (Or.inl rfl) (@pe_lst _ _ _ _ (@pa_nil _)) (by rfl) (by first | exact .inl rfl | exact .inr rfl)) (@pss_cut _ _ _ _ _ (@ps_for _ _ _ _ _ _ _ _ PassesOwn.never rfl (@pi_range1 _ _ _ _ _ _ rfl B.range (@pa_cons _ _ _ _ _ (@pv _ 4 _ _ (by rfl) (by first | exact Or.inl rfl | exact Or.inr (Or.inl rfl) | exact Or.inr (Or.inr rfl)) (by decide) (by decide)) (@pa_nil _) (by rfl)) (by rfl)) (@pg_name _ _ (6) _ sc_law_works.nd rfl (Or.inl rfl) (by first | exact .inl rfl | exact .inr rfl)) (@pss_cons _ _ _ _ _ (@ps_set _ _ (7) _ _ _ _ sc_law_works.nd rfl (Or.inl rfl) (@pe_cal _ _ _ _ _ _ _ _ _ _ c_law_at (hr.mono (by decide)) (@pa_cons _ _ _ _ _ (@pv _ 0 _ _ (by rfl) (by first | exact Or.inl rfl | exact Or.inr (Or.inl rfl) | exact Or.inr (Or.inr rfl)) (by decide) (by decide)) (@pa_cons _ _ _ _ _ (@pe_op _ _ _ _ _ _ _ _ op_add (@pe_int _ _ _ _) (@pv _ 6 _ _ (by rfl) (by first | exact Or.inl rfl | exact Or.inr (Or.inl rfl) | exact Or.inr (Or.inr rfl)) (by decide) (by decide))) (@pa_nil _) (by rfl)) (by rfl)) (by rfl) (by decide) (by rfl) (by rfl)) (by rfl) (by first | exact .inl rfl | exact .inr rfl)) (@pss_cons _ _ _ _ _ (@ps_set _ _ (8) _ _ _ _ sc_law_works.nd rfl (Or.inl rfl) (@pe_cal _ _ _ _ _ _ _ _ _ _ c_law_row (hr.mono (by decide)) (@pa_cons _ _ _ _ _ (@pe_op _ _ _ _ _ _ _ _ op_add (@pv _ 7 _ _ (by rfl) (by first | exact Or.inl rfl | exact Or.inr (Or.inl rfl) | exact Or.inr (Or.inr rfl)) (by decide) (by decide)) (@pe_ix _ _ _ _ _ _ _ ix_list (@pe_lst _ _ _ _ (@pa_cons _ _ _ _ _ (@pe_int _ _ _ _) (@pa_cons _ _ _ _ _ (@pe_op _ _ _ _ _ _ _ _ op_mulA (@pe_int _ _ _ _) (@pv _ 6 _ _ (by rfl) (by first | exact Or.inl rfl | exact Or.inr (Or.inl rfl) | exact Or.inr (Or.inr rfl)) (by decide) (by decide))) (@pa_nil _) (by rfl)) (by rfl))) (@pe_callTy _ _ _ _ _ _ _ _ _ call_int1 rfl B.int boot_int (@pa_cons _ _ _ _ _ (@pe_cmpR _ _ _ _ _ _ _ _ op_gt (@pv _ 1 _ _ (by rfl) (by first | exact Or.inl rfl | exact Or.inr (Or.inl rfl) | exact Or.inr (Or.inr rfl)) (by decide) (by decide)) (@pe_int _ _ _ _) (nomark _)) (@pa_nil _) (by rfl)) (by decide) (by decide) (by rfl) (by rfl)) (fun _ _ => rfl))) (@pa_cons _ _ _ _ _ (@pv _ 3 _ _ (by rfl) (by first | exact Or.inl rfl | exact Or.inr (Or.inl rfl) | exact Or.inr (Or.inr rfl)) (by decide) (by decide)) (@pa_cons _ _ _ _ _ (@pv _ 1 _ _ (by rfl) (by first | exact Or.inl rfl | exact Or.inr (Or.inl rfl) | exact Or.inr (Or.inr rfl)) (by decide) (by decide)) (@pa_nil _) (by rfl)) (by rfl)) (by rfl)) (by rfl) (by decide) (by rfl) (by rfl)) (by rfl) (by first | exact .inl rfl | exact .inr rfl)) (@pss_cons _ _ _ _ _ (@ps_if _ _ _ _ _ _ _ _ (@PW.pt _ _ _ (@pw_and _ _ _ _ _ _ _ (@pt_val _ _ _ (@pv _ 2 _ _ (by rfl) (by first | exact Or.inl rfl | exact Or.inr (Or.inl rfl) | exact Or.inr (Or.inr rfl)) (by decide) (by decide)) (by intro _; rfl)) (@pw_and1 _ _ _ _ (@pt_cmpR _ _ _ _ _ _ _ _ op_eq (@pe_op _ _ _ _ _ _ _ _ op_mod (@pv _ 6 _ _ (by rfl) (by first | exact Or.inl rfl | exact Or.inr (Or.inl rfl) | exact Or.inr (Or.inr rfl)) (by decide) (by decide)) (@pe_int _ _ _ _)) (@pe_int _ _ _ _) (nomark _))))) (@pss_one _ _ _ (@ps_lc _ _ _ _ _ _ _ _ _ _ _ _ _ _ (8) _ _ _ sc_law_works.nd rfl (@pi_zip _ _ _ _ _ _ _ _ _ rfl B.zip (@pa_cons _ _ _ _ _ (@pe_ix _ _ _ _ _ _ _ ix_list (@pv _ 5 _ _ (by rfl) (by first | exact Or.inl rfl | exact Or.inr (Or.inl rfl) | exact Or.inr (Or.inr rfl)) (by decide) (by decide)) (@pe_op _ _ _ _ _ _ _ _ op_sub (@pv _ 6 _ _ (by rfl) (by first | exact Or.inl rfl | exact Or.inr (Or.inl rfl) | exact Or.inr (Or.inr rfl)) (by decide) (by decide)) (@pe_int _ _ _ _)) (fun _ _ => rfl)) (@pa_cons _ _ _ _ _ (@pe_ix _ _ _ _ _ _ _ ix_list (@pv _ 5 _ _ (by rfl) (by first | exact Or.inl rfl | exact Or.inr (Or.inl rfl) | exact Or.inr (Or.inr rfl)) (by decide) (by decide)) (@pe_op _ _ _ _ _ _ _ _ op_sub (@pv _ 6 _ _ (by rfl) (by first | exact Or.inl rfl | exact Or.inr (Or.inl rfl) | exact Or.inr (Or.inr rfl)) (by decide) (by decide)) (@pe_int _ _ _ _)) (fun _ _ => rfl)) (@pa_nil _) (by rfl)) (by rfl)) (by rfl) (by rfl)) .nil (.own (x := "_law_x") (.own (x := "_law_y") .nil)) (fun _ _ _ _ => (@pg_tupK _ (K) _ _ _ _ (2) rfl rfl (@pgs_cons _ _ _ _ _ (@pg_name _ _ (0) _ (show (["_law_x", "_law_y"] : List Str).Nodup from by decide +kernel) rfl (Or.inl rfl) (by first | exact .inl rfl | exact .inr rfl)) (@pgs_cons _ _ _ _ _ (@pg_name _ _ (1) _ (show (["_law_x", "_law_y"] : List Str).Nodup from by decide +kernel) rfl (Or.inl rfl) (by first | exact .inl rfl | exact .inr rfl)) (@pgs_nil _) (by rfl)) (by rfl)) (by rfl) (by rfl))) (fun _ _ _ _ => (@ifs_nil _)) (fun _ _ _ _ => (@pe_op _ _ _ _ _ _ _ _ op_sub (@pe_un _ _ _ _ _ _ un_neg (@pv _ 0 _ _ (by rfl) (by first | exact Or.inl rfl | exact Or.inr (Or.inl rfl) | exact Or.inr (Or.inr rfl)) (by decide) (by decide))) (@pv _ 1 _ _ (by rfl) (by first | exact Or.inl rfl | exact Or.inr (Or.inl rfl) | exact Or.inr (Or.inr rfl)) (by decide) (by decide)))) (by rfl) (by rfl) (by rfl) (by rfl) (by rfl) (by rfl) (by rfl) (by rfl) (by intro _; rfl))) (@pss_nil _)) (@pss_one _ _ _ (@ps_expr _ _ _ _ (pe_bm PySem.F.plainAttrs_list PySem.F.slot_list_append PySem.F.type_list_append mt_append (pv 5) (pa_cons (pv 8) pa_nil)) (by rfl)))))) (by intro _; rfl)) (@pss_one _ _ _ (@ps_ret _ _ _ _ (@pe_lst _ _ _ _ (@pa_cons _ _ _ _ _ (@pv _ 3 _ _ (by rfl) (by first | exact Or.inl rfl | exact Or.inr (Or.inl rfl) | exact Or.inr (Or.inr rfl)) (by decide) (by decide)) (@pa_cons _ _ _ _ _ (@pv _ 5 _ _ (by rfl) (by first | exact Or.inl rfl | exact Or.inr (Or.inl rfl) | exact Or.inr (Or.inr rfl)) (by decide) (by decide)) (@pa_nil _) (by rfl)) (by rfl))))))))))), ?_⟩
    change tCut _ _ _ [some (V.ref l), none, none, none, none, none, none, none, none] H
    refine cut (fun σ H1 => Same H H1 ∧ ∃ way : Int, (ns.getD (Int.toNat 0) 0 % 8 = 7 → way = 1) ∧ σ = [some (V.ref l), some (V.int way), none, none, none, none, none, none, none]) ?_ ?_
    · simp_arith [sp_at]
      refine ⟨by show 8 ≤ sizeLine; decide, fun p hp => ⟨by decide, ns, (same_upd hp).seq hS, by decide, _, SqL.of upd_same, ?_⟩⟩
      obtain ⟨z, hz, e⟩ := pick_list (xs := [0, 1, 0, 2, 0, 3, 0, 1]) (by decide) (ns.getD (Int.toNat 0) 0)
      refine ⟨_, e, same_upd hp, z, fun h7 => ?_, rfl⟩
      have e' : atI ([0, 1, 0, 2, 0, 3, 0, 1].map V.int) (ns.getD (Int.toNat 0) 0 % 8) = some (V.int z) := e
      rw [h7] at e'
      have e2 : some (V.int 1) = some (V.int z) := e'
      cases e2; rfl
    rintro σ1 H1 ⟨sm1, way, hway, rfl⟩
    refine cut (fun σ H2 => H1 = H2 ∧ ∃ b, BImp b (ns.getD (Int.toNat 0) 0 % 8 = 7) ∧ σ = [some (V.ref l), some (V.int way), some (V.bl b), none, none, none, none, none, none]) ?_ ?_
    · simp_arith [sp_at]
      exact ⟨by decide, ns, sm1.seq hS, by decide, _, fun h => by simpa using h, rfl⟩
    rintro σ2 _ ⟨rfl, tu, htu7, rfl⟩
    refine cut (fun σ H2 => Same H H2 ∧ ∃ wd : Nat, wd ≤ 6 ∧ σ = [some (V.ref l), some (V.int way), some (V.bl tu), some (V.int wd), none, none, none, none, none]) ?_ ?_
    · simp_arith [sp_at]
      refine ⟨by show 12 ≤ sizeLine; decide, fun p hp => ⟨by decide, ns, (sm1.trans (same_upd hp)).seq hS, by decide, _, SqL.of upd_same, ?_⟩⟩
      obtain ⟨z, hz, e⟩ := pick_list (xs := [2, 3, 1, 2, 4, 3, 0, 5, 2, 6, 3, 1]) (by decide) (ns.getD (Int.toNat 1) 0)
      have hz' : 0 ≤ z ∧ z ≤ 6 := (show ∀ y ∈ ([2, 3, 1, 2, 4, 3, 0, 5, 2, 6, 3, 1] : List Int), 0 ≤ y ∧ y ≤ 6 by decide) z hz
      exact ⟨_, e, sm1.trans (same_upd hp), z.toNat, by omega, by congr 1; omega⟩
    rintro σ3 H3 ⟨sm3, wd, wd6, rfl⟩
    refine cut (fun σ H2 => Same H H2 ∧ ∃ mn : Nat, mn ≤ 10 ∧ σ = [some (V.ref l), some (V.int way), some (V.bl tu), some (V.int wd), some (V.int mn), none, none, none, none]) ?_ ?_
    · simp_arith [sp_at]
      refine ⟨by show 16 ≤ sizeLine; decide, fun p hp => ⟨by decide, ns, (sm3.trans (same_upd hp)).seq hS, by decide, _, SqL.of upd_same, ?_⟩⟩
      obtain ⟨z, hz, e⟩ := pick_list (xs := [4, 5, 6, 5, 3, 6, 7, 4, 5, 6, 2, 8, 1, 0, 9, 10]) (by decide) (ns.getD (Int.toNat 2) 0)
      have hz' : 0 ≤ z ∧ z ≤ 10 := (show ∀ y ∈ ([4, 5, 6, 5, 3, 6, 7, 4, 5, 6, 2, 8, 1, 0, 9, 10] : List Int), 0 ≤ y ∧ y ≤ 10 by decide) z hz
      exact ⟨_, e, sm3.trans (same_upd hp), z.toNat, by omega, by congr 1; omega⟩
    rintro σ4 H4 ⟨sm4, mn, mn10, rfl⟩
    refine cut (fun σ H2 => Same H H2 ∧ ∃ d, H d = none ∧ H2 d = some (.lst []) ∧ σ = [some (V.ref l), some (V.int way), some (V.bl tu), some (V.int wd), some (V.int mn), some (V.ref d), none, none, none]) ?_ ?_
    · simp_arith []
      exact ⟨by show 0 ≤ sizeLine; decide, fun p hp => ⟨sm4.trans (same_upd hp), p, sm4.free hp, upd_same, rfl⟩⟩
    rintro σ5 H5 ⟨sm5, d, nd, hd5, rfl⟩
    refine cut (fun σ H2 => Same H H2 ∧ ∃ m, Mat H2 d m ∧ Wk wd m ∧ ∃ u v x, σ = [some (V.ref l), some (V.int way), some (V.bl tu), some (V.int wd), some (V.int mn), some (V.ref d), u, v, x]) ?_ ?_
    · simp_arith []
      refine ⟨by omega, by omega, ?_⟩
      have e1 : (mn : Int).toNat = mn := by omega
      rw [e1]
      refine loop_range (fun i σ H2 => Same H H2 ∧ (∃ m, Mat H2 d m ∧ WkL tu wd m ∧ m.length = i) ∧ ∃ u v x, σ = [some (V.ref l), some (V.int way), some (V.bl tu), some (V.int wd), some (V.int mn), some (V.ref d), u, v, x])
        ⟨sm5, ⟨[], Mat.nil hd5, WkL.nil, rfl⟩, none, none, none, rfl⟩ ?_ ?_
      · rintro i σ H2 hi ⟨sm2, ⟨m, hm, wk, hl⟩, u, v, x, rfl⟩
        simp_arith [sp_at, sp_rowl]
        refine ⟨by omega, ns, sm2.seq hS, mulA_l (by decide) (by decide), by show 2 ≤ sizeLine; decide, fun q hq => .inr ⟨_, SqL.of upd_same, ?_⟩⟩
        have sm2' := sm2.trans (same_upd (o := HO.lst [V.int 0, V.int (977 * (0 + (i : Int)))]) hq)
        have hm' := hm.same (same_upd (o := HO.lst [V.int 0, V.int (977 * (0 + (i : Int)))]) hq)
        have fin : ∀ (H3 : Hp) (r : Addr) (row : List Int), Same H H3 → Mat H3 d m → H3 r = some (.lst (row.map V.int)) → r ≠ d → row.length = wd → (∀ y ∈ row, -9 ≤ y ∧ y ≤ 9) → (tu = true → i % 3 ≠ 2 → ∀ y ∈ row, -3 ≤ y ∧ y ≤ 3) →
            tyV K "list" (V.ref d) H3 ∧ ∃ zs, H3 d = some (.lst zs) ∧ zs.length < sizeLine ∧ Same H (upd H3 d (.lst (zs ++ [V.ref r]))) ∧ (∃ m', Mat (upd H3 d (.lst (zs ++ [V.ref r]))) d m' ∧ WkL tu wd m' ∧ m'.length = i + 1) ∧ ∃ x, some (V.ref r) = x := by
          intro H3 r row sm3 hm3 hr hrd hrl hr18 hr9
          obtain ⟨zs, e2, e3, e4⟩ := hm3.push hr hrd
          exact ⟨.inl ⟨rfl, _, SqL.of e2⟩, zs, e2, small1000 (by omega), fun b o e => by rw [upd_ne (ne_of_none e nd)]; exact sm3 b o e, ⟨m ++ [row], e4, wk.snoc hrl hr18 (by rw [hl]; exact hr9), by rw [List.length_append, hl]; rfl⟩, _, rfl⟩
        have hpick : ∃ z, atI [V.int 0, V.int (977 * (0 + (i : Int)))] (if 0 < way then 1 else 0) = some (V.int z) := by
          split
          · exact ⟨_, rfl⟩
          · exact ⟨_, rfl⟩
        obtain ⟨z, hz⟩ := hpick
        refine ⟨_, hz, z, rfl, by omega, by omega, fun p H3 xs hp sm3 hx hxl hx9 hx3 => ?_⟩
        have hm3 := hm'.same sm3
        have smH3 := sm2'.trans sm3
        have npd : p ≠ d := by
          rintro rfl
          obtain ⟨rs, e2, _⟩ := hm'
          rw [e2] at hp; cases hp
        have plain := fin H3 p xs smH3 hm3 hx npd (by omega) hx9 fun h _ => hx3 (hway (htu7 h))
        refine ite2 (fun htu => ⟨by decide, ite2 (fun h2 => ?_) fun _ => plain⟩) fun _ => plain
        obtain ⟨a, ha⟩ : ∃ a, m[i - 1]? = some a := ⟨_, List.getElem?_eq_getElem (by omega)⟩
        obtain ⟨b, hb⟩ : ∃ b, m[i - 2]? = some b := ⟨_, List.getElem?_eq_getElem (by omega)⟩
        obtain ⟨rs1, r1, s1, l1, g1, hr1⟩ := hm3.row (K := K) ha
        obtain ⟨rs2, r2, s2, l2, g2, hr2⟩ := hm3.row (K := K) hb
        have i1 : (0 : Int) + (i : Int) - 1 = ((i - 1 : Nat) : Int) := by omega
        have i2 : (0 : Int) + (i : Int) - 2 = ((i - 2 : Nat) : Int) := by omega
        rw [i1, i2]
        refine ⟨_, s1, _, atI_nat g1, _, s2, _, atI_nat g2, _, rfl, _, rfl, ⟨_, SqL.of hr1⟩, ⟨_, SqL.of hr2⟩, ?_⟩
        have a9 := wk.three _ _ ha htu (by omega)
        have b9 := wk.three _ _ hb htu (by omega)
        have al := wk.wid _ _ ha
        have bl := wk.wid _ _ hb
        refine lc_zip (K := K) (xs := a.map V.int) (ys := b.map V.int) (fun j σ H4 zs => Same H3 H4 ∧ (∃ u v, σ = [u, v]) ∧ ∃ ts : List Int, zs = ts.map V.int ∧ ts.length = j ∧ ∀ t ∈ ts, -9 ≤ t ∧ t ≤ 9)
          ⟨Same.refl _, ⟨_, _, rfl⟩, [], rfl, rfl, (fun _ h => nomatch h)⟩ (fun j σ H4 zs _ _ ⟨e, _⟩ => ⟨e.seq (SqL.of hr1), e.seq (SqL.of hr2)⟩) ?_ ?_
        · rintro j vx vy T' σ H4 zs hvx hvy ⟨sm4, ⟨u, v, rfl⟩, ts, rfl, htl, ht⟩ hT
          obtain ⟨x', hx', rfl⟩ := map_int hvx
          obtain ⟨y', hy', rfl⟩ := map_int hvy
          have bx := a9 x' (List.mem_of_getElem? hx')
          have bY := b9 y' (List.mem_of_getElem? hy')
          have hj : j < a.length := (List.getElem?_eq_some_iff.mp hx').1
          refine gTup2 upd_same ?_
          simp_arith []
          refine ⟨by rw [List.length_map]; exact small1000 (by omega), sm4.trans (same_upd hT), ⟨_, rfl⟩, ts ++ [-x' - y'], by rw [List.map_append]; rfl, by rw [List.length_append, htl]; rfl, fun t h => ?_⟩
          rcases List.mem_append.mp h with h | h
          · exact ht t h
          · rw [List.mem_singleton.mp h]; omega
        · rintro σ H4 zs ⟨sm4, ⟨u, v, rfl⟩, ts, rfl, htl, ht⟩
          rw [List.length_map, List.length_map] at htl
          refine ⟨by rw [List.length_map]; exact Nat.le_of_lt (small1000 (by omega)), fun q2 hq2 => ?_⟩
          have nqd : q2 ≠ d := by
            rintro rfl
            obtain ⟨rs, e2, _⟩ := hm3.same sm4
            rw [e2] at hq2; cases hq2
          exact fin _ q2 ts (smH3.trans (sm4.trans (same_upd hq2))) (hm3.same (sm4.trans (same_upd hq2))) upd_same nqd (by omega) ht fun _ h => absurd (show i % 3 = 2 by omega) h
      · rintro σ H2 ⟨sm2, ⟨m, hm, wk, hl⟩, u, v, x, rfl⟩
        exact ⟨sm2, m, hm, wk.wk (by omega) wd6, u, v, x, rfl⟩
    rintro σ6 H6 ⟨sm6, m, hm, wk, u, v, x, rfl⟩
    simp_arith []
    exact ⟨by show 2 ≤ sizeLine; decide, fun p hp => k p d _ wd m (sm6.free hp) (sm6.trans (same_upd hp)) upd_same (hm.same (same_upd hp)) wk⟩
noncomputable def sp_law (K : PySem.W.Frag) : Sp := fun vs H Q _ => ∃ (a : Addr) (ns : List Int), vs = [.ref a] ∧ SqL K H a (ns.map V.int) ∧ ns.length ≤ 63 ∧ ∀ H', Q (.bl true) H'
theorem sums_all {w : Nat} {m : List (List Int)} {cs : List Int} : ((sumsOf w m cs).filter fun x => decide (¬ x = 0)) = [] ↔ ∀ f ∈ wares w m.length (rowsOf m), f (vecOf cs) = 0 := by
  rw [List.filter_eq_nil_iff]
  constructor
  · intro h f hf
    obtain ⟨j, hj, rfl⟩ := List.mem_map.mp hf
    have := h (phi m.length (fun k j => (rowsOf m k).getD j 0) j (vecOf cs)) (List.mem_map.mpr ⟨j, hj, rfl⟩)
    simpa using this
  · intro h x hx
    obtain ⟨j, hj, rfl⟩ := List.mem_map.mp hx
    have := h _ (List.mem_map.mpr ⟨j, hj, rfl⟩)
    simp only [decide_eq_true_eq, Classical.not_not]
    exact this
theorem gTupL3 {K : PySem.W.Frag} {T : Addr} {v1 v2 v3 : V} {i j k : Nat} {σ : L2.St} {H : Hp} {Q : L2.St → Hp → Prop} (h : SqL K H T [v1, v2, v3]) (q : Q (((σ.set i (some v1)).set j (some v2)).set k (some v3)) H) :
    gTupL K 3 (gCons (gName i) (gCons (gName j) (gCons (gName k) gNil))) (.ref T) σ H Q := ⟨T, _, rfl, h, rfl, _, _, rfl, _, _, rfl, _, _, rfl, rfl, q⟩
theorem sum_zero : ∀ {cs : List Int}, (∀ x ∈ cs, 0 ≤ x) → (∀ x ∈ cs, ¬ 0 < x) → cs.sum = 0
  | [], _, _ => rfl
  | x :: cs, h1, h2 => by
    rw [List.sum_cons, sum_zero (fun y hy => h1 y (.tail _ hy)) fun y hy => h2 y (.tail _ hy)]
    have := h1 x (.head _); have := h2 x (.head _); omega
theorem rd_else {w : Nat} {m : List (List Int)} {cs : List Int} (wk : Wk w m) (lcs : cs.length = m.length) (nn : ∀ x ∈ cs, 0 ≤ x) (hoff : ((sumsOf w m cs).filter fun x => decide (¬ x = 0)) = []) (hs : ¬ cs.sum = 0) : My.Rd w m cs := by
  refine ⟨wk.wid, wk.num, lcs, nn, Classical.byContradiction fun q => hs (sum_zero nn fun x hx hp => q ⟨x, hx, hp⟩), fun j hj => ?_⟩
  rw [zsum_sumTo j cs m lcs]
  exact sums_all.mp hoff _ (List.mem_map.mpr ⟨j, List.mem_range.mpr hj, rfl⟩)
theorem sc_law : FnScope ["_law_script", "_law_width", "_law_rows", "_law_size", "_law_counts", "_law_off", "_law_works_here", "_law_handed", "_law_found"] ["_law_script"] (defScope s_law) := ⟨rfl, rfl, rfl, by decide +kernel, rfl, by decide +kernel, by decide +kernel⟩
theorem ok_law {f : Addr} {fd : FuncData} (T : Txt K mg) (F : Fun K "law" "law" s_law f fd) :
    FnOk P w K mg base CX0 9 f fd ["_law_script"] (sp_law K) := by
  refine F.ok sc_law (fun vs H Q E h => ?_) (fun cdv A outer s H vs Q E hr h => ?_)
  · obtain ⟨a, ns, rfl, _⟩ := h; rfl
  · obtain ⟨a, ns, rfl, hS, hlen, k⟩ := h
    have B := T.B
    have c_made_of := c_made_of (P := P) (w := w) (base := base) T
    have c_law_works := c_law_works (P := P) (w := w) (base := base) T
    have c_law_at := c_law_at (P := P) (w := w) (base := base) T
    have c_law_sums := c_law_sums (P := P) (w := w) (base := base) T
    have c_law_planted := c_law_planted (P := P) (w := w) (base := base) T
    have c_law_kept := c_law_kept (P := P) (w := w) (base := base) T
    have c_law_row_is := c_law_row_is (P := P) (w := w) (base := base) T
    have c_law_made := c_law_made (P := P) (w := w) (base := base) T
    refine ⟨_, (pss_cut (ps_asg (pe_cal c_law_works (hr.mono (by decide)) (pa_cons (pv 0) pa_nil)) (pg_tupL (n := 2) rfl (pgs_cons (pg_name (i := 1) sc_law.nd rfl (Or.inl rfl)) (pgs_cons (pg_name (i := 2) sc_law.nd rfl (Or.inl rfl)) pgs_nil))))
 (pss_cut (ps_set (i := 3) sc_law.nd rfl (Or.inr rfl) (pe_ix ix_list (pe_lst (pa_cons pe_int (pa_cons (pe_op op_pow pe_int pe_int) pa_nil))) (pe_op op_mod (pe_cal c_law_at (hr.mono (by decide)) (pa_cons (pv 0) (pa_cons pe_int pa_nil))) pe_int) (fun _ _ => rfl)))
 (pss_cut (ps_lc (i := 4) sc_law.nd rfl (pi_range1 rfl B.range (pa_cons (pe_callB call_len_seq rfl B.len PySem.boot_len (pa_cons (pv 2) pa_nil)) pa_nil)) (.cons rfl (.cons rfl .nil)) (.own (x := "_law_k") (.cap (x := "_law_size") (j := 3) rfl (Or.inl rfl) (Or.inl rfl) ⟨_, rfl⟩ (.cap (x := "_law_script") (j := 0) rfl (Or.inl rfl) (Or.inl rfl) ⟨_, rfl⟩ .nil))) (fun _ _ _ _ => (pg_name (i := 0) (show (["_law_k", "_law_size", "_law_script"] : List Str).Nodup from by decide +kernel) rfl (Or.inl rfl))) (fun _ _ _ _ => ifs_nil) (fun _ _ _ _ => (pe_op op_modN (pe_cal c_law_at (hr.mono (by decide)) (pa_cons (pv 2) (pa_cons (pe_op op_add pe_int (pv 0)) pa_nil))) (pv 1))))
 (pss_cut (ps_lc (i := 5) sc_law.nd rfl (pi_list (pe_cal c_law_sums (hr.mono (by decide)) (pa_cons (pv 1) (pa_cons (pv 2) (pa_cons (pv 4) pa_nil))))) .nil (.own (x := "_law_x") .nil) (fun _ _ _ _ => (pg_name (i := 0) (show (["_law_x"] : List Str).Nodup from by decide +kernel) rfl (Or.inl rfl))) (fun _ _ _ _ => (ifs_one (pt_cmpR op_ne (pv 0) pe_int (nomark _)))) (fun _ _ _ _ => (pv 0)))
 (pss_cut (ps_if (PW.pt (pw_or (pt_cmpR op_gt (pe_op op_mod (pe_cal c_law_at (hr.mono (by decide)) (pa_cons (pv 0) (pa_cons pe_int pa_nil))) pe_int) pe_int (nomark _)) (pw_or (pt_cmpR (op_neA hr.units0) (pv 5) (pe_lst pa_nil) (nomark _)) (pw_or1 (pt_cmpR op_eq (pe_callB (call_sumL rfl) rfl B.sum boot_sum (pa_cons (pv 4) pa_nil)) pe_int (nomark _)))))) (pss_one (ps_asg (pe_cal c_law_planted (hr.mono (by decide)) (pa_cons (pv 0) pa_nil)) (pg_tupL (n := 3) rfl (pgs_cons (pg_name (i := 1) sc_law.nd rfl (Or.inl rfl)) (pgs_cons (pg_name (i := 2) sc_law.nd rfl (Or.inl rfl)) (pgs_cons (pg_name (i := 4) sc_law.nd rfl (Or.inl rfl)) pgs_nil)))))) pss_nil)
 (pss_cut (ps_lc (i := 6) sc_law.nd rfl (pi_list (pv 2)) .nil (.own (x := "_law_row_here") .nil) (fun _ _ _ _ => (pg_name (i := 0) (show (["_law_row_here"] : List Str).Nodup from by decide +kernel) rfl (Or.inl rfl))) (fun _ _ _ _ => ifs_nil) (fun _ _ _ _ => (pe_callTy (call_list_ofK (K := K) rfl) rfl B.list boot_list (pa_cons (pv 0) pa_nil))))
 (pss_cut (ps_set (i := 7) sc_law.nd rfl (Or.inl rfl) (pe_callTy call_list_of rfl B.list boot_list (pa_cons (pv 4) pa_nil)))
 (pss_cut (ps_set (i := 8) sc_law.nd rfl (Or.inl rfl) (pe_cal c_made_of (hr.mono (by decide)) (pa_cons (pv 1) (pa_cons (pv 6) (pa_cons (pv 7) pa_nil)))))
 (pss_cut (ps_if (PW.pt (pw_or (pt_not (pt_val (pe_cal c_law_kept (hr.mono (by decide)) (pa_cons (pv 6) (pa_cons (pv 2) pa_nil))))) (pw_or1 (pt_not (pt_val (pe_cal c_law_row_is (hr.mono (by decide)) (pa_cons (pv 7) (pa_cons (pv 4) pa_nil)))))))) (pss_one (ps_ret pe_bl)) pss_nil)
 (pss_one (ps_ret (pe_cal c_law_made (hr.mono (by decide)) (pa_cons (pv 1) (pa_cons (pv 2) (pa_cons (pv 4) (pa_cons (pv 8) pa_nil)))))))))))))))), ?_⟩
    change tCut _ _ _ [some (V.ref a), none, none, none, none, none, none, none, none] H
    refine cut (fun σ H1 => Same H H1 ∧ ∃ (wd : Nat) (d : Addr) (m : List (List Int)), Mat H1 d m ∧ Wk wd m ∧ σ = [some (V.ref a), some (V.int wd), some (V.ref d), none, none, none, none, none, none]) ?_ ?_
    · simp_arith [sp_works]
      refine ⟨ns, hS, fun p d H1 wd m hp sm e hm wk => gTupL2 (SqL.of e) ⟨sm, wd, d, m, hm, wk, rfl⟩⟩
    rintro σ1 H1 ⟨sm1, wd, d, m, hm, wk, rfl⟩
    replace hS := sm1.seq hS
    clear sm1
    have m10 := wk.many
    refine cut (fun σ H2 => Same H1 H2 ∧ ∃ sz : Int, (1 ≤ sz ∧ sz ≤ 1000000000000) ∧ σ = [some (V.ref a), some (V.int wd), some (V.ref d), some (V.int sz), none, none, none, none, none]) ?_ ?_
    · simp_arith [sp_at, e12]
      obtain ⟨z, hz, hz'⟩ := pick2 3 1000000000000 (ns.getD (Int.toNat 14) 0)
      exact ⟨⟨by decide, by decide, by decide⟩, by show 2 ≤ sizeLine; decide, fun p hp => ⟨by decide, ns, (same_upd hp).seq hS, by decide, _, SqL.of upd_same, _, hz, same_upd hp, z, by omega, by omega, rfl⟩⟩
    rintro σ2 H2 ⟨sm2, sz, hsz, rfl⟩
    replace hS := sm2.seq hS
    replace hm := hm.same sm2
    clear sm2
    refine cut (fun σ H3 => Same H2 H3 ∧ ∃ cn, (∃ cs : List Int, H3 cn = some (.lst (cs.map V.int)) ∧ cs.length = m.length ∧ ∀ x ∈ cs, 0 ≤ x ∧ x ≤ 10 ^ 12) ∧ σ = [some (V.ref a), some (V.int wd), some (V.ref d), some (V.int sz), some (V.ref cn), none, none, none, none]) ?_ ?_
    · obtain ⟨rs, e1, l1⟩ := hm.len (K := K)
      simp_arith []
      refine ⟨_, .inl e1, by rw [List.length_map]; omega, by rw [List.length_map]; omega, ?_⟩
      rw [List.length_map, l1, Int.toNat_natCast]
      refine lc_range (fun i σ H3 zs => Same H2 H3 ∧ (∃ u, σ = [u, some (V.int sz), some (V.ref a)]) ∧ ∃ cs : List Int, zs = cs.map V.int ∧ cs.length = i ∧ ∀ x ∈ cs, 0 ≤ x ∧ x ≤ 10 ^ 12) ⟨Same.refl _, ⟨_, rfl⟩, [], rfl, rfl, fun x hx => nomatch hx⟩ ?_ ?_
      · rintro i σ H3 zs hi ⟨sm, ⟨u, rfl⟩, cs, rfl, lc, cb⟩
        simp_arith [sp_at]
        refine ⟨by omega, ns, sm.seq hS, by omega, by rw [List.length_map]; exact small1000 (by omega), sm, ⟨_, rfl⟩, cs ++ [(ns.getD (15 + (0 + (i : Int))).toNat 0).fmod sz], by rw [List.map_append]; rfl, by rw [List.length_append, lc]; rfl, fun x hx => ?_⟩
        rcases List.mem_append.mp hx with z | z
        · exact cb x z
        · rw [List.mem_singleton.mp z]
          have f0 := Int.fmod_nonneg_of_pos (ns.getD (15 + (0 + (i : Int))).toNat 0) (show (0 : Int) < sz by omega)
          have f1 := Int.fmod_lt_of_pos (ns.getD (15 + (0 + (i : Int))).toNat 0) (show (0 : Int) < sz by omega)
          omega
      · rintro σ H3 zs ⟨sm, ⟨u, rfl⟩, cs, rfl, lc, cb⟩
        exact ⟨by rw [List.length_map]; exact Nat.le_of_lt (small1000 (by omega)), fun q hq => ⟨sm.trans (same_upd hq), q, ⟨cs, upd_same, lc, cb⟩, rfl⟩⟩
    rintro σ3 H3 ⟨sm3, cn, ⟨cs, hcn, lcs, cb⟩, rfl⟩
    replace hS := sm3.seq hS
    replace hm := hm.same sm3
    clear sm3
    refine cut (fun σ H4 => Same H3 H4 ∧ ∃ of, H4 of = some (.lst (((sumsOf wd m cs).filter fun x => decide (¬ x = 0)).map V.int)) ∧ σ = [some (V.ref a), some (V.int wd), some (V.ref d), some (V.int sz), some (V.ref cn), some (V.ref of), none, none, none]) ?_ ?_
    · simp_arith [sp_sums]
      have w6 := wk.w6
      have sl : (sumsOf wd m cs).length = wd := by unfold sumsOf; rw [List.length_map, List.length_range]
      refine ⟨wd, rfl, wk.w6, m, hm, by omega, wk.wid, fun row h x hx => by have := wk.num row h x hx; omega, cs, SqL.of hcn, by omega, fun p H' hp s' e' => ⟨⟨_, SqL.of e'⟩, ?_⟩⟩
      refine lc_list (K := K) (xs := (sumsOf wd m cs).map V.int) (fun i σ H2 zs => Same H' H2 ∧ (∃ v, σ = [v]) ∧ zs = (((sumsOf wd m cs).take i).filter fun x => decide (¬ x = 0)).map V.int) ⟨Same.refl _, ⟨_, rfl⟩, rfl⟩ (fun i σ H2 zs _ ⟨e, _⟩ => SqL.of (e _ _ e')) ?_ ?_
      · rintro i y σ H2 zs hi ⟨sm, ⟨v, rfl⟩, rfl⟩
        obtain ⟨z, hz, rfl⟩ := map_int hi
        have fl := List.length_filter_le (fun x : Int => decide (¬ x = 0)) ((sumsOf wd m cs).take i)
        rw [List.length_take] at fl
        simp_arith []
        refine ite2 (fun h0 => ⟨sm, ⟨_, rfl⟩, ?_⟩) fun h0 => ⟨?_, sm, ⟨_, rfl⟩, ?_⟩
        · rw [take_succ_of hz, List.filter_append]
          simp only [List.filter_cons, h0, not_true_eq_false, decide_false, Bool.false_eq_true, if_false, List.filter_nil, List.append_nil]
        · rw [List.length_map]; exact small1000 (by omega)
        · rw [take_succ_of hz, List.filter_append, List.map_append]
          simp only [List.filter_cons, h0, not_false_eq_true, decide_true, if_true, List.filter_nil, List.map_cons, List.map_nil]
      · rintro σ H2 zs ⟨sm, ⟨v, rfl⟩, rfl⟩
        have e2 : ((sumsOf wd m cs).map V.int).length = (sumsOf wd m cs).length := List.length_map ..
        rw [e2, List.take_length]
        have fl := List.length_filter_le (fun x : Int => decide (¬ x = 0)) (sumsOf wd m cs)
        exact ⟨by rw [List.length_map]; exact Nat.le_of_lt (small1000 (by omega)), fun q hq => ⟨s'.trans (sm.trans (same_upd hq)), q, upd_same, rfl⟩⟩
    rintro σ4 H4 ⟨sm4, of, hof, rfl⟩
    replace hS := sm4.seq hS
    replace hm := hm.same sm4
    replace hcn := sm4 _ _ hcn
    clear sm4
    refine cut (fun σ H5 => Same H4 H5 ∧ ∃ (wd : Nat) (rw' cn : Addr), wd ≤ 6 ∧ RdE wd H5 rw' cn 10 ∧ σ = [some (V.ref a), some (V.int wd), some (V.ref rw'), some (V.int sz), some (V.ref cn), some (V.ref of), none, none, none]) ?_ ?_
    · simp_arith [sp_at, sp_planted]
      refine ⟨by decide, ns, hS, by decide, ite2 (fun _ => ⟨ns, hS, fun p d c H' w s' e w6 rd => gTupL3 (SqL.of e) ⟨s', w, w6, d, c, rd, rfl⟩⟩) fun _ => ⟨by show 0 ≤ sizeLine; decide, fun p hp => ⟨_, SqL.of ((same_upd hp) _ _ hof), _, SqL.of upd_same, .inr (.inl rfl), ite2 (fun h0 => ⟨cs, SqL.of ((same_upd hp) _ _ hcn), ite2 (fun _ => ?_) fun hs => ?_⟩) fun _ => ?_⟩⟩⟩
      · exact ⟨ns, (same_upd hp).seq hS, fun p d c H' w s' e w6 rd => gTupL3 (SqL.of e) ⟨(same_upd hp).trans s', w, w6, d, c, rd, rfl⟩⟩
      · have hoff := List.map_eq_nil_iff.mp h0
        exact ⟨same_upd hp, wd, wk.w6, d, cn, ⟨m, cs, hm.same (same_upd hp), (same_upd hp) _ _ hcn, rd_else wk lcs (fun x hx => (cb x hx).1) hoff hs, m10, fun x hx => (cb x hx).2⟩, rfl, rfl, rfl⟩
      · exact ⟨ns, (same_upd hp).seq hS, fun p d c H' w s' e w6 rd => gTupL3 (SqL.of e) ⟨(same_upd hp).trans s', w, w6, d, c, rd, rfl⟩⟩
    clear hm wk hcn lcs cb
    rintro σ5 H5 ⟨sm5, wd, rw', cn, w6, ⟨m, cs, R⟩, rfl⟩
    have wk : Wk wd m := ⟨R.rd.wid, R.rd.small, R.len, w6⟩
    have ml := R.len
    refine cut (fun σ H6 => Same H5 H6 ∧ ∃ wh, Mat H6 wh m ∧ σ = [some (V.ref a), some (V.int wd), some (V.ref rw'), some (V.int sz), some (V.ref cn), some (V.ref of), some (V.ref wh), none, none]) ?_ ?_
    · obtain ⟨rs, h1, h2⟩ := id R.mat
      simp_arith []
      refine ⟨⟨_, SqL.of h1⟩, copy_rowsF R.mat (by omega) (fun r row H2 Q' hr q => ?_) fun p H2 sm hm => ?_⟩
      · simp_arith []
        exact ⟨_, .inl (SqL.of hr), q⟩
      · exact ⟨sm, p, hm.mat, rfl⟩
    rintro σ6 H6 ⟨sm6, wh, hwh, rfl⟩
    refine cut (fun σ H7 => Same H6 H7 ∧ ∃ hd, H7 hd = some (.lst (cs.map V.int)) ∧ σ = [some (V.ref a), some (V.int wd), some (V.ref rw'), some (V.int sz), some (V.ref cn), some (V.ref of), some (V.ref wh), some (V.ref hd), none]) ?_ ?_
    · simp_arith []
      exact ⟨_, .inl (SqL.of (sm6 _ _ R.cnt)), fun q hq => ⟨same_upd hq, q, upd_same, rfl⟩⟩
    rintro σ7 H7 ⟨sm7, hd, hhd, rfl⟩
    have sm57 := sm6.trans sm7
    refine cut (fun σ H8 => Same H7 H8 ∧ ∃ fo, (∃ ps, Parts H8 fo ps ∧ ∃ rs B, MI wd m cs (leanL wd m).length ps.reverse rs B) ∧ σ = [some (V.ref a), some (V.int wd), some (V.ref rw'), some (V.int sz), some (V.ref cn), some (V.ref of), some (V.ref wh), some (V.ref hd), some (V.ref fo)]) ?_ ?_
    · simp_arith [sp_made]
      exact ⟨wd, rfl, m, hwh.same sm7, wk, cs, SqL.of hhd, R.rd, R.hi, fun r H' ps sm hP hMI => ⟨sm, r, ⟨ps, hP, hMI⟩, rfl⟩⟩
    rintro σ8 H8 ⟨sm8, fo, ⟨ps, hP, hMI⟩, rfl⟩
    have sm58 := sm57.trans sm8
    refine cut (fun σ H9 => Same H8 H9 ∧ σ = [some (V.ref a), some (V.int wd), some (V.ref rw'), some (V.int sz), some (V.ref cn), some (V.ref of), some (V.ref wh), some (V.ref hd), some (V.ref fo)]) ?_ ?_
    · simp_arith [sp_kept, sp_row]
      exact ⟨_, hwh.same (sm7.trans sm8), _, R.mat.same sm58, fun H' sm => if_pos_of rfl ⟨cs, sm _ _ (sm8 _ _ hhd), cs, SqL.of (sm _ _ (sm58 _ _ R.cnt)), fun H'' sm' => if_pos_of rfl (sm.trans sm')⟩⟩
    rintro σ9 H9 ⟨sm9, rfl⟩
    have sm59 := sm58.trans sm9
    simp_arith [sp_lmade]
    have nn := R.rd.nn
    exact ⟨wd, rfl, m, R.mat.same sm59, wk, cs, SqL.of (sm59 _ _ R.cnt), R.rd.len, fun x hx => ⟨nn x hx, R.hi x hx⟩, ps, hP.same sm9, hMI, fun H' _ => k H'⟩
theorem law_fn {fa : Addr} {fd : FuncData} (T : Txt K mg) (F : Fun K "law" "law" s_law fa fd) :
    ∃ fd : FuncData, (∀ (s : Shared) (u : Value), BindsTo s fd ⟨[u], []⟩ [("_law_script", u)]) ∧ ∀ base : Heap, K.In base → base.Ns mainGlobals mg → FnOk P w K mg base CX0 9 fa fd ["_law_script"] (sp_law K) := by
  refine ⟨fd, fun s u => ?_, fun base _ _ => ok_law T F⟩
  obtain ⟨oc, od, kV, doc, pm, an, cdv, ct, osl, rfl, lk, hcd⟩ := F.ex
  exact .of_eq rfl
end
theorem law_sp {K : PySem.W.Frag} {H : Hp} {a : Addr} {ns : List Int} (hl : ns.length ≤ 63) (hS : SqL K H a (ns.map V.int)) : sp_law K [.ref a] H (fun v _ => v = .bl true) fun _ _ _ => False := ⟨a, ns, rfl, hS, hl, fun _ => rfl⟩
theorem txt_mk {K : PySem.W.Frag} {h : Heap} {mg : Str → Option Value} (X : K.In h) (G : h.Ns mainGlobals mg)
    {f1 : Addr} {od1 an1 : Option Addr} {sl1 : Array (Option Value)} {oc1 kV1 dc1 pm1 cd1 ct1 : Value}
    (a1 : PySem.W.nsIn K mainGlobals "divisor_of_two" = some (some (.ref f1))) (l1 : K.lookup f1 = some ⟨oc1, od1, .func (PySem.W.fnOf "divisor_of_two" "divisor_of_two" (defArgs s_divisor_of_two) (defBody s_divisor_of_two) (defScope s_divisor_of_two) .none kV1 dc1 pm1 an1 cd1 ct1), sl1⟩) (c1 : PySem.W.codeIn K cd1 "divisor_of_two" = true) (k1 : PySem.W.keepIn K (.ref f1) = true)
    {f2 : Addr} {od2 an2 : Option Addr} {sl2 : Array (Option Value)} {oc2 kV2 dc2 pm2 cd2 ct2 : Value}
    (a2 : PySem.W.nsIn K mainGlobals "divisor" = some (some (.ref f2))) (l2 : K.lookup f2 = some ⟨oc2, od2, .func (PySem.W.fnOf "divisor" "divisor" (defArgs s_divisor) (defBody s_divisor) (defScope s_divisor) .none kV2 dc2 pm2 an2 cd2 ct2), sl2⟩) (c2 : PySem.W.codeIn K cd2 "divisor" = true) (k2 : PySem.W.keepIn K (.ref f2) = true)
    {f3 : Addr} {od3 an3 : Option Addr} {sl3 : Array (Option Value)} {oc3 kV3 dc3 pm3 cd3 ct3 : Value}
    (a3 : PySem.W.nsIn K mainGlobals "lowest" = some (some (.ref f3))) (l3 : K.lookup f3 = some ⟨oc3, od3, .func (PySem.W.fnOf "lowest" "lowest" (defArgs s_lowest) (defBody s_lowest) (defScope s_lowest) .none kV3 dc3 pm3 an3 cd3 ct3), sl3⟩) (c3 : PySem.W.codeIn K cd3 "lowest" = true) (k3 : PySem.W.keepIn K (.ref f3) = true)
    {f4 : Addr} {od4 an4 : Option Addr} {sl4 : Array (Option Value)} {oc4 kV4 dc4 pm4 cd4 ct4 : Value}
    (a4 : PySem.W.nsIn K mainGlobals "fraction" = some (some (.ref f4))) (l4 : K.lookup f4 = some ⟨oc4, od4, .func (PySem.W.fnOf "fraction" "fraction" (defArgs s_fraction) (defBody s_fraction) (defScope s_fraction) .none kV4 dc4 pm4 an4 cd4 ct4), sl4⟩) (c4 : PySem.W.codeIn K cd4 "fraction" = true) (k4 : PySem.W.keepIn K (.ref f4) = true)
    {f5 : Addr} {od5 an5 : Option Addr} {sl5 : Array (Option Value)} {oc5 kV5 dc5 pm5 cd5 ct5 : Value}
    (a5 : PySem.W.nsIn K mainGlobals "end_of" = some (some (.ref f5))) (l5 : K.lookup f5 = some ⟨oc5, od5, .func (PySem.W.fnOf "end_of" "end_of" (defArgs s_end_of) (defBody s_end_of) (defScope s_end_of) .none kV5 dc5 pm5 an5 cd5 ct5), sl5⟩) (c5 : PySem.W.codeIn K cd5 "end_of" = true) (k5 : PySem.W.keepIn K (.ref f5) = true)
    {f6 : Addr} {od6 an6 : Option Addr} {sl6 : Array (Option Value)} {oc6 kV6 dc6 pm6 cd6 ct6 : Value}
    (a6 : PySem.W.nsIn K mainGlobals "places" = some (some (.ref f6))) (l6 : K.lookup f6 = some ⟨oc6, od6, .func (PySem.W.fnOf "places" "places" (defArgs s_places) (defBody s_places) (defScope s_places) .none kV6 dc6 pm6 an6 cd6 ct6), sl6⟩) (c6 : PySem.W.codeIn K cd6 "places" = true) (k6 : PySem.W.keepIn K (.ref f6) = true)
    {f7 : Addr} {od7 an7 : Option Addr} {sl7 : Array (Option Value)} {oc7 kV7 dc7 pm7 cd7 ct7 : Value}
    (a7 : PySem.W.nsIn K mainGlobals "deed_set" = some (some (.ref f7))) (l7 : K.lookup f7 = some ⟨oc7, od7, .func (PySem.W.fnOf "deed_set" "deed_set" (defArgs s_deed_set) (defBody s_deed_set) (defScope s_deed_set) .none kV7 dc7 pm7 an7 cd7 ct7), sl7⟩) (c7 : PySem.W.codeIn K cd7 "deed_set" = true) (k7 : PySem.W.keepIn K (.ref f7) = true)
    {f8 : Addr} {od8 an8 : Option Addr} {sl8 : Array (Option Value)} {oc8 kV8 dc8 pm8 cd8 ct8 : Value}
    (a8 : PySem.W.nsIn K mainGlobals "is_within" = some (some (.ref f8))) (l8 : K.lookup f8 = some ⟨oc8, od8, .func (PySem.W.fnOf "is_within" "is_within" (defArgs s_is_within) (defBody s_is_within) (defScope s_is_within) .none kV8 dc8 pm8 an8 cd8 ct8), sl8⟩) (c8 : PySem.W.codeIn K cd8 "is_within" = true) (k8 : PySem.W.keepIn K (.ref f8) = true)
    {f9 : Addr} {od9 an9 : Option Addr} {sl9 : Array (Option Value)} {oc9 kV9 dc9 pm9 cd9 ct9 : Value}
    (a9 : PySem.W.nsIn K mainGlobals "single" = some (some (.ref f9))) (l9 : K.lookup f9 = some ⟨oc9, od9, .func (PySem.W.fnOf "single" "single" (defArgs s_single) (defBody s_single) (defScope s_single) .none kV9 dc9 pm9 an9 cd9 ct9), sl9⟩) (c9 : PySem.W.codeIn K cd9 "single" = true) (k9 : PySem.W.keepIn K (.ref f9) = true)
    {f10 : Addr} {od10 an10 : Option Addr} {sl10 : Array (Option Value)} {oc10 kV10 dc10 pm10 cd10 ct10 : Value}
    (a10 : PySem.W.nsIn K mainGlobals "evened" = some (some (.ref f10))) (l10 : K.lookup f10 = some ⟨oc10, od10, .func (PySem.W.fnOf "evened" "evened" (defArgs s_evened) (defBody s_evened) (defScope s_evened) .none kV10 dc10 pm10 an10 cd10 ct10), sl10⟩) (c10 : PySem.W.codeIn K cd10 "evened" = true) (k10 : PySem.W.keepIn K (.ref f10) = true)
    {f11 : Addr} {od11 an11 : Option Addr} {sl11 : Array (Option Value)} {oc11 kV11 dc11 pm11 cd11 ct11 : Value}
    (a11 : PySem.W.nsIn K mainGlobals "are_neighbours" = some (some (.ref f11))) (l11 : K.lookup f11 = some ⟨oc11, od11, .func (PySem.W.fnOf "are_neighbours" "are_neighbours" (defArgs s_are_neighbours) (defBody s_are_neighbours) (defScope s_are_neighbours) .none kV11 dc11 pm11 an11 cd11 ct11), sl11⟩) (c11 : PySem.W.codeIn K cd11 "are_neighbours" = true) (k11 : PySem.W.keepIn K (.ref f11) = true)
    {f12 : Addr} {od12 an12 : Option Addr} {sl12 : Array (Option Value)} {oc12 kV12 dc12 pm12 cd12 ct12 : Value}
    (a12 : PySem.W.nsIn K mainGlobals "evened_pairs" = some (some (.ref f12))) (l12 : K.lookup f12 = some ⟨oc12, od12, .func (PySem.W.fnOf "evened_pairs" "evened_pairs" (defArgs s_evened_pairs) (defBody s_evened_pairs) (defScope s_evened_pairs) .none kV12 dc12 pm12 an12 cd12 ct12), sl12⟩) (c12 : PySem.W.codeIn K cd12 "evened_pairs" = true) (k12 : PySem.W.keepIn K (.ref f12) = true)
    {f13 : Addr} {od13 an13 : Option Addr} {sl13 : Array (Option Value)} {oc13 kV13 dc13 pm13 cd13 ct13 : Value}
    (a13 : PySem.W.nsIn K mainGlobals "with_ware" = some (some (.ref f13))) (l13 : K.lookup f13 = some ⟨oc13, od13, .func (PySem.W.fnOf "with_ware" "with_ware" (defArgs s_with_ware) (defBody s_with_ware) (defScope s_with_ware) .none kV13 dc13 pm13 an13 cd13 ct13), sl13⟩) (c13 : PySem.W.codeIn K cd13 "with_ware" = true) (k13 : PySem.W.keepIn K (.ref f13) = true)
    {f14 : Addr} {od14 an14 : Option Addr} {sl14 : Array (Option Value)} {oc14 kV14 dc14 pm14 cd14 ct14 : Value}
    (a14 : PySem.W.nsIn K mainGlobals "lean_rounds" = some (some (.ref f14))) (l14 : K.lookup f14 = some ⟨oc14, od14, .func (PySem.W.fnOf "lean_rounds" "lean_rounds" (defArgs s_lean_rounds) (defBody s_lean_rounds) (defScope s_lean_rounds) .none kV14 dc14 pm14 an14 cd14 ct14), sl14⟩) (c14 : PySem.W.codeIn K cd14 "lean_rounds" = true) (k14 : PySem.W.keepIn K (.ref f14) = true)
    {f15 : Addr} {od15 an15 : Option Addr} {sl15 : Array (Option Value)} {oc15 kV15 dc15 pm15 cd15 ct15 : Value}
    (a15 : PySem.W.nsIn K mainGlobals "first_to_run_out" = some (some (.ref f15))) (l15 : K.lookup f15 = some ⟨oc15, od15, .func (PySem.W.fnOf "first_to_run_out" "first_to_run_out" (defArgs s_first_to_run_out) (defBody s_first_to_run_out) (defScope s_first_to_run_out) .none kV15 dc15 pm15 an15 cd15 ct15), sl15⟩) (c15 : PySem.W.codeIn K cd15 "first_to_run_out" = true) (k15 : PySem.W.keepIn K (.ref f15) = true)
    {f16 : Addr} {od16 an16 : Option Addr} {sl16 : Array (Option Value)} {oc16 kV16 dc16 pm16 cd16 ct16 : Value}
    (a16 : PySem.W.nsIn K mainGlobals "made_of" = some (some (.ref f16))) (l16 : K.lookup f16 = some ⟨oc16, od16, .func (PySem.W.fnOf "made_of" "made_of" (defArgs s_made_of) (defBody s_made_of) (defScope s_made_of) .none kV16 dc16 pm16 an16 cd16 ct16), sl16⟩) (c16 : PySem.W.codeIn K cd16 "made_of" = true) (k16 : PySem.W.keepIn K (.ref f16) = true)
    {f17 : Addr} {od17 an17 : Option Addr} {sl17 : Array (Option Value)} {oc17 kV17 dc17 pm17 cd17 ct17 : Value}
    (a17 : PySem.W.nsIn K mainGlobals "_law_at" = some (some (.ref f17))) (l17 : K.lookup f17 = some ⟨oc17, od17, .func (PySem.W.fnOf "_law_at" "_law_at" (defArgs s_law_at) (defBody s_law_at) (defScope s_law_at) .none kV17 dc17 pm17 an17 cd17 ct17), sl17⟩) (c17 : PySem.W.codeIn K cd17 "_law_at" = true) (k17 : PySem.W.keepIn K (.ref f17) = true)
    {f18 : Addr} {od18 an18 : Option Addr} {sl18 : Array (Option Value)} {oc18 kV18 dc18 pm18 cd18 ct18 : Value}
    (a18 : PySem.W.nsIn K mainGlobals "_law_mix" = some (some (.ref f18))) (l18 : K.lookup f18 = some ⟨oc18, od18, .func (PySem.W.fnOf "_law_mix" "_law_mix" (defArgs s_law_mix) (defBody s_law_mix) (defScope s_law_mix) .none kV18 dc18 pm18 an18 cd18 ct18), sl18⟩) (c18 : PySem.W.codeIn K cd18 "_law_mix" = true) (k18 : PySem.W.keepIn K (.ref f18) = true)
    {f19 : Addr} {od19 an19 : Option Addr} {sl19 : Array (Option Value)} {oc19 kV19 dc19 pm19 cd19 ct19 : Value}
    (a19 : PySem.W.nsIn K mainGlobals "_law_draws" = some (some (.ref f19))) (l19 : K.lookup f19 = some ⟨oc19, od19, .func (PySem.W.fnOf "_law_draws" "_law_draws" (defArgs s_law_draws) (defBody s_law_draws) (defScope s_law_draws) .none kV19 dc19 pm19 an19 cd19 ct19), sl19⟩) (c19 : PySem.W.codeIn K cd19 "_law_draws" = true) (k19 : PySem.W.keepIn K (.ref f19) = true)
    {f20 : Addr} {od20 an20 : Option Addr} {sl20 : Array (Option Value)} {oc20 kV20 dc20 pm20 cd20 ct20 : Value}
    (a20 : PySem.W.nsIn K mainGlobals "_law_row" = some (some (.ref f20))) (l20 : K.lookup f20 = some ⟨oc20, od20, .func (PySem.W.fnOf "_law_row" "_law_row" (defArgs s_law_row) (defBody s_law_row) (defScope s_law_row) .none kV20 dc20 pm20 an20 cd20 ct20), sl20⟩) (c20 : PySem.W.codeIn K cd20 "_law_row" = true) (k20 : PySem.W.keepIn K (.ref f20) = true)
    {f21 : Addr} {od21 an21 : Option Addr} {sl21 : Array (Option Value)} {oc21 kV21 dc21 pm21 cd21 ct21 : Value}
    (a21 : PySem.W.nsIn K mainGlobals "_law_works" = some (some (.ref f21))) (l21 : K.lookup f21 = some ⟨oc21, od21, .func (PySem.W.fnOf "_law_works" "_law_works" (defArgs s_law_works) (defBody s_law_works) (defScope s_law_works) .none kV21 dc21 pm21 an21 cd21 ct21), sl21⟩) (c21 : PySem.W.codeIn K cd21 "_law_works" = true) (k21 : PySem.W.keepIn K (.ref f21) = true)
    {f22 : Addr} {od22 an22 : Option Addr} {sl22 : Array (Option Value)} {oc22 kV22 dc22 pm22 cd22 ct22 : Value}
    (a22 : PySem.W.nsIn K mainGlobals "_law_plant" = some (some (.ref f22))) (l22 : K.lookup f22 = some ⟨oc22, od22, .func (PySem.W.fnOf "_law_plant" "_law_plant" (defArgs s_law_plant) (defBody s_law_plant) (defScope s_law_plant) .none kV22 dc22 pm22 an22 cd22 ct22), sl22⟩) (c22 : PySem.W.codeIn K cd22 "_law_plant" = true) (k22 : PySem.W.keepIn K (.ref f22) = true)
    {f23 : Addr} {od23 an23 : Option Addr} {sl23 : Array (Option Value)} {oc23 kV23 dc23 pm23 cd23 ct23 : Value}
    (a23 : PySem.W.nsIn K mainGlobals "_law_whole" = some (some (.ref f23))) (l23 : K.lookup f23 = some ⟨oc23, od23, .func (PySem.W.fnOf "_law_whole" "_law_whole" (defArgs s_law_whole) (defBody s_law_whole) (defScope s_law_whole) .none kV23 dc23 pm23 an23 cd23 ct23), sl23⟩) (c23 : PySem.W.codeIn K cd23 "_law_whole" = true) (k23 : PySem.W.keepIn K (.ref f23) = true)
    {f24 : Addr} {od24 an24 : Option Addr} {sl24 : Array (Option Value)} {oc24 kV24 dc24 pm24 cd24 ct24 : Value}
    (a24 : PySem.W.nsIn K mainGlobals "_law_row_of" = some (some (.ref f24))) (l24 : K.lookup f24 = some ⟨oc24, od24, .func (PySem.W.fnOf "_law_row_of" "_law_row_of" (defArgs s_law_row_of) (defBody s_law_row_of) (defScope s_law_row_of) .none kV24 dc24 pm24 an24 cd24 ct24), sl24⟩) (c24 : PySem.W.codeIn K cd24 "_law_row_of" = true) (k24 : PySem.W.keepIn K (.ref f24) = true)
    {f25 : Addr} {od25 an25 : Option Addr} {sl25 : Array (Option Value)} {oc25 kV25 dc25 pm25 cd25 ct25 : Value}
    (a25 : PySem.W.nsIn K mainGlobals "_law_row_is" = some (some (.ref f25))) (l25 : K.lookup f25 = some ⟨oc25, od25, .func (PySem.W.fnOf "_law_row_is" "_law_row_is" (defArgs s_law_row_is) (defBody s_law_row_is) (defScope s_law_row_is) .none kV25 dc25 pm25 an25 cd25 ct25), sl25⟩) (c25 : PySem.W.codeIn K cd25 "_law_row_is" = true) (k25 : PySem.W.keepIn K (.ref f25) = true)
    {f26 : Addr} {od26 an26 : Option Addr} {sl26 : Array (Option Value)} {oc26 kV26 dc26 pm26 cd26 ct26 : Value}
    (a26 : PySem.W.nsIn K mainGlobals "_law_kept" = some (some (.ref f26))) (l26 : K.lookup f26 = some ⟨oc26, od26, .func (PySem.W.fnOf "_law_kept" "_law_kept" (defArgs s_law_kept) (defBody s_law_kept) (defScope s_law_kept) .none kV26 dc26 pm26 an26 cd26 ct26), sl26⟩) (c26 : PySem.W.codeIn K cd26 "_law_kept" = true) (k26 : PySem.W.keepIn K (.ref f26) = true)
    {f27 : Addr} {od27 an27 : Option Addr} {sl27 : Array (Option Value)} {oc27 kV27 dc27 pm27 cd27 ct27 : Value}
    (a27 : PySem.W.nsIn K mainGlobals "_law_even" = some (some (.ref f27))) (l27 : K.lookup f27 = some ⟨oc27, od27, .func (PySem.W.fnOf "_law_even" "_law_even" (defArgs s_law_even) (defBody s_law_even) (defScope s_law_even) .none kV27 dc27 pm27 an27 cd27 ct27), sl27⟩) (c27 : PySem.W.codeIn K cd27 "_law_even" = true) (k27 : PySem.W.keepIn K (.ref f27) = true)
    {f28 : Addr} {od28 an28 : Option Addr} {sl28 : Array (Option Value)} {oc28 kV28 dc28 pm28 cd28 ct28 : Value}
    (a28 : PySem.W.nsIn K mainGlobals "_law_sums" = some (some (.ref f28))) (l28 : K.lookup f28 = some ⟨oc28, od28, .func (PySem.W.fnOf "_law_sums" "_law_sums" (defArgs s_law_sums) (defBody s_law_sums) (defScope s_law_sums) .none kV28 dc28 pm28 an28 cd28 ct28), sl28⟩) (c28 : PySem.W.codeIn K cd28 "_law_sums" = true) (k28 : PySem.W.keepIn K (.ref f28) = true)
    {f29 : Addr} {od29 an29 : Option Addr} {sl29 : Array (Option Value)} {oc29 kV29 dc29 pm29 cd29 ct29 : Value}
    (a29 : PySem.W.nsIn K mainGlobals "_law_gcd" = some (some (.ref f29))) (l29 : K.lookup f29 = some ⟨oc29, od29, .func (PySem.W.fnOf "_law_gcd" "_law_gcd" (defArgs s_law_gcd) (defBody s_law_gcd) (defScope s_law_gcd) .none kV29 dc29 pm29 an29 cd29 ct29), sl29⟩) (c29 : PySem.W.codeIn K cd29 "_law_gcd" = true) (k29 : PySem.W.keepIn K (.ref f29) = true)
    {f30 : Addr} {od30 an30 : Option Addr} {sl30 : Array (Option Value)} {oc30 kV30 dc30 pm30 cd30 ct30 : Value}
    (a30 : PySem.W.nsIn K mainGlobals "_law_is_round" = some (some (.ref f30))) (l30 : K.lookup f30 = some ⟨oc30, od30, .func (PySem.W.fnOf "_law_is_round" "_law_is_round" (defArgs s_law_is_round) (defBody s_law_is_round) (defScope s_law_is_round) .none kV30 dc30 pm30 an30 cd30 ct30), sl30⟩) (c30 : PySem.W.codeIn K cd30 "_law_is_round" = true) (k30 : PySem.W.keepIn K (.ref f30) = true)
    {f31 : Addr} {od31 an31 : Option Addr} {sl31 : Array (Option Value)} {oc31 kV31 dc31 pm31 cd31 ct31 : Value}
    (a31 : PySem.W.nsIn K mainGlobals "_law_ahead" = some (some (.ref f31))) (l31 : K.lookup f31 = some ⟨oc31, od31, .func (PySem.W.fnOf "_law_ahead" "_law_ahead" (defArgs s_law_ahead) (defBody s_law_ahead) (defScope s_law_ahead) .none kV31 dc31 pm31 an31 cd31 ct31), sl31⟩) (c31 : PySem.W.codeIn K cd31 "_law_ahead" = true) (k31 : PySem.W.keepIn K (.ref f31) = true)
    {f32 : Addr} {od32 an32 : Option Addr} {sl32 : Array (Option Value)} {oc32 kV32 dc32 pm32 cd32 ct32 : Value}
    (a32 : PySem.W.nsIn K mainGlobals "_law_part" = some (some (.ref f32))) (l32 : K.lookup f32 = some ⟨oc32, od32, .func (PySem.W.fnOf "_law_part" "_law_part" (defArgs s_law_part) (defBody s_law_part) (defScope s_law_part) .none kV32 dc32 pm32 an32 cd32 ct32), sl32⟩) (c32 : PySem.W.codeIn K cd32 "_law_part" = true) (k32 : PySem.W.keepIn K (.ref f32) = true)
    {f33 : Addr} {od33 an33 : Option Addr} {sl33 : Array (Option Value)} {oc33 kV33 dc33 pm33 cd33 ct33 : Value}
    (a33 : PySem.W.nsIn K mainGlobals "_law_made" = some (some (.ref f33))) (l33 : K.lookup f33 = some ⟨oc33, od33, .func (PySem.W.fnOf "_law_made" "_law_made" (defArgs s_law_made) (defBody s_law_made) (defScope s_law_made) .none kV33 dc33 pm33 an33 cd33 ct33), sl33⟩) (c33 : PySem.W.codeIn K cd33 "_law_made" = true) (k33 : PySem.W.keepIn K (.ref f33) = true)
    {f34 : Addr} {od34 an34 : Option Addr} {sl34 : Array (Option Value)} {oc34 kV34 dc34 pm34 cd34 ct34 : Value}
    (a34 : PySem.W.nsIn K mainGlobals "_law_planted" = some (some (.ref f34))) (l34 : K.lookup f34 = some ⟨oc34, od34, .func (PySem.W.fnOf "_law_planted" "_law_planted" (defArgs s_law_planted) (defBody s_law_planted) (defScope s_law_planted) .none kV34 dc34 pm34 an34 cd34 ct34), sl34⟩) (c34 : PySem.W.codeIn K cd34 "_law_planted" = true) (k34 : PySem.W.keepIn K (.ref f34) = true)
    {f35 : Addr} {od35 an35 : Option Addr} {sl35 : Array (Option Value)} {oc35 kV35 dc35 pm35 cd35 ct35 : Value}
    (a35 : PySem.W.nsIn K mainGlobals "law" = some (some (.ref f35))) (l35 : K.lookup f35 = some ⟨oc35, od35, .func (PySem.W.fnOf "law" "law" (defArgs s_law) (defBody s_law) (defScope s_law) .none kV35 dc35 pm35 an35 cd35 ct35), sl35⟩) (c35 : PySem.W.codeIn K cd35 "law" = true) (k35 : PySem.W.keepIn K (.ref f35) = true)
    (z_abs : PySem.W.nsIn K mainGlobals "abs" = some none)
    (z_bool : PySem.W.nsIn K mainGlobals "bool" = some none)
    (z_enumerate : PySem.W.nsIn K mainGlobals "enumerate" = some none)
    (z_int : PySem.W.nsIn K mainGlobals "int" = some none)
    (z_isinstance : PySem.W.nsIn K mainGlobals "isinstance" = some none)
    (z_len : PySem.W.nsIn K mainGlobals "len" = some none)
    (z_list : PySem.W.nsIn K mainGlobals "list" = some none)
    (z_min : PySem.W.nsIn K mainGlobals "min" = some none)
    (z_range : PySem.W.nsIn K mainGlobals "range" = some none)
    (z_sorted : PySem.W.nsIn K mainGlobals "sorted" = some none)
    (z_sum : PySem.W.nsIn K mainGlobals "sum" = some none)
    (z_tuple : PySem.W.nsIn K mainGlobals "tuple" = some none)
    (z_zip : PySem.W.nsIn K mainGlobals "zip" = some none)
    : Txt K mg :=
  ⟨⟨PySem.W.mg_none_of X G z_abs, PySem.W.mg_none_of X G z_bool, PySem.W.mg_none_of X G z_enumerate, PySem.W.mg_none_of X G z_int, PySem.W.mg_none_of X G z_isinstance, PySem.W.mg_none_of X G z_len, PySem.W.mg_none_of X G z_list, PySem.W.mg_none_of X G z_min, PySem.W.mg_none_of X G z_range, PySem.W.mg_none_of X G z_sorted, PySem.W.mg_none_of X G z_sum, PySem.W.mg_none_of X G z_tuple, PySem.W.mg_none_of X G z_zip⟩,
   ⟨_, _, fun_mk (st := s_divisor_of_two) l1 c1 k1, PySem.W.mg_of X G a1, (fun_mk (st := s_divisor_of_two) l1 c1 k1).binds (ps := ["one", "other"]) fun _ _ _ _ _ _ us hl => by obtain ⟨_, _, rfl⟩ := len2 hl; rfl⟩,
   ⟨_, _, fun_mk (st := s_divisor) l2 c2 k2, PySem.W.mg_of X G a2, (fun_mk (st := s_divisor) l2 c2 k2).binds (ps := ["row"]) fun _ _ _ _ _ _ us hl => by obtain ⟨_, rfl⟩ := len1 hl; rfl⟩,
   ⟨_, _, fun_mk (st := s_lowest) l3 c3 k3, PySem.W.mg_of X G a3, (fun_mk (st := s_lowest) l3 c3 k3).binds (ps := ["row"]) fun _ _ _ _ _ _ us hl => by obtain ⟨_, rfl⟩ := len1 hl; rfl⟩,
   ⟨_, _, fun_mk (st := s_fraction) l4 c4 k4, PySem.W.mg_of X G a4, (fun_mk (st := s_fraction) l4 c4 k4).binds (ps := ["top", "bottom"]) fun _ _ _ _ _ _ us hl => by obtain ⟨_, _, rfl⟩ := len2 hl; rfl⟩,
   ⟨_, _, fun_mk (st := s_end_of) l5 c5 k5, PySem.W.mg_of X G a5, (fun_mk (st := s_end_of) l5 c5 k5).binds (ps := ["deeds", "counts", "ware"]) fun _ _ _ _ _ _ us hl => by obtain ⟨_, _, _, rfl⟩ := len3 hl; rfl⟩,
   ⟨_, _, fun_mk (st := s_places) l6 c6 k6, PySem.W.mg_of X G a6, (fun_mk (st := s_places) l6 c6 k6).binds (ps := ["counts"]) fun _ _ _ _ _ _ us hl => by obtain ⟨_, rfl⟩ := len1 hl; rfl⟩,
   ⟨_, _, fun_mk (st := s_deed_set) l7 c7 k7, PySem.W.mg_of X G a7, (fun_mk (st := s_deed_set) l7 c7 k7).binds (ps := ["counts"]) fun _ _ _ _ _ _ us hl => by obtain ⟨_, rfl⟩ := len1 hl; rfl⟩,
   ⟨_, _, fun_mk (st := s_is_within) l8 c8 k8, PySem.W.mg_of X G a8, (fun_mk (st := s_is_within) l8 c8 k8).binds (ps := ["one", "other"]) fun _ _ _ _ _ _ us hl => by obtain ⟨_, _, rfl⟩ := len2 hl; rfl⟩,
   ⟨_, _, fun_mk (st := s_single) l9 c9 k9, PySem.W.mg_of X G a9, (fun_mk (st := s_single) l9 c9 k9).binds (ps := ["many", "place"]) fun _ _ _ _ _ _ us hl => by obtain ⟨_, _, rfl⟩ := len2 hl; rfl⟩,
   ⟨_, _, fun_mk (st := s_evened) l10 c10 k10, PySem.W.mg_of X G a10, (fun_mk (st := s_evened) l10 c10 k10).binds (ps := ["above", "end_above", "other", "end_other"]) fun _ _ _ _ _ _ us hl => by obtain ⟨_, _, _, _, rfl⟩ := len4 hl; rfl⟩,
   ⟨_, _, fun_mk (st := s_are_neighbours) l11 c11 k11, PySem.W.mg_of X G a11, (fun_mk (st := s_are_neighbours) l11 c11 k11).binds (ps := ["one", "other", "every_set"]) fun _ _ _ _ _ _ us hl => by obtain ⟨_, _, _, rfl⟩ := len3 hl; rfl⟩,
   ⟨_, _, fun_mk (st := s_evened_pairs) l12 c12 k12, PySem.W.mg_of X G a12, (fun_mk (st := s_evened_pairs) l12 c12 k12).binds (ps := ["known"]) fun _ _ _ _ _ _ us hl => by obtain ⟨_, rfl⟩ := len1 hl; rfl⟩,
   ⟨_, _, fun_mk (st := s_with_ware) l13 c13 k13, PySem.W.mg_of X G a13, (fun_mk (st := s_with_ware) l13 c13 k13).binds (ps := ["deeds", "rows", "ware"]) fun _ _ _ _ _ _ us hl => by obtain ⟨_, _, _, rfl⟩ := len3 hl; rfl⟩,
   ⟨_, _, fun_mk (st := s_lean_rounds) l14 c14 k14, PySem.W.mg_of X G a14, (fun_mk (st := s_lean_rounds) l14 c14 k14).binds (ps := ["width", "deeds"]) fun _ _ _ _ _ _ us hl => by obtain ⟨_, _, rfl⟩ := len2 hl; rfl⟩,
   ⟨_, _, fun_mk (st := s_first_to_run_out) l15 c15 k15, PySem.W.mg_of X G a15, (fun_mk (st := s_first_to_run_out) l15 c15 k15).binds (ps := ["rest", "row"]) fun _ _ _ _ _ _ us hl => by obtain ⟨_, _, rfl⟩ := len2 hl; rfl⟩,
   ⟨_, _, fun_mk (st := s_made_of) l16 c16 k16, PySem.W.mg_of X G a16, (fun_mk (st := s_made_of) l16 c16 k16).binds (ps := ["width", "deeds", "counts"]) fun _ _ _ _ _ _ us hl => by obtain ⟨_, _, _, rfl⟩ := len3 hl; rfl⟩,
   ⟨_, _, fun_mk (st := s_law_at) l17 c17 k17, PySem.W.mg_of X G a17, (fun_mk (st := s_law_at) l17 c17 k17).binds (ps := ["_law_script", "_law_k"]) fun _ _ _ _ _ _ us hl => by obtain ⟨_, _, rfl⟩ := len2 hl; rfl⟩,
   ⟨_, _, fun_mk (st := s_law_mix) l18 c18 k18, PySem.W.mg_of X G a18, (fun_mk (st := s_law_mix) l18 c18 k18).binds (ps := ["_law_cell", "_law_k"]) fun _ _ _ _ _ _ us hl => by obtain ⟨_, _, rfl⟩ := len2 hl; rfl⟩,
   ⟨_, _, fun_mk (st := s_law_draws) l19 c19 k19, PySem.W.mg_of X G a19, (fun_mk (st := s_law_draws) l19 c19 k19).binds (ps := ["_law_cell", "_law_many", "_law_size", "_law_mixed"]) fun _ _ _ _ _ _ us hl => by obtain ⟨_, _, _, _, rfl⟩ := len4 hl; rfl⟩,
   ⟨_, _, fun_mk (st := s_law_row) l20 c20 k20, PySem.W.mg_of X G a20, (fun_mk (st := s_law_row) l20 c20 k20).binds (ps := ["_law_cell", "_law_width", "_law_way"]) fun _ _ _ _ _ _ us hl => by obtain ⟨_, _, _, rfl⟩ := len3 hl; rfl⟩,
   ⟨_, _, fun_mk (st := s_law_works) l21 c21 k21, PySem.W.mg_of X G a21, (fun_mk (st := s_law_works) l21 c21 k21).binds (ps := ["_law_script"]) fun _ _ _ _ _ _ us hl => by obtain ⟨_, rfl⟩ := len1 hl; rfl⟩,
   ⟨_, _, fun_mk (st := s_law_plant) l22 c22 k22, PySem.W.mg_of X G a22, (fun_mk (st := s_law_plant) l22 c22 k22).binds (ps := ["_law_cell", "_law_width"]) fun _ _ _ _ _ _ us hl => by obtain ⟨_, _, rfl⟩ := len2 hl; rfl⟩,
   ⟨_, _, fun_mk (st := s_law_whole) l23 c23 k23, PySem.W.mg_of X G a23, (fun_mk (st := s_law_whole) l23 c23 k23).binds (ps := ["_law_found"]) fun _ _ _ _ _ _ us hl => by obtain ⟨_, rfl⟩ := len1 hl; rfl⟩,
   ⟨_, _, fun_mk (st := s_law_row_of) l24 c24 k24, PySem.W.mg_of X G a24, (fun_mk (st := s_law_row_of) l24 c24 k24).binds (ps := ["_law_found", "_law_many"]) fun _ _ _ _ _ _ us hl => by obtain ⟨_, _, rfl⟩ := len2 hl; rfl⟩,
   ⟨_, _, fun_mk (st := s_law_row_is) l25 c25 k25, PySem.W.mg_of X G a25, (fun_mk (st := s_law_row_is) l25 c25 k25).binds (ps := ["_law_found", "_law_due"]) fun _ _ _ _ _ _ us hl => by obtain ⟨_, _, rfl⟩ := len2 hl; rfl⟩,
   ⟨_, _, fun_mk (st := s_law_kept) l26 c26 k26, PySem.W.mg_of X G a26, (fun_mk (st := s_law_kept) l26 c26 k26).binds (ps := ["_law_found", "_law_due"]) fun _ _ _ _ _ _ us hl => by obtain ⟨_, _, rfl⟩ := len2 hl; rfl⟩,
   ⟨_, _, fun_mk (st := s_law_even) l27 c27 k27, PySem.W.mg_of X G a27, (fun_mk (st := s_law_even) l27 c27 k27).binds (ps := ["_law_width", "_law_deeds", "_law_some"]) fun _ _ _ _ _ _ us hl => by obtain ⟨_, _, _, rfl⟩ := len3 hl; rfl⟩,
   ⟨_, _, fun_mk (st := s_law_sums) l28 c28 k28, PySem.W.mg_of X G a28, (fun_mk (st := s_law_sums) l28 c28 k28).binds (ps := ["_law_width", "_law_deeds", "_law_counts"]) fun _ _ _ _ _ _ us hl => by obtain ⟨_, _, _, rfl⟩ := len3 hl; rfl⟩,
   ⟨_, _, fun_mk (st := s_law_gcd) l29 c29 k29, PySem.W.mg_of X G a29, (fun_mk (st := s_law_gcd) l29 c29 k29).binds (ps := ["_law_row_here"]) fun _ _ _ _ _ _ us hl => by obtain ⟨_, rfl⟩ := len1 hl; rfl⟩,
   ⟨_, _, fun_mk (st := s_law_is_round) l30 c30 k30, PySem.W.mg_of X G a30, (fun_mk (st := s_law_is_round) l30 c30 k30).binds (ps := ["_law_width", "_law_deeds", "_law_counts"]) fun _ _ _ _ _ _ us hl => by obtain ⟨_, _, _, rfl⟩ := len3 hl; rfl⟩,
   ⟨_, _, fun_mk (st := s_law_ahead) l31 c31 k31, PySem.W.mg_of X G a31, (fun_mk (st := s_law_ahead) l31 c31 k31).binds (ps := ["_law_one", "_law_other"]) fun _ _ _ _ _ _ us hl => by obtain ⟨_, _, rfl⟩ := len2 hl; rfl⟩,
   ⟨_, _, fun_mk (st := s_law_part) l32 c32 k32, PySem.W.mg_of X G a32, (fun_mk (st := s_law_part) l32 c32 k32).binds (ps := ["_law_width", "_law_deeds", "_law_part_here"]) fun _ _ _ _ _ _ us hl => by obtain ⟨_, _, _, rfl⟩ := len3 hl; rfl⟩,
   ⟨_, _, fun_mk (st := s_law_made) l33 c33 k33, PySem.W.mg_of X G a33, (fun_mk (st := s_law_made) l33 c33 k33).binds (ps := ["_law_width", "_law_deeds", "_law_counts", "_law_parts"]) fun _ _ _ _ _ _ us hl => by obtain ⟨_, _, _, _, rfl⟩ := len4 hl; rfl⟩,
   ⟨_, _, fun_mk (st := s_law_planted) l34 c34 k34, PySem.W.mg_of X G a34, (fun_mk (st := s_law_planted) l34 c34 k34).binds (ps := ["_law_script"]) fun _ _ _ _ _ _ us hl => by obtain ⟨_, rfl⟩ := len1 hl; rfl⟩,
   ⟨_, _, fun_mk (st := s_law) l35 c35 k35, PySem.W.mg_of X G a35, (fun_mk (st := s_law) l35 c35 k35).binds (ps := ["_law_script"]) fun _ _ _ _ _ _ us hl => by obtain ⟨_, rfl⟩ := len1 hl; rfl⟩⟩
end My
open PySem PySem.W PyProof.Rows
set_option maxRecDepth 100000 in
set_option maxHeartbeats 0 in
theorem PySem.Challenge.cw_leanmodes_k10_made_of_holds : PySem.Challenge.rw_leanmodes_k10_made_of.Holds := by
  w_on; o_law; k_head; (case hw => w_witness2)
  k_fill
  refine L2.walk_ofK (l := PySem.Challenge.rw_leanmodes_k10_made_of) (n := 63) (k := 9) (x := "_law_script") (CX := L2.CX0) (sp := My.sp_law) rfl (by decide) rfl ⟨rfl, by decide, by decide⟩ (fun w h Y => PySem.W.kIn_of Y) ?F ?S ?C
  case F =>
    intro w mg fa h KX G hmg
    have T : My.Txt (L2.KOf KX) mg := by
      dsimp only [L2.KOf]
      refine' My.txt_mk KX G ?a1 ?l1 ?c1 ?k1 ?a2 ?l2 ?c2 ?k2 ?a3 ?l3 ?c3 ?k3 ?a4 ?l4 ?c4 ?k4 ?a5 ?l5 ?c5 ?k5 ?a6 ?l6 ?c6 ?k6 ?a7 ?l7 ?c7 ?k7 ?a8 ?l8 ?c8 ?k8 ?a9 ?l9 ?c9 ?k9 ?a10 ?l10 ?c10 ?k10 ?a11 ?l11 ?c11 ?k11 ?a12 ?l12 ?c12 ?k12 ?a13 ?l13 ?c13 ?k13 ?a14 ?l14 ?c14 ?k14 ?a15 ?l15 ?c15 ?k15 ?a16 ?l16 ?c16 ?k16 ?a17 ?l17 ?c17 ?k17 ?a18 ?l18 ?c18 ?k18 ?a19 ?l19 ?c19 ?k19 ?a20 ?l20 ?c20 ?k20 ?a21 ?l21 ?c21 ?k21 ?a22 ?l22 ?c22 ?k22 ?a23 ?l23 ?c23 ?k23 ?a24 ?l24 ?c24 ?k24 ?a25 ?l25 ?c25 ?k25 ?a26 ?l26 ?c26 ?k26 ?a27 ?l27 ?c27 ?k27 ?a28 ?l28 ?c28 ?k28 ?a29 ?l29 ?c29 ?k29 ?a30 ?l30 ?c30 ?k30 ?a31 ?l31 ?c31 ?k31 ?a32 ?l32 ?c32 ?k32 ?a33 ?l33 ?c33 ?k33 ?a34 ?l34 ?c34 ?k34 ?a35 ?l35 ?c35 ?k35 ?z_abs ?z_bool ?z_enumerate ?z_int ?z_isinstance ?z_len ?z_list ?z_min ?z_range ?z_sorted ?z_sum ?z_tuple ?z_zip
      (case a1 => k_is)
      (case l1 => k_is)
      (case c1 => k_is)
      (case k1 => k_is)
      (case a2 => k_is)
      (case l2 => k_is)
      (case c2 => k_is)
      (case k2 => k_is)
      (case a3 => k_is)
      (case l3 => k_is)
      (case c3 => k_is)
      (case k3 => k_is)
      (case a4 => k_is)
      (case l4 => k_is)
      (case c4 => k_is)
      (case k4 => k_is)
      (case a5 => k_is)
      (case l5 => k_is)
      (case c5 => k_is)
      (case k5 => k_is)
      (case a6 => k_is)
      (case l6 => k_is)
      (case c6 => k_is)
      (case k6 => k_is)
      (case a7 => k_is)
      (case l7 => k_is)
      (case c7 => k_is)
      (case k7 => k_is)
      (case a8 => k_is)
      (case l8 => k_is)
      (case c8 => k_is)
      (case k8 => k_is)
      (case a9 => k_is)
      (case l9 => k_is)
      (case c9 => k_is)
      (case k9 => k_is)
      (case a10 => k_is)
      (case l10 => k_is)
      (case c10 => k_is)
      (case k10 => k_is)
      (case a11 => k_is)
      (case l11 => k_is)
      (case c11 => k_is)
      (case k11 => k_is)
      (case a12 => k_is)
      (case l12 => k_is)
      (case c12 => k_is)
      (case k12 => k_is)
      (case a13 => k_is)
      (case l13 => k_is)
      (case c13 => k_is)
      (case k13 => k_is)
      (case a14 => k_is)
      (case l14 => k_is)
      (case c14 => k_is)
      (case k14 => k_is)
      (case a15 => k_is)
      (case l15 => k_is)
      (case c15 => k_is)
      (case k15 => k_is)
      (case a16 => k_is)
      (case l16 => k_is)
      (case c16 => k_is)
      (case k16 => k_is)
      (case a17 => k_is)
      (case l17 => k_is)
      (case c17 => k_is)
      (case k17 => k_is)
      (case a18 => k_is)
      (case l18 => k_is)
      (case c18 => k_is)
      (case k18 => k_is)
      (case a19 => k_is)
      (case l19 => k_is)
      (case c19 => k_is)
      (case k19 => k_is)
      (case a20 => k_is)
      (case l20 => k_is)
      (case c20 => k_is)
      (case k20 => k_is)
      (case a21 => k_is)
      (case l21 => k_is)
      (case c21 => k_is)
      (case k21 => k_is)
      (case a22 => k_is)
      (case l22 => k_is)
      (case c22 => k_is)
      (case k22 => k_is)
      (case a23 => k_is)
      (case l23 => k_is)
      (case c23 => k_is)
      (case k23 => k_is)
      (case a24 => k_is)
      (case l24 => k_is)
      (case c24 => k_is)
      (case k24 => k_is)
      (case a25 => k_is)
      (case l25 => k_is)
      (case c25 => k_is)
      (case k25 => k_is)
      (case a26 => k_is)
      (case l26 => k_is)
      (case c26 => k_is)
      (case k26 => k_is)
      (case a27 => k_is)
      (case l27 => k_is)
      (case c27 => k_is)
      (case k27 => k_is)
      (case a28 => k_is)
      (case l28 => k_is)
      (case c28 => k_is)
      (case k28 => k_is)
      (case a29 => k_is)
      (case l29 => k_is)
      (case c29 => k_is)
      (case k29 => k_is)
      (case a30 => k_is)
      (case l30 => k_is)
      (case c30 => k_is)
      (case k30 => k_is)
      (case a31 => k_is)
      (case l31 => k_is)
      (case c31 => k_is)
      (case k31 => k_is)
      (case a32 => k_is)
      (case l32 => k_is)
      (case c32 => k_is)
      (case k32 => k_is)
      (case a33 => k_is)
      (case l33 => k_is)
      (case c33 => k_is)
      (case k33 => k_is)
      (case a34 => k_is)
      (case l34 => k_is)
      (case c34 => k_is)
      (case k34 => k_is)
      (case a35 => k_is)
      (case l35 => k_is)
      (case c35 => k_is)
      (case k35 => k_is)
      (case z_abs => k_is)
      (case z_bool => k_is)
      (case z_enumerate => k_is)
      (case z_int => k_is)
      (case z_isinstance => k_is)
      (case z_len => k_is)
      (case z_list => k_is)
      (case z_min => k_is)
      (case z_range => k_is)
      (case z_sorted => k_is)
      (case z_sum => k_is)
      (case z_tuple => k_is)
      (case z_zip => k_is)
    obtain ⟨fa2, fd, F, m, b⟩ := T.law.ex
    have e0 := hmg.symm.trans m
    cases e0
    exact My.law_fn T F
  case S => exact fun K H a ns hl hO hS => My.law_sp hl hS
  case C => exact fun _ _ _ _ z => z
