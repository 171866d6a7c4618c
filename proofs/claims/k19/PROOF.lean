import PyProof.Rows.All
import Wide.All
import OpenK.AllK
import Wide.FinOn
import Lean
import PyProof.EqAt
import PyProof.EqKinds
import PyProof.TupleCall
import PyProof.NeKinds
import KE.KSortKey
import PyProof.StrWalks
import PyProof.Rows.StrJoin2
import KE.KDictList
import PyProof.ExcArgsOwn
import KE.KTryMore
import KE.KTryDeep
import PyProof.StrLawsRepr
import PyProof.ReprStr
import PyProof.FString
import PyProof.NsDelKeeps
import PyProof.StrBlock2
import PySem.Challenge.RW_leanmodes_k19_two_hundred
-- CHANGE: your row's module here, as the last of these rows
set_option Elab.async false
set_option linter.all false
set_option maxRecDepth 100000
namespace L2
open PySem PySem.Spec PyProof.Rows
abbrev Key := Sum Int Str
def ZhZ : Key -> Value -> Bool
 | .inl k, v => Value.isInt k v
 | .inr x, v => Value.isStrOf x v
def keyH (w : World) : Key -> Int
 | .inl k => hashInt k
 | .inr x => hashStr w x
theorem Zbd : ∀ {k : Key} {v : Value}, ZhZ k v = true -> (∃ i t, k = Sum.inl i /\ v = Value.int i t) \/ (∃ x t, k = Sum.inr x /\ v = Value.str x t)
 | .inl i, v, h => by
  obtain ⟨t, e⟩ := Value.isInt_shape (k := i) (v := v) h
  exact .inl ⟨i, t, rfl, e⟩
 | .inr x, v, h => by
  obtain ⟨t, e⟩ := Value.isStrOf_shape (x := x) (v := v) h
  exact .inr ⟨x, t, rfl, e⟩
theorem Zjz (i : Int) (t : Tok) : ZhZ (.inl i) (.int i t) = true := by simp [ZhZ, Value.isInt]
theorem ZjA (x : Str) (t : Tok) : ZhZ (.inr x) (.str x t) = true := by simp [ZhZ, Value.isStrOf]
theorem ZnK (a b : Int) : decide ((Sum.inl a : Key) = Sum.inl b) = (a == b) := by
 by_cases e : a = b
 · subst e; simp
 · have h : ¬ (Sum.inl a : Key) = Sum.inl b := fun q => e (Sum.inl.inj q)
   rw [decide_eq_false h]
   exact (beq_eq_false_iff_ne.mpr e).symm
theorem ZnL (a b : Str) : decide ((Sum.inr a : Key) = Sum.inr b) = decide (a = b) := by
 by_cases e : a = b
 · subst e; simp
 · have h : ¬ (Sum.inr a : Key) = Sum.inr b := fun q => e (Sum.inr.inj q)
   rw [decide_eq_false h, decide_eq_false e]
theorem ZnM (a : Int) (b : Str) : decide ((Sum.inl a : Key) = Sum.inr b) = false := decide_eq_false (fun q => nomatch q)
theorem ZnN (a : Str) (b : Int) : decide ((Sum.inr a : Key) = Sum.inl b) = false := decide_eq_false (fun q => nomatch q)
def Zbk (prog : Program) (w : World) : PySem.KeyKind prog w Key where
 is := ZhZ
 hash := keyH w
 inj := fun v a b ha hb => by
  rcases Zbd ha with ⟨i, t, rfl, rfl⟩ | ⟨x, t, rfl, rfl⟩
  · rcases Zbd hb with ⟨j, u, rfl, e⟩ | ⟨y, u, rfl, e⟩
    · injection e with e1 _; rw [e1]
    · exact nomatch e
  · rcases Zbd hb with ⟨j, u, rfl, e⟩ | ⟨y, u, rfl, e⟩
    · exact nomatch e
    · injection e with e1 _; rw [e1]
 byValue := fun k v h => by
  rcases Zbd h with ⟨i, t, rfl, rfl⟩ | ⟨x, t, rfl, rfl⟩ <;> rfl
 pyHash := fun hv h => by
  rcases Zbd hv with ⟨i, t, rfl, rfl⟩ | ⟨x, t, rfl, rfl⟩
  · exact wpAny_pyHash_int h
  · exact wpAny_pyHash_str h
 eqBool := fun hu hv h => by
  rcases Zbd hu with ⟨i, t, rfl, rfl⟩ | ⟨x, t, rfl, rfl⟩
  · rcases Zbd hv with ⟨j, u, rfl, rfl⟩ | ⟨y, u, rfl, rfl⟩
    · rw [ZnK] at h; exact wpAny_eqBool_int h
    · rw [ZnM] at h; exact SeqAt.EqAt.int_str i t y u _ _ _ _ h
  · rcases Zbd hv with ⟨j, u, rfl, rfl⟩ | ⟨y, u, rfl, rfl⟩
    · rw [ZnN] at h; exact SeqAt.EqAt.str_int x t j u _ _ _ _ h
    · rw [ZnL] at h; exact wpAny_eqBool_str h
 «strs» := fun k x t v h => by
  rcases Zbd h with ⟨i, u, rfl, e⟩ | ⟨y, u, rfl, e⟩
  · exact nomatch e
  · injection e with e1 _
    subst e1
    cases v <;> rfl
theorem Zh0 (prog : Program) (w : World) (i : Int) (t : Tok) : (Zbk prog w).is (.inl i) (.int i t) = true := Zjz i t
theorem Zh1 (prog : Program) (w : World) (x : Str) (t : Tok) : (Zbk prog w).is (.inr x) (.str x t) = true := ZjA x t
end L2
namespace L2
open PySem PySem.Spec PyProof.Rows
inductive V where
 | non | bl (b : Bool) | int (i : Int) | str (x : Str) | byt (b : Array UInt8) | flt (b : UInt64) | ref (a : Addr) | ty (n : String)
 deriving DecidableEq
def RelV : V -> Value -> Prop
 | .non, u => u = Value.none
 | .bl b, u => u = Value.bool b
 | .int i, u => ∃ t, u = Value.int i t
 | .str x, u => ∃ t, u = Value.str x t
 | .byt b, u => ∃ t, u = Value.bytes b t
 | .flt b, u => ∃ t, u = Value.float b t
 | .ref a, u => u = Value.ref a
 | .ty n, u => u = Value.type n
abbrev Vals : List V -> List Value -> Prop := Paired RelV
theorem Vals.length {xs : List V} {us : List Value} (r : Vals xs us) : xs.length = us.length := Paired.length r
theorem Vals.get : ∀ {xs : List V} {us : List Value} {i : Nat} {x : V}, Vals xs us -> xs[i]? = some x -> ∃ u, us[i]? = some u /\ RelV x u
 | _, _, _, _, .nil, e => by simp at e
 | _, _, 0, _, .cons r _, e => by simp at e; subst e; exact ⟨_, rfl, r⟩
 | _, _, i + 1, x, .cons _ t, e => by
  obtain ⟨u, h1, h2⟩ := Vals.get (i := i) (x := x) t (by simpa using e)
  exact ⟨u, by simpa using h1, h2⟩
theorem Vals.set {x : V} {u : Value} (r : RelV x u) : ∀ {xs : List V} {us : List Value} (i : Nat), Vals xs us -> Vals (xs.set i x) (us.set i u)
 | _, _, _, .nil => .nil
 | _, _, 0, .cons _ t => .cons r t
 | _, _, i + 1, .cons q t => .cons q (Vals.set r i t)
theorem Vals.append : ∀ {xs ys : List V} {us ws : List Value}, Vals xs us -> Vals ys ws -> Vals (xs ++ ys) (us ++ ws)
 | _, _, _, _, .nil, s => s
 | _, _, _, _, .cons r t, s => .cons r (Vals.append t s)
theorem Vals.take : ∀ {xs : List V} {us : List Value} (n : Nat), Vals xs us -> Vals (xs.take n) (us.take n)
 | _, _, 0, _ => .nil
 | _, _, _ + 1, .nil => .nil
 | _, _, n + 1, .cons r t => .cons r (Vals.take n t)
theorem Vals.drop : ∀ {xs : List V} {us : List Value} (n : Nat), Vals xs us -> Vals (xs.drop n) (us.drop n)
 | _, _, 0, r => r
 | _, _, _ + 1, .nil => .nil
 | _, _, n + 1, .cons _ t => Vals.drop n t
def RelO : Option V -> Option Value -> Prop
 | some v, some u => RelV v u
 | none, none => True
 | _, _ => False
def KV {κ : Type} : List (κ × V) -> List (κ × Value) -> Prop := Paired fun (p : κ × V) (q : κ × Value) => p.1 = q.1 /\ RelV p.2 q.2
def kV : Key -> V
 | .inl i => .int i
 | .inr x => .str x
inductive HO where
 /-- a list -/
 | lst (xs : List V)
 /-- a tuple (never changes) -/
 | tup (xs : List V)
 /-- a dict whose keys are ints and texts; one whose keys are tuples of ints and texts (the empty one is both) -/
 | dK (kvs : List (Key × V)) | dT (kvs : List (List Key × V))
 /-- a set of ints: its members, its size -/
 | set (S : Int -> Bool) (n : Nat)
 /-- an instance of the class at C, its dict at dx, its attributes -/
 | ins (C dx : Addr) (fs : List (Str × V))
 /-- the dict of the instance at x -/
 | own (x : Addr)
 /-- the dict of an exception -/
 | xd (fs : List (Str × V))
 /-- a bound method, f of x -/
 | met (f x : Addr)
 /-- a range object lo, lo + 1, .. below hi -/
 | rng (lo hi : Int)
 /-- a thing that is known to the object (the script; a dict while a loop walks it): read, never written while it is so -/
 | frz (o : Obj) (u : HO)
 /-- a code object's table -/
 | tbl (ps : Array Value)
 /-- any other thing, by what is true of its one object (a def of one's own: SetO a S n := HO.ext fun h => ..) -/
 | ext (φ : Heap -> Prop)
abbrev Hp := Addr -> Option HO
def upd (H : Hp) (a : Addr) (o : HO) : Hp := fun b => if b = a then some o else H b
theorem ZaG {H : Hp} {a : Addr} {o : HO} : upd H a o a = some o := by unfold upd; rw [if_pos rfl]
theorem Zap {H : Hp} {a b : Addr} {o : HO} (h : b ≠ a) : upd H a o b = H b := by unfold upd; rw [if_neg h]
theorem Zak {H : Hp} {a b : Addr} {o : HO} (h : H a = some o) (h' : H b = none) : a ≠ b := by
 intro e; subst e; rw [h] at h'; cases h'
section
variable (P : Program) (w : World)
def ObjOk (H : Hp) (h : Heap) (a : Addr) : HO -> Prop
 | .lst xs => xs.length <= sizeLine /\ ∃ (its : List Value) (n : Nat), Vals xs its /\ h.get? a = some { cls := .type "list", data := .seq its.toArray n }
 | .tup xs => xs.length <= sizeLine /\ ∃ its : List Value, Vals xs its /\ IsTup h a its.toArray
 | .dK kvs => kvs.length <= sizeLine /\ (a == sysModules) = false /\ ∃ vs, KV kvs vs /\ h.DictOf (Zbk P w) a vs
 | .dT kvs => kvs.length <= sizeLine /\ (a == sysModules) = false /\ ∃ xs : List (List Key × Addr × Value),
  Paired (fun (p : List Key × V) (q : List Key × Addr × Value) => p.1 = q.1 /\ H q.2.1 = some (.tup (p.1.map kV)) /\ RelV p.2 q.2.2) kvs xs /\
  ∃ o es ep, h.get? a = some o /\ o.ExactDict /\ o.data = .dict es ep /\ es.toList = xs.map (entryOfKey (tupleKind (Zbk P w))) /\ (xs.map (·.1)).Nodup
 | .set S n => h.SetOf (intKind P w) a S n
 | .ins C dx fs => H dx = some (.own a) /\ fs.length <= 1000 /\ dx ≠ a /\ h.get? a = some (PySem.W.instObj C dx) /\
  ∃ mA, h.Ns1 dx mA /\ (∀ f, RelO (fs.lookup f) (mA f)) /\ PySem.Within mA (fs.map (·.1))
 | .own _ => ∃ o, h.get? a = some o
 | .xd fs => ∃ mA, h.Ns1 a mA /\ ∀ f, RelO (fs.lookup f) (mA f)
 | .rng lo hi => ∃ t u v, h.get? a = some { cls := .type "range", data := .fields #[.int lo t, .int hi u, .int 1 v] }
 | .frz o u => h.get? a = some o /\ ObjOk H h a u
 | .tbl ps => h.get? a = some { cls := .none, data := .fields ps }
 | .met f x => h.get? a = some (PySem.W.methodObj (.ref f) (.ref x))
 | .ext φ => φ h /\ (∃ o, h.get? a = some o) /\ ∀ h1 h2 : Heap, φ h1 -> (∀ o, h1.get? a = some o -> h2.get? a = some o) -> φ h2
def HOk (H : Hp) (h : Heap) : Prop := ∀ a o, H a = some o -> ObjOk P w H h a o
end
section
variable {P : Program} {w : World} {H H' : Hp} {h h' : Heap} {a : Addr} {o : HO}
theorem ObjOk.lt (x : ObjOk P w H h a o) : a < h.objs.size := by
 cases o with
 | lst xs => obtain ⟨_, _, _, _, e⟩ := x; exact Heap.lt_size e
 | tup xs => obtain ⟨_, _, _, p⟩ := x; exact p.lt
 | dK kvs => obtain ⟨_, _, _, _, o, _, _, e, _⟩ := x; exact Heap.lt_size e
 | dT kvs => obtain ⟨_, _, _, _, o, _, _, e, _⟩ := x; exact Heap.lt_size e
 | set S n => obtain ⟨o, _, _, _, e, _⟩ := x; exact Heap.lt_size e
 | ins C dx fs => obtain ⟨_, _, _, e, _⟩ := x; exact Heap.lt_size e
 | own y => obtain ⟨_, e⟩ := x; exact Heap.lt_size e
 | xd fs => obtain ⟨_, ⟨_, _, _, e, _⟩, _⟩ := x; exact Heap.lt_size e
 | rng lo hi => obtain ⟨_, _, _, e⟩ := x; exact Heap.lt_size e
 | frz ob u => obtain ⟨e, _⟩ := x; exact Heap.lt_size e
 | tbl ps => exact Heap.lt_size (show h.get? a = some _ from x)
 | met f y => exact Heap.lt_size (show h.get? a = some _ from x)
 | ext φ => obtain ⟨_, ⟨_, e⟩, _⟩ := x; exact Heap.lt_size e
theorem Paired.mapP {α β : Type} {F G : α -> β -> Prop} : ∀ {l₁ : List α} {l₂ : List β}, Paired F l₁ l₂ -> (∀ a b, F a b -> G a b) -> Paired G l₁ l₂
 | _, _, .nil, _ => .nil
 | _, _, .cons r t, f => .cons (f _ _ r) (Paired.mapP t f)
theorem ObjOk.stay (x : ObjOk P w H h a o) (k : ∀ b u, (b = a \/ H b = some (.own a)) -> h.get? b = some u -> h'.get? b = some u)
 (ho : ∀ b, H b = some (.own a) -> H' b = some (.own a)) (ht : ∀ b xs, H b = some (.tup xs) -> H' b = some (.tup xs)) : ObjOk P w H' h' a o := by
 induction o with
 | lst xs => obtain ⟨z, its, n, r, e⟩ := x; exact ⟨z, its, n, r, k _ _ (.inl rfl) e⟩
 | tup xs => obtain ⟨z, its, r, ob, e, c⟩ := x; exact ⟨z, its, r, ob, k _ _ (.inl rfl) e, c⟩
 | dK kvs => obtain ⟨z, y, vs, r, ob, es, ep, e, c⟩ := x; exact ⟨z, y, vs, r, ob, es, ep, k _ _ (.inl rfl) e, c⟩
 | dT kvs =>
  obtain ⟨z, y, xs, r, ob, es, ep, e, c⟩ := x
  exact ⟨z, y, xs, Paired.mapP r fun p q z => ⟨z.1, ht _ _ z.2.1, z.2.2⟩, ob, es, ep, k _ _ (.inl rfl) e, c⟩
 | set S n => obtain ⟨ob, es, ep, t, e, c⟩ := x; exact ⟨ob, es, ep, t, k _ _ (.inl rfl) e, c⟩
 | ins C dx fs =>
  obtain ⟨d, z, ne, e, mA, ⟨od, es, ep, e2, c⟩, r⟩ := x
  exact ⟨ho _ d, z, ne, k _ _ (.inl rfl) e, mA, ⟨od, es, ep, k _ _ (.inr d) e2, c⟩, r⟩
 | own y => obtain ⟨ob, e⟩ := x; exact ⟨ob, k _ _ (.inl rfl) e⟩
 | xd fs => obtain ⟨mA, ⟨od, es, ep, e, c⟩, r⟩ := x; exact ⟨mA, ⟨od, es, ep, k _ _ (.inl rfl) e, c⟩, r⟩
 | rng lo hi => obtain ⟨t, u, v, e⟩ := x; exact ⟨t, u, v, k _ _ (.inl rfl) e⟩
 | frz ob u ih => obtain ⟨e, q⟩ := x; exact ⟨k _ _ (.inl rfl) e, ih q⟩
 | tbl ps =>
  have e : h.get? a = some { cls := .none, data := .fields ps } := x
  show h'.get? a = some { cls := .none, data := .fields ps }
  exact k a _ (.inl rfl) e
 | met f y =>
  have e : h.get? a = some (PySem.W.methodObj (.ref f) (.ref y)) := x
  show h'.get? a = some (PySem.W.methodObj (.ref f) (.ref y))
  exact k a _ (.inl rfl) e
 | ext φ => obtain ⟨p, ⟨o, e⟩, st⟩ := x; exact ⟨st _ _ p fun o q => k _ _ (.inl rfl) q, ⟨o, k _ _ (.inl rfl) e⟩, st⟩
theorem HOk.lt (x : HOk P w H h) (e : H a = some o) : a < h.objs.size := (x a o e).lt
theorem HOk.fresh (x : HOk P w H h) (e : h.objs.size <= a) : H a = none := by
 cases q : H a with
 | none => rfl
 | some u => exact absurd (Nat.lt_of_lt_of_le (x.lt q) e) (Nat.lt_irrefl _)
theorem HOk.kept (x : HOk P w H h) (k : ∀ b u, h.get? b = some u -> h'.get? b = some u) : HOk P w H h' := fun a o e =>
 (x a o e).stay (fun b u _ q => k b u q) (fun _ q => q) fun _ _ q => q
theorem HOk.laid (x : HOk P w H h) (k : ∀ b u, h.get? b = some u -> h'.get? b = some u) (hp : h.objs.size <= a) (new : ObjOk P w (upd H a o) h' a o) : HOk P w (upd H a o) h' := fun b u e => by
 have hn := x.fresh hp
 by_cases hb : b = a
 · subst hb; rw [ZaG] at e; cases e; exact new
 · rw [Zap hb] at e
   exact (x b u e).stay (fun c v _ q => k c v q) (fun c q => by rw [Zap (Zak q hn)]; exact q) fun c xs q => by rw [Zap (Zak q hn)]; exact q
end
def Rd (H : Hp) (a : Addr) (u : HO) : Prop := H a = some u \/ ∃ o, H a = some (.frz o u)
theorem Rd.of {H : Hp} {a : Addr} {u : HO} (h : H a = some u) : Rd H a u := .inl h
theorem Rd.ok {P : Program} {w : World} {H : Hp} {h : Heap} {a : Addr} {u : HO} (r : Rd H a u) (x : HOk P w H h) : ObjOk P w H h a u := by
 rcases r with r | ⟨o, r⟩
 · exact x a u r
 · obtain ⟨_, q⟩ := x a _ r
   exact q
def Mut : Option HO -> Prop
 | some (.lst _) => True
 | some (.dK _) => True
 | some (.dT _) => True
 | some (.set _ _) => True
 | some (.ins _ _ _) => True
 | some (.ext _) => True
 | _ => False
section
variable {P : Program} {w : World} {H : Hp} {h h' : Heap} {x e : Addr} {o' : HO}
theorem HOk.write (ok : HOk P w H h) (mu : Mut (H x)) (he : e = x \/ H e = some (.own x)) (k : ∀ b u, b ≠ e -> h.get? b = some u -> h'.get? b = some u) (heo : ∃ u, h'.get? e = some u)
 (new : ObjOk P w (upd H x o') h' x o') : HOk P w (upd H x o') h' := fun b u q => by
 have nown : ∀ c y, H c = some (.own y) -> c ≠ x := fun c y r z => by subst z; rw [r] at mu; exact mu
 have ntup : ∀ c xs, H c = some (.tup xs) -> c ≠ x := fun c xs r z => by subst z; rw [r] at mu; exact mu
 by_cases hb : b = x
 · subst hb; rw [ZaG] at q; cases q; exact new
 · rw [Zap hb] at q
   by_cases hbe : b = e
   · have q' : H b = some (.own x) := by
      rcases he with z | z
      · exact absurd (hbe.trans z) hb
      · rw [hbe]; exact z
     rw [q] at q'; cases q'
     obtain ⟨v, hv⟩ := heo
     exact ⟨v, by rw [hbe]; exact hv⟩
   · refine (ok b u q).stay (fun c v hc r => k c v ?_ r) (fun c r => by rw [Zap (nown c b r)]; exact r) fun c xs r => by rw [Zap (ntup c xs r)]; exact r
     rcases hc with rfl | hc
     · exact hbe
     · rintro rfl
       rcases he with z | z
       · exact nown c b hc z
       · rw [hc] at z; cases z; exact hb rfl
end
structure Un (fs ex : List Addr) (H H' : Hp) (h h' : Heap) : Prop where
 keep : ∀ b o, h.get? b = some o -> H b = none -> b ∉ fs -> b ∉ ex -> h'.get? b = some o
 slot : ∀ b o, h.get? b = some o -> H b = none -> b ∈ fs -> b ∉ ex -> ∃ sl, h'.get? b = some { o with slots := sl }
 free : ∀ b o, h.get? b = some o -> H b = none -> b ∉ ex -> H' b = none
 there : ∀ b o, h.get? b = some o -> b ∉ ex -> ∃ o', h'.get? b = some o'
 tups : ∀ b xs, H b = some (.tup xs) -> H' b = some (.tup xs)
 frzs : ∀ b o u, H b = some (.frz o u) -> H' b = some (.frz o u)
 tbls : ∀ b ps, H b = some (.tbl ps) -> ∃ more, H' b = some (.tbl (ps ++ more))
section
variable {fs fs' ex ex' : List Addr} {H H1 H2 : Hp} {h h1 h2 h' : Heap} {a x e : Addr} {o : HO}
theorem Un.any (u : Un fs ex H H1 h h1) {b : Addr} {ob : Obj} (q : h.get? b = some ob) (n : H b = none) (hx : b ∉ ex) : ∃ sl, h1.get? b = some { ob with slots := sl } := by
 by_cases hb : b ∈ fs
 · exact u.slot b ob q n hb hx
 · exact ⟨ob.slots, u.keep b ob q n hb hx⟩
theorem Un.trans (a : Un fs ex H H1 h h1) (b : Un fs ex H1 H2 h1 h2) : Un fs ex H H2 h h2 where
 keep := fun c ob q n hc hx => b.keep c ob (a.keep c ob q n hc hx) (a.free c ob q n hx) hc hx
 slot := fun c ob q n hc hx => by
  obtain ⟨sl, e1⟩ := a.slot c ob q n hc hx
  obtain ⟨sl', e2⟩ := b.slot c _ e1 (a.free c ob q n hx) hc hx
  exact ⟨sl', e2⟩
 free := fun c ob q n hx => by
  obtain ⟨o', e1⟩ := a.there c ob q hx
  exact b.free c o' e1 (a.free c ob q n hx) hx
 there := fun c ob q hx => by
  obtain ⟨o', e1⟩ := a.there c ob q hx
  exact b.there c o' e1 hx
 tups := fun c xs q => b.tups c xs (a.tups c xs q)
 frzs := fun c ob xs q => b.frzs c ob xs (a.frzs c ob xs q)
 tbls := fun c ps q => by
  obtain ⟨m1, e1⟩ := a.tbls c ps q
  obtain ⟨m2, e2⟩ := b.tbls c _ e1
  exact ⟨m1 ++ m2, by rw [e2, Array.append_assoc]⟩
theorem Un.kept (k : ∀ b u, h.get? b = some u -> h'.get? b = some u) : Un fs ex H H h h' :=
 ⟨fun b ob q _ _ _ => k b ob q, fun b ob q _ _ _ => ⟨ob.slots, k b ob q⟩, fun _ _ _ n _ => n, fun b ob q _ => ⟨ob, k b ob q⟩, fun _ _ q => q, fun _ _ _ q => q, fun _ ps q => ⟨#[], by rw [q]; simp⟩⟩
theorem Un.refl : Un fs ex H H h h := Un.kept fun _ _ q => q
theorem Un.laid (k : ∀ b u, h.get? b = some u -> h'.get? b = some u) (hp : h.objs.size <= a) (hn : H a = none) : Un fs ex H (upd H a o) h h' where
 keep := fun b u q _ _ _ => k b u q
 slot := fun b u q _ _ _ => ⟨u.slots, k b u q⟩
 free := fun b u q n _ => by rw [Zap (Nat.ne_of_lt (Nat.lt_of_lt_of_le (Heap.lt_size q) hp))]; exact n
 there := fun b u q _ => ⟨u, k b u q⟩
 tups := fun b xs q => by rw [Zap (Zak q hn)]; exact q
 frzs := fun b u xs q => by rw [Zap (Zak q hn)]; exact q
 tbls := fun b ps q => ⟨#[], by rw [Zap (Zak q hn), q]; simp⟩
theorem Un.write (mu : Mut (H x)) (he : e = x \/ H e = some (.own x)) (k : ∀ b u, b ≠ e -> h.get? b = some u -> h'.get? b = some u) (heo : ∃ u, h'.get? e = some u) : Un fs ex H (upd H x o) h h' := by
 have hx : ∀ b, H b = none -> b ≠ x := fun b n z => by subst z; rw [n] at mu; exact mu
 have hb : ∀ b, H b = none -> b ≠ e := fun b n z => by
  subst z
  rcases he with r | r
  · exact hx b n r
  · rw [n] at r; cases r
 have hm : ∀ b u, H b = some u -> ¬ Mut (some u) -> b ≠ x := fun b u q nm z => by subst z; rw [q] at mu; exact nm mu
 refine ⟨fun b u q n _ _ => k b u (hb b n) q, fun b u q n _ _ => ⟨u.slots, k b u (hb b n) q⟩, fun b u q n _ => by rw [Zap (hx b n)]; exact n, fun b u q _ => ?_,
  fun b xs q => by rw [Zap (hm b _ q fun z => z)]; exact q, fun b u xs q => by rw [Zap (hm b _ q fun z => z)]; exact q, fun b ps q => ⟨#[], by rw [Zap (hm b _ q fun z => z), q]; simp⟩⟩
 by_cases hbe : b = e
 · subst hbe; exact heo
 · exact ⟨u, k b u hbe q⟩
theorem Un.mono (u : Un fs ex H H1 h h1) (hs : ∀ b ∈ fs, b ∈ fs') (hx : ∀ b ∈ ex, b ∈ ex') : Un fs' ex' H H1 h h1 :=
 ⟨fun b ob q n hb he => u.keep b ob q n (fun z => hb (hs b z)) fun z => he (hx b z), fun _ _ q n _ he => u.any q n fun z => he (hx _ z), fun b ob q n he => u.free b ob q n fun z => he (hx b z), fun b ob q he => u.there b ob q fun z => he (hx b z), u.tups, u.frzs, u.tbls⟩
end
def trk (h : Heap) (H : Hp) : List Addr := (List.range h.objs.size).filter fun a => (H a).isSome
def hidT (h : Heap) (H : Hp) : Heap := PySem.W.hideAll h (trk h H)
theorem ZjB (h : Heap) (H : Hp) : (hidT h H).objs.size = h.objs.size := PySem.W.hideAll_size _ _
theorem ZkV {h : Heap} {H : Hp} {b : Addr} {o : Obj} (e : h.get? b = some o) (n : H b = none) : (hidT h H).get? b = some o :=
 PySem.W.hideAll_get _ e fun hm => by
  have q : (H b).isSome = true := (List.mem_filter.mp hm).2
  rw [n] at q; simp at q
theorem Zmr {h : Heap} {H : Hp} {b : Addr} {o : Obj} (e : (hidT h H).get? b = some o) : h.get? b = some o /\ H b = none := by
 have e' : h.get? b = some o := PySem.W.of_hideAll (trk h H) e
 refine ⟨e', ?_⟩
 cases q : H b with
 | none => rfl
 | some x =>
  have hm : b ∈ trk h H := List.mem_filter.mpr ⟨List.mem_range.mpr (Heap.lt_size e'), by simp [q]⟩
  have z : (hidT h H).get? b = none := PySem.W.hideAll_none (trk h H) hm
  rw [z] at e; cases e
def Zms (g h : Heap) (L : Addr) : List (Addr × Obj) := (List.range h.objs.size).filterMap fun a => if a = L \/ (g.get? a).isSome = true then none else (h.get? a).map fun o => (a, o)
def rest (g h : Heap) (L d : Addr) : List (Addr × Obj) := (Zms g h L).filter fun p => decide (p.1 ≠ d)
end L2
namespace L2
open PySem PySem.Spec PyProof.Rows
structure Mod (K : PySem.W.Frag) (mg : Str -> Option Value) (base : Heap) : Prop where
 kin : K.In base
 glob : base.Ns mainGlobals mg
 blt : ∃ mb, base.Ns builtinsNs mb /\ ∀ x : Str, x ≠ "__name__" -> mb x = bootBuiltins x
 nolimit : base.NoLimit
structure Cx where
 prog : Program
 w : World
 K : PySem.W.Frag
 mg : Str -> Option Value
 base : Heap
 A : Around
 N : List Str
 s₀ : Shared
 H₀ : Hp
 env : Env
 outer : List Env
 stack : List Env
 ex : List Addr
 fn : Str -> Bool
 calm : Bool
 pn : List (Addr × Obj)
 xe : Value -> Shared -> Prop
def frs (l : List Env) : List Addr := l.filterMap (·.frame)
abbrev Cx.fs (X : Cx) : List Addr := frs X.outer
def Vis (sc : Scope) (x : Str) : Prop := sc.names.lookup x = some .local \/ sc.names.lookup x = some .cell \/ sc.names.lookup x = some .free
def Loc (sc : Scope) (x : Str) : Prop := sc.names.lookup x = some .local \/ sc.names.lookup x = some .cell
def Look (env : Env) (h : Heap) (m : Str -> Option Value) (x : Str) (u : Value) : Prop :=
 (env.kindOf x = some .local /\ m x = some u) \/ ((env.kindOf x = some .cell \/ env.kindOf x = some .free) /\ ∃ c, env.cells.lookup x = some c /\ h.IsCell c (some u))
structure Cx.Ok (X : Cx) : Prop where
 mod : Mod X.K X.mg X.base
 kind : X.env.scope.kind = .function
 glob : X.env.globals = mainGlobals
 blt : X.env.builtins = builtinsNs
 above : X.s₀.heap.objs.size <= X.env.locals
 inj : ∀ x y c, X.env.cells.lookup x = some c -> X.env.cells.lookup y = some c -> x = y
 has : ∀ x, (X.env.kindOf x = some .cell \/ X.env.kindOf x = some .free) -> ∃ c, X.env.cells.lookup x = some c
 cab : ∀ x c, X.fn x = true -> X.env.cells.lookup x = some c -> X.s₀.heap.objs.size <= c
 hd : X.calm = true -> X.A.handled = none
 frames : X.A.frames = some X.stack
 stk : X.stack = X.outer \/ (X.stack = X.env :: X.outer /\ X.env.frame = some X.env.locals)
 exf : ∀ b ∈ X.ex, b ≠ X.env.locals /\ ∀ x c, X.env.cells.lookup x = some c -> c ≠ b
 bs : ∀ b o, X.base.get? b = some o -> X.s₀.heap.get? b = some o /\ X.H₀ b = none
 bsz : X.base.objs.size <= X.s₀.heap.objs.size
 noex : ∀ b o, X.base.get? b = some o -> b ∉ X.ex
 exfs : ∀ b ∈ X.ex, b ∉ X.fs
 funs : X.s₀.heap.FunFrames X.base X.outer
 frf : ∀ b ∈ X.fs, X.H₀ b = none
structure Inv (X : Cx) (pins : List (Addr × Obj)) (σ : List (Option V)) (H : Hp) (s : Shared) : Prop where
 ok : X.Ok
 os : s.os = X.s₀.os
 bare : AllBare s.gens
 base : Un X.fs X.ex X.H₀ H X.s₀.heap s.heap
 loc : ∃ m, s.heap.Ns X.env.locals m /\ ∀ (i : Nat) (x : Str) (v : V), X.N[i]? = some x -> σ[i]? = some (some v) -> Vis X.env.scope x -> ∃ u, RelV v u /\ Look X.env s.heap m x u
 cell : ∀ x c, X.env.cells.lookup x = some c -> ∃ v, s.heap.IsCell c v
 free : H X.env.locals = none
 freeC : ∀ x c, X.env.cells.lookup x = some c -> H c = none
 pin : ∀ p ∈ X.pn ++ pins, s.heap.get? p.1 = some p.2 /\ H p.1 = none /\ p.1 ≠ X.env.locals /\ p.1 ∉ X.fs /\ ∀ v, p.2.data ≠ .cell v
 hok : HOk X.prog X.w H s.heap
 len : σ.length = X.N.length
section
variable {X : Cx} {pins : List (Addr × Obj)} {σ : List (Option V)} {H H' : Hp} {s : Shared} {h' : Heap}
theorem Cx.Ok.nofr (ok : X.Ok) {b : Addr} {o : Obj} (e : X.base.get? b = some o) : b ∉ X.fs := fun hb => by
 have := (ok.funs.mem hb).1
 rw [e] at this; cases this
theorem Inv.bs (I : Inv X pins σ H s) : ∀ b o, X.base.get? b = some o -> s.heap.get? b = some o /\ H b = none := fun b o e =>
 ⟨I.base.keep b o (I.ok.bs b o e).1 (I.ok.bs b o e).2 (I.ok.nofr e) (I.ok.noex b o e), I.base.free b o (I.ok.bs b o e).1 (I.ok.bs b o e).2 (I.ok.noex b o e)⟩
theorem Inv.bk (I : Inv X pins σ H s) : ∀ b o, X.base.get? b = some o -> s.heap.get? b = some o := fun b o e => (I.bs b o e).1
theorem Inv.mod (I : Inv X pins σ H s) : Mod X.K X.mg X.base := I.ok.mod
theorem Inv.kIn (I : Inv X pins σ H s) : X.K.In s.heap := I.ok.mod.kin.keeps I.bk
theorem Inv.lt (I : Inv X pins σ H s) : X.env.locals < s.heap.objs.size := let ⟨_, hn, _⟩ := I.loc; hn.lt
theorem Inv.sz (I : Inv X pins σ H s) : X.s₀.heap.objs.size <= s.heap.objs.size := Nat.le_trans I.ok.above (Nat.le_of_lt I.lt)
theorem Inv.nofs (I : Inv X pins σ H s) {a : Addr} (h : s.heap.objs.size <= a) : a ∉ X.fs := fun hb => by
 obtain ⟨_, o, ho, _⟩ := I.ok.funs.mem hb
 exact absurd (Nat.lt_of_lt_of_le (Heap.lt_size ho) (Nat.le_trans I.sz h)) (Nat.lt_irrefl _)
theorem Inv.cne (I : Inv X pins σ H s) : ∀ x c, X.env.cells.lookup x = some c -> c ≠ X.env.locals := fun x c e z => by
 obtain ⟨v, o, ho, hd⟩ := I.cell x c e
 obtain ⟨m, ⟨o', es, ep, ho', hd', _⟩, _⟩ := I.loc
 rw [z, ho'] at ho; cases ho; rw [hd'] at hd; cases hd
theorem Inv.funs (I : Inv X pins σ H s) : s.heap.FunFrames X.base X.outer := by
 have all : ∀ (l : List Env), (∀ b ∈ frs l, b ∈ X.fs) -> X.s₀.heap.FunFrames X.base l -> s.heap.FunFrames X.base l := by
  intro l
  induction l with
  | nil => intro _ _; trivial
  | cons env r ih =>
   intro hs hl
   obtain ⟨hk, ⟨L, o, hf, hn, ho, hd⟩, hr⟩ := hl
   have hL : L ∈ X.fs := hs L (by unfold frs; rw [List.filterMap_cons, hf]; exact List.mem_cons_self)
   obtain ⟨sl, e⟩ := I.base.slot L o ho (I.ok.frf L hL) hL fun z => I.ok.exfs L z hL
   exact ⟨hk, ⟨L, _, hf, hn, e, hd⟩, ih (fun b hb => hs b (by unfold frs; rw [List.filterMap_cons, hf]; exact List.mem_cons_of_mem _ hb)) hr⟩
 exact all X.outer (fun _ hb => hb) I.ok.funs
theorem Inv.stack (I : Inv X pins σ H s) : s.heap.FunFrames X.base X.stack := by
 rcases I.ok.stk with e | ⟨e, hf⟩
 · rw [e]; exact I.funs
 · rw [e]
   obtain ⟨m, hn, _⟩ := I.loc
   refine .cons (by rw [I.ok.kind]; decide) hf hn ?_ I.funs
   exact Heap.get?_none_of_le (Nat.le_trans I.ok.bsz I.ok.above)
theorem Inv.stkSub (I : Inv X pins σ H s) : ∀ b ∈ frs X.stack, b ∈ X.env.locals :: X.fs := fun b hb => by
 rcases I.ok.stk with e | ⟨e, hf⟩
 · rw [e] at hb; exact List.mem_cons_of_mem _ hb
 · rw [e] at hb
   unfold frs at hb
   rw [List.filterMap_cons, hf] at hb
   exact hb
theorem Inv.stkFree (I : Inv X pins σ H s) : ∀ b ∈ frs X.stack, H b = none := fun b hb => by
 rcases List.mem_cons.mp (I.stkSub b hb) with e | hb
 · rw [e]; exact I.free
 · obtain ⟨_, o, ho, _⟩ := I.ok.funs.mem hb
   exact I.base.free b o ho (I.ok.frf b hb) fun z => I.ok.exfs b z hb
theorem Inv.step {g' : Array GenState} {t' : Nat} {d' : Drawn} {ch : List Addr} (I : Inv X pins σ H s)
 (hch : ∀ b ∈ ch, (b ∈ X.ex \/ X.s₀.heap.objs.size <= b) /\ b ≠ X.env.locals /\ (∀ x c, X.env.cells.lookup x = some c -> c ≠ b) /\ ∀ p ∈ X.pn ++ pins, p.1 ≠ b)
 (keep : ∀ b o, b ≠ X.env.locals -> b ∉ X.fs -> b ∉ ch -> s.heap.get? b = some o -> H b = none -> h'.get? b = some o)
 (slot : ∀ b o, b ≠ X.env.locals -> b ∈ X.fs -> b ∉ ch -> s.heap.get? b = some o -> H b = none -> ∃ sl, h'.get? b = some { o with slots := sl }) (free : ∀ b o, b ∉ ch -> s.heap.get? b = some o -> H b = none -> H' b = none)
 (there : ∀ b o, b ∉ ch -> s.heap.get? b = some o -> ∃ o', h'.get? b = some o')
 (tups : ∀ b xs, H b = some (.tup xs) -> H' b = some (.tup xs)) (frzs : ∀ b o u, H b = some (.frz o u) -> H' b = some (.frz o u)) (tbls : ∀ b ps, H b = some (.tbl ps) -> ∃ more, H' b = some (.tbl (ps ++ more)))
 (ns : ∀ m, s.heap.Ns X.env.locals m -> h'.Ns X.env.locals m) (hok : HOk X.prog X.w H' h') (hg : AllBare g') :
 Inv X pins σ H' { s with heap := h', gens := g', drawn := d', toks := t' } := by
 have neL : ∀ b o, X.s₀.heap.get? b = some o -> b ≠ X.env.locals := fun b o e => Nat.ne_of_lt (Nat.lt_of_lt_of_le (Heap.lt_size e) I.ok.above)
 have neC : ∀ b o, X.s₀.heap.get? b = some o -> b ∉ X.ex -> b ∉ ch := fun b o e hx hb => by
  rcases (hch b hb).1 with z | z
  · exact hx z
  · exact absurd (Nat.lt_of_lt_of_le (Heap.lt_size e) z) (Nat.lt_irrefl _)
 have cellK : ∀ x c, X.env.cells.lookup x = some c -> ∀ v, s.heap.IsCell c v -> h'.IsCell c v := fun x c e v ⟨o, ho, hd⟩ => by
  have nch : c ∉ ch := fun z => (hch c z).2.2.1 x c e rfl
  by_cases hc : c ∈ X.fs
  · obtain ⟨sl, q⟩ := slot c o (I.cne x c e) hc nch ho (I.freeC x c e)
    exact ⟨_, q, hd⟩
  · exact ⟨o, keep c o (I.cne x c e) hc nch ho (I.freeC x c e), hd⟩
 refine ⟨I.ok, I.os, hg, ⟨fun b o e n hb hx => ?_, fun b o e n hb hx => ?_, fun b o e n hx => ?_, fun b o e hx => ?_, fun b xs e => tups b xs (I.base.tups b xs e), fun b o xs e => frzs b o xs (I.base.frzs b o xs e), fun b ps e => ?_⟩, ?_, fun x c e => ?_, ?_, fun x c e => ?_, fun p hp => ?_, hok, I.len⟩
 · exact keep b o (neL b o e) hb (neC b o e hx) (I.base.keep b o e n hb hx) (I.base.free b o e n hx)
 · obtain ⟨sl, e1⟩ := I.base.slot b o e n hb hx
   obtain ⟨sl', e2⟩ := slot b _ (neL b o e) hb (neC b o e hx) e1 (I.base.free b o e n hx)
   exact ⟨sl', e2⟩
 · obtain ⟨o', e1⟩ := I.base.there b o e hx
   exact free b o' (neC b o e hx) e1 (I.base.free b o e n hx)
 · obtain ⟨o', e1⟩ := I.base.there b o e hx
   exact there b o' (neC b o e hx) e1
 · obtain ⟨m1, e1⟩ := I.base.tbls b ps e
   obtain ⟨m2, e2⟩ := tbls b _ e1
   exact ⟨m1 ++ m2, by rw [e2, Array.append_assoc]⟩
 · obtain ⟨m, hn, hl⟩ := I.loc
   refine ⟨m, ns m hn, fun i x v e1 e2 e3 => ?_⟩
   obtain ⟨u, r, l⟩ := hl i x v e1 e2 e3
   refine ⟨u, r, ?_⟩
   rcases l with l | ⟨k, c, e, z⟩
   · exact .inl l
   · exact .inr ⟨k, c, e, cellK x c e _ z⟩
 · obtain ⟨v, z⟩ := I.cell x c e
   exact ⟨v, cellK x c e v z⟩
 · obtain ⟨m, ⟨o, _, _, ho, _⟩, _⟩ := I.loc
   exact free _ o (fun z => (hch _ z).2.1 rfl) ho I.free
 · obtain ⟨v, o, ho, hd⟩ := I.cell x c e
   exact free c o (fun z => (hch c z).2.2.1 x c e rfl) ho (I.freeC x c e)
 · obtain ⟨e, n, ne, nf, d⟩ := I.pin p hp
   have nch : p.1 ∉ ch := fun z => (hch p.1 z).2.2.2 p hp rfl
   exact ⟨keep p.1 p.2 ne nf nch e n, free p.1 p.2 nch e n, ne, nf, d⟩
theorem Inv.un {t' : Nat} (I : Inv X pins σ H s) (u : Un X.fs [] H H' s.heap h') (hok : HOk X.prog X.w H' h') : Inv X pins σ H' { s with heap := h', toks := t' } := by
 obtain ⟨m, ⟨o, es, ep, ho, r⟩, _⟩ := id I.loc
 obtain ⟨sl, hL⟩ := u.any ho I.free (by simp)
 exact I.step (g' := s.gens) (d' := s.drawn) (ch := []) (fun _ z => nomatch z) (fun b o _ hb _ e n => u.keep b o e n hb (by simp)) (fun b o _ hb _ e n => u.slot b o e n hb (by simp)) (fun b o _ e n => u.free b o e n (by simp)) (fun b o _ e => u.there b o e (by simp)) u.tups u.frzs u.tbls (fun m' hm => by
  obtain ⟨o', es', ep', ho', r'⟩ := hm
  rw [ho] at ho'; cases ho'
  exact ⟨_, es', ep', hL, r'⟩) hok I.bare
theorem Inv.call {g' : Array GenState} {t' : Nat} {d' : Drawn} {ch : List Addr} (I : Inv X pins σ H s) (u : Un (frs X.stack) ch H H' s.heap h') (hok : HOk X.prog X.w H' h') (hg : AllBare g')
 (hch : ∀ b ∈ ch, (b ∈ X.ex \/ X.s₀.heap.objs.size <= b) /\ b ≠ X.env.locals /\ (∀ x c, X.env.cells.lookup x = some c -> c ≠ b) /\ ∀ p ∈ X.pn ++ pins, p.1 ≠ b) :
 Inv X pins σ H' { s with heap := h', gens := g', drawn := d', toks := t' } := by
 obtain ⟨m, ⟨o, es, ep, ho, r⟩, _⟩ := id I.loc
 obtain ⟨sl, hL⟩ := u.any ho I.free fun z => (hch _ z).2.1 rfl
 exact I.step (ch := ch) hch (fun b o hL hb hc e n => u.keep b o e n (fun z => (List.mem_cons.mp (I.stkSub b z)).elim hL hb) hc) (fun b o _ _ hc e n => u.any e n hc) (fun b o hc e n => u.free b o e n hc) (fun b o hc e => u.there b o e hc) u.tups u.frzs u.tbls (fun m' hm => by
  obtain ⟨o', es', ep', ho', r'⟩ := hm
  rw [ho] at ho'; cases ho'
  exact ⟨_, es', ep', hL, r'⟩) hok hg
theorem Inv.turned {t' : Nat} {it : Addr} (I : Inv X pins σ H s) (k : ∀ b o, b ≠ it -> s.heap.get? b = some o -> h'.get? b = some o) (hn : H it = none) (hL : it ≠ X.env.locals)
 (h1 : it ∈ X.ex \/ X.s₀.heap.objs.size <= it) (h2 : ∀ x c, X.env.cells.lookup x = some c -> c ≠ it) (h3 : ∀ p ∈ X.pn ++ pins, p.1 ≠ it) : Inv X pins σ H { s with heap := h', toks := t' } := by
 have nit : ∀ b u, H b = some u -> b ≠ it := fun b u e z => by rw [z, hn] at e; cases e
 refine I.step (g' := s.gens) (d' := s.drawn) (ch := [it]) (fun b hb => ?_) (fun b o _ _ hc e _ => k b o (fun z => hc (by simp [z])) e) (fun b o _ _ hc e _ => ⟨o.slots, k b o (fun z => hc (by simp [z])) e⟩) (fun _ _ _ _ n => n)
  (fun b o hc e => ⟨o, k b o (fun z => hc (by simp [z])) e⟩) (fun _ _ e => e) (fun _ _ _ e => e) (fun b ps e => ⟨#[], by rw [e]; simp⟩) (fun m hm => ?_) (fun b u e => ?_) I.bare
 · have e : b = it := by simpa using hb
   subst e
   exact ⟨h1, hL, h2, h3⟩
 · obtain ⟨o, es, ep, ho, r⟩ := hm
   exact ⟨o, es, ep, k _ o (Ne.symm hL) ho, r⟩
 · refine (I.hok b u e).stay (fun c v hc q => k c v ?_ q) (fun _ q => q) fun _ _ q => q
   rcases hc with z | z
   · rw [z]; exact nit b u e
   · exact nit c _ z
theorem Inv.tok (I : Inv X pins σ H s) (t : Nat) : Inv X pins σ H { s with toks := t } := I.un (h' := s.heap) (t' := t) Un.refl I.hok
theorem Inv.kept {t' : Nat} (I : Inv X pins σ H s) (k : ∀ b u, s.heap.get? b = some u -> h'.get? b = some u) : Inv X pins σ H { s with heap := h', toks := t' } := I.un (Un.kept k) (I.hok.kept k)
theorem Inv.laid {a : Addr} {o : HO} {t' : Nat} (I : Inv X pins σ H s) (k : ∀ b u, s.heap.get? b = some u -> h'.get? b = some u) (hp : s.heap.objs.size <= a) (new : ObjOk X.prog X.w (upd H a o) h' a o) :
 Inv X pins σ (upd H a o) { s with heap := h', toks := t' } := I.un (Un.laid k hp (I.hok.fresh hp)) (I.hok.laid k hp new)
theorem Inv.write {x e : Addr} {o : HO} {t' : Nat} (I : Inv X pins σ H s) (mu : Mut (H x)) (he : e = x \/ H e = some (.own x)) (k : ∀ b u, b ≠ e -> s.heap.get? b = some u -> h'.get? b = some u) (heo : ∃ u, h'.get? e = some u)
 (new : ObjOk X.prog X.w (upd H x o) h' x o) : Inv X pins σ (upd H x o) { s with heap := h', toks := t' } := I.un (Un.write mu he k heo) (I.hok.write mu he k heo new)
theorem Inv.pins_of {pins' : List (Addr × Obj)} (I : Inv X pins σ H s) (h : ∀ p ∈ pins', s.heap.get? p.1 = some p.2 /\ H p.1 = none /\ p.1 ≠ X.env.locals /\ p.1 ∉ X.fs /\ ∀ v, p.2.data ≠ .cell v) : Inv X pins' σ H s :=
 ⟨I.ok, I.os, I.bare, I.base, I.loc, I.cell, I.free, I.freeC, fun p hp => (List.mem_append.mp hp).elim (fun z => I.pin p (List.mem_append_left _ z)) (h p), I.hok, I.len⟩
theorem ZgL {N : List Str} (hN : N.Nodup) {i j : Nat} {x : Str} (a : N[i]? = some x) (b : N[j]? = some x) : i = j := by
 obtain ⟨h1, e1⟩ := List.getElem?_eq_some_iff.mp a
 obtain ⟨h2, e2⟩ := List.getElem?_eq_some_iff.mp b
 exact (List.getElem_inj hN).mp (e1.trans e2.symm)
theorem Zhg {M : Model} {A : Around} {E : Value -> Shared -> Prop} {i : Nat} {x : Str} {v : V} {u : Value} {Q : Unit -> Shared -> Prop} (I : Inv X pins σ H s) (hN : X.N.Nodup) (hi : X.N[i]? = some x) (hx : Loc X.env.scope x) (r : RelV v u)
 (h : ∀ s', Inv X pins (σ.set i (some v)) H s' -> (∃ a, Heap.SameBut a s.heap s'.heap /\ (a = X.env.locals \/ X.env.cells.lookup x = some a)) -> Q () s') (hf : X.fn x = true \/ X.env.scope.names.lookup x = some .local := by first | exact .inl rfl | exact .inr rfl | assumption) : wpAny M A (storeName X.env x u) Q E s := by
 obtain ⟨m, hn, hl⟩ := id I.loc
 have hcls : (X.env.scope.kind == .class || (X.env.scope.kind == .module && X.env.locals != X.env.globals)) = false := by rw [I.ok.kind]; rfl
 have hiσ : i < σ.length := by rw [I.len]; exact (List.getElem?_eq_some_iff.mp hi).1
 have cne := I.cne
 have tracked : ∀ {a : Addr} {h' : Heap}, (∃ o, s.heap.get? a = some o /\ H a = none) -> Heap.SameBut a s.heap h' -> HOk X.prog X.w H h' := fun {a h'} ha hs b ob e => by
  obtain ⟨_, _, hfree⟩ := ha
  refine (I.hok b ob e).stay (fun c w' hc q => (hs.2 c ?_).trans q) (fun _ q => q) fun _ _ q => q
  rintro rfl
  rcases hc with rfl | hc
  · rw [hfree] at e; cases e
  · rw [hfree] at hc; cases hc
 rcases hx with hk | hk
 · refine wpAny_storeName_local hk hn (fun h' hn' hs => ?_) hcls
   obtain ⟨oL, _, _, hoL, _⟩ := id hn
   refine h _ ⟨I.ok, I.os, I.bare, ⟨fun b o e n hb hx => ?_, fun b o e n hb hx => ?_, I.base.free, fun b o e hx => ?_, I.base.tups, I.base.frzs, I.base.tbls⟩, ⟨_, hn', fun j y v' e1 e2 e3 => ?_⟩, fun y c e => ?_, I.free, I.freeC, fun p hp => ?_, tracked ⟨oL, hoL, I.free⟩ hs, by simpa using I.len⟩ ⟨_, hs, .inl rfl⟩
   · exact (hs.2 b (Nat.ne_of_lt (Nat.lt_of_lt_of_le (Heap.lt_size e) I.ok.above))).trans (I.base.keep b o e n hb hx)
   · obtain ⟨sl, e1⟩ := I.base.slot b o e n hb hx
     exact ⟨sl, (hs.2 b (Nat.ne_of_lt (Nat.lt_of_lt_of_le (Heap.lt_size e) I.ok.above))).trans e1⟩
   · obtain ⟨o', e1⟩ := I.base.there b o e hx
     exact ⟨o', (hs.2 b (Nat.ne_of_lt (Nat.lt_of_lt_of_le (Heap.lt_size e) I.ok.above))).trans e1⟩
   · by_cases hj : j = i
     · subst hj
       rw [hi] at e1; cases e1
       rw [List.getElem?_set_self hiσ] at e2
       cases e2
       exact ⟨u, r, .inl ⟨hk, by simp⟩⟩
     · rw [List.getElem?_set_ne (Ne.symm hj)] at e2
       obtain ⟨u', r', q⟩ := hl j y v' e1 e2 e3
       refine ⟨u', r', ?_⟩
       rcases q with ⟨k, e⟩ | ⟨k, c, e, z⟩
       · refine .inl ⟨k, ?_⟩
         have : y ≠ x := fun e => hj (ZgL hN e1 (e ▸ hi))
         simp [this, e]
       · exact .inr ⟨k, c, e, z.sameBut hs (cne y c e)⟩
   · obtain ⟨w', z⟩ := I.cell y c e
     exact ⟨w', z.sameBut hs (cne y c e)⟩
   · obtain ⟨e, n, ne, nf, d⟩ := I.pin p hp
     exact ⟨(hs.2 p.1 ne).trans e, n, ne, nf, d⟩
 · have hfn : X.fn x = true := by
    rcases hf with z | z
    · exact z
    · rw [z] at hk; cases hk
   obtain ⟨c, hc⟩ := I.ok.has x (.inl hk)
   obtain ⟨w', z⟩ := I.cell x c hc
   refine wpAny_storeName_cell I.ok.kind hk hc z (fun h' hc' hs => ?_)
   obtain ⟨oc, hoc, hocd⟩ := id z
   refine h { s with heap := h' } ⟨I.ok, I.os, I.bare, ⟨fun b o e n hb hx => ?_, fun b o e n hb hx => ?_, I.base.free, fun b o e hx => ?_, I.base.tups, I.base.frzs, I.base.tbls⟩, ⟨m, hn.sameBut hs (Ne.symm (cne x c hc)), fun j y v' e1 e2 e3 => ?_⟩, fun y c' e => ?_, I.free, I.freeC, fun p hp => ?_, tracked ⟨oc, hoc, I.freeC x c hc⟩ hs, by simpa using I.len⟩ ⟨c, hs, .inr hc⟩
   · exact (hs.2 b (Nat.ne_of_lt (Nat.lt_of_lt_of_le (Heap.lt_size e) (I.ok.cab x c hfn hc)))).trans (I.base.keep b o e n hb hx)
   · obtain ⟨sl, e1⟩ := I.base.slot b o e n hb hx
     exact ⟨sl, (hs.2 b (Nat.ne_of_lt (Nat.lt_of_lt_of_le (Heap.lt_size e) (I.ok.cab x c hfn hc)))).trans e1⟩
   · obtain ⟨o', e1⟩ := I.base.there b o e hx
     exact ⟨o', (hs.2 b (Nat.ne_of_lt (Nat.lt_of_lt_of_le (Heap.lt_size e) (I.ok.cab x c hfn hc)))).trans e1⟩
   · by_cases hj : j = i
     · subst hj
       rw [hi] at e1; cases e1
       rw [List.getElem?_set_self hiσ] at e2
       cases e2
       exact ⟨u, r, .inr ⟨.inl hk, c, hc, hc'⟩⟩
     · rw [List.getElem?_set_ne (Ne.symm hj)] at e2
       obtain ⟨u', r', q⟩ := hl j y v' e1 e2 e3
       refine ⟨u', r', ?_⟩
       rcases q with q | ⟨k, c', e, z'⟩
       · exact .inl q
       · refine .inr ⟨k, c', e, z'.sameBut hs ?_⟩
         rintro rfl
         exact hj (ZgL hN e1 (I.ok.inj _ _ _ e hc ▸ hi))
   · by_cases hcc : c' = c
     · subst hcc; exact ⟨_, hc'⟩
     · obtain ⟨w2, z2⟩ := I.cell y c' e
       exact ⟨w2, z2.sameBut hs hcc⟩
   · obtain ⟨e, n, ne, nf, d⟩ := I.pin p hp
     refine ⟨(hs.2 p.1 ?_).trans e, n, ne, nf, d⟩
     intro q
     rw [q, hoc] at e
     have q' : oc = p.2 := Option.some.inj e
     exact d w' (by rw [<- q']; exact hocd)
theorem ZgM {M : Model} {A : Around} {E : Value -> Shared -> Prop} {i : Nat} {x : Str} {v : V} {u : Value} {Q : Unit -> Shared -> Prop} (I : Inv X pins σ H s) (hN : X.N.Nodup) (hi : X.N[i]? = some x) (hx : Loc X.env.scope x) (r : RelV v u)
 (h : ∀ s', Inv X pins (σ.set i (some v)) H s' -> Q () s') (hf : X.fn x = true \/ X.env.scope.names.lookup x = some .local := by first | exact .inl rfl | exact .inr rfl | assumption) : wpAny M A (storeName X.env x u) Q E s :=
 Zhg I hN hi hx r (fun s' I' _ => h s' I') hf
theorem Inv.call' {s' : Shared} {ch : List Addr} (I : Inv X pins σ H s) (ho : s'.os = s.os) (u : Un (frs X.stack) ch H H' s.heap s'.heap) (hok : HOk X.prog X.w H' s'.heap) (hg : AllBare s'.gens)
 (hch : ∀ b ∈ ch, (b ∈ X.ex \/ X.s₀.heap.objs.size <= b) /\ b ≠ X.env.locals /\ (∀ x c, X.env.cells.lookup x = some c -> c ≠ b) /\ ∀ p ∈ X.pn ++ pins, p.1 ≠ b) : Inv X pins σ H' s' := by
 obtain ⟨h', g', d', t', o'⟩ := s'
 have e : o' = s.os := ho
 subst e
 exact I.call (g' := g') (t' := t') (d' := d') u hok hg hch
end
abbrev XK := Value -> Option Addr -> Hp -> Prop
abbrev St := List (Option V)
abbrev VK := V -> Hp -> Prop
abbrev TE := St -> Hp -> VK -> Prop
abbrev TT := St -> Hp -> (Bool -> Hp -> Prop) -> Prop
abbrev TA := St -> Hp -> (List V -> Hp -> Prop) -> Prop
structure Ends where
 nx : St -> Hp -> Prop
 rt : VK
 bk : St -> Hp -> Prop := fun _ _ => False
 ct : St -> Hp -> Prop := fun _ _ => False
abbrev TS := Ends -> St -> Hp -> Prop
def EP (X : Cx) (pins : List (Addr × Obj)) (σ : St) (Q : VK) (u : Value) (s' : Shared) : Prop := ∃ v H', Inv X pins σ H' s' /\ RelV v u /\ Q v H'
def TP (X : Cx) (pins : List (Addr × Obj)) (σ : St) (Q : Bool -> Hp -> Prop) (b : Bool) (s' : Shared) : Prop := ∃ H', Inv X pins σ H' s' /\ Q b H'
def AP (X : Cx) (pins : List (Addr × Obj)) (σ : St) (Q : List V -> Hp -> Prop) (us : List Value) (s' : Shared) : Prop := ∃ vs H', Inv X pins σ H' s' /\ Vals vs us /\ Q vs H'
def SP (X : Cx) (pins : List (Addr × Obj)) (D : Ends) (f : Flow) (s' : Shared) : Prop :=
 match f with
 | .next => ∃ σ' H', Inv X pins σ' H' s' /\ D.nx σ' H'
 | .brk => ∃ σ' H', Inv X pins σ' H' s' /\ D.bk σ' H'
 | .cont => ∃ σ' H', Inv X pins σ' H' s' /\ D.ct σ' H'
 | .ret u => ∃ v σ' H', Inv X pins σ' H' s' /\ RelV v u /\ D.rt v H'
def PE (X : Cx) (e : Expr) (t : TE) : Prop :=
 ∀ (pins : List (Addr × Obj)) (s : Shared) (σ : St) (H : Hp) (Q : VK), Inv X pins σ H s -> t σ H Q -> wpAny (model X.prog X.w) X.A (eval e X.env) (EP X pins σ Q) X.xe s
def PT (X : Cx) (e : Expr) (t : TT) : Prop :=
 ∀ (pins : List (Addr × Obj)) (s : Shared) (σ : St) (H : Hp) (Q : Bool -> Hp -> Prop), Inv X pins σ H s -> t σ H Q -> wpAny (model X.prog X.w) X.A (isTrue e X.env (eval e X.env)) (TP X pins σ Q) X.xe s
def PW (X : Cx) (e : Expr) (t : TT) : Prop :=
 ∀ (whole : Sem Value) (pins : List (Addr × Obj)) (s : Shared) (σ : St) (H : Hp) (Q : Bool -> Hp -> Prop), Inv X pins σ H s -> t σ H Q -> wpAny (model X.prog X.w) X.A (isTrue e X.env whole) (TP X pins σ Q) X.xe s
theorem PW.pt {X : Cx} {e : Expr} {t : TT} (h : PW X e t) : PT X e t := h _
def PA (X : Cx) (es : List Expr) (t : TA) : Prop :=
 ∀ (pos : Pos) (pins : List (Addr × Obj)) (s : Shared) (σ : St) (H : Hp) (Q : List V -> Hp -> Prop), Inv X pins σ H s -> t σ H Q -> wpAny (model X.prog X.w) X.A (spliced (backTo pos (starEach es X.env))) (AP X pins σ Q) X.xe s
def PS (X : Cx) (st : Stmt) (t : TS) : Prop :=
 ∀ (pins : List (Addr × Obj)) (s : Shared) (σ : St) (H : Hp) (D : Ends), Inv X pins σ H s -> t D σ H -> wpAny (model X.prog X.w) X.A (exec st X.env) (SP X pins D) X.xe s
def PSs (X : Cx) (st : List Stmt) (t : TS) : Prop :=
 ∀ (pins : List (Addr × Obj)) (s : Shared) (σ : St) (H : Hp) (D : Ends), Inv X pins σ H s -> t D σ H -> wpAny (model X.prog X.w) X.A (execs st X.env) (SP X pins D) X.xe s
theorem thn {α : Type} {t : Sem α} {Q Q' : α -> Shared -> Prop} {M : Model} {A : Around} {E : Value -> Shared -> Prop} {s : Shared} (h : wpAny M A t Q E s) (hQ : ∀ a s, Q a s -> Q' a s) : wpAny M A t Q' E s := wpAny_mono h hQ fun _ _ x => x
end L2
namespace L2
open PySem PySem.Spec PyProof.Rows
section
variable {X : Cx}
def tVar (i : Nat) : TE := fun σ H Q => ∃ v, σ[i]? = some (some v) /\ Q v H
def tC (v : V) : TE := fun _ H Q => Q v H
theorem ZnO {i : Nat} {x : Str} {pos : Pos} (hN : X.N[i]? = some x) (hv : Vis X.env.scope x) (hd : (x == ("__debug__" : Str)) = false := by decide) (hcd : (x == ("__classdict__" : Str)) = false := by decide) : PE X (.Name x pos) (tVar i) := by
 intro pins s σ H Q I h
 obtain ⟨v, e, h⟩ := h
 obtain ⟨m, hn, hl⟩ := I.loc
 obtain ⟨u, r, l⟩ := hl i x v hN e hv
 have fin : EP X pins σ Q u s := ⟨v, H, I, r, h⟩
 rcases l with ⟨hk, hm⟩ | ⟨hk, c, hc, hcell⟩
 · exact wpAny_Name (wpAny_loadName_local I.ok.kind hk hn hm fin) hd
 · rcases hk with hk | hk
   · exact wpAny_Name (wpAny_loadName_cell I.ok.kind hk hc hcell fin) hd
   · exact wpAny_Name (wpAny_loadName_free I.ok.kind hk hc hcell fin hcd) hd
theorem Zam {i j pos} : PE X (.Constant (.int i) j pos) (tC (.int i)) := fun _ _ _ H _ I h => wpAny_Constant_int ⟨.int i, H, I.tok _, ⟨_, rfl⟩, h⟩
theorem Zc7 {b j pos} : PE X (.Constant (.bool b) j pos) (tC (.bl b)) := fun _ _ _ H _ I h => Constant_bool ⟨.bl b, H, I, rfl, h⟩
theorem Ziv {j pos} : PE X (.Constant .none j pos) (tC .non) := fun _ _ _ H _ I h => Constant_none ⟨.non, H, I, rfl, h⟩
theorem Za1 {x j pos} : PE X (.Constant (.str x) j pos) (tC (.str x)) := fun _ _ _ H _ I h => Calls.Constant_str ⟨.str x, H, I.tok _, ⟨_, rfl⟩, h⟩
def Gl (X : Cx) (x : Str) : Prop := X.env.kindOf x = some .globalImplicit
theorem Zd4 {E : Value -> Shared -> Prop} {pins : List (Addr × Obj)} {s : Shared} {σ : St} {H : Hp} {x : Str} {u : Value} {pos : Pos} {Q : Value -> Shared -> Prop} (I : Inv X pins σ H s) (hg : Gl X x) (hm : X.mg x = some u) (h : Q u s)
 (hd : (x == ("__debug__" : Str)) = false := by decide) : wpAny (model X.prog X.w) X.A (eval (.Name x pos) X.env) Q E s :=
 Calls.Name_function_global I.ok.kind hg (Calls.loadGlobal_global (by rw [I.ok.glob]; exact I.mod.glob.keeps I.bk) hm h) hd
theorem Zhh {E : Value -> Shared -> Prop} {pins : List (Addr × Obj)} {s : Shared} {σ : St} {H : Hp} {x : Str} {u : Value} {pos : Pos} {Q : Value -> Shared -> Prop} (I : Inv X pins σ H s) (hg : Gl X x) (hm : X.mg x = none) (hv : bootBuiltins x = some u) (h : Q u s)
 (hn : x ≠ "__name__" := by decide) (hd : (x == ("__debug__" : Str)) = false := by decide) : wpAny (model X.prog X.w) X.A (eval (.Name x pos) X.env) Q E s := by
 obtain ⟨mb, h1, h2⟩ := I.mod.blt
 exact Calls.Name_function_global I.ok.kind hg (Calls.loadGlobal_builtin (by rw [I.ok.glob]; exact I.mod.glob.keeps I.bk) hm (by rw [I.ok.blt]; exact h1.keeps I.bk) ((h2 x hn).trans hv) h) hd
theorem ZjC {x : Str} {v : V} {u : Value} {pos : Pos} (hg : Gl X x) (hm : X.mg x = some u) (r : RelV v u) (hd : (x == ("__debug__" : Str)) = false := by decide) : PE X (.Name x pos) (tC v) :=
 fun _ _ _ H _ I h => Zd4 I hg hm ⟨v, H, I, r, h⟩ hd
theorem Zcx {x : Str} {v : V} {u : Value} {pos : Pos} (hg : Gl X x) (hm : X.mg x = none) (hv : bootBuiltins x = some u) (r : RelV v u) (hn : x ≠ "__name__" := by decide) (hd : (x == ("__debug__" : Str)) = false := by decide) : PE X (.Name x pos) (tC v) :=
 fun _ _ _ H _ I h => Zhh I hg hm hv ⟨v, H, I, r, h⟩ hn hd
def t2I (ta tb : TE) (k : Int -> Int -> Hp -> Prop) : St -> Hp -> Prop := fun σ H => ta σ H fun x H1 => tb σ H1 fun y H2 => ∃ i j, x = .int i /\ y = .int j /\ k i j H2
variable {a b : Expr} {ta tb : TE} {pos : Pos}
def tCmp (p : Int -> Int -> Bool) (ta tb : TE) : TE := fun σ H Q => t2I ta tb (fun i j H2 => Q (.bl (p i j)) H2) σ H
abbrev tLt : TE -> TE -> TE := tCmp fun i j => decide (i < j)
abbrev tLe : TE -> TE -> TE := tCmp fun i j => decide (i <= j)
abbrev tGt : TE -> TE -> TE := tCmp fun i j => decide (j < i)
abbrev tGe : TE -> TE -> TE := tCmp fun i j => decide (j <= i)
abbrev tEqI : TE -> TE -> TE := tCmp fun i j => decide (i = j)
abbrev tNeI : TE -> TE -> TE := tCmp fun i j => !decide (i = j)
def tB (t : TE) : TT := fun σ H Q => t σ H fun x H1 => ∃ c, x = .bl c /\ Q c H1
theorem Zbr {e : Expr} {t : TE} (h : PE X e t) (he : ∀ whole, isTrue e X.env whole = (do let v <- whole; standAt e.pos; holding [v] (truthy v)) := by intro _; rfl) : PT X e (tB t) := by
 intro pins s σ H Q I hw
 refine isTrue_plain (thn (h pins s σ H _ I hw) fun v s1 ⟨x, H1, I1, r1, q1⟩ => ?_) (he _)
 obtain ⟨d, rfl, q⟩ := q1
 cases r1
 exact wpAny_truthy_bool ⟨H1, I1, q⟩
variable {tA tB' : TT} {rest : List Expr}
def tAnd (t u : TT) : TT := fun σ H Q => t σ H fun c H1 => if c = true then u σ H1 Q else Q false H1
def tOr (t u : TT) : TT := fun σ H Q => t σ H fun c H1 => if c = true then Q true H1 else u σ H1 Q
def tNot (t : TT) : TT := fun σ H Q => t σ H fun c H1 => Q (!c) H1
theorem ZgN (ha : PT X a tA) : PW X (.BoolOp .And [a] pos) tA := by
 intro wh pins s σ H Q I h
 refine isTrue_and (thn (ha pins s σ H Q I h) fun c s1 e => ?_)
 cases c with
 | true => exact isTrue_and_nil e
 | false => exact e
theorem Zhi (ha : PT X a tA) : PW X (.BoolOp .Or [a] pos) tA := by
 intro wh pins s σ H Q I h
 refine isTrue_or (thn (ha pins s σ H Q I h) fun c s1 e => ?_)
 cases c with
 | false => exact isTrue_or_nil e
 | true => exact e
theorem Ziw (ha : PT X a tA) (hb : PW X (.BoolOp .And (b :: rest) pos) tB') : PW X (.BoolOp .And (a :: b :: rest) pos) (tAnd tA tB') := by
 intro wh pins s σ H Q I h
 refine isTrue_and (thn (ha pins s σ H _ I h) fun c s1 ⟨H1, I1, q1⟩ => ?_)
 cases c with
 | true => exact hb wh pins s1 σ H1 Q I1 q1
 | false => exact ⟨H1, I1, q1⟩
theorem ZjD (ha : PT X a tA) (hb : PW X (.BoolOp .Or (b :: rest) pos) tB') : PW X (.BoolOp .Or (a :: b :: rest) pos) (tOr tA tB') := by
 intro wh pins s σ H Q I h
 refine isTrue_or (thn (ha pins s σ H _ I h) fun c s1 ⟨H1, I1, q1⟩ => ?_)
 cases c with
 | true => exact ⟨H1, I1, q1⟩
 | false => exact hb wh pins s1 σ H1 Q I1 q1
theorem ZbV (ha : PT X a tA) : PT X (.UnaryOp .Not a pos) (tNot tA) := by
 intro pins s σ H Q I h
 exact isTrue_not (ha pins s σ H (fun c H1 => Q (!c) H1) I h)
def ZnP (ta tb : TE) : TE := fun σ H Q => ta σ H fun x H1 => ∃ c, x = .bl c /\ if c = true then tb σ H1 Q else Q (.bl false) H1
def tOrV (ta tb : TE) : TE := fun σ H Q => ta σ H fun x H1 => ∃ c, x = .bl c /\ if c = true then Q (.bl true) H1 else tb σ H1 Q
theorem ZjE {op} {t : TE} (h : PE X a t) : PE X (.BoolOp op [a] pos) t := fun pins s σ H Q I hw => BoolOp_one (h pins s σ H Q I hw)
theorem ZlR (ha : PE X a ta) (hb : PE X (.BoolOp .And (b :: rest) pos) tb) : PE X (.BoolOp .And (a :: b :: rest) pos) (ZnP ta tb) := by
 intro pins s σ H Q I h
 refine BoolOp_and (thn (ha pins s σ H _ I h) fun v s1 ⟨x, H1, I1, r1, q1⟩ => ?_)
 obtain ⟨c, rfl, q1⟩ := q1
 cases r1
 refine wpAny_truthy_bool ?_
 cases c with
 | true => exact hb pins s1 σ H1 Q I1 q1
 | false => exact ⟨.bl false, H1, I1, rfl, q1⟩
theorem Zpe (ha : PE X a ta) (hb : PE X (.BoolOp .Or (b :: rest) pos) tb) : PE X (.BoolOp .Or (a :: b :: rest) pos) (tOrV ta tb) := by
 intro pins s σ H Q I h
 refine BoolOp_or (thn (ha pins s σ H _ I h) fun v s1 ⟨x, H1, I1, r1, q1⟩ => ?_)
 obtain ⟨c, rfl, q1⟩ := q1
 cases r1
 refine wpAny_truthy_bool ?_
 cases c with
 | false => exact hb pins s1 σ H1 Q I1 q1
 | true => exact ⟨.bl true, H1, I1, rfl, q1⟩
end
end L2
namespace L2
open PySem PySem.Spec PyProof.Rows
def SqL (K : PySem.W.Frag) (H : Hp) (a : Addr) (xs : List V) : Prop :=
 Rd H a (.lst xs) \/
  ∃ (o : Obj) (its : Array Value) (n : Nat), K.lookup a = some o /\ o.cls = .type "list" /\ o.dict = none /\ o.data = .seq its n /\ its.size <= sizeLine /\ Vals xs its.toList
def SqT (K : PySem.W.Frag) (H : Hp) (a : Addr) (xs : List V) : Prop :=
 Rd H a (.tup xs) \/
  ∃ (o : Obj) (its : Array Value) (n : Nat), K.lookup a = some o /\ o.cls = .type "tuple" /\ o.data = .seq its n /\ its.size <= sizeLine /\ Vals xs its.toList
def absV : Value -> Option V
 | .none => some .non
 | .bool b => some (.bl b)
 | .int i _ => some (.int i)
 | .str x _ => some (.str x)
 | .bytes b _ => some (.byt b)
 | .float b _ => some (.flt b)
 | .ref a => some (.ref a)
 | .type n => some (.ty n)
 | _ => none
theorem RelV.abs {x : V} {u : Value} (r : RelV x u) : absV u = some x := by
 cases x with
 | non => cases r; rfl
 | bl _ => cases r; rfl
 | int _ => obtain ⟨t, rfl⟩ := r; rfl
 | str _ => obtain ⟨t, rfl⟩ := r; rfl
 | byt _ => obtain ⟨t, rfl⟩ := r; rfl
 | flt _ => obtain ⟨t, rfl⟩ := r; rfl
 | ref _ => cases r; rfl
 | ty _ => cases r; rfl
theorem RelV.inj {x y : V} {u : Value} (r : RelV x u) (q : RelV y u) : x = y := Option.some.inj (r.abs.symm.trans q.abs)
theorem Vals.inj : ∀ {xs ys : List V} {us : List Value}, Vals xs us -> Vals ys us -> xs = ys
 | _, _, _, .nil, .nil => rfl
 | _, _, _, .cons r t, .cons r' t' => by rw [r.inj r', Vals.inj t t']
section
variable {X : Cx} {pins : List (Addr × Obj)} {σ : St} {H : Hp} {s : Shared} {a : Addr} {xs ys : List V}
theorem SqL.of {K : PySem.W.Frag} (h : H a = some (.lst xs)) : SqL K H a xs := .inl (.inl h)
theorem SqT.of {K : PySem.W.Frag} (h : H a = some (.tup xs)) : SqT K H a xs := .inl (.inl h)
theorem Inv.list (I : Inv X pins σ H s) (h : SqL X.K H a xs) : ∃ its : List Value, Vals xs its /\ PlainL s.heap a its.toArray /\ xs.length <= sizeLine := by
 rcases h with h | ⟨o, its, n, hk, hc, hd, hs, hz, r⟩
 · obtain ⟨z, its, n, r, e⟩ := h.ok I.hok
   exact ⟨its, r, ⟨_, n, e, rfl, rfl, rfl⟩, z⟩
 · refine ⟨its.toList, r, ⟨o, n, I.kIn a o hk, hc, hd, by simpa using hs⟩, ?_⟩
   have e := r.length
   simp only [Array.length_toList] at e
   omega
theorem Inv.tuple (I : Inv X pins σ H s) (h : SqT X.K H a xs) : ∃ its : List Value, Vals xs its /\ IsTup s.heap a its.toArray /\ xs.length <= sizeLine := by
 rcases h with h | ⟨o, its, n, hk, hc, hs, hz, r⟩
 · obtain ⟨z, its, r, p⟩ := h.ok I.hok
   exact ⟨its, r, p, z⟩
 · refine ⟨its.toList, r, ⟨o, I.kIn a o hk, hc, n, by simpa using hs⟩, ?_⟩
   have e := r.length
   simp only [Array.length_toList] at e
   omega
theorem Inv.list_inj (I : Inv X pins σ H s) (h : SqL X.K H a xs) (h' : SqL X.K H a ys) : xs = ys := by
 obtain ⟨its, r, ⟨o, n, e, _, _, d⟩, _⟩ := I.list h
 obtain ⟨its', r', ⟨o', n', e', _, _, d'⟩, _⟩ := I.list h'
 rw [e] at e'; cases e'
 rw [d] at d'
 injection d' with d1 _
 have : its = its' := by simpa using congrArg Array.toList d1
 subst this
 exact r.inj r'
end
abbrev Cx.wish (X : Cx) (E : Value -> Shared -> Prop) : Cx := { X with xe := E }
abbrev Cx.nox (X : Cx) : Cx := X.wish fun _ _ => False
theorem Cx.Ok.wish {X : Cx} (ok : X.Ok) (E : Value -> Shared -> Prop) : (X.wish E).Ok :=
 ⟨ok.mod, ok.kind, ok.glob, ok.blt, ok.above, ok.inj, ok.has, ok.cab, ok.hd, ok.frames, ok.stk, ok.exf, ok.bs, ok.bsz, ok.noex, ok.exfs, ok.funs, ok.frf⟩
theorem Cx.Ok.unwish {X : Cx} {E : Value -> Shared -> Prop} (ok : (X.wish E).Ok) : X.Ok :=
 ⟨ok.mod, ok.kind, ok.glob, ok.blt, ok.above, ok.inj, ok.has, ok.cab, ok.hd, ok.frames, ok.stk, ok.exf, ok.bs, ok.bsz, ok.noex, ok.exfs, ok.funs, ok.frf⟩
section
variable {X : Cx} {pins : List (Addr × Obj)} {σ : St} {H : Hp} {s : Shared} {E : Value -> Shared -> Prop}
theorem Inv.wish (I : Inv X pins σ H s) (E : Value -> Shared -> Prop) : Inv (X.wish E) pins σ H s := ⟨I.ok.wish E, I.os, I.bare, I.base, I.loc, I.cell, I.free, I.freeC, I.pin, I.hok, I.len⟩
theorem Inv.unwish (I : Inv (X.wish E) pins σ H s) : Inv X pins σ H s := ⟨I.ok.unwish, I.os, I.bare, I.base, I.loc, I.cell, I.free, I.freeC, I.pin, I.hok, I.len⟩
theorem SP.unwish {D : Ends} {f : Flow} {s' : Shared} (h : SP (X.wish E) pins D f s') : SP X pins D f s' := by
 cases f with
 | next => obtain ⟨σ', H', I, q⟩ := h; exact ⟨σ', H', I.unwish, q⟩
 | brk => obtain ⟨σ', H', I, q⟩ := h; exact ⟨σ', H', I.unwish, q⟩
 | cont => obtain ⟨σ', H', I, q⟩ := h; exact ⟨σ', H', I.unwish, q⟩
 | ret u => obtain ⟨v, σ', H', I, r, q⟩ := h; exact ⟨v, σ', H', I.unwish, r, q⟩
theorem PE.nox {e : Expr} {t : TE} (h : PE X.nox e t) : PE X e t := fun pins s σ H Q I hw =>
 wpAny_mono (h pins s σ H Q (I.wish _) hw) (fun _ _ ⟨v, H', I', r, q⟩ => ⟨v, H', I'.unwish, r, q⟩) fun _ _ z => False.elim z
theorem PT.nox {e : Expr} {t : TT} (h : PT X.nox e t) : PT X e t := fun pins s σ H Q I hw =>
 wpAny_mono (h pins s σ H Q (I.wish _) hw) (fun _ _ ⟨H', I', q⟩ => ⟨H', I'.unwish, q⟩) fun _ _ z => False.elim z
theorem PSs.nox {st : List Stmt} {t : TS} (h : PSs X.nox st t) : PSs X st t := fun pins s σ H D I hw =>
 wpAny_mono (h pins s σ H D (I.wish _) hw) (fun _ _ q => q.unwish) fun _ _ z => False.elim z
end
section
variable {X : Cx} {st : Stmt} {rest : List Stmt} {t u : TS} {e : Expr} {te : TE} {pos : Pos}
def ZnQ : TS := fun D σ H => D.nx σ H
def tSeq (t u : TS) : TS := fun D σ H => t { D with nx := u D } σ H
theorem Zaz : PSs X [] ZnQ := fun _ _ σ H _ I h => wpAny_execs_nil ⟨σ, H, I, h⟩
theorem Zaf (h1 : PS X st t) (h2 : PSs X rest u) : PSs X (st :: rest) (tSeq t u) := by
 intro pins s σ H D I h
 refine wpAny_execs_cons (thn (h1 pins s σ H { D with nx := u D } I h) fun f s1 q => ?_)
 cases f with
 | next =>
  obtain ⟨σ', H', I', q⟩ := q
  exact h2 pins s1 σ' H' D I' q
 | ret v => exact q
 | brk => exact q
 | cont => exact q
theorem Zah (h1 : PS X st t) : PSs X [st] t := by
 intro pins s σ H D I h
 refine wpAny_execs_cons (thn (h1 pins s σ H D I h) fun f s1 q => ?_)
 cases f with
 | next => exact wpAny_execs_nil q
 | ret v => exact q
 | brk => exact q
 | cont => exact q
theorem Inv.quiet {pins : List (Addr × Obj)} {σ : St} {H : Hp} {s : Shared} (I : Inv X pins σ H s) : interactive X.env = false := by simp [interactive, I.ok.kind]
def ZkW (te : TE) : TS := fun D σ H => te σ H fun _ H1 => D.nx σ H1
theorem ZaO (he : PE X e te) (hs : swapsWith e none pos.line X.env = pure false := by rfl) : PS X (.Expr e pos) (ZkW te) := by
 intro pins s σ H D I h
 exact wpAny_Expr_any (thn (he pins s σ H _ I h) fun v s1 ⟨x, H1, I1, r1, q1⟩ => ⟨σ, H1, I1, q1⟩) I.quiet hs
def tRet (te : TE) : TS := fun D σ H => te σ H D.rt
theorem Zav (he : PE X e te) : PS X (.Return (some e) pos) (tRet te) := by
 intro pins s σ H D I h
 exact wpAny_Return_some (thn (he pins s σ H _ I h) fun v s1 ⟨x, H1, I1, r1, q1⟩ => ⟨x, σ, H1, I1, r1, q1⟩)
def tIfS (c : TT) (t u : TS) : TS := fun D σ H => c σ H fun b H1 => if b = true then t D σ H1 else u D σ H1
theorem Za2 {c : Expr} {a b : List Stmt} {tc : TT} (hc : PT X c tc) (ha : PSs X a t) (hb : PSs X b u) : PS X (.If c a b pos) (tIfS tc t u) := by
 intro pins s σ H D I h
 refine wpAny_If (thn (hc pins s σ H _ I h) fun d s1 ⟨H1, I1, q1⟩ => ?_)
 cases d with
 | true => exact ha pins s1 σ H1 D I1 q1
 | false => exact hb pins s1 σ H1 D I1 q1
end
abbrev TG := V -> St -> Hp -> (St -> Hp -> Prop) -> Prop
abbrev TGs := List V -> St -> Hp -> (St -> Hp -> Prop) -> Prop
def PG (X : Cx) (target : Expr) (t : TG) : Prop :=
 ∀ (pins : List (Addr × Obj)) (s : Shared) (σ : St) (H : Hp) (v : V) (u : Value) (Q : St -> Hp -> Prop), Inv X pins σ H s -> RelV v u -> t v σ H Q ->
  wpAny (model X.prog X.w) X.A (assign target X.env u) (fun _ s' => ∃ σ' H', Inv X pins σ' H' s' /\ Q σ' H') X.xe s
def PGs (X : Cx) (ts : List Expr) (t : TGs) : Prop :=
 ∀ (pins : List (Addr × Obj)) (s : Shared) (σ : St) (H : Hp) (vs : List V) (us : List Value) (Q : St -> Hp -> Prop), Inv X pins σ H s -> Vals vs us -> t vs σ H Q ->
  wpAny (model X.prog X.w) X.A (assignInOrder ((assignEach ts X.env).map (·.2)) us) (fun _ s' => ∃ σ' H', Inv X pins σ' H' s' /\ Q σ' H') X.xe s
abbrev TSet := V -> V -> V -> Hp -> (Hp -> Prop) -> Prop
def PSet (X : Cx) (t : TSet) : Prop :=
 ∀ (pins : List (Addr × Obj)) (s : Shared) (σ : St) (H : Hp) (o i v : V) (ov iv u : Value) (Q : Hp -> Prop), Inv X pins σ H s -> RelV o ov -> RelV i iv -> RelV v u -> t o i v H Q ->
  wpAny (model X.prog X.w) X.A (setItem ov iv u) (fun _ s' => ∃ H', Inv X pins σ H' s' /\ Q H') X.xe s
abbrev TIp := V -> V -> Hp -> VK -> Prop
section
variable {X : Cx} {pos : Pos}
def Zhj (i : Nat) : TG := fun v σ H Q => Q (σ.set i (some v)) H
theorem Zmt {i : Nat} {x : Str} (hN : X.N.Nodup) (hi : X.N[i]? = some x) (hx : Loc X.env.scope x) (hf : X.fn x = true \/ X.env.scope.names.lookup x = some .local := by first | exact .inl rfl | exact .inr rfl | assumption) : PG X (.Name x pos) (Zhj i) := by
 intro pins s σ H v u Q I r h
 exact wpAny_assign_Name (ZgM I hN hi hx r (fun s' I' => ⟨_, H, I', h⟩) hf)
def gNil : TGs := fun vs σ H Q => vs = [] /\ Q σ H
def ZnR (t : TG) (u : TGs) : TGs := fun vs σ H Q => ∃ v r, vs = v :: r /\ t v σ H fun σ' H' => u r σ' H' Q
theorem ZeC : PGs X [] gNil := by
 intro pins s σ H vs us Q I r h
 obtain ⟨e, h⟩ := h
 subst e
 cases r
 exact assignInOrder_nil ⟨σ, H, I, h⟩
theorem ZaP {e : Expr} {es : List Expr} {t : TG} {u : TGs} (h1 : PG X e t) (h2 : PGs X es u)
 (hs : (assignEach (e :: es) X.env).map (·.2) = assign e X.env :: (assignEach es X.env).map (·.2) := by rfl) : PGs X (e :: es) (ZnR t u) := by
 intro pins s σ H vs us Q I r h
 obtain ⟨v, vr, e1, h⟩ := h
 subst e1
 cases r with
 | cons r rr =>
  rw [hs]
  refine assignInOrder_cons (thn (h1 pins s σ H _ _ _ I r h) fun _ s1 ⟨σ1, H1, I1, q1⟩ => ?_)
  exact h2 pins s1 σ1 H1 _ _ Q I1 rr q1
def gTup (K : PySem.W.Frag) (n : Nat) (t : TGs) : TG := fun v σ H Q => ∃ a xs, v = .ref a /\ SqT K H a xs /\ xs.length = n /\ t xs σ H Q
theorem ZnS {es : List Expr} {k : Nat} {t : TGs} {n : Nat} (hc : X.calm = true) (h : PGs X es t)
 (hn : (assignEach es X.env).length = n := by rfl) (hst : (assignEach es X.env).findIdx? (·.1) = none := by rfl) : PG X (.Tuple es k pos) (gTup X.K n t) := by
 intro pins s σ H v u Q I r hw
 obtain ⟨a, xs, e1, hq, hl, hw⟩ := hw
 subst e1
 cases r
 obtain ⟨its, rv, ht, hz⟩ := I.tuple hq
 refine assign_Tuple_tuple (I.ok.hd hc) ht (by simp [hn, <- hl, rv.length]) hst fun h' hx => ?_
 have I1 : Inv X pins σ H { s with heap := h' } := I.kept (t' := s.toks) fun b o e => hx b o (Nat.ne_of_lt (Heap.lt_size e)) e
 exact h pins _ σ H xs _ Q I1 (by simpa using rv) hw
def gSub (to ti : TE) (t : TSet) : TG := fun v σ H Q => to σ H fun o H1 => ti σ H1 fun i H2 => t o i v H2 fun H3 => Q σ H3
theorem ZjF {o i : Expr} {to ti : TE} {t : TSet} (ho : PE X o to) (hi : PE X i ti) (hs : PSet X t)
 (ha : ∀ v, assign (.Subscript o i pos) X.env v = (do
   let ov <- holding [v] (eval o X.env)
   let iv <- holding [v, ov] (eval i X.env)
   standAt pos
   holding [v, ov, iv] (setItem ov iv v)
   release [v, ov, iv] []) := by intro _; rfl) : PG X (.Subscript o i pos) (gSub to ti t) := by
 intro pins s σ H v u Q I r h
 rw [ha]
 refine wpAny_bind (wpAny_holding (thn (ho pins s σ H _ I h) fun ov s1 ⟨x, H1, I1, r1, q1⟩ => ?_))
 refine wpAny_bind (wpAny_holding (thn (hi pins s1 σ H1 _ I1 q1) fun iv s2 ⟨y, H2, I2, r2, q2⟩ => ?_))
 refine wpAny_bind (wpAny_standAt (wpAny_bind (wpAny_holding (thn (hs pins s2 σ H2 x y v ov iv u _ I2 r1 r2 r q2) fun _ s3 ⟨H3, I3, q3⟩ => ?_))))
 exact wpAny_release ⟨σ, H3, I3, q3⟩
def tAsg (te : TE) (g : TG) : TS := fun D σ H => te σ H fun x H1 => g x σ H1 D.nx
theorem ZfM {tg e : Expr} {te : TE} {g : TG} (he : PE X e te) (hg : PG X tg g) (hs : swapsWithSole [tg] e pos.line X.env = pure false := by rfl) (hw : swappedStores [tg] e X.env = pure none := by rfl)
 (h1 : (assignEach [tg] X.env).map (·.2) = [assign tg X.env] := by rfl) : PS X (.Assign [tg] e pos) (tAsg te g) := by
 intro pins s σ H D I h
 refine wpAny_Assign_stores (thn (he pins s σ H _ I h) fun v s1 ⟨x, H1, I1, r1, q1⟩ => ?_) hs hw
 rw [h1]
 exact thn (hg pins s1 σ H1 x v _ I1 r1 q1) fun _ s2 q => q
theorem ZnT {i : Nat} {x : Str} {e : Expr} {te : TE} {pos' : Pos} (hN : X.N.Nodup) (hi : X.N[i]? = some x) (hx : Loc X.env.scope x) (he : PE X e te) (hs : swapsWith e (some (.Name x pos')) pos.line X.env = pure false := by rfl) (hf : X.fn x = true \/ X.env.scope.names.lookup x = some .local := by first | exact .inl rfl | exact .inr rfl | assumption) :
 PS X (.Assign [.Name x pos'] e pos) (tAsg te (Zhj i)) := by
 intro pins s σ H D I h
 refine wpAny_Assign_Name (thn (he pins s σ H _ I h) fun v s1 ⟨y, H1, I1, r1, q1⟩ => ?_) hs
 exact ZgM I1 hN hi hx r1 (fun s2 I2 => ⟨_, H1, I2, q1⟩) hf
end
section
variable {X : Cx} {pos : Pos}
end
structure It where
 go : Nat -> Hp -> Prop
 yld : Nat -> Hp -> V -> Hp -> Prop
 stop : Nat -> Hp -> Prop
def FpOk (X : Cx) (pins : List (Addr × Obj)) (H : Hp) (b : Addr) : Prop :=
 H b = none /\ b ≠ X.env.locals /\ b ∉ X.fs /\ (b ∈ X.ex \/ X.s₀.heap.objs.size <= b) /\ (∀ x c, X.env.cells.lookup x = some c -> c ≠ b) /\ ∀ p ∈ X.pn ++ pins, p.1 ≠ b
theorem Inv.fpOk {X : Cx} {pins : List (Addr × Obj)} {σ : St} {H H' : Hp} {s : Shared} {b : Addr} (I : Inv X pins σ H s) (hb : s.heap.objs.size <= b) (hn : H' b = none) : FpOk X pins H' b := by
 refine ⟨hn, Nat.ne_of_gt (Nat.lt_of_lt_of_le I.lt hb), I.nofs hb, .inr (Nat.le_trans I.sz hb), fun x c e z => ?_, fun p hp z => ?_⟩
 · obtain ⟨v, q⟩ := I.cell x c e
   exact absurd (Nat.lt_of_lt_of_le q.lt (by rw [z]; exact hb)) (Nat.lt_irrefl _)
 · exact absurd (Nat.lt_of_lt_of_le (Heap.lt_size (I.pin p hp).1) (by rw [z]; exact hb)) (Nat.lt_irrefl _)
structure Turn (P : Program) (w : World) (K : PySem.W.Frag) (tg : Expr) (J : It) (fp : List Addr) (it : Addr) (tn : Nat -> Heap -> Prop) : Prop where
 mem : it ∈ fp
 obj : ∀ i h, tn i h -> ∀ b ∈ fp, ∃ o, h.get? b = some o /\ ∀ v, o.data ≠ .cell v
 keep : ∀ i h h', tn i h -> (∀ b ∈ fp, ∀ o, h.get? b = some o -> h'.get? b = some o) -> tn i h'
 item : ∀ (X : Cx), X.prog = P -> X.w = w -> X.K = K -> X.calm = true -> ∀ (i : Nat) (pins : List (Addr × Obj)) (s : Shared) (σ : St) (H : Hp) (E : Value -> Shared -> Prop), Inv X pins σ H s -> (∀ b ∈ fp, FpOk X pins H b) -> tn i s.heap -> J.go i H ->
  wpAny (model P w) X.A (pyNext (.ref it)) (fun r s1 => ∃ u, r = some u /\
   wpAny (model P w) X.A (letOwnedTupleGo tg (.ref it) u) (fun _ s2 => ∃ x H', Inv X pins σ H' s2 /\ RelV x u /\ J.yld i H x H' /\ tn (i + 1) s2.heap /\ ∀ b ∈ fp, H' b = none) E s1) E s
 done : ∀ (X : Cx), X.prog = P -> X.w = w -> X.K = K -> X.calm = true -> ∀ (i : Nat) (pins : List (Addr × Obj)) (s : Shared) (σ : St) (H : Hp) (E : Value -> Shared -> Prop), Inv X pins σ H s -> (∀ b ∈ fp, FpOk X pins H b) -> tn i s.heap -> J.stop i H ->
  wpAny (model P w) X.A (pyNext (.ref it)) (fun r s1 => r = none /\ Inv X pins σ H s1) E s
 self : ∀ (A : Around) (i : Nat) (s : Shared) (Q : Value -> Shared -> Prop) (E : Value -> Shared -> Prop), tn i s.heap -> Q (.ref it) s -> wpAny (model P w) A (pyIter (.ref it)) Q E s
abbrev TI := St -> Hp -> (It -> Hp -> Prop) -> Prop
def PIE (X : Cx) (pins : List (Addr × Obj)) (σ : St) (tg : Expr) (R : It -> Hp -> Prop) (itv : Value) (s2 : Shared) : Prop :=
 ∃ (it : Addr) (fp : List Addr) (tn : Nat -> Heap -> Prop) (J : It) (H' : Hp), itv = .ref it /\ Inv X pins σ H' s2 /\ Turn X.prog X.w X.K tg J fp it tn /\ tn 0 s2.heap /\ (∀ b ∈ fp, FpOk X pins H' b) /\ R J H'
def PI (X : Cx) (tg iter : Expr) (wi : TI) : Prop :=
 ∀ (pins : List (Addr × Obj)) (s : Shared) (σ : St) (H : Hp) (R : It -> Hp -> Prop), Inv X pins σ H s -> wi σ H R ->
  wpAny (model X.prog X.w) X.A (eval iter X.env) (fun v s1 => wpAny (model X.prog X.w) X.A (pyIter v) (PIE X pins σ tg R) X.xe s1) X.xe s
theorem Zmu {M : Model} {A : Around} {E : Value -> Shared -> Prop} {s : Shared} {tg : Expr} {it : Addr} {u : Value} {o : Obj} {n : String} {vs : Array Value} {Q : Unit -> Shared -> Prop} (ho : s.heap.get? it = some o) (hc : o.cls = .type n) (hd : o.data = .fields vs)
 (hn : ["enumerate", "zip", "dict_itemiterator", "dict_reverseitemiterator", "odict_iterator", "itertools.zip_longest", "itertools.pairwise"].contains n = false) (hQ : Q () s) : wpAny M A (letOwnedTupleGo tg (.ref it) u) Q E s := by
 unfold letOwnedTupleGo
 cases tg <;> first
  | exact wpAny_pure hQ
  | (cases u <;> first
      | exact wpAny_pure hQ
      | (refine wpAny_bind (wpAny_load ho ?_)
         rw [hc, hd]
         show wpAny M A (if (["enumerate", "zip", "dict_itemiterator", "dict_reverseitemiterator", "odict_iterator", "itertools.zip_longest", "itertools.pairwise"].contains n && vs[0]? == some (rawInt _)) = true then _ else _) Q E s
         rw [if_neg (by intro h; rw [hn, Bool.false_and] at h; cases h)]
         exact wpAny_pure hQ))
def Itl (K : PySem.W.Frag) (a : Addr) : It :=
 ⟨fun i H => ∃ xs x, SqL K H a xs /\ xs[i]? = some x, fun i H x H' => H' = H /\ ∀ xs, SqL K H a xs -> xs[i]? = some x, fun i H => ∃ xs, SqL K H a xs /\ xs.length <= i⟩
def Itr (lo : Int) (n : Nat) : It := ⟨fun i _ => i < n, fun i H x H' => H' = H /\ x = .int (lo + i), fun i _ => n <= i⟩
theorem ZjG {P : Program} {w : World} {K : PySem.W.Frag} {tg : Expr} (a it : Addr) : Turn P w K tg (Itl K a) [it] it (fun i h => h.IsListIter it a i) where
 mem := by simp
 obj := fun i h st b hb => by
  have e : b = it := by simpa using hb
  subst e
  obtain ⟨o, e, c, d⟩ := st
  exact ⟨o, e, fun v z => by rw [d] at z; cases z⟩
 keep := fun i h h' st k => st.at fun o e => k it (by simp) o e
 item := by
  intro X hP hw hK hc i pins s σ H E I hf st hg
  subst hP hw hK
  obtain ⟨xs, x, hq, hx⟩ := hg
  obtain ⟨its, rv, p, hz⟩ := I.list hq
  obtain ⟨u, hu, ru⟩ := rv.get hx
  obtain ⟨f0, f1, f2, f3, f4, f5⟩ := hf it (by simp)
  refine wpAny_pyNext_list_item st p.isList (x := u) (by simpa using hu) fun h' st' sb => ?_
  have I1 : Inv X pins σ H { s with heap := h' } := I.turned (t' := s.toks) (fun b o hb e => (sb.2 b hb).trans e) f0 f1 f3 f4 f5
  obtain ⟨o, e, c, d⟩ := id st'
  exact ⟨u, rfl, Zmu (s := { s with heap := h' }) e c d (by decide) ⟨x, H, I1, ru, ⟨rfl, fun ys hy => by rw [I.list_inj hy hq]; exact hx⟩, st', fun b hb => (hf b hb).1⟩⟩
 done := by
  intro X hP hw hK hc i pins s σ H E I hf st hg
  subst hP hw hK
  obtain ⟨xs, hq, hx⟩ := hg
  obtain ⟨its, rv, p, hz⟩ := I.list hq
  obtain ⟨f0, f1, f2, f3, f4, f5⟩ := hf it (by simp)
  have hl := rv.length
  exact wpAny_pyNext_list_end (I.ok.hd hc) st p.isList (by simp; omega) fun h' eb => ⟨rfl, I.turned (t' := s.toks) (fun b o hb e => eb b o hb e) f0 f1 f3 f4 f5⟩
 self := fun _ _ _ _ _ st h => wpAny_pyIter_listiter st h
theorem Zi7 {P : Program} {w : World} {K : PySem.W.Frag} {tg : Expr} (it : Addr) (lo : Int) (n : Nat) : Turn P w K tg (Itr lo n) [it] it (fun i h => IsRangeIter h it (lo + (i : Nat) * 1) ((n : Int) - (i : Nat)) 1) where
 mem := by simp
 obj := fun i h st b hb => by
  have e : b = it := by simpa using hb
  subst e
  exact ⟨_, st, fun v z => by
   have z' : Data.fields _ = Data.cell v := z
   cases z'⟩
 keep := fun i h h' st k => k it (by simp) _ st
 item := by
  intro X hP hw hK hc i pins s σ H E I hf st hg
  subst hP hw hK
  obtain ⟨f0, f1, f2, f3, f4, f5⟩ := hf it (by simp)
  have W := Walks.range (prog := X.prog) (w := X.w) (I.ok.hd hc) it lo 1 n
  refine W.item i s _ _ hg st fun v h' tk hv st' kk => ?_
  obtain ⟨t, rfl⟩ := hv
  have I1 : Inv X pins σ H { s with heap := h', toks := tk } := I.turned (fun b o hb e => kk b o (by simpa using hb) e) f0 f1 f3 f4 f5
  refine ⟨_, rfl, Zmu (s := { s with heap := h', toks := tk }) (n := "range_iterator") st' rfl rfl (by decide) ⟨.int (lo + i), H, I1, ⟨t, ?_⟩, ⟨rfl, rfl⟩, st', fun b hb => (hf b hb).1⟩⟩
  rw [Int.mul_one]
 done := by
  intro X hP hw hK hc i pins s σ H E I hf st hg
  subst hP hw hK
  obtain ⟨f0, f1, f2, f3, f4, f5⟩ := hf it (by simp)
  exact wpAny_pyNext_range_end (I.ok.hd hc) st (by have : n <= i := hg; omega) fun h' eb => ⟨rfl, I.turned (t' := s.toks) (fun b o hb e => eb b o hb e) f0 f1 f3 f4 f5⟩
 self := fun _ _ _ _ _ st h => wpAny_pyIter_rangeiter st h
end L2
namespace L2
open PySem PySem.Spec PyProof.Rows
section
variable {X : Cx} {tg : Expr}
def Zmv (K : PySem.W.Frag) (tl : TE) : TI := fun σ H R => tl σ H fun x H1 => ∃ a, x = .ref a /\ (∃ xs, SqL K H1 a xs) /\ R (Itl K a) H1
theorem Zmw {l : Expr} {tl : TE} (hl : PE X l tl) : PI X tg l (Zmv X.K tl) := by
 intro pins s σ H R I h
 refine thn (hl pins s σ H _ I h) fun v s1 ⟨x, H1, I1, r1, q1⟩ => ?_
 obtain ⟨a, e, ⟨xs, hq⟩, q⟩ := q1
 subst e
 cases r1
 obtain ⟨its, rv, p, hz⟩ := I1.list hq
 refine wpAny_pyIter_list p.isList ?_
 refine ⟨s1.heap.objs.size, [s1.heap.objs.size], _, _, H1, rfl, I1.kept (t' := s1.toks) fun b o e => Heap.get?_push_of_some _ e, ZjG a _, ⟨_, Heap.get?_push_size _ rfl, rfl, rfl⟩, fun b hb => ?_, q⟩
 have e : b = s1.heap.objs.size := by simpa using hb
 subst e
 exact I1.fpOk (Nat.le_refl _) (I1.hok.fresh (Nat.le_refl _))
theorem ZkX {pins : List (Addr × Obj)} {σ : St} {H : Hp} {s : Shared} {R : It -> Hp -> Prop} {E : Value -> Shared -> Prop} {lo hi : Int} {t u v : Tok} {tk : Nat} (I : Inv X pins σ H s) (h1 : -(2 ^ 62) <= lo) (h2 : lo < 2 ^ 62) (h3 : -(2 ^ 62) <= hi) (h4 : hi < 2 ^ 62)
 (q : R (Itr lo (hi - lo).toNat) H) : wpAny (model X.prog X.w) X.A (pyIter (.ref s.heap.objs.size)) (PIE X pins σ tg R) E { s with heap := s.heap.push { cls := .type "range", data := .fields #[.int lo t, .int hi u, .int 1 v] }, toks := tk } := by
 refine wpAny_pyIter_range (IsRange.new ..) (small_one h1 h2 h3 h4) ?_
 have I1 : Inv X pins σ H { s with heap := s.heap.push { cls := .type "range", data := .fields #[.int lo t, .int hi u, .int 1 v] }, toks := tk } := I.kept fun b o e => Heap.get?_push_of_some _ e
 refine ⟨(s.heap.push { cls := .type "range", data := .fields #[.int lo t, .int hi u, .int 1 v] }).objs.size, [(s.heap.push { cls := .type "range", data := .fields #[.int lo t, .int hi u, .int 1 v] }).objs.size], _, _, H, rfl,
  I1.kept (t' := tk) fun b o e => Heap.get?_push_of_some _ e, Zi7 _ lo (hi - lo).toNat, ?_, fun b hb => ?_, q⟩
 · have e1 : lo + ((0 : Nat) : Int) * 1 = lo := by simp
   have e2 : (((hi - lo).toNat : Nat) : Int) - ((0 : Nat) : Int) = Builtin.Range.rangeSize lo hi 1 := by rw [rangeSize_one]; split <;> omega
   show IsRangeIter _ _ (lo + ((0 : Nat) : Int) * 1) ((((hi - lo).toNat : Nat) : Int) - ((0 : Nat) : Int)) 1
   rw [e1, e2]
   exact Heap.get?_push_size _ rfl
 · have e : b = (s.heap.push { cls := .type "range", data := .fields #[.int lo t, .int hi u, .int 1 v] }).objs.size := by simpa using hb
   subst e
   exact I1.fpOk (Nat.le_refl _) (I1.hok.fresh (Nat.le_refl _))
def ZnU (ta : TA) : TI := fun σ H R => ta σ H fun vs H1 => ∃ j : Int, vs = [.int j] /\ -(2 ^ 62) <= j /\ j < 2 ^ 62 /\ R (Itr 0 j.toNat) H1
theorem Zdw {a : Expr} {ta : TA} {p pos : Pos} (hg : Gl X "range") (hm : X.mg "range" = none) (ha : PA X [a] ta) (hs : starEach [a] X.env = [(false, eval a X.env)] := by rfl) : PI X tg (.Call (.Name "range" p) [a] [] pos) (ZnU ta) := by
 intro pins s σ H R I h
 refine Call_ (Zhh I hg hm boot_range (PyProof.Rows.callWith_type1 (thn (ha pos pins s σ H _ I h) fun us s1 ⟨vs, H1, I1, r1, q1⟩ => ?_) hs rfl))
 obtain ⟨j, e, q1, q2, q⟩ := q1
 subst e
 cases r1 with
 | cons r rr =>
  cases rr
  obtain ⟨t, rfl⟩ := r
  exact call_range_1 (ZkX I1 (by omega) (by omega) q1 q2 (by simpa using q))
def tFor (wi : TI) (g : TG) (tb : TS) : TS := fun D σ H => wi σ H fun J H1 => ∃ W : Nat -> Nat -> St -> Hp -> Prop, (∃ m, W 0 m σ H1) /\ ∀ i m σ H, W i m σ H ->
 (J.stop i H /\ D.nx σ H) \/ (J.go i H /\ ∃ N : St -> Hp -> Prop, (∀ σ' H', N σ' H' -> ∃ m', m' < m /\ W (i + 1) m' σ' H') /\ ∀ x H', J.yld i H x H' -> g x σ H' fun σ2 H2 => tb { D with nx := N, ct := N, bk := D.nx } σ2 H2)
def Zhk (fp : List Addr) (h : Heap) : List (Addr × Obj) := fp.filterMap fun b => (h.get? b).map fun o => (b, o)
theorem Zem {fp : List Addr} {h : Heap} {b : Addr} {o : Obj} (hb : b ∈ fp) (e : h.get? b = some o) : (b, o) ∈ Zhk fp h := List.mem_filterMap.mpr ⟨b, hb, by rw [e]; rfl⟩
theorem ZjH {fp : List Addr} {h : Heap} {p : Addr × Obj} (hp : p ∈ Zhk fp h) : p.1 ∈ fp /\ h.get? p.1 = some p.2 := by
 obtain ⟨b, hb, e⟩ := List.mem_filterMap.mp hp
 cases q : h.get? b with
 | none => rw [q] at e; cases e
 | some o =>
  rw [q] at e
  have e' : (b, o) = p := Option.some.inj e
  subst e'
  exact ⟨hb, q⟩
theorem Inv.pinned {pins : List (Addr × Obj)} {σ : St} {H : Hp} {s : Shared} {fp : List Addr} (I : Inv X pins σ H s) (hf : ∀ b ∈ fp, FpOk X pins H b) (ho : ∀ b ∈ fp, ∃ o, s.heap.get? b = some o /\ ∀ v, o.data ≠ .cell v) : Inv X (pins ++ Zhk fp s.heap) σ H s :=
 I.pins_of fun p hp => (List.mem_append.mp hp).elim (fun z => I.pin p (List.mem_append_right _ z)) fun z => by
  obtain ⟨hb, e⟩ := ZjH z
  obtain ⟨f0, f1, f2, _⟩ := hf p.1 hb
  obtain ⟨o, e', d⟩ := ho p.1 hb
  rw [e] at e'; cases e'
  exact ⟨e, f0, f1, f2, d⟩
theorem Inv.unpinned {pins pl : List (Addr × Obj)} {σ : St} {H : Hp} {s : Shared} (I : Inv X (pins ++ pl) σ H s) : Inv X pins σ H s := I.pins_of fun p hp => I.pin p (List.mem_append_right _ (List.mem_append_left _ hp))
theorem Zd5 {iter : Expr} {body : List Stmt} {wi : TI} {g : TG} {tb : TS} {pos : Pos} (hp : PassesOwn (model X.prog X.w) X.A X.env X.xe) (hc : X.calm = true) (hi : PI X tg iter wi) (hg : PG X tg g) (hb : PSs X body tb)
 (hs : ∀ x, foldedSetIterable iter X.env x = pure x := by intro _; rfl) : PS X (.For tg iter body [] pos) (tFor wi g tb) := by
 intro pins s σ H D I h
 refine wpAny_For (thn (hi pins s σ H _ I h) fun v s1 h1 => thn h1 fun itv s2 h2 => ?_) hs
 obtain ⟨it, fp, tn, J, H2, e, I2, T, st2, f2, W, ⟨m0, w0⟩, turn⟩ := h2
 subst e
 -- what stays true of the iterator's objects through the loop
 have stat : ∀ {H' : Hp}, (∀ b ∈ fp, H' b = none) -> ∀ b ∈ fp, FpOk X pins H' b := fun hn b hb => ⟨hn b hb, (f2 b hb).2⟩
 refine codeAny_forLoop_any (fun n s' => ∃ i σ' H', Inv X pins σ' H' s' /\ tn i s'.heap /\ (∀ b ∈ fp, H' b = none) /\ W i n σ' H') ?_ m0 ⟨0, σ, H2, I2, st2, fun b hb => (f2 b hb).1, w0⟩
 rintro n s3 ⟨i, σ3, H3, I3, st3, fr3, w3⟩
 rcases turn i n σ3 H3 w3 with ⟨stop, qn⟩ | ⟨go, N, hN, step⟩
 · refine wpAny_passesOwn hp (thn (T.done X rfl rfl rfl hc i pins s3 σ3 H3 X.xe I3 (stat fr3) st3 stop) fun r s4 ⟨hr, I4⟩ => ?_)
   subst hr
   exact wpAny_execs_nil ⟨σ3, H3, I4, qn⟩
 · refine wpAny_passesOwn hp (thn (T.item X rfl rfl rfl hc i pins s3 σ3 H3 X.xe I3 (stat fr3) st3 go) fun r s4 ⟨u, hr, h4⟩ => ?_)
   subst hr
   refine wpAny_passesOwn hp (thn h4 fun _ s5 ⟨x, H5, I5, r5, y5, st5, fr5⟩ => ?_)
   have I5' := I5.pinned (stat fr5) (T.obj _ _ st5)
   refine wpAny_passesOwn hp (thn (hg _ s5 σ3 H5 x u _ I5' r5 (step x H5 y5)) fun _ s6 ⟨σ6, H6, I6, q6⟩ => ?_)
   refine wpAny_passesOwn hp (thn (hb _ s6 σ6 H6 _ I6 q6) fun f s7 q7 => ?_)
   have again : ∀ {σ7 : St} {H7 : Hp}, Inv X (pins ++ Zhk fp s5.heap) σ7 H7 s7 -> N σ7 H7 -> ∃ m, m < n /\ ∃ i σ' H', Inv X pins σ' H' s7 /\ tn i s7.heap /\ (∀ b ∈ fp, H' b = none) /\ W i m σ' H' := fun {σ7 H7} I7 n7 => by
    obtain ⟨m', hm, w7⟩ := hN σ7 H7 n7
    refine ⟨m', hm, i + 1, σ7, H7, I7.unpinned, T.keep _ _ _ st5 fun b hb o e => (I7.pin (b, o) (List.mem_append_right _ (List.mem_append_right _ (Zem hb e)))).1, fun b hb => ?_, w7⟩
    obtain ⟨o, e, d⟩ := T.obj _ _ st5 b hb
    exact (I7.pin (b, o) (List.mem_append_right _ (List.mem_append_right _ (Zem hb e)))).2.1
   cases f with
   | next => obtain ⟨σ7, H7, I7, n7⟩ := q7; exact again I7 n7
   | cont => obtain ⟨σ7, H7, I7, n7⟩ := q7; exact again I7 n7
   | brk => obtain ⟨σ7, H7, I7, q7⟩ := q7; exact ⟨σ7, H7, I7.unpinned, q7⟩
   | ret v => obtain ⟨x7, σ7, H7, I7, r7, q7⟩ := q7; exact ⟨x7, σ7, H7, I7.unpinned, r7, q7⟩
end
end L2
namespace L2
open PySem PySem.Spec PyProof.Rows
abbrev R2 := V -> V -> Hp -> VK -> Prop
def OpR (X : Cx) (f : Value -> Value -> Sem Value) (r : R2) : Prop :=
 ∀ (pins : List (Addr × Obj)) (s : Shared) (σ : St) (H : Hp) (x y : V) (v u : Value) (Q : VK), Inv X pins σ H s -> RelV x v -> RelV y u -> r x y H Q ->
  wpAny (model X.prog X.w) X.A (f v u) (EP X pins σ Q) X.xe s
def UnR (X : Cx) (f : Value -> Sem Value) (r : V -> Hp -> VK -> Prop) : Prop :=
 ∀ (pins : List (Addr × Obj)) (s : Shared) (σ : St) (H : Hp) (x : V) (v : Value) (Q : VK), Inv X pins σ H s -> RelV x v -> r x H Q ->
  wpAny (model X.prog X.w) X.A (f v) (EP X pins σ Q) X.xe s
def Zdq (X : Cx) (f : Value) (r : List V -> Hp -> VK -> Prop) : Prop :=
 ∀ (pins : List (Addr × Obj)) (s : Shared) (σ : St) (H : Hp) (xs : List V) (us : List Value) (Q : VK), Inv X pins σ H s -> Vals xs us -> r xs H Q ->
  wpAny (model X.prog X.w) X.A (call f us) (EP X pins σ Q) X.xe s
def tOp (r : R2) (ta tb : TE) : TE := fun σ H Q => ta σ H fun x H1 => tb σ H1 fun y H2 => r x y H2 Q
def tUn (r : V -> Hp -> VK -> Prop) (ta : TE) : TE := fun σ H Q => ta σ H fun x H1 => r x H1 Q
def rI (C : Int -> Int -> Prop) (g : Int -> Int -> V) : R2 := fun x y H Q => ∃ i j, x = .int i /\ y = .int j /\ C i j /\ Q (g i j) H
def rI0 (g : Int -> Int -> V) : R2 := fun x y H Q => ∃ i j, x = .int i /\ y = .int j /\ Q (g i j) H
def rU (g : Int -> V) : V -> Hp -> VK -> Prop := fun x H Q => ∃ i, x = .int i /\ Q (g i) H
section
variable {X : Cx} {a b c : Expr} {ta tb tc : TE} {pos : Pos}
theorem binT (ha : PE X a ta) (hb : PE X b tb) {pins : List (Addr × Obj)} {s : Shared} {σ : St} {H : Hp} {R : V -> V -> Hp -> Prop} (I : Inv X pins σ H s)
 (h : ta σ H fun x H1 => tb σ H1 fun y H2 => R x y H2) {Q : Value -> Shared -> Prop} {f : Value -> Value -> Sem Value}
 (hf : ∀ v u s2 x y H2, Inv X pins σ H2 s2 -> RelV x v -> RelV y u -> R x y H2 -> wpAny (model X.prog X.w) X.A (f v u) Q X.xe s2) :
 wpAny (model X.prog X.w) X.A (eval a X.env) (fun v s₁ => wpAny (model X.prog X.w) X.A (eval b X.env) (fun u s₂ => wpAny (model X.prog X.w) X.A (f v u) Q X.xe s₂) X.xe s₁) X.xe s := by
 refine thn (ha pins s σ H _ I h) fun v s1 ⟨x, H1, I1, r1, q1⟩ => ?_
 refine thn (hb pins s1 σ H1 _ I1 q1) fun u s2 ⟨y, H2, I2, r2, q2⟩ => ?_
 exact hf v u s2 x y H2 I2 r1 r2 q2
theorem Zbe {op : Operator} {r : R2} (ho : OpR X (binaryOp op) r) (ha : PE X a ta) (hb : PE X b tb) : PE X (.BinOp a op b pos) (tOp r ta tb) := by
 intro pins s σ H Q I h
 exact wpAny_BinOp (binT ha hb I h fun v u s2 x y H2 I2 rx ry q => ho pins s2 σ H2 x y v u Q I2 rx ry q)
theorem ZgO {op : UnaryOp} {r : V -> Hp -> VK -> Prop} (ho : UnR X (unaryOp op) r) (ha : PE X a ta) : PE X (.UnaryOp op a pos) (tUn r ta) := by
 intro pins s σ H Q I h
 exact UnaryOp_ (thn (ha pins s σ H _ I h) fun v s1 ⟨x, H1, I1, r1, q1⟩ => ho pins s1 σ H1 x v Q I1 r1 q1)
theorem opI {f : Value -> Value -> Sem Value} {C : Int -> Int -> Prop} {g : Int -> Int -> Int}
 (rule : ∀ (i j : Int) (t u : Tok) (s : Shared) (Q : Value -> Shared -> Prop) (E : Value -> Shared -> Prop), C i j -> Q (.int (g i j) s.toks) { s with toks := s.toks + 1 } -> wpAny (model X.prog X.w) X.A (f (.int i t) (.int j u)) Q E s) :
 OpR X f (rI C fun i j => .int (g i j)) := by
 intro pins s σ H x y v u Q I rx ry h
 obtain ⟨i, j, rfl, rfl, hc, q⟩ := h
 obtain ⟨t, rfl⟩ := rx
 obtain ⟨t', rfl⟩ := ry
 exact rule i j t t' s _ _ hc ⟨.int (g i j), H, I.tok _, ⟨_, rfl⟩, q⟩
theorem opI0 {f : Value -> Value -> Sem Value} {g : Int -> Int -> Int}
 (rule : ∀ (i j : Int) (t u : Tok) (s : Shared) (Q : Value -> Shared -> Prop) (E : Value -> Shared -> Prop), Q (.int (g i j) s.toks) { s with toks := s.toks + 1 } -> wpAny (model X.prog X.w) X.A (f (.int i t) (.int j u)) Q E s) :
 OpR X f (rI0 fun i j => .int (g i j)) := by
 intro pins s σ H x y v u Q I rx ry h
 obtain ⟨i, j, rfl, rfl, q⟩ := h
 obtain ⟨t, rfl⟩ := rx
 obtain ⟨t', rfl⟩ := ry
 exact rule i j t t' s _ _ ⟨.int (g i j), H, I.tok _, ⟨_, rfl⟩, q⟩
theorem opB0 {f : Value -> Value -> Sem Value} {g : Int -> Int -> Bool}
 (rule : ∀ (i j : Int) (t u : Tok) (s : Shared) (Q : Value -> Shared -> Prop) (E : Value -> Shared -> Prop), Q (.bool (g i j)) s -> wpAny (model X.prog X.w) X.A (f (.int i t) (.int j u)) Q E s) :
 OpR X f (rI0 fun i j => .bl (g i j)) := by
 intro pins s σ H x y v u Q I rx ry h
 obtain ⟨i, j, rfl, rfl, q⟩ := h
 obtain ⟨t, rfl⟩ := rx
 obtain ⟨t', rfl⟩ := ry
 exact rule i j t t' s _ _ ⟨.bl (g i j), H, I, rfl, q⟩
def CDiv (i j : Int) : Prop := 0 < j /\ j < 1073741824
def CMul (i j : Int) : Prop := (-(2 ^ 64) < i /\ i < 2 ^ 64) \/ (-(2 ^ 64) < j /\ j < 2 ^ 64)
theorem CMul.ok {i j : Int} (h : CMul i j) : IntMulOk i j := by
 rcases h with ⟨h1, h2⟩ | ⟨h1, h2⟩
 · exact .of_left (intBits_le_64 h1 h2)
 · exact .of_right (intBits_le_64 h1 h2)
theorem ZjI : OpR X (binaryOp .Add) (rI0 fun i j => .int (i + j)) := opI0 fun _ _ _ _ _ _ _ q => add_int q
theorem Zd6 : OpR X (binaryOp .Sub) (rI0 fun i j => .int (i - j)) := opI0 fun _ _ _ _ _ _ _ q => sub_int q
theorem ZgP : OpR X (binaryOp .FloorDiv) (rI CDiv fun i j => .int (i / j)) := opI fun i j _ _ _ _ _ hc q => by
 have h1 : (0 : Int) < j := hc.1
 have h2 : j < 1073741824 := hc.2
 exact floordiv_int (by omega) (by rw [Int.fdiv_eq_ediv_of_nonneg i (by omega)]; exact q) (.inl (PyProof.noPylong_small (by omega)))
theorem Zdx : OpR X (binaryOp .Mod) (rI (fun _ j => 0 < j) fun i j => .int (i % j)) := opI fun i j _ _ _ _ _ hc q => by
 have h1 : (0 : Int) < j := hc
 exact mod_int' (by omega) (by rw [Int.fmod_eq_emod_of_nonneg i (by omega)]; exact q)
theorem unI {f : Value -> Sem Value} {g : Int -> Int}
 (rule : ∀ (i : Int) (t : Tok) (s : Shared) (Q : Value -> Shared -> Prop) (E : Value -> Shared -> Prop), Q (.int (g i) s.toks) { s with toks := s.toks + 1 } -> wpAny (model X.prog X.w) X.A (f (.int i t)) Q E s) :
 UnR X f (rU fun i => .int (g i)) := by
 intro pins s σ H x v Q I rx h
 obtain ⟨i, rfl, q⟩ := h
 obtain ⟨t, rfl⟩ := rx
 exact rule i t s _ _ ⟨.int (g i), H, I.tok _, ⟨_, rfl⟩, q⟩
theorem ZeQ : UnR X (unaryOp .USub) (rU fun i => .int (-i)) := unI fun _ _ _ _ _ q => neg_int q
end
def scal : V -> V -> Bool
 | .non, .non => true | .non, .int _ => true | .int _, .non => true | .non, .bl _ => true | .bl _, .non => true | .non, .str _ => true | .str _, .non => true
 | .int _, .int _ => true | .bl _, .bl _ => true | .str _, .str _ => true | .byt _, .byt _ => true
 | .int _, .str _ => true | .str _, .int _ => true | .bl _, .str _ => true | .str _, .bl _ => true
 | _, _ => false
def rEq : R2 := fun x y H Q => scal x y = true /\ Q (.bl (decide (x = y))) H
def rNe : R2 := fun x y H Q => scal x y = true /\ Q (.bl (!decide (x = y))) H
theorem ZjJ {i j : Int} : decide (V.int i = V.int j) = (i == j) := by
 rw [Bool.eq_iff_iff]
 simp
theorem ZlS {i j : Bool} : decide (V.bl i = V.bl j) = (i == j) := by
 rw [Bool.eq_iff_iff]
 simp
theorem ZjK {i j : Str} : decide (V.str i = V.str j) = (i == j) := by
 rw [Bool.eq_iff_iff]
 simp
theorem ZjL {i j : Array UInt8} : decide (V.byt i = V.byt j) = (i.toList == j.toList) := by
 rw [Bool.eq_iff_iff]
 cases i
 cases j
 simp
section
variable {X : Cx} {a b c : Expr} {ta tb tc : TE} {pos : Pos}
theorem Za6 {pins : List (Addr × Obj)} {σ : St} {H : Hp} {s : Shared} {Q : VK} {k k' : Bool} (I : Inv X pins σ H s) (q : Q (.bl k) H) (e : k = k') : EP X pins σ Q (.bool k') s := by
 subst e
 exact ⟨.bl k, H, I, rfl, q⟩
theorem Zd7 : OpR X (compareOp .Eq) rEq := by
 intro pins s σ H x y v u Q I rx ry h
 obtain ⟨hs, q⟩ := h
 cases x with
 | non =>
  cases rx
  cases y with
  | non => cases ry; exact PySem.EqNone.eq_none_none (Za6 I q (by simp))
  | bl j => cases ry; exact PySem.EqNone.eq_none_bool (Za6 I q (by simp))
  | int j => obtain ⟨t', rfl⟩ := ry; exact PySem.EqNone.eq_none_int (Za6 I q (by simp))
  | str j => obtain ⟨t', rfl⟩ := ry; exact PySem.EqNone.eq_none_str (Za6 I q (by simp))
  | _ => exact absurd (show false = true from hs) Bool.false_ne_true
 | bl i =>
  cases rx
  cases y with
  | non => cases ry; exact PySem.EqNone.eq_bool_none (Za6 I q (by simp))
  | bl j => cases ry; exact eq_bool (Za6 I q ZlS)
  | str j => obtain ⟨t', rfl⟩ := ry; exact PySem.EqMixed.eq_bool_str (Za6 I q (by simp))
  | _ => exact absurd (show false = true from hs) Bool.false_ne_true
 | int i =>
  obtain ⟨t, rfl⟩ := rx
  cases y with
  | non => cases ry; exact PySem.EqNone.eq_int_none (Za6 I q (by simp))
  | int j => obtain ⟨t', rfl⟩ := ry; exact eq_int (Za6 I q ZjJ)
  | str j => obtain ⟨t', rfl⟩ := ry; exact PySem.EqMixed.eq_int_str (Za6 I q (by simp))
  | _ => exact absurd (show false = true from hs) Bool.false_ne_true
 | str i =>
  obtain ⟨t, rfl⟩ := rx
  cases y with
  | non => cases ry; exact PySem.EqNone.eq_str_none (Za6 I q (by simp))
  | bl j => cases ry; exact PySem.EqMixed.eq_str_bool (Za6 I q (by simp))
  | int j => obtain ⟨t', rfl⟩ := ry; exact PySem.EqMixed.eq_str_int (Za6 I q (by simp))
  | str j => obtain ⟨t', rfl⟩ := ry; exact eq_str (Za6 I q ZjK)
  | _ => exact absurd (show false = true from hs) Bool.false_ne_true
 | byt i =>
  obtain ⟨t, rfl⟩ := rx
  cases y with
  | byt j => obtain ⟨t', rfl⟩ := ry; exact PySem.W.eq_bytes (Za6 I q ZjL)
  | _ => exact absurd (show false = true from hs) Bool.false_ne_true
 | _ => cases y <;> exact absurd (show false = true from hs) Bool.false_ne_true
theorem ZkY : OpR X (compareOp .NotEq) rNe := by
 intro pins s σ H x y v u Q I rx ry h
 obtain ⟨hs, q⟩ := h
 cases x with
 | non =>
  cases rx
  cases y with
  | non => cases ry; exact PySem.EqNone.ne_none_none (Za6 I q (by simp))
  | bl j => cases ry; exact PySem.EqNone.ne_none_bool (Za6 I q (by simp))
  | int j => obtain ⟨t', rfl⟩ := ry; exact PySem.EqNone.ne_none_int (Za6 I q (by simp))
  | str j => obtain ⟨t', rfl⟩ := ry; exact PySem.EqNone.ne_none_str (Za6 I q (by simp))
  | _ => exact absurd (show false = true from hs) Bool.false_ne_true
 | bl i =>
  cases rx
  cases y with
  | non => cases ry; exact PySem.EqNone.ne_bool_none (Za6 I q (by simp))
  | bl j => cases ry; exact ne_bool (Za6 I q (congrArg not ZlS))
  | str j => obtain ⟨t', rfl⟩ := ry; exact PySem.EqMixed.ne_bool_str (Za6 I q (by simp))
  | _ => exact absurd (show false = true from hs) Bool.false_ne_true
 | int i =>
  obtain ⟨t, rfl⟩ := rx
  cases y with
  | non => cases ry; exact PySem.EqNone.ne_int_none (Za6 I q (by simp))
  | int j => obtain ⟨t', rfl⟩ := ry; exact ne_int (Za6 I q (congrArg not ZjJ))
  | str j => obtain ⟨t', rfl⟩ := ry; exact PySem.EqMixed.ne_int_str (Za6 I q (by simp))
  | _ => exact absurd (show false = true from hs) Bool.false_ne_true
 | str i =>
  obtain ⟨t, rfl⟩ := rx
  cases y with
  | non => cases ry; exact PySem.EqNone.ne_str_none (Za6 I q (by simp))
  | bl j => cases ry; exact PySem.EqMixed.ne_str_bool (Za6 I q (by simp))
  | int j => obtain ⟨t', rfl⟩ := ry; exact PySem.EqMixed.ne_str_int (Za6 I q (by simp))
  | str j => obtain ⟨t', rfl⟩ := ry; exact ne_str (Za6 I q (congrArg not ZjK))
  | _ => exact absurd (show false = true from hs) Bool.false_ne_true
 | byt i =>
  obtain ⟨t, rfl⟩ := rx
  cases y with
  | byt j => obtain ⟨t', rfl⟩ := ry; exact PySem.W.ne_bytes (Za6 I q (congrArg not ZjL))
  | _ => exact absurd (show false = true from hs) Bool.false_ne_true
 | _ => cases y <;> exact absurd (show false = true from hs) Bool.false_ne_true
theorem ZnV : OpR X (compareOp .Lt) (rI0 fun i j => .bl (decide (i < j))) := opB0 fun _ _ _ _ _ _ _ q => lt_int q
theorem ZnW : OpR X (compareOp .LtE) (rI0 fun i j => .bl (decide (i <= j))) := opB0 fun _ _ _ _ _ _ _ q => le_int q
theorem Zi8 : OpR X (compareOp .Gt) (rI0 fun i j => .bl (decide (j < i))) := opB0 fun _ _ _ _ _ _ _ q => gt_int q
theorem Zmx : OpR X (compareOp .GtE) (rI0 fun i j => .bl (decide (j <= i))) := opB0 fun _ _ _ _ _ _ _ q => ge_int q
theorem ZjM : OpR X (compareOp .In) (fun x y H Q => ∃ i j, x = .str i /\ y = .str j /\ Q (.bl (!(Builtin.Str.occurrences j i 0 j.length 1).isEmpty)) H) := by
 intro pins s σ H x y v u Q I rx ry h
 obtain ⟨i, j, rfl, rfl, q⟩ := h
 obtain ⟨t, rfl⟩ := rx
 obtain ⟨t', rfl⟩ := ry
 exact in_str (Za6 I q rfl)
theorem ZlT : OpR X (compareOp .Is) (fun x y H Q => y = .non /\ Q (.bl (decide (x = .non))) H) := by
 intro pins s σ H x y v u Q I rx ry h
 obtain ⟨rfl, q⟩ := h
 cases ry
 refine is_none_gen (Za6 I q ?_)
 cases x <;> first
  | (cases rx; rfl)
  | (obtain ⟨t, rfl⟩ := rx; rfl)
theorem ZaZ (b : Expr) {op : CmpOp} (h : op ≠ .In := by decide) (h2 : op ≠ .NotIn := by decide) : behindInMarks op b = false := by
 have e1 : (op == CmpOp.In) = false := by cases op <;> first | rfl | exact absurd rfl h
 have e2 : (op == CmpOp.NotIn) = false := by cases op <;> first | rfl | exact absurd rfl h2
 cases b <;> simp [behindInMarks, e1, e2]
theorem Zd8 {op : CmpOp} {r : R2} (ho : OpR X (compareOp op) r) (ha : PE X a ta) (hb : PE X b tb) (hm : behindInMarks op b = false) : PE X (.Compare a [op] [b] pos) (tOp r ta tb) := by
 intro pins s σ H Q I h
 exact wpAny_Compare1 (binT ha hb I h fun v u s2 x y H2 I2 rx ry q => ho pins s2 σ H2 x y v u Q I2 rx ry q) hm
def ZnX (t : TE) : TT := fun σ H Q => t σ H fun x H' => ∃ k, x = .bl k /\ Q k H'
theorem ZaD {op : CmpOp} {r : R2} (ho : OpR X (compareOp op) r) (ha : PE X a ta) (hb : PE X b tb) (hm : behindInMarks op b = false) : PT X (.Compare a [op] [b] pos) (ZnX (tOp r ta tb)) := by
 intro pins s σ H Q I h
 refine wpAny_isTrue_Compare1 (thn (ha pins s σ H _ I h) fun v s1 ⟨x, H1, I1, r1, q1⟩ => thn (hb pins s1 σ H1 _ I1 q1) fun u s2 ⟨y, H2, I2, r2, q2⟩ =>
  thn (ho pins s2 σ H2 x y v u _ I2 r1 r2 q2) fun c s3 ⟨z, H3, I3, r3, k, e, q3⟩ => ?_) hm
 subst e
 cases r3
 exact wpAny_truthy_bool ⟨H3, I3, q3⟩
def ZlU (r r' : R2) (ta tb tc : TE) : TE := fun σ H Q => ta σ H fun x H1 => tb σ H1 fun y H2 => r x y H2 fun z H3 => ∃ k, z = .bl k /\
 (if k = true then tc σ H3 fun w' H4 => r' y w' H4 Q else Q (.bl false) H3)
theorem ZkZ {op op' : CmpOp} {r r' : R2} (ho : OpR X (compareOp op) r) (ho' : OpR X (compareOp op') r') (ha : PE X a ta) (hb : PE X b tb) (hc : PE X c tc)
 (hm : lastMarks [op, op'] [b, c] = false := by with_unfolding_all rfl) : PE X (.Compare a [op, op'] [b, c] pos) (ZlU r r' ta tb tc) := by
 intro pins s σ H Q I h
 refine Compare_chain (thn (ha pins s σ H _ I h) fun v s1 ⟨x, H1, I1, r1, q1⟩ => chain_link (thn (hb pins s1 σ H1 _ I1 q1) fun u s2 ⟨y, H2, I2, r2, q2⟩ =>
  thn (ho pins s2 σ H2 x y v u _ I2 r1 r2 q2) fun d s3 ⟨z, H3, I3, r3, k, e, q3⟩ => ?_)) hm
 subst e
 cases r3
 refine wpAny_truthy_bool ?_
 cases k with
 | false => exact ite_ff ⟨.bl false, H3, I3, rfl, q3⟩
 | true => exact ite_tt (chain_last (thn (hc pins s3 σ H3 _ I3 q3) fun w' s4 ⟨z', H4, I4, r4, q4⟩ => ho' pins s4 σ H4 y z' u w' Q I4 r2 r4 q4))
theorem Zhl : (sizeLine : Nat) < 2 ^ 63 := by rw [sizeLine_eq]; decide
theorem ZgQ {x : V} {us : List Value} (r : Vals [x] us) : ∃ u, us = [u] /\ RelV x u := by
 cases r with
 | cons r1 r2 => cases r2; exact ⟨_, rfl, r1⟩
theorem Zi9 {x y : V} {us : List Value} (r : Vals [x, y] us) : ∃ u w', us = [u, w'] /\ RelV x u /\ RelV y w' := by
 cases r with
 | cons r1 r2 =>
  cases r2 with
  | cons r3 r4 => cases r4; exact ⟨_, _, rfl, r1, r3⟩
theorem Zk0 : Zdq X (.builtin "abs") (fun xs H Q => ∃ i, xs = [.int i] /\ Q (.int (if i < 0 then -i else i)) H) := by
 intro pins s σ H xs us Q I r h
 obtain ⟨i, rfl, q⟩ := h
 obtain ⟨u, rfl, t, rfl⟩ := ZgQ r
 exact call_abs_int fun u tk => ⟨.int (if i < 0 then -i else i), H, I.tok _, ⟨_, rfl⟩, q⟩
theorem ZjN (hc : X.calm = true) : Zdq X (.builtin "min") (fun xs H Q => ∃ i j, xs = [.int i, .int j] /\ Q (.int (if j < i then j else i)) H) := by
 intro pins s σ H xs us Q I r h
 obtain ⟨i, j, rfl, q⟩ := h
 obtain ⟨u, w', rfl, ⟨t, rfl⟩, ⟨t', rfl⟩⟩ := Zi9 r
 refine min_two_ints (I.ok.hd hc) fun h' tk k => ⟨_, H, I.kept k, ?_, q⟩
 by_cases hj : j < i
 · rw [if_pos hj, if_pos hj]; exact ⟨_, rfl⟩
 · rw [if_neg hj, if_neg hj]; exact ⟨_, rfl⟩
theorem ZjO : Zdq X (.type "int") (fun xs H Q => (∃ i, xs = [.int i] /\ Q (.int i) H) \/ ∃ k, xs = [.bl k] /\ Q (.int (if k then 1 else 0)) H) := by
 intro pins s σ H xs us Q I r h
 rcases h with ⟨i, rfl, q⟩ | ⟨k, rfl, q⟩
 · obtain ⟨u, rfl, t, rfl⟩ := ZgQ r
   exact call_int_int ⟨.int i, H, I, ⟨_, rfl⟩, q⟩
 · obtain ⟨u, rfl, r1⟩ := ZgQ r
   cases r1
   exact call_int_bool ⟨.int (if k then 1 else 0), H, I.tok _, ⟨_, rfl⟩, q⟩
end
end L2
namespace L2
open PySem PySem.Spec PyProof.Rows
structure ObjM (h : Heap) (x dx C : Addr) (mA : Str -> Option Value) : Prop where
 obj : h.get? x = some (PySem.W.instObj C dx)
 ns : h.Ns1 dx mA
 ne : dx ≠ x
theorem ZjP {h : Heap} {dx : Addr} {mA : Str -> Option Value} (n : h.Ns1 dx mA) : ∃ od, h.get? dx = some od /\ ∀ name, PySem.W.lookIn name od = some (mA name) := by
 obtain ⟨o, es, ep, ho, hd, hk, _, hm⟩ := n
 refine ⟨o, ho, fun name => ?_⟩
 have e := hm name
 unfold nsFind findBy at e
 rw [<- Array.find?_toList] at e
 unfold PySem.W.lookIn
 rw [hd]
 dsimp only
 split
 · rename_i y q
   rw [q] at e
   exact congrArg some e
 · rename_i q
   rw [q] at e
   have a : es.toList.any (·.refKey) = false := by
    rw [List.any_eq_false]
    intro y hy
    obtain ⟨z, t, hkey⟩ := hk y (Array.mem_toList_iff.mp hy)
    simp [DictEntry.refKey, hkey]
   have a' : ¬ es.toList.any (·.refKey) = true := by rw [a]; exact Bool.false_ne_true
   rw [if_neg a']
   exact congrArg some e
theorem ObjM.look {h : Heap} {x dx C : Addr} {mA : Str -> Option Value} (I : ObjM h x dx C mA) : ∃ od, PySem.W.InstAt h x (PySem.W.instObj C dx) C (some od) /\ ∀ name, PySem.W.lookIn name od = some (mA name) :=
 let ⟨od, ho, hl⟩ := ZjP I.ns
 ⟨od, ⟨I.obj, rfl, rfl, ho⟩, hl⟩
section
variable {prog : Program} {w : World} {A : Around} {E : Value -> Shared -> Prop} {s : Shared} {K : PySem.W.Frag} {x dx C f : Addr} {mA : Str -> Option Value} {name : Str} {v : Value}
theorem Zmy {expr : Bool} {Q : Value -> Shared -> Prop} (X : K.In s.heap) (I : ObjM s.heap x dx C mA) (hg : PySem.W.plainGet K C name = true) (hh : PySem.W.hasDictIn K C = true)
 (ha : PySem.W.findIn K (.ref C) name = some none) (hv : mA name = some v) (hv' : PySem.W.handedIn v = true) (h : Q v { s with toks := s.toks + 1 }) :
 wpAny (model prog w) A (getAttr (.ref x) name expr) Q E s := by
 obtain ⟨od, J, hl⟩ := I.look
 exact PySem.W.get_value X J (PySem.W.plainGet_of hg).1 (PySem.W.findObj_own hh ha rfl (by rw [hl, hv])) hv' h
theorem Zk1 {pl : Sem Bool} {Q : Value × List Value -> Shared -> Prop} (X : K.In s.heap) (I : ObjM s.heap x dx C mA) (hg : PySem.W.plainGet K C name = true)
 (hf : PySem.W.findIn K (.ref C) name = some (some (.ref f))) (ht : PySem.W.isFn K (.ref f) = true) (hv : mA name = none) (h : Q (.ref f, [.ref x]) s) :
 wpAny (model prog w) A (getMethod (.ref x) name pl) Q E s := by
 obtain ⟨od, J, hl⟩ := I.look
 exact PySem.W.method_fn X J (PySem.W.plainGet_of hg).1 (PySem.W.plainGet_of hg).2 hf (beq_iff_eq.mp ht) (by show (PySem.W.lookIn name od).map (·.isSome) = some false; rw [hl, hv]; rfl) h
theorem Zmz {ns : List Str} {Q : Unit -> Shared -> Prop} (X : K.In s.heap) (I : ObjM s.heap x dx C mA)
 (hs : PySem.W.findIn K (.ref C) "__setattr__" = some (some (.builtin "object.__setattr__"))) (hp : PySem.W.plainOver K C = true) (ht : PySem.W.takerIn K C name = some none) (hh : PySem.W.hasDictIn K C = true)
 (hw : PySem.Within mA ns) (hsz : ns.length <= sizeLine)
 (h : ∀ h', ObjM h' x dx C (fun y => if y = name then some v else mA y) -> Heap.SameBut dx s.heap h' -> Q () { s with heap := h', toks := s.toks + 2 }) :
 wpAny (model prog w) A (setAttr (.ref x) name v) Q E s := by
 obtain ⟨od, J, hl⟩ := I.look
 refine PySem.W.set_plain X J hs (PySem.W.osa_open (s := { s with toks := s.toks + 1 }) (r := none) X J hp ht fun b => ?_)
 obtain ⟨cd, hc, hd'⟩ := PySem.W.any_some hh
 have hx : s.heap.get? x = some ⟨.ref C, some dx, .plain, #[]⟩ := I.obj
 refine wpAny_bind (wpAny_pure (wpAny_bind (wpAny_bind (wpAny_loadPart hx (wpAny_bind (PySem.W.Looks.here (s := { s with toks := s.toks + 1 }) (PySem.W.looks_clsIn X hc) ?_))))))
 rw [hd']
 refine wpAny_pure (a := some dx) (wpAny_bind (wpAny_pure (wpAny_bind ?_)))
 refine wpAny_nsSet1 (s := { s with toks := s.toks + 1 }) I.ns fun h' hn2 hs2 => ?_
 obtain ⟨oD, esD, epD, hoD, hdD, hcD⟩ := hn2.count (PySem.Within.cons name v hw)
 refine wpAny_bind (wpAny_lookBehind hoD (by rw [hdD]; exact pastItsLine_dict (Nat.le_trans hcD (by rw [List.length_cons]; omega))) ?_)
 exact wpAny_pure (h _ ⟨(hs2.2 _ (Ne.symm I.ne)).trans I.obj, hn2, I.ne⟩ hs2)
theorem Zk2 {R : Result -> Shared -> Prop} {vs : List Value} {kw : List (Str × Value)} (X : K.In s.heap) (hm : PySem.W.makesIn K C = true)
 (hi : PySem.W.findIn K (.ref C) "__init__" = some (some (.ref f))) (hf : PySem.W.typeIn K (.ref f) = some (.type "function"))
 (h : codeAny (model prog w) (A.under (.builtin "type.__call__" ⟨.ref C :: vs, kw⟩)) (.call (.ref f) ⟨.ref (s.heap.objs.size + 1) :: vs, kw⟩) (PySem.W.InitBack (s.heap.objs.size + 1) R)
   { s with heap := (s.heap.push PySem.W.emptyDict).push (PySem.W.instObj C s.heap.objs.size) }) :
 codeAny (model prog w) A (.call (.ref C) ⟨vs, kw⟩) R s := by
 obtain ⟨hh, g, d, t, os⟩ := s
 exact PySem.W.make_core (PySem.W.makes_of X hm) (PySem.W.looks_findIn X hi) (fun self => PySem.W.bind_fn X self hf) (.inl rfl) h
end
def putF (f : Str) (v : V) : List (Str × V) -> List (Str × V)
 | [] => [(f, v)]
 | (g, x) :: r => if g = f then (g, v) :: r else (g, x) :: putF f v r
theorem ZfN (f g : Str) (v : V) : ∀ fs : List (Str × V), (putF f v fs).lookup g = if g = f then some v else fs.lookup g
 | [] => by
  show List.lookup g [(f, v)] = _
  by_cases h : g = f
  · have hb : (g == f) = true := beq_iff_eq.mpr h
    simp only [List.lookup, hb, if_pos h]
  · have hb : (g == f) = false := beq_eq_false_iff_ne.mpr h
    simp only [List.lookup, hb, if_neg h]
 | (k, x) :: r => by
  have ih := ZfN f g v r
  rw [show putF f v ((k, x) :: r) = (if k = f then (k, v) :: r else (k, x) :: putF f v r) from rfl]
  by_cases hk : k = f
  · rw [if_pos hk]
    by_cases h : g = k
    · have hb : (g == k) = true := beq_iff_eq.mpr h
      simp only [List.lookup, hb, if_pos (h.trans hk)]
    · have hb : (g == k) = false := beq_eq_false_iff_ne.mpr h
      simp only [List.lookup, hb, if_neg (fun e : g = f => h (e.trans hk.symm))]
  · rw [if_neg hk]
    by_cases h : g = k
    · have hb : (g == k) = true := beq_iff_eq.mpr h
      simp only [List.lookup, hb, if_neg (fun e : g = f => hk (h.symm.trans e))]
    · have hb : (g == k) = false := beq_eq_false_iff_ne.mpr h
      simp only [List.lookup, hb]
      exact ih
theorem ZfO (f : Str) (v : V) : ∀ fs : List (Str × V), f ∈ (putF f v fs).map (·.1) /\ ∀ g, g ∈ fs.map (·.1) -> g ∈ (putF f v fs).map (·.1)
 | [] => ⟨by simp [putF], fun g h => by simp at h⟩
 | (k, x) :: r => by
  obtain ⟨i1, i2⟩ := ZfO f v r
  rw [show putF f v ((k, x) :: r) = (if k = f then (k, v) :: r else (k, x) :: putF f v r) from rfl]
  by_cases hk : k = f
  · rw [if_pos hk]
    subst hk
    exact ⟨by simp, fun g h => by simpa using h⟩
  · rw [if_neg hk]
    refine ⟨?_, fun g h => ?_⟩
    · rw [List.map_cons]
      exact List.mem_cons_of_mem _ i1
    · rw [List.map_cons] at h ⊢
      rcases List.mem_cons.mp h with e | e
      · exact List.mem_cons.mpr (.inl e)
      · exact List.mem_cons_of_mem _ (i2 g e)
theorem ZfP (f : Str) (v : V) : ∀ fs : List (Str × V), (putF f v fs).length <= fs.length + 1
 | [] => by simp [putF]
 | (k, x) :: r => by
  have ih := ZfP f v r
  rw [show putF f v ((k, x) :: r) = (if k = f then (k, v) :: r else (k, x) :: putF f v r) from rfl]
  by_cases hk : k = f
  · rw [if_pos hk, List.length_cons, List.length_cons]; omega
  · rw [if_neg hk, List.length_cons, List.length_cons]; omega
theorem RelO.some_of {v : V} {o : Option Value} (r : RelO (some v) o) : ∃ u, o = some u /\ RelV v u := by
 cases o with
 | none => exact (show False from r).elim
 | some u => exact ⟨u, rfl, r⟩
theorem RelO.none_of {o : Option Value} (r : RelO none o) : o = none := by
 cases o with
 | none => rfl
 | some u => exact (show False from r).elim
theorem ZjQ {v : V} {u : Value} (r : RelV v u) : PySem.W.handedIn u = true := by
 cases v with
 | non => cases (show u = Value.none from r); rfl
 | bl b => cases (show u = Value.bool b from r); rfl
 | int i => obtain ⟨t, e⟩ := (show ∃ t, u = Value.int i t from r); cases e; rfl
 | str x => obtain ⟨t, e⟩ := (show ∃ t, u = Value.str x t from r); cases e; rfl
 | byt b => obtain ⟨t, e⟩ := (show ∃ t, u = Value.bytes b t from r); cases e; rfl
 | flt b => obtain ⟨t, e⟩ := (show ∃ t, u = Value.float b t from r); cases e; rfl
 | ref a => cases (show u = Value.ref a from r); rfl
 | ty n => cases (show u = Value.type n from r); rfl
section
variable {P : Program} {w : World} {H H' : Hp} {h h' : Heap} {a C dx : Addr} {fs fs' : List (Str × V)}
theorem ZfQ (hok : HOk P w H h) (e : H a = some (.ins C dx fs)) : ∃ mA, ObjM h a dx C mA /\ (∀ f, RelO (fs.lookup f) (mA f)) /\ PySem.Within mA (fs.map (·.1)) /\ fs.length <= 1000 /\ H dx = some (.own a) := by
 obtain ⟨d, z, ne, ob, mA, n, r, q⟩ := (show ObjOk P w H h a (.ins C dx fs) from hok a _ e)
 exact ⟨mA, ⟨ob, n, ne⟩, r, q, z, d⟩
end
structure Cls (K : PySem.W.Frag) (C : Addr) : Prop where
 pg : PySem.W.plainGet K C Str.empty = true
 hd : PySem.W.hasDictIn K C = true
 po : PySem.W.plainOver K C = true
 sa : PySem.W.findIn K (.ref C) "__setattr__" = some (some (.builtin "object.__setattr__"))
theorem Cls.get {K : PySem.W.Frag} {C : Addr} (c : Cls K C) (f : Str) : PySem.W.plainGet K C f = true := c.pg
def NoAttr (K : PySem.W.Frag) (C : Addr) (f : Str) : Prop := PySem.W.findIn K (.ref C) f = some none
theorem NoAttr.taker {K : PySem.W.Frag} {C : Addr} {f : Str} (n : NoAttr K C f) : PySem.W.takerIn K C f = some none := by
 unfold PySem.W.takerIn
 rw [show PySem.W.findIn K (.ref C) f = some none from n]
 rfl
structure Con (K : PySem.W.Frag) (C : Addr) (f : Str) (v : V) (u : Value) : Prop where
 at_ : PySem.W.findIn K (.ref C) f = some (some u)
 rel : RelV v u
 get : PySem.W.specialIn K u "__get__" = some none
 cp : PySem.W.copiedNames.contains f = false
structure Meth (K : PySem.W.Frag) (C : Addr) (m : Str) (f : Addr) : Prop where
 at_ : PySem.W.findIn K (.ref C) m = some (some (.ref f))
 fn : PySem.W.isFn K (.ref f) = true
 kp : PySem.W.keepIn K (.ref f) = true
section
variable {X : Cx} {pins : List (Addr × Obj)} {σ : St} {H : Hp} {s : Shared} {a C dx : Addr} {fs : List (Str × V)} {f : Str} {v : V} {A : Around} {E : Value -> Shared -> Prop}
theorem Zja {b : Bool} {Q : Value -> Shared -> Prop} (I : Inv X pins σ H s) (e : H a = some (.ins C dx fs)) (c : Cls X.K C) (n : NoAttr X.K C f) (l : fs.lookup f = some v)
 (h : ∀ u s', Inv X pins σ H s' -> RelV v u -> Q u s') : wpAny (model X.prog X.w) A (getAttr (.ref a) f b) Q E s := by
 obtain ⟨mA, O, r, _, _, _⟩ := ZfQ I.hok e
 obtain ⟨u, hu, ru⟩ := RelO.some_of (v := v) (o := mA f) (by rw [<- l]; exact r f)
 exact Zmy I.kIn O (c.get f) c.hd n hu (ZjQ ru) (h u _ (I.tok _) ru)
theorem Zgv {m : Str} {g : Addr} {pl : Sem Bool} {Q : Value × List Value -> Shared -> Prop} (I : Inv X pins σ H s) (e : H a = some (.ins C dx fs)) (c : Cls X.K C) (k : Meth X.K C m g) (l : fs.lookup m = none)
 (h : Q (.ref g, [.ref a]) s) : wpAny (model X.prog X.w) A (getMethod (.ref a) m pl) Q E s := by
 obtain ⟨mA, O, r, _, _, _⟩ := ZfQ I.hok e
 have hn : mA m = none := RelO.none_of (by rw [<- l]; exact r m)
 exact Zk1 I.kIn O (c.get m) k.at_ k.fn hn h
theorem Zjb {y : V} {u : Value} {Q : Unit -> Shared -> Prop} (I : Inv X pins σ H s) (e : H a = some (.ins C dx fs)) (c : Cls X.K C) (n : NoAttr X.K C f) (hl : fs.length < 1000) (ry : RelV y u)
 (h : ∀ s', Inv X pins σ (upd H a (.ins C dx (putF f y fs))) s' -> Q () s') : wpAny (model X.prog X.w) A (setAttr (.ref a) f u) Q E s := by
 obtain ⟨mA, O, r, wi, _, ho⟩ := ZfQ I.hok e
 have hz : (fs.map (·.1)).length <= sizeLine := by rw [List.length_map, sizeLine_eq]; omega
 refine Zmz I.kIn O c.sa c.po n.taker c.hd wi hz fun h' O' sb => h _ ?_
 have hd : ∃ o, h'.get? dx = some o := let ⟨o, _, _, e', _⟩ := O'.ns; ⟨o, e'⟩
 refine I.write (x := a) (e := dx) (by rw [e]; exact True.intro) (.inr ho) (fun b q hb z => (sb.2 b hb).trans z) hd ?_
 refine ⟨by rw [Zap O.ne]; exact ho, ?_, O.ne, O'.obj, _, O'.ns, fun g => ?_, fun g hg => ?_⟩
 · have := ZfP f y fs; omega
 · show RelO ((putF f y fs).lookup g) (if g = f then some u else mA g)
   rw [ZfN]
   by_cases q : g = f
   · rw [if_pos q, if_pos q]; exact ry
   · rw [if_neg q, if_neg q]; exact r g
 · by_cases q : g = f
   · rw [q]; exact (ZfO f y fs).1
   · refine (ZfO f y fs).2 g (wi g fun z => hg ?_)
     show (if g = f then some u else mA g) = none
     rw [if_neg q]; exact z
theorem Inv.made (I : Inv X pins σ H s) : Inv X pins σ (upd (upd H s.heap.objs.size (.own (s.heap.objs.size + 1))) (s.heap.objs.size + 1) (.ins C s.heap.objs.size []))
 { s with heap := (s.heap.push PySem.W.emptyDict).push (PySem.W.instObj C s.heap.objs.size) } := by
 have e1 : (s.heap.push PySem.W.emptyDict).get? s.heap.objs.size = some PySem.W.emptyDict := Heap.get?_push_size s.heap rfl
 have e2 : ((s.heap.push PySem.W.emptyDict).push (PySem.W.instObj C s.heap.objs.size)).get? (s.heap.objs.size + 1) = some (PySem.W.instObj C s.heap.objs.size) := by
  have := Heap.get?_push_size (s.heap.push PySem.W.emptyDict) (o := PySem.W.instObj C s.heap.objs.size) rfl
  rwa [Heap.size_push] at this
 have e3 : (s.heap.push PySem.W.emptyDict).Ns s.heap.objs.size (fun _ => none) := ⟨PySem.W.emptyDict, #[], _, e1, rfl, (fun e he => absurd he (by simp)), fun _ => rfl⟩
 have I1 := I.laid (a := s.heap.objs.size) (o := .own (s.heap.objs.size + 1)) (h' := s.heap.push PySem.W.emptyDict) (t' := s.toks) (fun b u q => Heap.get?_push_of_some _ q) (Nat.le_refl _) ⟨_, e1⟩
 refine I1.laid (a := s.heap.objs.size + 1) (o := .ins C s.heap.objs.size []) (t' := s.toks) (fun b u q => Heap.get?_push_of_some _ q) (Nat.le_of_eq (Heap.size_push _ _)) ?_
 have ne : s.heap.objs.size ≠ s.heap.objs.size + 1 := Nat.ne_of_lt (Nat.lt_succ_self _)
 refine ⟨by rw [Zap ne, ZaG], Nat.zero_le _, ne, e2, fun _ => none, (Heap.Ns1.of_empty e3).at fun o q => Heap.get?_push_of_some _ q, fun _ => True.intro, fun y hy => absurd rfl hy⟩
theorem ZmA {prog : Program} {w : World} {env : Env} {e : Expr} {f : Str} {pos : Pos} {s : Shared} {Q : Value -> Shared -> Prop} (hb : attributeBase e f env (eval e env) = eval e env)
 (h : wpAny (model prog w) A (eval e env) (fun o s₁ => wpAny (model prog w) A (getAttr o f true) Q E s₁) E s) : wpAny (model prog w) A (eval (.Attribute e f pos) env) Q E s :=
 Attribute_any_ h (by rw [arm_eval_Attribute, hb])
end
def tFld (K : PySem.W.Frag) (ta : TE) (f : Str) : TE := fun σ H Q => ta σ H fun x H1 => ∃ a C dx fs v, x = .ref a /\ H1 a = some (.ins C dx fs) /\ Cls K C /\ NoAttr K C f /\ fs.lookup f = some v /\ Q v H1
def sFld (K : PySem.W.Frag) (ta tv : TE) (f : Str) : TS := fun D σ H => tv σ H fun y H1 => ta σ H1 fun x H2 => ∃ a C dx fs, x = .ref a /\ H2 a = some (.ins C dx fs) /\ Cls K C /\ NoAttr K C f /\ fs.length < 1000 /\
 D.nx σ (upd H2 a (.ins C dx (putF f y fs)))
section
variable {X : Cx} {o e value : Expr} {f : Str} {pos pos' tpos : Pos} {ta tv : TE}
theorem ZnY (he : PE X e ta) (hb : attributeBase e f X.env (eval e X.env) = eval e X.env) : PE X (.Attribute e f pos) (tFld X.K ta f) := by
 intro pins s σ H Q I h
 refine ZmA hb (thn (he pins s σ H _ I h) fun u s1 ⟨x, H1, I1, rx, a, C, dx, fs, v, ex, ea, c, n, l, q⟩ => ?_)
 subst ex
 obtain rfl : u = Value.ref a := rx
 exact Zja I1 ea c n l fun u' s2 I2 ru => ⟨v, H1, I2, ru, q⟩
theorem ZnZ (ha : PE X o ta) (hv : PE X value tv) (hs : swapsWith value (some (.Attribute o f pos')) pos.line X.env = pure false) : PS X (.Assign [.Attribute o f pos'] value pos) (sFld X.K ta tv f) := by
 intro pins s σ H D I h
 refine plainObj_wpAny_Assign_Attribute (thn (hv pins s σ H _ I h) fun u s1 ⟨y, H1, I1, ry, q⟩ => thn (ha pins s1 σ H1 _ I1 q) fun ov s2 ⟨x, H2, I2, rx, a, C, dx, fs, ex, ea, c, n, l, q2⟩ => ?_) hs
 subst ex
 obtain rfl : ov = Value.ref a := rx
 exact Zjb I2 ea c n l ry fun s3 I3 => ⟨σ, _, I3, q2⟩
end
section
variable {X : Cx} {pins : List (Addr × Obj)} {σ : St} {H : Hp} {s : Shared} {A : Around} {E : Value -> Shared -> Prop} {Q : Value -> Shared -> Prop} {c : Value} {b : Bool}
inductive TyOf (K : PySem.W.Frag) (H : Hp) : V -> Value -> Prop where
 | non : TyOf K H .non (.type "NoneType")
 | bl (x : Bool) : TyOf K H (.bl x) (.type "bool")
 | int (i : Int) : TyOf K H (.int i) (.type "int")
 | str (x : Str) : TyOf K H (.str x) (.type "str")
 | flt (x : UInt64) : TyOf K H (.flt x) (.type "float")
 | lst {a : Addr} {xs : List V} (e : H a = some (.lst xs)) : TyOf K H (.ref a) (.type "list")
 | frz {a : Addr} {o : Obj} {xs : List V} (e : H a = some (.frz o (.lst xs))) : TyOf K H (.ref a) (.type "list")
 | tup {a : Addr} {xs : List V} (e : H a = some (.tup xs)) : TyOf K H (.ref a) (.type "tuple")
 | dK {a : Addr} {kvs : List (Key × V)} (e : H a = some (.dK kvs)) : TyOf K H (.ref a) (.type "dict")
 | dT {a : Addr} {kvs : List (List Key × V)} (e : H a = some (.dT kvs)) : TyOf K H (.ref a) (.type "dict")
 | ins {a C dx : Addr} {fs : List (Str × V)} (e : H a = some (.ins C dx fs)) (cl : Cls K C) (ha : PySem.W.findIn K (.ref C) "__class__" = some (some (.builtin "object.__class__")))
  (hn : PySem.W.specialIn K (.builtin "object.__class__") "__get__" = some (some (.builtin "getset_descriptor.__get__"))) (htk : PySem.W.takesIn K (.builtin "object.__class__") = some true)
  (hm : PySem.W.mroIn K C (.type "object") = some true) : TyOf K H (.ref a) (.ref C)
theorem ZjR {x : V} {u t : Value} (I : Inv X pins σ H s) (rx : RelV x u) (ty : TyOf X.K H x t) (e : PySem.W.kitOne X.K t c = some b) (h : ∀ tk, Q (.bool b) { s with toks := tk }) :
 wpAny (model X.prog X.w) A (call (.builtin "isinstance") [u, c]) Q E s := by
 cases ty with
 | non => cases (show u = Value.none from rx); exact PySem.W.kia_one PySem.W.kitx_none I.kIn True.intro e (fun z => nomatch z) h
 | bl y => cases (show u = Value.bool y from rx); exact PySem.W.kia_one PySem.W.kitx_bool I.kIn True.intro e (fun z => nomatch z) h
 | int i => obtain ⟨t, q⟩ := (show ∃ t, u = Value.int i t from rx); cases q; exact PySem.W.kia_one PySem.W.kitx_int I.kIn True.intro e (fun z => nomatch z) h
 | str y => obtain ⟨t, q⟩ := (show ∃ t, u = Value.str y t from rx); cases q; exact PySem.W.kia_one PySem.W.kitx_str I.kIn True.intro e (fun z => nomatch z) h
 | flt y => obtain ⟨t, q⟩ := (show ∃ t, u = Value.float y t from rx); cases q; exact PySem.W.kia_one PySem.W.kitx_float I.kIn True.intro e (fun z => nomatch z) h
 | @lst a xs ea =>
  cases (show u = Value.ref a from rx)
  obtain ⟨_, _, n, _, h1⟩ := (show ObjOk X.prog X.w H s.heap a (.lst xs) from I.hok a _ ea)
  exact PySem.W.kia_one PySem.W.kitx_list I.kIn ⟨_, h1, rfl⟩ e (fun z => nomatch z) h
 | @frz a ob xs ea =>
  cases (show u = Value.ref a from rx)
  obtain ⟨_, _, _, n, _, h1⟩ := (show ObjOk X.prog X.w H s.heap a (.frz ob (.lst xs)) from I.hok a _ ea)
  exact PySem.W.kia_one PySem.W.kitx_list I.kIn ⟨_, h1, rfl⟩ e (fun z => nomatch z) h
 | @tup a xs ea =>
  cases (show u = Value.ref a from rx)
  obtain ⟨_, _, _, p⟩ := (show ObjOk X.prog X.w H s.heap a (.tup xs) from I.hok a _ ea)
  obtain ⟨o, h1, h2, _⟩ := p
  exact PySem.W.kia_one PySem.W.kitx_tuple I.kIn ⟨o, h1, h2⟩ e (fun z => nomatch z) h
 | @dK a kvs ea =>
  cases (show u = Value.ref a from rx)
  obtain ⟨_, _, vs, _, p⟩ := (show ObjOk X.prog X.w H s.heap a (.dK kvs) from I.hok a _ ea)
  obtain ⟨o, es, ep, h1, h2, _⟩ := p
  exact PySem.W.kia_one PySem.W.kitx_dict I.kIn ⟨o, h1, h2.1⟩ e (fun z => nomatch z) h
 | @dT a kvs ea =>
  cases (show u = Value.ref a from rx)
  obtain ⟨_, _, xs, _, o, es, ep, h1, h2, _⟩ := (show ObjOk X.prog X.w H s.heap a (.dT kvs) from I.hok a _ ea)
  exact PySem.W.kia_one PySem.W.kitx_dict I.kIn ⟨o, h1, h2.1⟩ e (fun z => nomatch z) h
 | @ins a C dx fs ea cl ha hn htk hm =>
  cases (show u = Value.ref a from rx)
  obtain ⟨mA, O, _⟩ := ZfQ I.hok ea
  obtain ⟨od, J, _⟩ := O.look
  exact PySem.W.kia_one (PySem.W.kitx_own (cl.get _) cl.hd ha hn htk hm) I.kIn J e (fun z => nomatch z) h
end
end L2
namespace L2
open PySem PySem.Spec PyProof.Rows
structure Room (k : Nat) (A : Around) : Prop where
 hd : A.handled = none
 dp : A.depth + 3 * k + 5 < recursionLimit
 un : A.units + 16 * k + 200 < cLine
theorem Room.mono {j k : Nat} {A : Around} (r : Room k A) (h : j <= k) : Room j A := ⟨r.hd, by have := r.dp; omega, by have := r.un; omega⟩
theorem Room.deeper {k : Nat} {A : Around} (r : Room (k + 1) A) (env : Env) : Room k (A.deeper env) :=
 ⟨r.hd, by have := r.dp; show A.depth + 1 + 3 * k + 5 < _; omega, by have := r.un; show A.units + 3 + 16 * k + 200 < _; omega⟩
theorem Zjc {A : Around} {C : Addr} {us : List Value} {kw : List (Str × Value)} : (A.under (.builtin "type.__call__" ⟨.ref C :: us, kw⟩)).depth = A.depth + 1 := by
 first | rfl | simp [Around.under, Code.weight, Code.isCreation, Code.isGuard, Code.isCaller, Code.frames, Code.isFrame, guardIds]
theorem Zjd {A : Around} {C : Addr} {us : List Value} {kw : List (Str × Value)} : (A.under (.builtin "type.__call__" ⟨.ref C :: us, kw⟩)).units = A.units + 1 := by
 first | rfl | simp [Around.under, Code.cUnits, Code.frames, Code.isFrame]
theorem Room.make {k : Nat} {A : Around} (r : Room (k + 1) A) (C : Addr) (us : List Value) (kw : List (Str × Value)) : Room k (A.under (.builtin "type.__call__" ⟨.ref C :: us, kw⟩)) :=
 ⟨r.hd, by have := r.dp; rw [Zjc]; omega, by have := r.un; rw [Zjd]; omega⟩
theorem Room.depth {k : Nat} {A : Around} (r : Room k A) : A.depth < recursionLimit := by have := r.dp; omega
theorem Room.units {k : Nat} {A : Around} (r : Room k A) : A.units + 64 < cLine := by have := r.un; omega
def tNil : TA := fun _ H Q => Q [] H
def Zcy (ta : TE) (tr : TA) : TA := fun σ H Q => ta σ H fun x H1 => tr σ H1 fun xs H2 => Q (x :: xs) H2
section
variable {X : Cx} {e : Expr} {es : List Expr} {te : TE} {t : TA} {pos : Pos}
theorem Zae : PA X [] tNil := fun _ _ _ _ H Q I h => Calls.spliced_nil ⟨[], H, I, .nil, h⟩
theorem Zaa (ha : PE X e te) (hr : PA X es t) (hs : starEach (e :: es) X.env = (false, eval e X.env) :: starEach es X.env := by rfl) : PA X (e :: es) (Zcy te t) := by
 intro pos pins s σ H Q I h
 rw [hs]
 show wpAny _ _ (spliced ((false, eval e X.env) :: backTo pos (starEach es X.env))) _ _ s
 refine Calls.spliced_cons (thn (ha pins s σ H _ I h) fun u s1 ⟨x, H1, I1, r1, q1⟩ => ?_)
 exact thn (hr pos pins s1 σ H1 _ I1 q1) fun us s2 ⟨xs, H2, I2, r2, q2⟩ => ⟨x :: xs, H2, I2, .cons r1 r2, q2⟩
def tTup (t : TA) : TE := fun σ H Q => t σ H fun xs H1 => xs.length <= sizeLine /\ ∀ p, H1 p = none -> Q (.ref p) (upd H1 p (.tup xs))
def tLst (t : TA) : TE := fun σ H Q => t σ H fun xs H1 => xs.length <= sizeLine /\ ∀ p, H1 p = none -> Q (.ref p) (upd H1 p (.lst xs))
theorem Zey {x1} (h : PA X es t) : PE X (.Tuple es x1 pos) (tTup t) := by
 intro pins s σ H Q I hq
 refine wpAny_Tuple_spliced (thn (h pos pins s σ H _ I hq) fun us s1 ⟨xs, H1, I1, r, z, q⟩ => ⟨by rw [<- r.length]; exact z, ?_⟩)
 have hf : H1 s1.heap.objs.size = none := I1.hok.fresh (Nat.le_refl _)
 refine ⟨.ref s1.heap.objs.size, upd H1 s1.heap.objs.size (.tup xs), I1.laid (t' := s1.toks) (fun b u e => Heap.get?_push_of_some _ e) (Nat.le_refl _) ?_, rfl, q _ hf⟩
 exact ⟨z, us, r, ⟨_, Heap.get?_push_size _ rfl, rfl, _, rfl⟩⟩
theorem ZaI (h : PA X es t) : PE X (.List es pos) (tLst t) := by
 intro pins s σ H Q I hq
 refine wpAny_List_spliced (thn (h pos pins s σ H _ I hq) fun us s1 ⟨xs, H1, I1, r, z, q⟩ => ⟨by rw [<- r.length]; exact z, ?_⟩)
 have hf : H1 s1.heap.objs.size = none := I1.hok.fresh (Nat.le_refl _)
 refine ⟨.ref s1.heap.objs.size, upd H1 s1.heap.objs.size (.lst xs), I1.laid (t' := s1.toks) (fun b u e => Heap.get?_push_of_some _ e) (Nat.le_refl _) ?_, rfl, q _ hf⟩
 exact ⟨z, us, 0, r, Heap.get?_push_size _ rfl⟩
end
abbrev Sp := List V -> Hp -> VK -> XK -> Prop
abbrev CXT := List Env -> Hp -> Shared -> XK -> Value -> Shared -> Prop
structure Env0 (P : Program) (w : World) (K : PySem.W.Frag) (mg : Str -> Option Value) (base : Heap) (A : Around) (outer : List Env) (s : Shared) (H : Hp) : Prop where
 frames : A.frames = some outer
 mod : Mod K mg base
 bs : ∀ b o, base.get? b = some o -> s.heap.get? b = some o /\ H b = none
 bsz : base.objs.size <= s.heap.objs.size
 funs : s.heap.FunFrames base outer
 frf : ∀ b ∈ frs outer, H b = none
 hok : HOk P w H s.heap
 bare : AllBare s.gens
def CE (outer : List Env) (P : Program) (w : World) (H : Hp) (s : Shared) (Q : VK) (u : Value) (s' : Shared) : Prop :=
 ∃ v H', s'.os = s.os /\ AllBare s'.gens /\ Un (frs outer) [] H H' s.heap s'.heap /\ HOk P w H' s'.heap /\ RelV v u /\ Q v H'
def CR (CX : CXT) (outer : List Env) (P : Program) (w : World) (H : Hp) (s : Shared) (Q : VK) (E : XK) (r : Result) (s' : Shared) : Prop :=
 match r with
 | .ok (.ret u) => CE outer P w H s Q u s'
 | .ok _ => False
 | .error e => CX outer H s E e s'
structure FnOk (P : Program) (w : World) (K : PySem.W.Frag) (mg : Str -> Option Value) (base : Heap) (CX : CXT) (k : Nat) (f : Addr) (fd : FuncData) (ps : List Str) (sp : Sp) : Prop where
 len : ∀ vs H Q E, sp vs H Q E -> vs.length = ps.length
 run : ∀ (A : Around) (outer : List Env) (s : Shared) (H : Hp) (args : Args) (us : List Value) (vs : List V) (Q : VK) (E : XK), Room k A -> Env0 P w K mg base A outer s H -> BindsTo s fd args (ps.zip us) -> Vals vs us -> sp vs H Q E ->
  codeAny (model P w) A (.call (.ref f) args) (CR CX outer P w H s Q E) s
theorem FnOk.imp {P : Program} {w : World} {K : PySem.W.Frag} {mg : Str -> Option Value} {base : Heap} {CX : CXT} {k : Nat} {f : Addr} {fd : FuncData} {ps : List Str} {sp sp' : Sp} (F : FnOk P w K mg base CX k f fd ps sp)
 (h : ∀ vs H Q E, sp' vs H Q E -> sp vs H Q E) : FnOk P w K mg base CX k f fd ps sp' :=
 ⟨fun vs H Q E q => F.len vs H Q E (h _ _ _ _ q), fun A outer s H args us vs Q E hr he hb hv hs => F.run A outer s H args us vs Q E hr he hb hv (h _ _ _ _ hs)⟩
theorem Env0.make {P : Program} {w : World} {K : PySem.W.Frag} {mg : Str -> Option Value} {base : Heap} {A : Around} {outer : List Env} {s : Shared} {H : Hp} (e : Env0 P w K mg base A outer s H) (C : Addr) (us : List Value) (kw : List (Str × Value)) :
 Env0 P w K mg base (A.under (.builtin "type.__call__" ⟨.ref C :: us, kw⟩)) outer s H := ⟨by first | exact e.frames | (simpa [Around.under, Code.envs, Code.isFrame, pushEnvs] using e.frames), e.mod, e.bs, e.bsz, e.funs, e.frf, e.hok, e.bare⟩
section
variable {X : Cx} {pins : List (Addr × Obj)} {σ : St} {H : Hp} {s s' : Shared}
theorem Inv.env0 (I : Inv X pins σ H s) : Env0 X.prog X.w X.K X.mg X.base X.A X.stack s H :=
 ⟨I.ok.frames, I.ok.mod, I.bs, Nat.le_trans I.ok.bsz I.sz, I.stack, I.stkFree, I.hok, I.bare⟩
theorem Inv.after {Q : VK} {u : Value} (I : Inv X pins σ H s) (h : CE X.stack X.prog X.w H s Q u s') : EP X pins σ Q u s' := by
 obtain ⟨v, H', os, bare, un, hok, r, q⟩ := h
 obtain ⟨hh, g, d, t, os'⟩ := s'
 obtain rfl : os' = s.os := os
 exact ⟨v, H', I.call (h' := hh) (g' := g) (d' := d) (t' := t) (ch := []) un hok bare (fun b z => absurd z (by simp)), r, q⟩
end
def Zh2 (sp : Sp) (dvs : List V) (E : XK) (t : TA) : TE := fun σ H Q => t σ H fun vs H1 => sp (vs ++ dvs) H1 Q E
def Zh3 (C : Addr) (m : Str) (sp : Sp) (dvs : List V) (E : XK) (ta : TE) (t : TA) : TE := fun σ H Q => ta σ H fun x H1 => ∃ a dx fs, x = .ref a /\ H1 a = some (.ins C dx fs) /\ fs.lookup m = none /\
 t σ H1 fun vs H2 => sp (x :: (vs ++ dvs)) H2 Q E
def ZjS (C : Addr) (sp : Sp) (dvs : List V) (E : XK) (t : TA) : TE := fun σ H Q => t σ H fun vs H1 => ∀ x dx, H1 x = none -> H1 dx = none -> dx ≠ x ->
 sp (.ref x :: (vs ++ dvs)) (upd (upd H1 dx (.own x)) x (.ins C dx [])) (fun v H2 => v = .non /\ Q (.ref x) H2) E
def Binds (K : PySem.W.Frag) (fd : FuncData) (ps : List Str) (ds : List Value) : Prop :=
 ∀ (s : Shared) (us : List Value), K.In s.heap -> (us ++ ds).length = ps.length -> BindsTo s fd ⟨us, []⟩ (ps.zip (us ++ ds))
theorem Binds.all {K : PySem.W.Frag} {fd : FuncData} {ps : List Str} (h : ∀ us : List Value, us.length = ps.length -> bindArgs fd ⟨us, []⟩ = pure (ps.zip us)) : Binds K fd ps [] := fun s us _ hl => by
 rw [List.append_nil] at hl ⊢
 exact .of_eq (h us hl)
def ZcH (CX : CXT) (X : Cx) (E : XK) : Prop := ∀ (pins : List (Addr × Obj)) (σ : St) (H : Hp) (s : Shared) (e : Value) (s' : Shared), Inv X pins σ H s -> CX X.stack H s E e s' -> X.xe e s'
section
variable {X : Cx} {CX : CXT} {k : Nat} {f C : Addr} {fd : FuncData} {ps : List Str} {sp : Sp} {dvs : List V} {ds : List Value} {E : XK} {x m : Str} {p pos apos : Pos} {e o : Expr} {es : List Expr} {ta : TE} {t : TA}
theorem Zix {pins : List (Addr × Obj)} {σ : St} {H : Hp} {s : Shared} {Q : VK} {us : List Value} {vs : List V} (F : FnOk X.prog X.w X.K X.mg X.base CX k f fd ps sp) (hr : Room k X.A) (hb : Binds X.K fd ps ds) (hd : Vals dvs ds) (hx : ZcH CX X E)
 (I : Inv X pins σ H s) (r : Vals vs us) (h : sp (vs ++ dvs) H Q E) : wpAny (model X.prog X.w) X.A (call (.ref f) us) (EP X pins σ Q) X.xe s := by
 have r2 : Vals (vs ++ dvs) (us ++ ds) := r.append hd
 have hl : (us ++ ds).length = ps.length := by rw [<- r2.length]; exact F.len _ _ _ _ h
 refine wpAny_call (codeAny_mono (F.run X.A X.stack s H ⟨us, []⟩ (us ++ ds) (vs ++ dvs) Q E hr I.env0 (hb s us I.kIn hl) r2 h) fun r s' hq => ?_)
 cases r with
 | error e => exact hx pins σ H s e s' I hq
 | ok fl =>
  cases fl with
  | ret u => exact I.after hq
  | next => exact False.elim hq
  | brk => exact False.elim hq
  | cont => exact False.elim hq
theorem ZmB (F : FnOk X.prog X.w X.K X.mg X.base CX k f fd ps sp) (hr : Room k X.A) (hg : Gl X x) (hm : X.mg x = some (.ref f)) (hk : PySem.W.keepIn X.K (.ref f) = true) (hb : Binds X.K fd ps ds) (hd : Vals dvs ds) (hx : ZcH CX X E)
 (ha : PA X (e :: es) t) (hdb : (x == ("__debug__" : Str)) = false := by decide) (he : starEach (e :: es) X.env = (false, eval e X.env) :: starEach es X.env := by rfl) (hpl : (backTo pos (starEach es X.env)).any (·.1) = false := by rfl) :
 PE X (.Call (.Name x p) (e :: es) [] pos) (Zh2 sp dvs E t) := by
 intro pins s σ H Q I h
 refine wpAny_Call_Name_kw (Zd4 I hg hm ?_ hdb)
 refine PySem.W.callWith_K (h₀ := X.base) I.ok.mod.kin hk (thn (ha pos pins s σ H _ I h) fun us s1 ⟨vs, H1, I1, r, q⟩ => ⟨I1.kIn, ?_⟩) he hpl
 exact Zix F hr hb hd hx I1 r q
theorem Zk3 (F : FnOk X.prog X.w X.K X.mg X.base CX k f fd ps sp) (hr : Room k X.A) (hg : Gl X x) (hm : X.mg x = some (.ref f)) (hk : PySem.W.keepIn X.K (.ref f) = true) (hb : Binds X.K fd ps ds) (hd : Vals dvs ds) (hx : ZcH CX X E)
 (hdb : (x == ("__debug__" : Str)) = false := by decide) : PE X (.Call (.Name x p) [] [] pos) (Zh2 sp dvs E tNil) := by
 intro pins s σ H Q I h
 refine wpAny_Call_Name_kw (Zd4 I hg hm ?_ hdb)
 exact PySem.W.callWith_K0 I.kIn hk (Zix (us := []) F hr hb hd hx I .nil h)
theorem ZmC {pl : Sem Bool} (he : PE X o ta) (c : Cls X.K C) (hm : Meth X.K C m f) (F : FnOk X.prog X.w X.K X.mg X.base CX k f fd ps sp) (hr : Room k X.A) (hb : Binds X.K fd ps ds) (hd : Vals dvs ds) (hx : ZcH CX X E) (ha : PA X (e :: es) t)
 (hst : starEach (e :: es) X.env = (false, eval e X.env) :: starEach es X.env := by rfl) (hpl : (backTo pos (starEach es X.env)).any (·.1) = false := by rfl)
 (ht : eval (.Call (.Attribute o m apos) (e :: es) [] pos) X.env = (do
   let ov <- eval o X.env
   standAt apos.atName
   let (f, first) <- holding [ov] (getMethod ov m pl)
   callWith pos f first (backTo pos (starEach (e :: es) X.env)) (backToKw pos (keywordEach [] X.env))) := by rfl) :
 PE X (.Call (.Attribute o m apos) (e :: es) [] pos) (Zh3 C m sp dvs E ta t) := by
 intro pins s σ H Q I h
 refine PySem.W.methodCall_KW (pl := pl) (thn (he pins s σ H _ I h) fun u s1 ⟨x, H1, I1, rx, a, dx, fs, ex, ea, l, q⟩ => ?_) ht
 subst ex
 obtain rfl : u = Value.ref a := rx
 refine Zgv I1 ea c hm l ?_
 refine PySem.W.callWith_K (first := [.ref a]) (h₀ := X.base) I.ok.mod.kin hm.kp (thn (ha pos pins s1 σ H1 _ I1 q) fun us s2 ⟨vs, H2, I2, r, q2⟩ => ⟨I2.kIn, ?_⟩) hst hpl
 exact Zix (us := .ref a :: us) (vs := .ref a :: vs) F hr hb hd hx I2 (.cons rfl r) q2
theorem Ziy {pl : Sem Bool} (he : PE X o ta) (c : Cls X.K C) (hm : Meth X.K C m f) (F : FnOk X.prog X.w X.K X.mg X.base CX k f fd ps sp) (hr : Room k X.A) (hb : Binds X.K fd ps ds) (hd : Vals dvs ds) (hx : ZcH CX X E)
 (ht : eval (.Call (.Attribute o m apos) [] [] pos) X.env = (do
   let ov <- eval o X.env
   standAt apos.atName
   let (f, first) <- holding [ov] (getMethod ov m pl)
   callWith pos f first (backTo pos (starEach [] X.env)) (backToKw pos (keywordEach [] X.env))) := by rfl) :
 PE X (.Call (.Attribute o m apos) [] [] pos) (Zh3 C m sp dvs E ta tNil) := by
 intro pins s σ H Q I h
 refine PySem.W.methodCall_KW (pl := pl) (thn (he pins s σ H _ I h) fun u s1 ⟨x, H1, I1, rx, a, dx, fs, ex, ea, l, q⟩ => ?_) ht
 subst ex
 obtain rfl : u = Value.ref a := rx
 refine Zgv I1 ea c hm l ?_
 exact PySem.W.callWith_K0 (first := [.ref a]) I1.kIn hm.kp (Zix (us := [.ref a]) (vs := [.ref a]) F hr hb hd hx I1 (.cons rfl .nil) q)
structure Mk (K : PySem.W.Frag) (C f : Addr) : Prop where
 makes : PySem.W.makesIn K C = true
 init : PySem.W.findIn K (.ref C) "__init__" = some (some (.ref f))
 fn : PySem.W.isFn K (.ref f) = true
 kp : PySem.W.keepIn K (.ref C) = true
theorem Ziz {pins : List (Addr × Obj)} {σ : St} {H : Hp} {s : Shared} {Q : VK} {us : List Value} {vs : List V} (M : Mk X.K C f) (F : FnOk X.prog X.w X.K X.mg X.base CX k f fd ps sp) (hr : Room (k + 1) X.A) (hb : Binds X.K fd ps ds) (hd : Vals dvs ds)
 (hx : ZcH CX X E) (I : Inv X pins σ H s) (r : Vals vs us)
 (h : ∀ x dx, H x = none -> H dx = none -> dx ≠ x -> sp (.ref x :: (vs ++ dvs)) (upd (upd H dx (.own x)) x (.ins C dx [])) (fun v H2 => v = .non /\ Q (.ref x) H2) E) :
 wpAny (model X.prog X.w) X.A (call (.ref C) us) (EP X pins σ Q) X.xe s := by
 have hq := h (s.heap.objs.size + 1) s.heap.objs.size (I.hok.fresh (Nat.le_succ _)) (I.hok.fresh (Nat.le_refl _)) (Nat.ne_of_lt (Nat.lt_succ_self _))
 have I2 := Inv.made (C := C) I
 have r2 : Vals (V.ref (s.heap.objs.size + 1) :: (vs ++ dvs)) (Value.ref (s.heap.objs.size + 1) :: (us ++ ds)) := .cons rfl (r.append hd)
 have hl : (Value.ref (s.heap.objs.size + 1) :: us ++ ds).length = ps.length := by
  have e := r2.length
  rw [F.len _ _ _ _ hq] at e
  exact e.symm
 refine wpAny_call (Zk2 (f := f) I.kIn M.makes M.init (beq_iff_eq.mp M.fn) (codeAny_mono (F.run _ X.stack _ _ ⟨Value.ref (s.heap.objs.size + 1) :: us, []⟩ (Value.ref (s.heap.objs.size + 1) :: (us ++ ds)) _ _ E (hr.make C us [])
  (I2.env0.make C us []) (hb _ (Value.ref (s.heap.objs.size + 1) :: us) I2.kIn hl) r2 hq) fun r s' hq' => ?_))
 cases r with
 | error e => exact hx pins σ _ _ e s' I2 hq'
 | ok fl =>
  cases fl with
  | ret u =>
   obtain ⟨v, H', I3, rv, ev, q3⟩ := I2.after hq'
   subst ev
   exact ⟨rv, ⟨V.ref (s.heap.objs.size + 1), H', I3, rfl, q3⟩⟩
  | next => exact False.elim hq'
  | brk => exact False.elim hq'
  | cont => exact False.elim hq'
theorem ZmD (M : Mk X.K C f) (F : FnOk X.prog X.w X.K X.mg X.base CX k f fd ps sp) (hr : Room (k + 1) X.A) (hg : Gl X x) (hm : X.mg x = some (.ref C)) (hb : Binds X.K fd ps ds) (hd : Vals dvs ds) (hx : ZcH CX X E)
 (ha : PA X (e :: es) t) (hdb : (x == ("__debug__" : Str)) = false := by decide) (he : starEach (e :: es) X.env = (false, eval e X.env) :: starEach es X.env := by rfl) (hpl : (backTo pos (starEach es X.env)).any (·.1) = false := by rfl) :
 PE X (.Call (.Name x p) (e :: es) [] pos) (ZjS C sp dvs E t) := by
 intro pins s σ H Q I h
 refine wpAny_Call_Name_kw (Zd4 I hg hm ?_ hdb)
 refine PySem.W.callWith_K (h₀ := X.base) I.ok.mod.kin M.kp (thn (ha pos pins s σ H _ I h) fun us s1 ⟨vs, H1, I1, r, q⟩ => ⟨I1.kIn, ?_⟩) he hpl
 exact Ziz M F hr hb hd hx I1 r q
theorem Zk4 (M : Mk X.K C f) (F : FnOk X.prog X.w X.K X.mg X.base CX k f fd ps sp) (hr : Room (k + 1) X.A) (hg : Gl X x) (hm : X.mg x = some (.ref C)) (hb : Binds X.K fd ps ds) (hd : Vals dvs ds) (hx : ZcH CX X E)
 (hdb : (x == ("__debug__" : Str)) = false := by decide) : PE X (.Call (.Name x p) [] [] pos) (ZjS C sp dvs E tNil) := by
 intro pins s σ H Q I h
 refine wpAny_Call_Name_kw (Zd4 I hg hm ?_ hdb)
 exact PySem.W.callWith_K0 I.kIn M.kp (Ziz (us := []) M F hr hb hd hx I .nil h)
end
section
variable {X : Cx} {CX : CXT} {k : Nat} {f C : Addr} {fd : FuncData} {ps ks : List Str} {sp : Sp} {E : XK} {x m : Str} {p pos apos kpos : Pos} {e o : Expr} {es : List Expr} {kws : List Keyword} {te ta : TE} {t tk : TA} {nm : Option Str}
structure KBinds (K : PySem.W.Frag) (fd : FuncData) (ps ks : List Str) (g : List Value -> List Value -> List Value) (gV : List V -> List V -> List V) : Prop where
 to : ∀ (s : Shared) (us ws : List Value), K.In s.heap -> (g us ws).length = ps.length -> BindsTo s fd ⟨us, ks.zip ws⟩ (ps.zip (g us ws))
 rel : ∀ {vs : List V} {us : List Value} {zs : List V} {ws : List Value}, Vals vs us -> Vals zs ws -> Vals (gV vs zs) (g us ws)
variable {g : List Value -> List Value -> List Value} {gV : List V -> List V -> List V}
end
structure FnScope (N P : List Str) (sc : Scope) : Prop where
 kind : sc.kind = .function
 co : sc.isCoroutine = false
 gen : sc.isGenerator = false
 nd : N.Nodup
 pre : N.take P.length = P
 par : ∀ x ∈ P, sc.names.lookup x = some .local \/ sc.names.lookup x = some .cell
 nofree : ∀ y ∈ sc.names, y.2 ≠ .free
theorem Zhm {kindOf : Str -> Option NameKind} {x : Str} : ∀ {binds : List (Str × Value)} {m : Str -> Option Value}, (∀ v, (x, v) ∉ binds) -> bindL kindOf binds m x = m x
 | [], _, _ => rfl
 | (n, v) :: r, m, h => by
  unfold bindL
  rw [Zhm fun w hw => h w (List.mem_cons_of_mem _ hw)]
  split
  · have : x ≠ n := by rintro rfl; exact h v List.mem_cons_self
    simp [this]
  · rfl
theorem Zhn {kindOf : Str -> Option NameKind} {x : Str} : ∀ {binds : List (Str × Value)} {m : Str -> Option Value}, (∀ v, (x, v) ∉ binds) -> bindC kindOf binds m x = m x
 | [], _, _ => rfl
 | (n, v) :: r, m, h => by
  unfold bindC
  rw [Zhn fun w hw => h w (List.mem_cons_of_mem _ hw)]
  split
  · rfl
  · have : x ≠ n := by rintro rfl; exact h v List.mem_cons_self
    simp [this]
theorem Zho {kindOf : Str -> Option NameKind} {x : Str} {v : Value} : ∀ {P : List Str} {vs : List Value} {i : Nat} {m : Str -> Option Value}, P.Nodup -> P[i]? = some x -> vs[i]? = some v -> kindOf x = some .local ->
 bindL kindOf (P.zip vs) m x = some v
 | [], _, _, _, _, h, _, _ => by simp at h
 | _ :: _, [], _, _, _, _, h, _ => by simp at h
 | p :: P, w :: vs, 0, m, nd, h1, h2, hk => by
  simp at h1 h2; subst h1; subst h2
  show bindL kindOf ((p, w) :: P.zip vs) m p = _
  unfold bindL
  rw [Zhm fun v hv => (List.nodup_cons.mp nd).1 (List.of_mem_zip hv).1, if_pos hk]
  simp
 | p :: P, w :: vs, i + 1, m, nd, h1, h2, hk => by
  show bindL kindOf ((p, w) :: P.zip vs) m x = _
  unfold bindL
  exact Zho (i := i) (List.nodup_cons.mp nd).2 (by simpa using h1) (by simpa using h2) hk
theorem Zhp {kindOf : Str -> Option NameKind} {x : Str} {v : Value} : ∀ {P : List Str} {vs : List Value} {i : Nat} {m : Str -> Option Value}, P.Nodup -> P[i]? = some x -> vs[i]? = some v -> kindOf x ≠ some .local ->
 bindC kindOf (P.zip vs) m x = some v
 | [], _, _, _, _, h, _, _ => by simp at h
 | _ :: _, [], _, _, _, _, h, _ => by simp at h
 | p :: P, w :: vs, 0, m, nd, h1, h2, hk => by
  simp at h1 h2; subst h1; subst h2
  show bindC kindOf ((p, w) :: P.zip vs) m p = _
  unfold bindC
  rw [Zhn fun v hv => (List.nodup_cons.mp nd).1 (List.of_mem_zip hv).1, if_neg hk]
  simp
 | p :: P, w :: vs, i + 1, m, nd, h1, h2, hk => by
  show bindC kindOf ((p, w) :: P.zip vs) m x = _
  unfold bindC
  exact Zhp (i := i) (List.nodup_cons.mp nd).2 (by simpa using h1) (by simpa using h2) hk
def start (N : List Str) (vs : List V) : St := vs.map some ++ List.replicate (N.length - vs.length) none
def cxOf (CX : CXT) (P : Program) (w : World) (K : PySem.W.Frag) (mg : Str -> Option Value) (base : Heap) (N : List Str) (qual : Str) (scope : Scope) (f : Addr) (cd : Value) (A : Around) (outer : List Env) (s : Shared) (H : Hp) (E : XK) : Cx where
 prog := P
 w := w
 K := K
 mg := mg
 base := base
 A := A.deeper (envOfC qual scope s.heap.objs.size f cd)
 N := N
 s₀ := s
 H₀ := H
 env := envOfC qual scope s.heap.objs.size f cd
 outer := outer
 stack := envOfC qual scope s.heap.objs.size f cd :: outer
 ex := []
 calm := true
 fn := fun _ => true
 pn := []
 xe := fun e s' => wpAny (model P w) (A.deeper (envOfC qual scope s.heap.objs.size f cd)) (leaving (envOfC qual scope s.heap.objs.size f cd) e) (fun _ s'' => CX outer H s E e s'') (fun e' s'' => CX outer H s E e' s'') s'
theorem ZiA {sc : Scope} {n : Nat} {x : Str} (h : sc.names.lookup x = some .cell) : ∃ c, (cellsFrom n sc.names []).lookup x = some c := by
 have q := PySem.W.cellsFrom_some sc.names n [] (.inl h)
 exact Option.isSome_iff_exists.mp q
theorem ZjT {CX : CXT} {P : Program} {w : World} {K : PySem.W.Frag} {mg : Str -> Option Value} {base : Heap} {N ps : List Str} {qual : Str} {scope : Scope} {f : Addr} {cd : Value} {A : Around} {outer : List Env} {s s1 : Shared} {H : Hp} {E : XK} {us : List Value} {vs : List V}
 (S : FnScope N ps scope) (hd : A.handled = none) (e0 : Env0 P w K mg base A outer s H) (hl : vs.length = ps.length) (r : Vals vs us)
 (x : InCallC s s.heap.objs.size (bindL (envOfC qual scope s.heap.objs.size f cd).kindOf (ps.zip us) fun _ => none) (cellsFrom (s.heap.objs.size + 1) scope.names []) (bindC (envOfC qual scope s.heap.objs.size f cd).kindOf (ps.zip us) fun _ => none) s1) :
 Inv (cxOf CX P w K mg base N qual scope f cd A outer s H E) [] (start N vs) H s1 := by
 have hpl : ps.length <= N.length := by have := congrArg List.length S.pre; rw [List.length_take] at this; omega
 obtain ⟨h1, tk, rfl, hk⟩ := x.done
 have noA : ∀ b : Addr, b ∉ (cxOf CX P w K mg base N qual scope f cd A outer s H E).ex := fun b z => absurd (show b ∈ ([] : List Addr) from z) (by simp)
 refine ⟨⟨e0.mod, S.kind, rfl, rfl, Nat.le_refl _, fun y z c h1 h2 => ?_, fun y hy => ?_, fun y c _ h => ?_, fun _ => hd, Around.frames_deeper e0.frames, .inr ⟨rfl, rfl⟩, fun b z => absurd z (noA b), e0.bs, e0.bsz, fun b _ _ => noA b, fun b z => absurd z (noA b), e0.funs, e0.frf⟩,
  rfl, e0.bare, Un.kept hk, ⟨_, x.toInCall.ns, fun i y v h1 h2 h3 => ?_⟩, fun y c h => ⟨_, x.cell y c h⟩, e0.hok.fresh (Nat.le_refl _), fun y c h => ?_, fun p hp => absurd (show p ∈ ([] : List (Addr × Obj)) from hp) (by simp), e0.hok.kept hk, ?_⟩
 · exact name_of_addr x.apart (PySem.mem_of_lookup h1) (PySem.mem_of_lookup h2)
 · have hy : scope.names.lookup y = some .cell \/ scope.names.lookup y = some .free := hy
   rcases hy with hy | hy
   · exact ZiA hy
   · exact absurd rfl (S.nofree _ (PySem.mem_of_lookup hy))
 · exact Nat.le_of_lt (x.above y c (PySem.mem_of_lookup h))
 · have hi : i < vs.length := by
    unfold start at h2
    by_cases hi : i < vs.length
    · exact hi
    · rw [List.getElem?_append_right (by simpa using hi)] at h2
      rw [List.getElem?_replicate] at h2
      split at h2 <;> cases h2
   have ha : vs[i]? = some v := by
    unfold start at h2
    rw [List.getElem?_append_left (by simpa using hi), List.getElem?_map] at h2
    cases e : vs[i]? with
    | none => rw [e] at h2; cases h2
    | some a => rw [e] at h2; cases h2; rfl
   obtain ⟨u, hu, rv⟩ := r.get ha
   have hp : ps[i]? = some y := by
    rw [<- S.pre, List.getElem?_take_of_lt (by omega)]; exact h1
   have ndP : ps.Nodup := by rw [<- S.pre]; exact S.nd.sublist (List.take_sublist _ _)
   refine ⟨u, rv, ?_⟩
   rcases S.par y (List.mem_of_getElem? hp) with k | k
   · exact .inl ⟨k, Zho ndP hp hu k⟩
   · obtain ⟨c, e⟩ := ZiA (n := s.heap.objs.size + 1) k
     refine .inr ⟨.inl k, c, e, ?_⟩
     have q := x.cell y c e
     rw [Zhp ndP hp hu (by show scope.names.lookup y ≠ _; rw [k]; decide)] at q
     exact q
 · exact e0.hok.fresh (Nat.le_of_lt (x.above y c (PySem.mem_of_lookup h)))
 · unfold start
   show _ = N.length
   rw [List.length_append, List.length_map, List.length_replicate]
   omega
theorem ZmE {CX : CXT} {P : Program} {w : World} {K : PySem.W.Frag} {mg : Str -> Option Value} {base : Heap} {k : Nat} {f : Addr} {name qual : Str} {params : Arguments} {body : List Stmt} {scope : Scope} {dV kV doc pm cdv ct oc : Value} {an od : Option Addr}
 {osl : Array (Option Value)} {N ps : List Str} {sp : Sp} (lk : K.lookup f = some ⟨oc, od, .func (PySem.W.fnOf name qual params body scope dV kV doc pm an cdv ct), osl⟩) (hcd : PySem.W.codeIn K cdv qual = true) (S : FnScope N ps scope)
 (len : ∀ vs H Q E, sp vs H Q E -> vs.length = ps.length)
 (hbody : ∀ (A : Around) (outer : List Env) (s : Shared) (H : Hp) (vs : List V) (Q : VK) (E : XK), Room k (A.deeper (envOfC qual scope s.heap.objs.size f cdv)) -> sp vs H Q E ->
   ∃ t, PSs (cxOf CX P w K mg base N qual scope f cdv A outer s H E) body t /\ t { nx := fun _ H' => Q .non H', rt := Q } (start N vs) H) :
 FnOk P w K mg base CX (k + 1) f (PySem.W.fnOf name qual params body scope dV kV doc pm an cdv ct) ps sp := by
 refine ⟨len, fun A outer s H args us vs Q E hr e0 hb r hsp => ?_⟩
 have hl := len _ _ _ _ hsp
 have KX : K.In s.heap := e0.mod.kin.keeps fun b o e => (e0.bs b o e).1
 have lim : s.heap.NoLimit := e0.mod.nolimit.keeps fun b o e => (e0.bs b o e).1
 have hkind : ∀ y ∈ ps.zip us, scope.names.lookup y.1 = some .local \/ (scope.names.lookup y.1 = some .cell /\ ((cellsFrom (s.heap.objs.size + 1) scope.names []).lookup y.1).isSome = true) := fun ⟨n, v⟩ hy => by
  rcases S.par n (List.of_mem_zip hy).1 with q | q
  · exact .inl q
  · exact .inr ⟨q, PySem.W.cellsFrom_some _ _ _ (.inl q)⟩
 refine codeAny_call_function hr.depth (KX _ _ lk) rfl S.co S.gen rfl (PySem.W.codeRec_of KX hcd) (hb _ _ _ _ ?_)
 refine wpAny_newFunctionEnv_cells S.kind hkind fun env he s1 x => ?_
 subst he
 refine ⟨lim.keeps x.toInCall.keep, codeAny_func ?_⟩
 obtain ⟨t, ht, hq⟩ := hbody A outer s H vs Q E (hr.deeper _) hsp
 have I : Inv (cxOf CX P w K mg base N qual scope f cdv A outer s H E) [] (start N vs) H s1 := ZjT S hr.hd e0 hl r x
 refine wpAny_mono (ht [] s1 (start N vs) H _ I hq) (fun fl s' hs => ?_) fun e s' hs => hs
 have fin : ∀ {σ' : St} {H' : Hp} {v : V} {u : Value}, Inv (cxOf CX P w K mg base N qual scope f cdv A outer s H E) [] σ' H' s' -> RelV v u -> Q v H' -> CE outer P w H s Q u s' :=
  fun {σ' H' v u} J rv q => ⟨v, H', J.os, J.bare, J.base, J.hok, rv, q⟩
 cases fl with
 | ret u =>
  obtain ⟨v, σ', H', J, rv, q⟩ := hs
  exact fin J rv q
 | next =>
  obtain ⟨σ', H', J, q⟩ := hs
  exact fin (v := V.non) (u := Value.none) J rfl q
 | brk =>
  obtain ⟨_, _, _, q⟩ := hs
  exact False.elim q
 | cont =>
  obtain ⟨_, _, _, q⟩ := hs
  exact False.elim q
end L2
namespace L2
open PySem PySem.Spec PyProof.Rows
section
variable {X : Cx} {x : Str} {p pos : Pos} {e : Expr} {es : List Expr} {t : TA} {id T : String} {r : List V -> Hp -> VK -> Prop}
def tCB (r : List V -> Hp -> VK -> Prop) (t : TA) : TE := fun σ H Q => t σ H fun vs H1 => r vs H1 Q
theorem Zat (hc : Zdq X (.builtin id) r) (hg : Gl X x) (hm : X.mg x = none) (hv : bootBuiltins x = some (.builtin id)) (ha : PA X (e :: es) t) (hn : x ≠ "__name__" := by decide) (hdb : (x == ("__debug__" : Str)) = false := by decide)
 (he : starEach (e :: es) X.env = (false, eval e X.env) :: starEach es X.env := by rfl) (hpl : (backTo pos (starEach es X.env)).any (·.1) = false := by rfl) : PE X (.Call (.Name x p) (e :: es) [] pos) (tCB r t) := by
 intro pins s σ H Q I h
 refine wpAny_Call_Name_kw (Zhh I hg hm hv ?_ hn hdb)
 exact PyProof.Rows.callWith_builtin1 (thn (ha pos pins s σ H _ I h) fun us s1 ⟨vs, H1, I1, r1, q1⟩ => hc pins s1 σ H1 vs us Q I1 r1 q1) he hpl
theorem ZbM (hc : Zdq X (.type T) r) (hg : Gl X x) (hm : X.mg x = none) (hv : bootBuiltins x = some (.type T)) (ha : PA X (e :: es) t) (hn : x ≠ "__name__" := by decide) (hdb : (x == ("__debug__" : Str)) = false := by decide)
 (he : starEach (e :: es) X.env = (false, eval e X.env) :: starEach es X.env := by rfl) (hpl : (backTo pos (starEach es X.env)).any (·.1) = false := by rfl) : PE X (.Call (.Name x p) (e :: es) [] pos) (tCB r t) := by
 intro pins s σ H Q I h
 refine wpAny_Call_Name_kw (Zhh I hg hm hv ?_ hn hdb)
 exact PyProof.Rows.callWith_type1 (thn (ha pos pins s σ H _ I h) fun us s1 ⟨vs, H1, I1, r1, q1⟩ => hc pins s1 σ H1 vs us Q I1 r1 q1) he hpl
end
end L2
namespace HT
open PySem PyProof.Rows
section
open PySem.SeqAt
open PySem.AutoSeq1 (wpAny_loadPart')
open PySem.MeetsSeq PySem.MeetsSeq2 PySem.MeetsSeq3
end
section
variable {prog : Program} {w : World} {A : Around} {E : Value -> Shared -> Prop} {s : Shared}
def sIx (n d : Nat) : Option Int -> Nat
 | none => d
 | some v => if v < 0 then (v + (n : Int)).toNat else min v.toNat n
theorem sIx_none (n d : Nat) : sIx n d none = d := rfl
theorem sIx_nat (n d k : Nat) : sIx n d (some (k : Int)) = min k n := by
 show (if (k : Int) < 0 then ((k : Int) + (n : Int)).toNat else min (k : Int).toNat n) = min k n
 rw [if_neg (by omega), Int.toNat_natCast]
theorem clip_eq (v : Int) (n d : Nat) : (if v < 0 then max (v + (n : Int)) 0 else min v (n : Int)) = ((sIx n d (some v) : Nat) : Int) := by
 show (if v < 0 then max (v + (n : Int)) 0 else min v (n : Int)) = (((if v < 0 then (v + (n : Int)).toNat else min v.toNat n) : Nat) : Int)
 by_cases hv : v < 0
 · simp only [if_pos hv]; omega
 · simp only [if_neg hv]; omega
end
end HT
namespace L2
open PySem PySem.Spec PyProof.Rows
abbrev TO := St -> Hp -> (Option Int -> Hp -> Prop) -> Prop
def PO (X : Cx) (e : Option Expr) (t : TO) : Prop :=
 ∀ (pins : List (Addr × Obj)) (s : Shared) (σ : St) (H : Hp) (Q : Option Int -> Hp -> Prop), Inv X pins σ H s -> t σ H Q ->
  wpAny (model X.prog X.w) X.A (evalPart e X.env) (fun u s' => ∃ o H', Inv X pins σ H' s' /\ IsPart u o /\ Q o H') X.xe s
def ZjU : TO := fun _ H Q => Q none H
def Zn0 (t : TE) : TO := fun σ H Q => t σ H fun x H1 => ∃ i, x = .int i /\ Q (some i) H1
section
variable {X : Cx} {e : Expr} {te : TE} {lo hi : Option Expr} {tl th : TO} {pos p2 : Pos}
theorem Zh4 : PO X none ZjU := by
 intro pins s σ H Q I h
 rw [evalPart_none]
 exact wpAny_pure ⟨none, H, I, .none, h⟩
theorem Zh5 (h : PE X e te) : PO X (some e) (Zn0 te) := by
 intro pins s σ H Q I hw
 rw [evalPart_some]
 refine thn (h pins s σ H _ I hw) fun u s1 ⟨x, H1, I1, r1, q1⟩ => ?_
 obtain ⟨i, rfl, q⟩ := q1
 obtain ⟨t, rfl⟩ := r1
 exact ⟨some i, H1, I1, .int i t, q⟩
def SlR (X : Cx) (r : V -> Option Int -> Option Int -> Hp -> VK -> Prop) : Prop :=
 ∀ (pins : List (Addr × Obj)) (s : Shared) (σ : St) (H : Hp) (x : V) (v vl vu : Value) (lo hi : Option Int) (sl : Addr) (Q : VK), Inv X pins σ H s -> RelV x v -> s.heap.IsSliceOf sl vl vu .none -> IsPart vl lo -> IsPart vu hi -> r x lo hi H Q ->
  ∃ T id, typeLookup (.type T) "__getitem__" = pure (some (.builtin id)) /\ s.TypeIs v T /\ wpAny (model X.prog X.w) X.A (getItem v (.ref sl)) (EP X pins σ Q) X.xe s
def tSl (r : V -> Option Int -> Option Int -> Hp -> VK -> Prop) (te : TE) (tl th : TO) : TE := fun σ H Q => te σ H fun x H1 => tl σ H1 fun l H2 => th σ H2 fun u H3 => r x l u H3 Q
theorem ZgR {r : V -> Option Int -> Option Int -> Hp -> VK -> Prop} (hr : SlR X r) (he : PE X e te) (hl : PO X lo tl) (hu : PO X hi th) : PE X (.Subscript e (.Slice lo hi none p2) pos) (tSl r te tl th) := by
 intro pins s σ H Q I h
 refine Subscript_ (thn (he pins s σ H _ I h) fun v s1 ⟨x, H1, I1, r1, q1⟩ => ?_)
 refine wpAny_Slice (thn (hl pins s1 σ H1 _ I1 q1) fun vl s2 ⟨l, H2, I2, pl, q2⟩ => thn (hu pins s2 σ H2 _ I2 q2) fun vu s3 ⟨u, H3, I3, pu, q3⟩ => ?_)
 rw [evalPart_none]
 refine wpAny_pure ?_
 have I4 : Inv X pins σ H3 { s3 with heap := s3.heap.push { cls := .type "slice", data := .fields #[vl, vu, .none] } } := I3.kept (t' := s3.toks) fun b ob q => Heap.get?_push_of_some _ q
 obtain ⟨T, id, hT, ht, hg⟩ := hr pins { s3 with heap := s3.heap.push { cls := .type "slice", data := .fields #[vl, vu, .none] } } σ H3 x v vl vu l u s3.heap.objs.size Q I4 r1 (Heap.IsSliceOf.new ..) pl pu q3
 show wpAny (model X.prog X.w) X.A (subscriptTail e (.Slice lo hi none p2) v (.ref s3.heap.objs.size)) (EP X pins σ Q) X.xe { s3 with heap := s3.heap.push { cls := .type "slice", data := .fields #[vl, vu, .none] } }
 exact tail_any (ops := [.ref s3.heap.objs.size, v]) ht hT hg (by with_unfolding_all rfl)
def cutV (xs : List V) (lo hi : Option Int) : List V := (xs.drop (HT.sIx xs.length 0 lo)).take (HT.sIx xs.length xs.length hi - HT.sIx xs.length 0 lo)
theorem Zh6 (xs : List V) (lo hi : Option Int) : (cutV xs lo hi).length <= xs.length := by
 unfold cutV
 rw [List.length_take, List.length_drop]
 omega
end
end L2
namespace L2
open PySem PySem.Spec PyProof.Rows
def ixN (n : Nat) (i : Int) : Option Nat := if 0 <= i then (if i < n then some i.toNat else none) else if -(n : Int) <= i then some (i + n).toNat else none
def atI {α : Type} (xs : List α) (i : Int) : Option α := (ixN xs.length i).bind fun j => xs[j]?
theorem ZfR {n : Nat} {i : Int} {j : Nat} (h : ixN n i = some j) : seqIndex? i n = some j /\ j < n /\ -(n : Int) <= i /\ i < n := by
 unfold ixN at h
 by_cases h0 : 0 <= i
 · rw [if_pos h0] at h
   by_cases h1 : i < n
   · rw [if_pos h1] at h
     have e : i.toNat = j := Option.some.inj h
     exact ⟨by rw [seqIndex_of h0 h1, e], by omega, by omega, h1⟩
   · rw [if_neg h1] at h; cases h
 · rw [if_neg h0] at h
   by_cases h1 : -(n : Int) <= i
   · rw [if_pos h1] at h
     have e : (i + n).toNat = j := Option.some.inj h
     exact ⟨by rw [seqIndex_neg (by omega) h1, e], by omega, h1, by omega⟩
   · rw [if_neg h1] at h; cases h
theorem ZjV {α : Type} {xs : List α} {i : Int} {v : α} (h : atI xs i = some v) : ∃ j, seqIndex? i xs.length = some j /\ xs[j]? = some v /\ j < xs.length /\ -(xs.length : Int) <= i /\ i < xs.length := by
 unfold atI at h
 cases e : ixN xs.length i with
 | none => rw [e] at h; cases h
 | some j =>
  rw [e] at h
  obtain ⟨h1, h2, h3, h4⟩ := ZfR e
  exact ⟨j, h1, h, h2, h3, h4⟩
theorem atI_nat {α : Type} {xs : List α} {j : Nat} {v : α} (h : xs[j]? = some v) : atI xs (j : Int) = some v := by
 have hj : j < xs.length := (List.getElem?_eq_some_iff.mp h).1
 have e : ixN xs.length (j : Int) = some j := by
  unfold ixN
  rw [if_pos (by omega), if_pos (by omega)]; simp
 unfold atI; rw [e]; exact h
def ZmF (b : Expr) : Prop := ∀ o i, subscripted b false o i = operate [o, i] (getItem o i)
def IxR (X : Cx) (r : R2) : Prop :=
 ∀ (value slice : Expr) (pins : List (Addr × Obj)) (s : Shared) (σ : St) (H : Hp) (x y : V) (v u : Value) (Q : VK), Inv X pins σ H s -> RelV x v -> RelV y u -> r x y H Q ->
  subscripted slice false v u = operate [v, u] (getItem v u) -> wpAny (model X.prog X.w) X.A (subscriptTail value slice v u) (EP X pins σ Q) X.xe s
def MtR (X : Cx) (id : String) (r : V -> List V -> Hp -> VK -> Prop) : Prop :=
 ∀ (pins : List (Addr × Obj)) (s : Shared) (σ : St) (H : Hp) (x : V) (xs : List V) (v : Value) (us : List Value) (Q : VK), Inv X pins σ H s -> RelV x v -> Vals xs us -> r x xs H Q ->
  wpAny (model X.prog X.w) X.A (call (.builtin id) (v :: us)) (EP X pins σ Q) X.xe s
section
variable {X : Cx} {a b : Expr} {ta tb : TE} {pos : Pos}
theorem IxR.or {r r' : R2} (h : IxR X r) (h' : IxR X r') : IxR X (fun x y H Q => r x y H Q \/ r' x y H Q) := by
 intro value slice pins s σ H x y v u Q I rx ry q hs
 rcases q with q | q
 · exact h value slice pins s σ H x y v u Q I rx ry q hs
 · exact h' value slice pins s σ H x y v u Q I rx ry q hs
theorem Zb0 {r : R2} (hr : IxR X r) (ha : PE X a ta) (hb : PE X b tb) (hs : ZmF b) : PE X (.Subscript a b pos) (tOp r ta tb) := by
 intro pins s σ H Q I h
 exact Subscript_ (binT ha hb I h fun v u s2 x y H2 I2 rx ry q => hr a b pins s2 σ H2 x y v u Q I2 rx ry q (hs _ _))
def rIxL (K : PySem.W.Frag) : R2 := fun x y H Q => ∃ p xs i v, x = .ref p /\ y = .int i /\ SqL K H p xs /\ atI xs i = some v /\ Q v H
def rIxT (K : PySem.W.Frag) : R2 := fun x y H Q => ∃ p xs i v, x = .ref p /\ y = .int i /\ SqT K H p xs /\ atI xs i = some v /\ Q v H
theorem ZmG : IxR X (rIxL X.K) := by
 intro value slice pins s σ H x y v u Q I rx ry h hs
 obtain ⟨p, xs, i, z, rfl, rfl, hq, he, q⟩ := h
 cases rx
 obtain ⟨t, rfl⟩ := ry
 obtain ⟨its, r, pl, hz⟩ := I.list hq
 obtain ⟨j, h1, h2, h3, h4, h5⟩ := ZjV he
 obtain ⟨w, ew, rw'⟩ := r.get h2
 have hl := r.length
 have hn := Zhl
 have fin : EP X pins σ Q w s := ⟨z, H, I, rw', q⟩
 by_cases h0 : 0 <= i
 · have hj : i.toNat = j := by
    rw [seqIndex_of h0 h5] at h1
    exact Option.some.inj h1
   exact item_listR pl.isList h0 (by omega) (by rw [hj]; simpa using ew) fin hs
 · have hj : (i + (its.toArray.size : Int)).toNat = j := by
    rw [seqIndex_neg (by omega) h4] at h1
    rw [List.size_toArray, <- hl]
    exact Option.some.inj h1
   exact subscriptTail_builtinR (x := w) pl.isList.typeIs slot_list_getitem.lookup
    (wpAny_getItem_list_neg (Q := fun r s' => r = w /\ EP X pins σ Q r s') pl.isList (by omega) (by rw [List.size_toArray] <;> omega) (by omega) (by rw [hj]; simpa using ew) ⟨rfl, fin⟩) hs
theorem Zn1 : IxR X (rIxT X.K) := by
 intro value slice pins s σ H x y v u Q I rx ry h hs
 obtain ⟨p, xs, i, z, rfl, rfl, hq, he, q⟩ := h
 cases rx
 obtain ⟨t, rfl⟩ := ry
 obtain ⟨its, r, pl, hz⟩ := I.tuple hq
 obtain ⟨j, h1, h2, h3, h4, h5⟩ := ZjV he
 obtain ⟨w, ew, rw'⟩ := r.get h2
 have hl := r.length
 have hn := Zhl
 have fin : EP X pins σ Q w s := ⟨z, H, I, rw', q⟩
 exact subscriptTail_builtinR (x := w) pl.typeIs slot_tuple_getitem.lookup
  (getItem_tuple (j := j) (Q := fun r s' => r = w /\ EP X pins σ Q r s') pl (by omega) (by omega) (by rw [List.size_toArray, <- hl]; exact h1) (by simpa using ew) ⟨rfl, fin⟩) hs
theorem Zje (its : List Value) (n j : Nat) (u : Value) : Obj.mapSeq (·.setIfInBounds j u) { cls := .type "list", data := .seq its.toArray n } = { cls := .type "list", data := .seq (its.set j u).toArray n } := by
 simp [Obj.mapSeq]
theorem Inv.lst {pins : List (Addr × Obj)} {σ : St} {H : Hp} {s : Shared} {p : Addr} {xs : List V} (I : Inv X pins σ H s) (h : H p = some (.lst xs)) :
 ∃ (its : List Value) (n : Nat), Vals xs its /\ s.heap.get? p = some { cls := .type "list", data := .seq its.toArray n } /\ xs.length <= sizeLine := by
 obtain ⟨z, its, n, r, e⟩ := I.hok p _ h
 exact ⟨its, n, r, e, z⟩
theorem Inv.lstUpd {pins : List (Addr × Obj)} {σ : St} {H : Hp} {s : Shared} {p : Addr} {xs ys : List V} {its its' : List Value} {n n' : Nat} {f : Obj -> Obj} (I : Inv X pins σ H s) (h : H p = some (.lst xs))
 (ho : s.heap.get? p = some { cls := .type "list", data := .seq its.toArray n }) (hf : f { cls := .type "list", data := .seq its.toArray n } = { cls := .type "list", data := .seq its'.toArray n' }) (r : Vals ys its') (hz : ys.length <= sizeLine) (t : Nat) :
 Inv X pins σ (upd H p (.lst ys)) { s with heap := s.heap.update p f, toks := t } := by
 have e : (s.heap.update p f).get? p = some { cls := .type "list", data := .seq its'.toArray n' } := by
  rw [Heap.get?_update_self f ho (by rw [hf] <;> rfl), hf]
 refine I.write (x := p) (e := p) (by rw [h]; trivial) (.inl rfl) (fun b u hb q => (Heap.get?_update_other _ _ (Ne.symm hb)).trans q) ⟨_, e⟩ ?_
 exact ⟨hz, its', n', r, e⟩
def ZmH : V -> V -> V -> Hp -> (Hp -> Prop) -> Prop := fun o i v H Q => ∃ p xs k j, o = .ref p /\ i = .int k /\ H p = some (.lst xs) /\ ixN xs.length k = some j /\ Q (upd H p (.lst (xs.set j v)))
theorem ZgS : PSet X ZmH := by
 intro pins s σ H o i v ov iv u Q I ro ri rv h
 obtain ⟨p, xs, k, j, rfl, rfl, hp, hj, q⟩ := h
 cases ro
 obtain ⟨t, rfl⟩ := ri
 obtain ⟨its, n, r, ho, hz⟩ := I.lst hp
 obtain ⟨h1, h2, h3, h4⟩ := ZfR hj
 have hl := r.length
 have hn := Zhl
 have I' : Inv X pins σ (upd H p (.lst (xs.set j v))) { s with heap := s.heap.update p (Obj.mapSeq (·.setIfInBounds j u)) } :=
  I.lstUpd hp ho (Zje its n j u) (r.set rv j) (by rw [List.length_set]; exact hz) s.toks
 by_cases h0 : 0 <= k
 · have hk : k.toNat = j := by
    rw [seqIndex_of h0 h4] at h1
    exact Option.some.inj h1
   exact PySem.W.ki_setAt ho h0 (by omega) (by rw [List.size_toArray, <- hl]; exact h4) (by rw [hk]; exact ⟨_, I', q⟩)
 · have hk : (k + (its.toArray.size : Int)).toNat = j := by
    rw [seqIndex_neg (by omega) h3] at h1
    rw [List.size_toArray, <- hl]
    exact Option.some.inj h1
   exact PySem.W.ki_setBack ho (by omega) (by rw [List.size_toArray, <- hl]; exact h3) (by omega) (by rw [hk]; exact ⟨_, I', q⟩)
theorem Zhq (lo hi : Option Int) (n : Nat) : (sliceBounds lo hi none n).1 = ((HT.sIx n 0 lo : Nat) : Int) /\ (sliceBounds lo hi none n).2.1 = ((HT.sIx n n hi : Nat) : Int) /\ (sliceBounds lo hi none n).2.2 = 1 := by
 refine ⟨?_, ?_, rfl⟩
 · cases lo with
   | none => simp [sliceBounds, HT.sIx]
   | some i =>
    simp only [sliceBounds, HT.sIx, Option.getD_none, show (1 : Int) > 0 by decide, if_true]
    by_cases h : i < 0
    · simp only [h, if_true] <;> omega
    · simp only [h, if_false] <;> omega
 · cases hi with
   | none => simp [sliceBounds, HT.sIx]
   | some i =>
    simp only [sliceBounds, HT.sIx, Option.getD_none, show (1 : Int) > 0 by decide, if_true]
    by_cases h : i < 0
    · simp only [h, if_true] <;> omega
    · simp only [h, if_false] <;> omega
theorem ZgT (its : List Value) (lo hi : Option Int) : slicePick its.toArray lo hi none = ((its.drop (HT.sIx its.length 0 lo)).take (HT.sIx its.length its.length hi - HT.sIx its.length 0 lo)).toArray := by
 obtain ⟨h1, h2, h3⟩ := Zhq lo hi its.toArray.size
 unfold slicePick
 rw [h1, h2, h3]
 simp only [sliceRange_one, pick_run, List.size_toArray] <;> rfl
def rSlL (K : PySem.W.Frag) : V -> Option Int -> Option Int -> Hp -> VK -> Prop := fun x lo hi H Q => ∃ a xs, x = .ref a /\ SqL K H a xs /\ ∀ p, H p = none -> Q (.ref p) (upd H p (.lst (cutV xs lo hi)))
theorem ZmI : SlR X (rSlL X.K) := by
 intro pins s σ H x v vl vu lo hi sl Q I rx hs pl pu h
 obtain ⟨a, xs, rfl, hx, q⟩ := h
 cases rx
 obtain ⟨its, r, ht, hz⟩ := I.list hx
 have hlen := r.length
 refine ⟨"list", _, slot_list_getitem.lookup, ht.isList.typeIs, ?_⟩
 refine wpAny_getItem_list_slice ht.isList hs pl pu .none (by simp) ?_ (by rw [List.size_toArray] <;> omega)
 rw [ZgT, <- hlen]
 refine ⟨.ref s.heap.objs.size, _, I.laid (t' := s.toks) (o := .lst (cutV xs lo hi)) (fun b ob q => Heap.get?_push_of_some _ q) (Nat.le_refl _) ?_, rfl, q _ (I.hok.fresh (Nat.le_refl _))⟩
 exact ⟨Nat.le_trans (Zh6 xs lo hi) hz, _, 0, (r.drop (HT.sIx xs.length 0 lo)).take (HT.sIx xs.length xs.length hi - HT.sIx xs.length 0 lo), Heap.get?_push_size _ rfl⟩
def ZeD : V -> Bool
 | .non => true
 | .bl _ => true
 | .int _ => true
 | .str _ => true
 | _ => false
def eqV : V -> V -> Bool
 | .non, .non => true
 | .bl a, .bl b => a == b
 | .bl a, .int b => (if a then 1 else 0) == b
 | .int a, .bl b => a == (if b then 1 else 0)
 | .int a, .int b => a == b
 | .str a, .str b => a == b
 | _, _ => false
theorem ZlV {A : Around} {s : Shared} {y x : V} {u v : Value} (ry : RelV y u) (rx : RelV x v) (fy : ZeD y = true) (fx : ZeD x = true) : SeqAt.EqAt A s u v (eqV y x) := by
 cases y with
 | non =>
  cases ry
  cases x with
  | non => cases rx; exact SeqAt.EqAt.same _
  | bl b => cases rx; exact SeqAt.EqAt.none_bool b
  | int b => obtain ⟨t, rfl⟩ := rx; exact SeqAt.EqAt.none_int b t
  | str b => obtain ⟨t, rfl⟩ := rx; exact SeqAt.EqAt.none_str b t
  | _ => exact absurd (show false = true from fx) Bool.false_ne_true
 | bl a =>
  cases ry
  cases x with
  | non => cases rx; exact SeqAt.EqAt.bool_none a
  | bl b => cases rx; exact SeqAt.EqAt.bool_bool a b
  | int b => obtain ⟨t, rfl⟩ := rx; exact SeqAt.EqAt.bool_int a b t
  | str b => obtain ⟨t, rfl⟩ := rx; exact SeqAt.EqAt.bool_str a b t
  | _ => exact absurd (show false = true from fx) Bool.false_ne_true
 | int a =>
  obtain ⟨t', rfl⟩ := ry
  cases x with
  | non => cases rx; exact SeqAt.EqAt.int_none a t'
  | bl b => cases rx; exact SeqAt.EqAt.int_bool a t' b
  | int b => obtain ⟨t, rfl⟩ := rx; exact SeqAt.EqAt.int_int a t' b t
  | str b => obtain ⟨t, rfl⟩ := rx; exact SeqAt.EqAt.int_str a t' b t
  | _ => exact absurd (show false = true from fx) Bool.false_ne_true
 | str a =>
  obtain ⟨t', rfl⟩ := ry
  cases x with
  | non => cases rx; exact SeqAt.EqAt.str_none a t'
  | bl b => cases rx; exact SeqAt.EqAt.str_bool a t' b
  | int b => obtain ⟨t, rfl⟩ := rx; exact SeqAt.EqAt.str_int a t' b t
  | str b => obtain ⟨t, rfl⟩ := rx; exact SeqAt.EqAt.str_str a t' b t
  | _ => exact absurd (show false = true from fx) Bool.false_ne_true
 | _ => exact absurd (show false = true from fy) Bool.false_ne_true
def eqU (x : V) (u : Value) : Bool := match u with
 | .none => eqV .non x
 | .bool b => eqV (.bl b) x
 | .int i _ => eqV (.int i) x
 | .str z _ => eqV (.str z) x
 | _ => false
theorem ZiB {x y : V} {u : Value} (r : RelV y u) (f : ZeD y = true) : eqU x u = eqV y x := by
 cases y with
 | non => cases r; rfl
 | bl b => cases r; rfl
 | int i => obtain ⟨t, rfl⟩ := r; rfl
 | str z => obtain ⟨t, rfl⟩ := r; rfl
 | _ => exact absurd (show false = true from f) Bool.false_ne_true
theorem ZfS {x : V} : ∀ {xs : List V} {us : List Value}, Vals xs us -> xs.all ZeD = true -> us.any (eqU x) = xs.any fun y => eqV y x
 | _, _, .nil, _ => rfl
 | y :: xs, u :: us, .cons r t, f => by
  rw [List.all_cons, Bool.and_eq_true] at f
  rw [List.any_cons, List.any_cons, ZiB r f.1, ZfS t f.2]
theorem ZeR {A : Around} {s : Shared} {x : V} {v : Value} (rx : RelV x v) (fx : ZeD x = true) : ∀ {xs : List V} {us : List Value}, Vals xs us -> xs.all ZeD = true -> ∀ u ∈ us, SeqAt.EqAt A s u v (eqU x u)
 | _, _, .nil, _ => fun u hu => by cases hu
 | y :: xs, u :: us, .cons r t, f => fun u' hu => by
  rw [List.all_cons, Bool.and_eq_true] at f
  rcases List.mem_cons.mp hu with rfl | hu
  · rw [ZiB r f.1]; exact ZlV r rx f.1 fx
  · exact ZeR rx fx t f.2 u' hu
def inV (x : V) (xs : List V) : Bool := xs.any fun y => eqV y x
def rIn (K : PySem.W.Frag) (neg : Bool) : R2 := fun x y H Q => ∃ p xs, y = .ref p /\ (SqL K H p xs \/ SqT K H p xs) /\ ZeD x = true /\ xs.all ZeD = true /\ Q (.bl (if neg then !inV x xs else inV x xs)) H
theorem ZjW : OpR X (compareOp .In) (rIn X.K false) := by
 intro pins s σ H x y v u Q I rx ry h
 obtain ⟨p, xs, rfl, hq, fx, fs, q⟩ := h
 cases ry
 rcases hq with hq | hq
 · obtain ⟨its, r, pl, hz⟩ := I.list hq
   refine SeqAt.in_listAt (eqU x) pl.isList (fun w hw => ZeR rx fx r fs w (by simpa using hw)) ⟨.bl _, H, I, rfl, ?_⟩
   rw [show its.toArray.any (eqU x) = its.any (eqU x) by simp, ZfS r fs]
   exact q
 · obtain ⟨its, r, pl, hz⟩ := I.tuple hq
   refine SeqAt.in_tupleAt (eqU x) pl (fun w hw => ZeR rx fx r fs w (by simpa using hw)) ⟨.bl _, H, I, rfl, ?_⟩
   rw [show its.toArray.any (eqU x) = its.any (eqU x) by simp, ZfS r fs]
   exact q
theorem Zhr : OpR X (compareOp .NotIn) (rIn X.K true) := by
 intro pins s σ H x y v u Q I rx ry h
 obtain ⟨p, xs, rfl, hq, fx, fs, q⟩ := h
 cases ry
 rcases hq with hq | hq
 · obtain ⟨its, r, pl, hz⟩ := I.list hq
   refine SeqAt.notIn_listAt (eqU x) pl.isList (fun w hw => ZeR rx fx r fs w (by simpa using hw)) ⟨.bl _, H, I, rfl, ?_⟩
   rw [show its.toArray.any (eqU x) = its.any (eqU x) by simp, ZfS r fs]
   exact q
 · obtain ⟨its, r, pl, hz⟩ := I.tuple hq
   refine SeqAt.notIn_tupleAt (eqU x) pl (fun w hw => ZeR rx fx r fs w (by simpa using hw)) ⟨.bl _, H, I, rfl, ?_⟩
   rw [show its.toArray.any (eqU x) = its.any (eqU x) by simp, ZfS r fs]
   exact q
theorem Zhs : Zdq X (.builtin "len") (fun xs H Q => ∃ p ys, xs = [.ref p] /\ (SqL X.K H p ys \/ SqT X.K H p ys) /\ Q (.int ys.length) H) := by
 intro pins s σ H xs us Q I r h
 obtain ⟨p, ys, rfl, hq, q⟩ := h
 obtain ⟨u, rfl, rx⟩ := ZgQ r
 cases rx
 have hn := Zhl
 rcases hq with hq | hq
 · obtain ⟨its, r', pl, hz⟩ := I.list hq
   have hlen := r'.length
   exact Calls.call_len_list pl.isList (by simp only [List.size_toArray] <;> omega) ⟨.int ys.length, H, I.tok _, ⟨s.toks + 1, by rw [List.size_toArray, hlen]⟩, q⟩
 · obtain ⟨its, r', pl, hz⟩ := I.tuple hq
   have hlen := r'.length
   exact len_tuple pl (by simp only [List.size_toArray] <;> omega) ⟨.int ys.length, H, I.tok _, ⟨s.toks + 1, by rw [List.size_toArray, hlen]⟩, q⟩
theorem Zht : Zdq X (.builtin "len") (fun xs H Q => ∃ z, xs = [.str z] /\ z.length <= sizeLine /\ Q (.int z.length) H) := by
 intro pins s σ H xs us Q I r h
 obtain ⟨z, rfl, hz, q⟩ := h
 obtain ⟨u, rfl, t, rfl⟩ := ZgQ r
 have hn := Zhl
 exact len_str (by omega) ⟨.int z.length, H, I.tok _, ⟨_, rfl⟩, q⟩
theorem Zhu : Zdq X (.type "list") (fun xs H Q => ∃ p ys, xs = [.ref p] /\ (SqL X.K H p ys \/ SqT X.K H p ys) /\ ∀ l, H l = none -> Q (.ref l) (upd H l (.lst ys))) := by
 intro pins s σ H xs us Q I r h
 obtain ⟨p, ys, rfl, hq, q⟩ := h
 obtain ⟨u, rfl, rx⟩ := ZgQ r
 cases rx
 have fin : ∀ (its : List Value), Vals ys its -> ys.length <= sizeLine -> ∀ (h' : Heap) (c' : Nat), (∀ b o', s.heap.get? b = some o' -> h'.get? b = some o') ->
  h'.get? s.heap.objs.size = some { cls := .type "list", dict := none, data := .seq its.toArray c', slots := #[] } -> EP X pins σ Q (.ref s.heap.objs.size) { s with heap := h' } := fun its r' hz h' c' kp e =>
  ⟨.ref s.heap.objs.size, _, I.laid (t' := s.toks) kp (Nat.le_refl _) (show ObjOk X.prog X.w _ h' _ (.lst ys) from ⟨hz, its, c', r', e⟩), rfl, q _ (I.hok.fresh (Nat.le_refl _))⟩
 rcases hq with hq | hq
 · obtain ⟨its, r', pl, hz⟩ := I.list hq
   have hlen := r'.length
   obtain ⟨o, ho, hc, n, hd⟩ := pl.isList
   exact call_list_seq p (.inl rfl) ho hc hd (fun h' c' kp e => fin its r' hz h' c' kp e) (by simp only [List.size_toArray] <;> omega)
 · obtain ⟨its, r', pl, hz⟩ := I.tuple hq
   have hlen := r'.length
   obtain ⟨o, ho, hc, n, hd⟩ := pl
   exact call_list_seq p (.inr rfl) ho hc hd (fun h' c' kp e => fin its r' hz h' c' kp e) (by simp only [List.size_toArray] <;> omega)
def tyV (K : PySem.W.Frag) (T : String) (x : V) (H : Hp) : Prop := match x with
 | .str _ => T = "str"
 | .int _ => T = "int"
 | .ref p => (T = "list" /\ ∃ xs, SqL K H p xs) \/ (T = "tuple" /\ ∃ o, K.lookup p = some o /\ o.cls = .type "tuple" /\ o.dict = none) \/
  (T = "dict" /\ ((∃ kvs, H p = some (.dK kvs)) \/ ∃ kvs, H p = some (.dT kvs))) \/ (T = "set" /\ ∃ S n, H p = some (.set S n))
 | _ => False
theorem ZlW {pins : List (Addr × Obj)} {σ : St} {H : Hp} {s : Shared} {T : String} {x : V} {v : Value} (I : Inv X pins σ H s) (r : RelV x v) (ty : tyV X.K T x H) :
 s.TypeIs v T /\ ∀ a, v = .ref a -> ∃ ob, s.heap.get? a = some ob /\ ob.dict = none := by
 cases x with
 | str z =>
  obtain ⟨t, rfl⟩ := r
  cases (show T = "str" from ty)
  exact ⟨typeIs_str s z t, fun _ e => nomatch e⟩
 | int i =>
  obtain ⟨t, rfl⟩ := r
  cases (show T = "int" from ty)
  exact ⟨typeIs_int s i t, fun _ e => nomatch e⟩
 | ref p =>
  cases r
  rcases ty with ⟨rfl, xs, hq⟩ | ⟨rfl, o, hk, hc, hd⟩ | ⟨rfl, hk⟩ | ⟨rfl, S, n, hk⟩
  · obtain ⟨its, _, pl, _⟩ := I.list hq
    refine ⟨pl.isList.typeIs, fun a e => ?_⟩
    cases e
    obtain ⟨o, n, e, c, hd, _⟩ := pl
    exact ⟨o, e, hd⟩
  · refine ⟨⟨o, I.kIn p o hk, hc⟩, fun a e => ?_⟩
    cases e
    exact ⟨o, I.kIn _ o hk, hd⟩
  · have z : ∃ o, s.heap.get? p = some o /\ o.ExactDict := by
     rcases hk with ⟨kvs, hk⟩ | ⟨kvs, hk⟩
     · obtain ⟨_, _, _, _, o, _, _, e, ex, _⟩ := I.hok p _ hk
       exact ⟨o, e, ex⟩
     · obtain ⟨_, _, _, _, o, _, _, e, ex, _⟩ := I.hok p _ hk
       exact ⟨o, e, ex⟩
    obtain ⟨o, e, ex⟩ := z
    refine ⟨⟨o, e, ex.1⟩, fun a e2 => ?_⟩
    cases e2
    exact ⟨o, e, ex.2.1⟩
  · obtain ⟨o, _, _, _, e, ex, _⟩ := I.hok p _ hk
    refine ⟨⟨o, e, ex.1⟩, fun a e2 => ?_⟩
    cases e2
    exact ⟨o, e, ex.2.1⟩
 | _ => exact False.elim ty
def tBM0 (K : PySem.W.Frag) (T : String) (r : V -> List V -> Hp -> VK -> Prop) (to : TE) : TE := fun σ H Q => to σ H fun x H1 => tyV K T x H1 /\ r x [] H1 Q
def tBM (K : PySem.W.Frag) (T : String) (r : V -> List V -> Hp -> VK -> Prop) (to : TE) (t : TA) : TE := fun σ H Q => to σ H fun x H1 => tyV K T x H1 /\ t σ H1 fun xs H2 => r x xs H2 Q
variable {o e : Expr} {es : List Expr} {to : TE} {t : TA} {name : Str} {apos cpos : Pos} {T id : String} {r : V -> List V -> Hp -> VK -> Prop}
theorem Zn2 (pa : PlainAttrs T) (slot : Slot T name id) (hty : typeOf (.builtin id) = pure (.type "method_descriptor")) (hm : MtR X id r) (ho : PE X o to)
 (hbase : attributeBase o name X.env (eval o X.env) = eval o X.env := by rfl) (hline : (apos.endLine == cpos.line) = true := by rfl) : PE X (.Call (.Attribute o name apos) [] [] cpos) (tBM0 X.K T r to) := by
 intro pins s σ H Q I h
 refine wpAny_Call_method0_late hbase hline (thn (ho pins s σ H _ I h) fun v s1 ⟨x, H1, I1, r1, ty, q1⟩ => ?_)
 obtain ⟨h1, h2⟩ := ZlW I1 r1 ty
 exact ⟨T, id, pa, slot, hty, h1, h2, Calls.callWith_builtin rfl (PySem.evalArgs_none (hm pins s1 σ H1 x [] v [] Q I1 r1 .nil q1))⟩
theorem Zn3 (pa : PlainAttrs T) (slot : Slot T name id) (hty : typeOf (.builtin id) = pure (.type "method_descriptor")) (hm : MtR X id r) (ho : PE X o to) (ha : PA X (e :: es) t)
 (hbase : attributeBase o name X.env (eval o X.env) = eval o X.env := by rfl)
 (hfew : ((backTo cpos (starEach (e :: es) X.env)).all (fun x => !x.1) && (backToKw cpos (keywordEach [] X.env)).all (fun x => x.1.isSome)
   && decide ((e :: es).length + ([] : List Keyword).length + (if ([] : List Keyword).isEmpty then 0 else 1) < 30)) = true := by rfl)
 (hline : (apos.endLine == cpos.line) = true := by rfl) (hs : starEach (e :: es) X.env = (false, eval e X.env) :: starEach es X.env := by rfl) (hplain : (backTo cpos (starEach es X.env)).any (·.1) = false := by rfl) :
 PE X (.Call (.Attribute o name apos) (e :: es) [] cpos) (tBM X.K T r to t) := by
 intro pins s σ H Q I h
 refine wpAny_Call_method_late hbase hfew hline rfl (thn (ho pins s σ H _ I h) fun v s1 ⟨x, H1, I1, r1, ty, q1⟩ => ?_)
 obtain ⟨h1, h2⟩ := ZlW I1 r1 ty
 refine ⟨T, id, pa, slot, hty, h1, h2, ?_⟩
 have hA := ha cpos pins s1 σ H1 _ I1 q1
 rw [hs] at hA ⊢
 refine Calls.callWith_builtin (by show (false || (backTo cpos (starEach es X.env)).any (·.1)) = false; rw [hplain] <;> rfl) (Calls.evalArgs_plain ?_)
 exact thn hA fun us s2 ⟨vs, H2, I2, r2, q2⟩ => hm pins s2 σ H2 x vs v us Q I2 r1 r2 q2
/- xs.append(e), list.index on a module's tuple .. are MtR facts of 06m -/
end
end L2
namespace L2
open PySem PySem.Spec PyProof.Rows
def MtM (X : Cx) (id : String) (r : V -> List V -> Hp -> VK -> Prop) : Prop :=
 ∀ (pins : List (Addr × Obj)) (s : Shared) (σ : St) (H : Hp) (x : V) (xs : List V) (v : Value) (us : List Value) (Q : VK), Inv X pins σ H s -> RelV x v -> Vals xs us -> r x xs H Q ->
  wpAny (model X.prog X.w) X.A (call (.builtin id) (v :: us)) (EP X pins σ Q) X.xe s
theorem Vals.one : ∀ {x : V} {us : List Value}, Vals [x] us -> ∃ u, us = [u] /\ RelV x u
 | _, _, .cons r .nil => ⟨_, rfl, r⟩
theorem Vals.dropLast {xs : List V} {us : List Value} (h : Vals xs us) : Vals xs.dropLast us.dropLast := by
 induction h with
 | nil => exact .nil
 | cons r t ih =>
  cases t with
  | nil => exact .nil
  | cons q t' => exact .cons r ih
section
variable {X : Cx} {pins : List (Addr × Obj)} {σ : St} {H : Hp} {s : Shared} {l b : Addr} {xs ys zs : List V}
theorem Inv.lset {its its' : List Value} {n : Nat} {f : Array Value -> Array Value} {t' : Nat} (I : Inv X pins σ H s) (hH : H l = some (.lst xs))
 (e : s.heap.get? l = some { cls := .type "list", data := .seq its.toArray n }) (hf : f its.toArray = its'.toArray) (hv : Vals ys its') (hz : ys.length <= sizeLine) :
 Inv X pins σ (upd H l (.lst ys)) { s with heap := s.heap.update l (Obj.mapSeq f), toks := t' } := by
 have q := PySem.IsL.update e f
 rw [hf] at q
 refine I.write (x := l) (e := l) (by rw [hH]; exact trivial) (.inl rfl) (fun b' u hb hu => (Heap.get?_update_other s.heap (Obj.mapSeq f) (Ne.symm hb)).trans hu) ⟨_, q⟩ ?_
 exact ⟨hz, its', _, hv, q⟩
theorem Inv.lnew {its : List Value} {t' : Nat} (I : Inv X pins σ H s) (hv : Vals ys its) (hz : ys.length <= sizeLine) :
 Inv X pins σ (upd H s.heap.objs.size (.lst ys)) { s with heap := s.heap.push { cls := .type "list", data := .seq its.toArray }, toks := t' } :=
 I.laid (fun _ _ q => Heap.get?_push_of_some _ q) (Nat.le_refl _) ⟨hz, its, 0, hv, Heap.get?_push_size _ rfl⟩
theorem Inv.fresh (I : Inv X pins σ H s) : H s.heap.objs.size = none := I.hok.fresh (Nat.le_refl _)
theorem Inv.lstM (I : Inv X pins σ H s) (hH : H l = some (.lst xs)) : xs.length <= sizeLine /\ ∃ (its : List Value) (n : Nat), Vals xs its /\ xs.length = its.length /\ s.heap.get? l = some { cls := .type "list", data := .seq its.toArray n } := by
 obtain ⟨z, its, n, r, e⟩ := I.hok l _ hH
 exact ⟨z, its, n, r, r.length, e⟩
theorem Zpd {n : Nat} (h : n <= sizeLine) : Builtin.List.listTooLong n = false := by
 unfold Builtin.List.listTooLong
 exact decide_eq_false (by omega)
end
section
variable {X : Cx}
def ZgU : V -> List V -> Hp -> VK -> Prop := fun x vs H Q => ∃ l xs y, x = .ref l /\ vs = [y] /\ H l = some (.lst xs) /\ xs.length < sizeLine /\ Q .non (upd H l (.lst (xs ++ [y])))
theorem ZjX : MtM X "list.append" ZgU := by
 intro pins s σ H x vs v us Q I rx rv h
 obtain ⟨l, xs, y, rfl, rfl, hH, hz, q⟩ := h
 cases rx
 obtain ⟨u, rfl, ru⟩ := rv.one
 obtain ⟨z, its, n, r, hl, e⟩ := I.lstM hH
 refine call_meets F.slot_list_append ⟨_, e, rfl⟩ F.entry_list_append (F.args_list_append_2 _ _) (PySem.list_append l its.toArray n u (by rw [List.size_toArray]; omega)) ⟨e, ?_⟩
 refine ⟨.non, _, I.lset (its' := its ++ [u]) hH e (by simp) (r.append (.cons ru .nil)) ?_, rfl, q⟩
 rw [List.length_append, List.length_singleton]
 omega
def rCat : R2 := fun x y H Q => ∃ l b xs zs, x = .ref l /\ y = .ref b /\ H l = some (.lst xs) /\ H b = some (.lst zs) /\ xs.length + zs.length <= sizeLine /\ ∀ p, H p = none -> Q (.ref p) (upd H p (.lst (xs ++ zs)))
theorem Zfs : OpR X (binaryOp .Add) rCat := by
 intro pins s σ H x y v u Q I rx ry h
 obtain ⟨l, b, xs, zs, rfl, rfl, hH, hB, hz, q⟩ := h
 cases rx
 cases ry
 obtain ⟨z, its, n, r, hl, e⟩ := I.lstM hH
 obtain ⟨z2, its2, n2, r2, hl2, e2⟩ := I.lstM hB
 refine PySem.P.add_list e e2 ?_ (by rw [List.size_toArray, List.size_toArray]; omega)
 have ea : its.toArray ++ its2.toArray = (its ++ its2).toArray := by simp
 rw [ea]
 exact ⟨.ref _, _, I.lnew (t' := s.toks) (r.append r2) (by rw [List.length_append]; omega), rfl, q _ I.fresh⟩
end
section
variable {prog : Program} {w : World} {A : Around} {E : Value -> Shared -> Prop} {s : Shared}
set_option maxRecDepth 100000 in
end
section
variable {X : Cx}
end
end L2
namespace Att
open PySem PySem.W PySem.Calls PyProof.Rows
theorem ZfT {P : Params} {h : Heap} : ∀ (ns : List Int) (vs : List Value), WellAll P h vs (ns.map WData.int) -> IntsAre vs ns := by
 intro ns
 induction ns with
 | nil =>
  intro vs w
  rw [List.map_nil] at w
  cases w
  exact .nil
 | cons n ns ih =>
  intro vs w
  rw [List.map_cons] at w
  cases w with
  | cons a b =>
   cases a
   exact .cons _ _ (ih _ b)
theorem ZjY {l : OpenLaw} {n : Nat} (hn : l.most = some n) {P : Params} {h : Heap} {args : List WData} {vals : List Value}
 (hpre : l.row.toRowW.claim.pre args = true) (hwl : WellAll P h vals args) :
 ∃ a vs ns, vals = [Value.ref a] /\ args = [WData.list (ns.map WData.int)] /\ h.get? a = some { cls := .type "list", data := .seq vs.toArray } /\ IntsAre vs ns /\ ns.length <= n := by
 have hsh : WShape.hasAll [] args [.list .int] = true := (pre_splitW hpre).1
 have hc : l.pre.holds [] { args := args } = true := (pre_splitW hpre).2
 obtain ⟨d, r, rfl, h1, h2⟩ := hasAllW_cons hsh
 obtain rfl := hasAllW_nil h2
 obtain ⟨xs, rfl, h3⟩ := hasW_list h1
 obtain ⟨ns, rfl⟩ := items_int h3
 have hlen : ns.length <= n := by
  unfold OpenLaw.pre at hc
  have h4 : (WTm.not (.lt (.lit (.int (n : Int))) (.len (.arg 0)))).holds [] { args := [.list (ns.map .int)] } = true := by
   have h4 := (holds_andW hc).1
   rw [hn] at h4
   exact h4
  have h5 := condW_of h4 (w_not (w_lt w_lit (w_len_list (w_arg rfl))))
  rw [List.length_map] at h5
  refine Nat.le_of_not_lt fun q => ?_
  have q' : (n : Int) < ((ns.length : Nat) : Int) := by omega
  first
   | (rw [decide_eq_true q'] at h5; exact absurd h5 (by decide))
   | (simp at h5; omega)
 cases hwl with
 | cons w1 w2 =>
  cases w2
  cases w1 with
  | list ho hall => exact ⟨_, _, ns, rfl, rfl, ho, ZfT ns _ hall, hlen⟩
theorem ZjZ (l : OpenLaw) (args : List WData) : l.row.toRowW.claim.post args (.bool true) args = true :=
 postW_of (r := l.row.toRowW) (X := (true == true))
  (show WShape.has [] (.bool true) .bool = true by first | rfl | decide | simp [WShape.has, WShape.arms, WShape.armsAll])
  (show (WTm.eq .res (.lit (.bool true))).value [] { args := args, res := some (.bool true), after := args } = some (.bool (true == true)) from w_eq_bool (w_res rfl) w_lit) rfl
theorem attach_call {l : OpenLaw} {n : Nat} {q : Program} {loose : List Str} {XP : (Str -> Option Value) -> Heap -> Prop} {YP : World -> Heap -> Prop} {d : DefRec}
 (hn : l.most = some n) (hdf : d.params.defaults = [])
 (call : ∀ (w : World) (s₀ s₁ : Shared) (mg mb : Str -> Option Value) (fa : Addr) (o : Obj) (pm cd doc : Value) (a : Addr) (vs : List Value) (ns : List Int),
   Ground q loose [] XP w s₀ mg mb s₁.heap -> YP w s₁.heap ->
   s₁.heap.get? fa = some o -> o.data = .func (docDef d.name d.params d.body d.scope pm cd doc) -> s₁.heap.CodeRec cd d.name -> mg d.name = some (.ref fa) ->
   s₁.heap.get? a = some { cls := .type "list", data := .seq vs.toArray } -> IntsAre vs ns -> ns.length <= n -> s₁.gens = #[] ->
   codeAny (model l.prog w) callerA (.call (.ref fa) ⟨[.ref a], []⟩) (fun r s' => r = .ok (.ret (.bool true)) /\ OldK s₁.heap s'.heap /\ s'.os = s₁.os /\ AllBare s'.gens) s₁) :
 WalkO q loose XP YP l.row.toRowW d [] (fun f vs => PySem.call f vs) := by
 intro w s₀ s₁ mg mb G Y fa o pm cd doc dV kV ho hd hcd hD hmg hg args vals as hpre hlay hrd hwl hlo
 obtain rfl : dV = .none := Dflts.none hD hdf
 obtain rfl : kV = .none := Dflts.noKw hD
 obtain ⟨a, vs, ns, rfl, rfl, hobj, hints, hlen⟩ := ZjY hn hpre hwl
 refine enter_call (codeAny_mono (call w s₀ s₁ mg mb fa o pm cd doc a vs ns G Y ho (fd_plain hd) hcd hmg hobj hints hlen hg) fun r s' hq => ?_)
 obtain ⟨rfl, h2, h3, h4⟩ := hq
 exact ⟨.inl ⟨.bool true, .bool true, [], rfl, fun _ => rfl, .bool true, ZjZ l _, fun _ => ⟨List.Pairwise.nil, fun _ hm => (nomatch hm)⟩⟩, h2, h3, h4⟩
section
variable {prog : Program} {w : World} {A : Around} {E : Value -> Shared -> Prop} {s : Shared} {K : Frag}
def ZpL (h : Heap) (L d : Addr) : List (Addr × Obj) := (List.range h.objs.size).filterMap fun a => if a = L \/ a = d then none else (h.get? a).map fun o => (a, o)
end
end Att
namespace L2
open PySem PySem.Spec PyProof.Rows
theorem Zhv : ∀ {vs : List Value} {ns : List Int}, IntsAre vs ns -> Vals (ns.map V.int) vs
 | _, _, .nil => .nil
 | _, _, .cons n t h => .cons ⟨t, rfl⟩ (Zhv h)
def Only (H : Hp) : Prop := ∀ b, H b = none \/ ∃ o xs, H b = some (.frz o (.lst xs))
theorem Zk5 {P : Program} {w : World} {K : PySem.W.Frag} {mg mb : Str -> Option Value} {CX : CXT} {k : Nat} {fa a : Addr} {fd : FuncData} {x : Str} {sp : Sp} {s₁ : Shared} {vs : List Value} {ns : List Int}
 (KX : K.In s₁.heap) (hns : s₁.heap.Ns mainGlobals mg) (hb : s₁.heap.Ns builtinsNs mb) (hbb : ∀ x : Str, x ≠ "__name__" -> mb x = bootBuiltins x) (hlim : s₁.heap.NoLimit) (hg : s₁.gens = #[])
 (ha : s₁.heap.get? a = some { cls := .type "list", data := .seq vs.toArray }) (hi : IntsAre vs ns) (hl : ns.length <= sizeLine) (hr : Room k callerA)
 (F : ∀ base : Heap, K.In base -> base.Ns mainGlobals mg -> FnOk P w K mg base CX k fa fd [x] sp) (hbind : ∀ (s : Shared) (u : Value), BindsTo s fd ⟨[u], []⟩ [(x, u)])
 (hsp : ∀ H : Hp, Only H -> SqL K H a (ns.map V.int) -> sp [.ref a] H (fun v _ => v = .bl true) fun _ _ _ => False)
 (hCX : ∀ H e s', CX [] H s₁ (fun _ _ _ => False) e s' -> False) :
 codeAny (model P w) callerA (.call (.ref fa) ⟨[.ref a], []⟩) (fun r s' => r = .ok (.ret (.bool true)) /\ OldK s₁.heap s'.heap /\ s'.os = s₁.os /\ AllBare s'.gens) s₁ := by
 have rv := Zhv hi
 have lenV := hi.length
 -- from an abstract heap in which nothing but the script may be tracked
 have core : ∀ H : Hp, Only H -> SqL K H a (ns.map V.int) -> HOk P w H s₁.heap -> (∀ b, H b ≠ none -> b = a) -> (H a ≠ none -> K.lookup a = none) ->
  codeAny (model P w) callerA (.call (.ref fa) ⟨[.ref a], []⟩) (fun r s' => r = .ok (.ret (.bool true)) /\ OldK s₁.heap s'.heap /\ s'.os = s₁.os /\ AllBare s'.gens) s₁ := by
  intro H hO hS hok hA hK
  have base_of : ∀ {b : Addr} {o : Obj}, s₁.heap.get? b = some o -> H b = none -> (hidT s₁.heap H).get? b = some o := fun e n => ZkV e n
  have noA : ∀ {b : Addr} {o : Obj} {es : Array DictEntry} {ep : Nat}, s₁.heap.get? b = some o -> o.data = .dict es ep -> H b = none := fun {b o es ep} e d => by
   cases q : H b with
   | none => rfl
   | some u =>
    have e' : b = a := hA b (by rw [q]; simp)
    subst e'
    rw [ha] at e; cases e
    have d' : Data.seq vs.toArray _ = Data.dict es ep := d
    cases d'
  have nsK : ∀ {b : Addr} {m : Str -> Option Value}, s₁.heap.Ns b m -> (hidT s₁.heap H).Ns b m := fun {b m} ⟨o, es, ep, e, d, r⟩ => ⟨o, es, ep, base_of e (noA e d), d, r⟩
  have hKb : K.In (hidT s₁.heap H) := fun b o e => base_of (KX b o e) (by
   cases q : H b with
   | none => rfl
   | some u =>
    have e' : b = a := hA b (by rw [q]; simp)
    subst e'
    rw [hK (by rw [q]; simp)] at e; cases e)
  have hM : Mod K mg (hidT s₁.heap H) := ⟨hKb, nsK hns, ⟨mb, nsK hb, hbb⟩, let ⟨mc, h1, h2⟩ := hlim; ⟨mc, nsK h1, h2⟩⟩
  have e0 : Env0 P w K mg (hidT s₁.heap H) callerA [] s₁ H := ⟨rfl, hM, fun b o e => Zmr e, Nat.le_of_eq (ZjB _ _), trivial, fun b hb => absurd (show b ∈ ([] : List Addr) from hb) (by simp), hok, .of_eq hg⟩
  refine codeAny_mono ((F _ hKb (nsK hns)).run callerA [] s₁ H ⟨[.ref a], []⟩ [.ref a] [.ref a] _ _ hr e0 (hbind s₁ (.ref a)) (.cons rfl .nil) (hsp H hO hS)) fun r s' h => ?_
  cases r with
  | error e => exact (hCX H e s' h).elim
  | ok fl =>
   cases fl with
   | next => exact False.elim h
   | brk => exact False.elim h
   | cont => exact False.elim h
   | ret u =>
    obtain ⟨v, H', os, bare, un, hok', r', q⟩ := h
    have q' : v = .bl true := q
    subst q'
    obtain rfl : u = Value.bool true := r'
    refine ⟨rfl, OldK.of_keep fun b o e => ?_, os, bare⟩
    cases q : H b with
    | none => exact un.keep b o e q (by intro z; exact absurd (show b ∈ ([] : List Addr) from z) (by simp)) (by simp)
    | some u =>
     rcases hO b with z | ⟨ob, xs, z⟩
     · rw [q] at z; cases z
     · have z2 := un.frzs b ob _ z
       obtain ⟨e1, _⟩ := hok b _ z
       obtain ⟨e2, _⟩ := hok' b _ z2
       rw [e] at e1; cases e1
       exact e2
 cases hk : K.lookup a with
 | some o =>
  -- the script is one of the module's own objects
  have e := KX a o hk
  rw [ha] at e
  cases e
  refine core (fun _ => none) (fun _ => .inl rfl) (.inr ⟨_, vs.toArray, _, hk, rfl, rfl, rfl, by rw [List.size_toArray, lenV]; exact hl, by simpa using rv⟩) (fun b u z => by have z' : (none : Option HO) = some u := z; cases z') (fun b z => absurd rfl z) fun z => absurd rfl z
 | none =>
  refine core (fun b => if b = a then some (.frz { cls := .type "list", data := .seq vs.toArray } (.lst (ns.map V.int))) else none) (fun b => ?_) (.inl (.inr ⟨{ cls := .type "list", data := .seq vs.toArray }, if_pos rfl⟩)) (fun b u z => ?_) (fun b z => ?_) fun _ => hk
  · by_cases hb : b = a
    · exact .inr ⟨_, _, if_pos hb⟩
    · exact .inl (if_neg hb)
  · by_cases hb : b = a
    · have z' := (if_pos hb).symm.trans z
      cases z'
      subst hb
      exact ⟨ha, by rw [List.length_map]; exact hl, vs, _, rv, ha⟩
    · have z' := (if_neg hb).symm.trans z
      cases z'
  · by_cases hb : b = a
    · exact hb
    · exact absurd (if_neg hb) z
end L2
namespace L2
open PySem PySem.Spec PyProof.Rows
abbrev KOf {K : PySem.W.Frag} {h : Heap} (_ : K.In h) : PySem.W.Frag := K
theorem walk_of {l : PySem.W.OpenLaw} {n k : Nat} {q : Program} {loose : List Str} {XP : (Str -> Option Value) -> Heap -> Prop} {YP : World -> Heap -> Prop} {d : DefRec} {K : Params -> PySem.W.Frag} {CX : World -> CXT} {sp : World -> Sp} {x : Str}
 (hn : l.most = some n) (hn2 : n <= sizeLine) (hdf : d.params.defaults = []) (hr : Room k callerA)
 (hY : ∀ (w : World) (h : Heap), YP w h -> (K w.params).In h)
 (F : ∀ (w : World) (mg : Str -> Option Value) (fa : Addr) (h : Heap), (K w.params).In h -> h.Ns mainGlobals mg -> mg d.name = some (.ref fa) ->
   ∃ fd : FuncData, (∀ (s : Shared) (u : Value), BindsTo s fd ⟨[u], []⟩ [(x, u)]) /\
    ∀ base : Heap, (K w.params).In base -> base.Ns mainGlobals mg -> FnOk l.prog w (K w.params) mg base (CX w) k fa fd [x] (sp w))
 (hsp : ∀ (w : World) (H : Hp) (a : Addr) (ns : List Int), ns.length <= n -> Only H -> SqL (K w.params) H a (ns.map V.int) -> sp w [.ref a] H (fun v _ => v = .bl true) fun _ _ _ => False)
 (hCX : ∀ (w : World) (H : Hp) (s : Shared) (e : Value) (s' : Shared), CX w [] H s (fun _ _ _ => False) e s' -> False) :
 PySem.W.WalkO q loose XP YP l.row.toRowW d [] (fun f vs => PySem.call f vs) := by
 refine Att.attach_call hn hdf fun w s₀ s₁ mg mb fa o pm cd doc a vs ns G Y ho hd hcd hmg hobj hints hlen hg => ?_
 have KX := hY w _ Y
 obtain ⟨fd, hb, hF⟩ := F w mg fa _ KX G.T.g hmg
 exact Zk5 KX G.T.g G.T.b G.T.builtins G.T.nolimit hg hobj hints (Nat.le_trans hlen hn2) hr hF hb (fun H hO hS => hsp w H a ns hlen hO hS) fun H e s' => hCX w H s₁ e s'
end L2
/- THE LAST THEOREM (shape; LID, My.* are yours):
 My.Adr: a structure of the addresses that your layer names (classes, functions); My.Txt K t: a structure (Prop) of the equations over K;
 My.txt_mk : {K} {implicit addresses ..} (e1 : nsIn K mainGlobals "law" = some (some (.ref f))) (e2 : K.lookup f = some ⟨oc, od, .func (fnOf "law" "law" params body scope dV kV doc pm an cdv ct), sl⟩) (e3 : codeIn K cdv "law" = true) .. : ∃ t, My.Txt K t
set_option maxRecDepth 100000 in
set_option maxHeartbeats 0 in
theorem PySem.Challenge.cw_LID_holds : PySem.Challenge.rw_LID.Holds := by
 w_on; o_law; k_head; (case hw => w_witness2)
 k_fill
 refine L2.walk_of (l := PySem.Challenge.rw_LID) (n := 63) (k := 40) (x := "script") (CX := fun w => ..) (sp := fun _ => My.sp_law) rfl (by decide) rfl ⟨rfl, by decide, by decide⟩ (fun w h Y => PySem.W.kIn_of Y) ?F ?S ?C
 case F =>
  intro w mg fa h KX G hmg
  have T : ∃ t, My.Txt (L2.KOf KX) t := by
   dsimp only [L2.KOf]                          -- K must stand as «<heap const> w.params» for k_is
   refine' My.txt_mk ?e1 ?e2 ?e3 ..
   (case e1 => PySem.W.k_is)                    -- in the order: a name -> its address -> its object -> its parts
   (case e2 => PySem.W.k_is)
   ..
  obtain ⟨t, T⟩ := T
  have e0 := hmg.symm.trans (PySem.W.mg_of KX G T.law)
  cases e0                                       -- fa is the law's own address
  exact ⟨_, fun s u => .of_eq rfl, fun base kb nb => My.law_fn T kb nb⟩     -- if «.of_eq rfl» comes too early: refine' ⟨_, ?b, fun base kb nb => My.law_fn T kb nb⟩; exact fun s u => .of_eq rfl
 case S => exact fun w H a ns hl hO hS => ..
 case C => exact ..
(the tactic k_is has no namespace: write k_is) -/
namespace L2
open PySem PySem.Spec PyProof.Rows
def ZbU (s : Stmt) (j : Nat) : Stmt := match s with
 | .ClassDef _ _ _ body _ _ _ _ _ _ _ => body.getD j (.Pass ⟨0, 0, 0, 0⟩)
 | _ => .Pass ⟨0, 0, 0, 0⟩
def Zcz (s : Stmt) : Arguments := match s with
 | .FunctionDef _ a _ _ _ _ _ _ _ _ => a
 | _ => { posonlyargs := [], args := [], vararg := none, kwonlyargs := [], kw_defaults := [], kwarg := none, defaults := [] }
def Zbl (s : Stmt) : List Stmt := match s with
 | .FunctionDef _ _ b _ _ _ _ _ _ _ => b
 | _ => []
def Zaj (s : Stmt) : Scope := match s with
 | .FunctionDef _ _ _ _ _ _ sc _ _ _ => sc
 | _ => { kind := .function, names := [], isGenerator := false, isCoroutine := false }
abbrev CX0 : CXT := fun _ _ _ _ _ _ => False
abbrev E0 : XK := fun _ _ _ => False
structure Fun (K : PySem.W.Frag) (x qual : Str) (st : Stmt) (f : Addr) (fd : FuncData) : Prop where
 ex : ∃ (oc : Value) (od : Option Addr) (kV doc pm : Value) (an : Option Addr) (cdv ct : Value) (osl : Array (Option Value)),
  fd = PySem.W.fnOf x qual (Zcz st) (Zbl st) (Zaj st) .none kV doc pm an cdv ct /\ K.lookup f = some ⟨oc, od, .func fd, osl⟩ /\ PySem.W.codeIn K cdv qual = true
 kp : PySem.W.keepIn K (.ref f) = true
section
variable {P : Program} {w : World} {K : PySem.W.Frag} {mg : Str -> Option Value} {base : Heap}
theorem Fun.ok {x qual : Str} {st : Stmt} {f : Addr} {fd : FuncData} {N ps : List Str} {k : Nat} {sp : Sp} (F : Fun K x qual st f fd) (S : FnScope N ps (Zaj st)) (len : ∀ vs H Q E, sp vs H Q E -> vs.length = ps.length)
 (hbody : ∀ (cdv : Value) (A : Around) (outer : List Env) (s : Shared) (H : Hp) (vs : List V) (Q : VK) (E : XK), Room k (A.deeper (envOfC qual (Zaj st) s.heap.objs.size f cdv)) -> sp vs H Q E ->
   ∃ t, PSs (cxOf CX0 P w K mg base N qual (Zaj st) f cdv A outer s H E).nox (Zbl st) t /\ t { nx := fun _ H' => Q .non H', rt := Q } (start N vs) H) : FnOk P w K mg base CX0 (k + 1) f fd ps sp := by
 obtain ⟨oc, od, kV, doc, pm, an, cdv, ct, osl, rfl, lk, hcd⟩ := F.ex
 refine ZmE lk hcd S len fun A outer s H vs Q E hr hsp => ?_
 obtain ⟨t, h, q⟩ := hbody cdv A outer s H vs Q E hr hsp
 exact ⟨t, h.nox, q⟩
theorem Fun.binds {x qual : Str} {st : Stmt} {f : Addr} {fd : FuncData} {ps : List Str} (F : Fun K x qual st f fd)
 (h : ∀ (kV doc pm : Value) (an : Option Addr) (cdv ct : Value) (us : List Value), us.length = ps.length -> bindArgs (PySem.W.fnOf x qual (Zcz st) (Zbl st) (Zaj st) .none kV doc pm an cdv ct) ⟨us, []⟩ = pure (ps.zip us)) : Binds K fd ps [] := by
 obtain ⟨oc, od, kV, doc, pm, an, cdv, ct, osl, rfl, lk, hcd⟩ := F.ex
 exact .all (h kV doc pm an cdv ct)
theorem ZlX {x qual : Str} {st : Stmt} {f : Addr} {oc : Value} {od an : Option Addr} {osl : Array (Option Value)} {kV doc pm cdv ct : Value} (l : K.lookup f = some ⟨oc, od, .func (PySem.W.fnOf x qual (Zcz st) (Zbl st) (Zaj st) .none kV doc pm an cdv ct), osl⟩)
 (c : PySem.W.codeIn K cdv qual = true) (k : PySem.W.keepIn K (.ref f) = true) : Fun K x qual st f (PySem.W.fnOf x qual (Zcz st) (Zbl st) (Zaj st) .none kV doc pm an cdv ct) := ⟨⟨oc, od, kV, doc, pm, an, cdv, ct, osl, rfl, l, c⟩, k⟩
end
theorem Zn4 {A : Around} {k : Nat} (hr : Room k A) : A.units + 1 < cLine := Nat.lt_of_le_of_lt (Nat.add_le_add_left (by decide : 1 <= 64) _) hr.units
theorem Zhw {n : Nat} (h : n <= 1000) : n < sizeLine := Nat.lt_of_le_of_lt h (by decide)
section
variable {X : Cx}
end
def Same (H H' : Hp) : Prop := ∀ b o, H b = some o -> H' b = some o
theorem Same.refl (H : Hp) : Same H H := fun _ _ h => h
theorem Same.trans {H H1 H2 : Hp} (a : Same H H1) (b : Same H1 H2) : Same H H2 := fun c o h => b c o (a c o h)
theorem Same.free {H H' : Hp} (e : Same H H') {l : Addr} (h : H' l = Option.none) : H l = Option.none := by
 cases q : H l with
 | none => rfl
 | some o =>
  rw [e l o q] at h
  cases h
theorem Same.seq {K : PySem.W.Frag} {H H' : Hp} {a : Addr} {xs : List V} (e : Same H H') (h : SqL K H a xs) : SqL K H' a xs := by
 rcases h with (h | ⟨o, h⟩) | h
 · exact .inl (.inl (e _ _ h))
 · exact .inl (.inr ⟨o, e _ _ h⟩)
 · exact .inr h
end L2
set_option maxHeartbeats 4000000
namespace L2
open PySem PySem.Spec PyProof.Rows
section
variable {X : Cx}
theorem Zh7 : Zdq X (.builtin "isinstance") (fun xs H Q => ∃ x c t b, xs = [x, .ty c] /\ TyOf X.K H x t /\ PySem.W.kitOne X.K t (.type c) = some b /\ Q (.bl b) H) := by
 intro pins s σ H xs us Q I r h
 obtain ⟨x, c, t, b, rfl, ty, e, q⟩ := h
 obtain ⟨u1, u2, rfl, r1, r2⟩ := Zi9 r
 cases (show u2 = Value.type c from r2)
 exact ZjR I r1 ty e fun tk => ⟨.bl b, H, I.tok tk, rfl, q⟩
end
def Itz (K : PySem.W.Frag) (a b : Addr) : It :=
 ⟨fun i H => ∃ xs ys x y, SqL K H a xs /\ SqL K H b ys /\ xs[i]? = some x /\ ys[i]? = some y,
  fun i H v H' => ∃ T x y, H T = none /\ v = .ref T /\ H' = upd H T (.tup [x, y]) /\ (∀ xs, SqL K H a xs -> xs[i]? = some x) /\ (∀ ys, SqL K H b ys -> ys[i]? = some y),
  fun i H => ∃ xs ys, SqL K H a xs /\ SqL K H b ys /\ (xs.length <= i \/ ys.length <= i)⟩
def ZipSt (a b z TI TO i1 i2 : Addr) (i : Nat) (h : Heap) : Prop :=
 IsZip h z TI TO .none /\ IsPair h TI (.ref i1) (.ref i2) /\ (∃ x y, IsPair h TO x y) /\ h.IsListIter i1 a i /\ h.IsListIter i2 b i
theorem ZlY {h : Heap} {a b : Addr} {o u : Obj} (h1 : h.get? a = some o) (h2 : h.get? b = some u) (d : o.cls ≠ u.cls) : a ≠ b := by
 rintro rfl; rw [h1] at h2; cases h2; exact d rfl
theorem ZipSt.apart {a b z TI TO i1 i2 : Addr} {i : Nat} {h : Heap} {xs ys : Array Value} (st : ZipSt a b z TI TO i1 i2 i h) (n1 : TI ≠ TO) (n2 : i1 ≠ i2) (l1 : h.IsList a xs) (l2 : h.IsList b ys) : ZipApart z TI TO i1 i2 a b := by
 obtain ⟨hz, hTI, ⟨x, y, hTO⟩, ⟨o1, e1, c1, d1⟩, ⟨o2, e2, c2, d2⟩⟩ := st
 obtain ⟨oa, ea, ca, _⟩ := l1
 obtain ⟨ob, eb, cb, _⟩ := l2
 have k : ∀ {c d : Addr} {o u : Obj} {m n : String}, h.get? c = some o -> h.get? d = some u -> o.cls = .type m -> u.cls = .type n -> m ≠ n -> c ≠ d := fun h1 h2 e1 e2 d => ZlY h1 h2 (by rw [e1, e2]; intro q; injection q with q; exact d q)
 exact ⟨k hTI hz rfl rfl (by decide), k hTO hz rfl rfl (by decide), k e1 hz c1 rfl (by decide), k e2 hz c2 rfl (by decide), n1, k hTI e1 rfl c1 (by decide), k hTI e2 rfl c2 (by decide),
  k hTO e1 rfl c1 (by decide), k hTO e2 rfl c2 (by decide), n2, k ea hz ca rfl (by decide), k ea hTO ca rfl (by decide), k ea e1 ca c1 (by decide), k ea e2 ca c2 (by decide),
  k eb hz cb rfl (by decide), k eb hTO cb rfl (by decide), k eb e1 cb c1 (by decide), k eb e2 cb c2 (by decide)⟩
theorem Inv.turnedL {X : Cx} {pins : List (Addr × Obj)} {σ : St} {H : Hp} {s : Shared} {h' : Heap} {t' : Nat} {ch : List Addr} (I : Inv X pins σ H s) (k : ∀ b o, b ∉ ch -> s.heap.get? b = some o -> h'.get? b = some o) (hf : ∀ b ∈ ch, FpOk X pins H b) :
 Inv X pins σ H { s with heap := h', toks := t' } := by
 have nit : ∀ b u, H b = some u -> b ∉ ch := fun b u e z => by have := (hf b z).1; rw [this] at e; cases e
 refine I.step (g' := s.gens) (d' := s.drawn) (ch := ch) (fun b hb => ?_) (fun b o _ _ hc e _ => k b o hc e) (fun b o _ _ hc e _ => ⟨o.slots, k b o hc e⟩) (fun _ _ _ _ n => n)
  (fun b o hc e => ⟨o, k b o hc e⟩) (fun _ _ e => e) (fun _ _ _ e => e) (fun b ps e => ⟨#[], by rw [e]; simp⟩) (fun m hm => ?_) (fun b u e => ?_) I.bare
 · obtain ⟨f0, f1, f2, f3, f4, f5⟩ := hf b hb
   exact ⟨f3, f1, f4, f5⟩
 · exact hm.at' fun o e => k _ o (fun z => (hf _ z).2.1 rfl) e
 · refine (I.hok b u e).stay (fun c v hc q => k c v ?_ q) (fun _ q => q) fun _ _ q => q
   rcases hc with rfl | hc
   · exact nit _ _ e
   · exact nit _ _ hc
theorem Zk6 {P : Program} {w : World} {K : PySem.W.Frag} {es : List Expr} {kk : Nat} {tp : Pos} (a b z TI TO i1 i2 : Addr) (n1 : TI ≠ TO) (n2 : i1 ≠ i2) :
 Turn P w K (.Tuple es kk tp) (Itz K a b) [z, TI, TO, i1, i2] z (ZipSt a b z TI TO i1 i2) where
 mem := by simp
 obj := fun i h st c hc => by
  obtain ⟨hz, hTI, ⟨x, y, hTO⟩, ⟨o1, e1, c1, d1⟩, ⟨o2, e2, c2, d2⟩⟩ := st
  have : c = z \/ c = TI \/ c = TO \/ c = i1 \/ c = i2 := by simpa using hc
  rcases this with rfl | rfl | rfl | rfl | rfl
  · exact ⟨_, hz, fun v q => by cases (show Data.fields _ = Data.cell v from q)⟩
  · exact ⟨_, hTI, fun v q => by cases (show Data.seq _ _ = Data.cell v from q)⟩
  · exact ⟨_, hTO, fun v q => by cases (show Data.seq _ _ = Data.cell v from q)⟩
  · exact ⟨_, e1, fun v q => by rw [d1] at q; cases q⟩
  · exact ⟨_, e2, fun v q => by rw [d2] at q; cases q⟩
 keep := fun i h h' st k => by
  obtain ⟨hz, hTI, ⟨x, y, hTO⟩, h1, h2⟩ := st
  exact ⟨k z (by simp) _ hz, k TI (by simp) _ hTI, ⟨x, y, k TO (by simp) _ hTO⟩, h1.at fun o e => k i1 (by simp) o e, h2.at fun o e => k i2 (by simp) o e⟩
 item := by
  intro X hP hw hK hc i pins s σ H E I hf st hg
  subst hP hw hK
  obtain ⟨xs, ys, x, y, hq, hq2, hx, hy⟩ := hg
  obtain ⟨its, rv, p, hz1⟩ := I.list hq
  obtain ⟨its2, rv2, p2, hz2⟩ := I.list hq2
  obtain ⟨u, hu, ru⟩ := rv.get hx
  obtain ⟨u2, hu2, ru2⟩ := rv2.get hy
  have D := st.apart n1 n2 p.isList p2.isList
  obtain ⟨hz, hTI, ⟨v1, v2, hTO⟩, h1, h2⟩ := id st
  refine wpAny_pyNext_zip_item D hz hTI hTO h1 h2 p.isList p2.isList (x := u) (y := u2) (by simpa using hu) (by simpa using hu2) fun h' a1 a2 a3 a4 a5 a6 a7 => ?_
  refine ⟨_, rfl, wpAny_letOwnedTupleGo_zip a1 fun h'' b1 b2 => ?_⟩
  have up : ∀ c o, c ≠ z -> h'.get? c = some o -> h''.get? c = some o := fun c o hc e => b2.extBut c o hc e
  have zlt : z < s.heap.objs.size := Heap.lt_size hz
  have TIs : IsPair h'' TI (.ref i1) (.ref i2) := up _ _ D.TIz (a7 _ _ D.TIz D.TITO D.TIi1 D.TIi2 hTI)
  have TOs : IsPair h'' TO u u2 := up _ _ D.TOz a2
  have I1s : h''.IsListIter i1 a (i + 1) := a3.at fun o e => up _ o D.i1z e
  have I2s : h''.IsListIter i2 b (i + 1) := a4.at fun o e => up _ o D.i2z e
  have I1 : Inv X pins σ H { s with heap := h'' } := by
   refine I.turnedL (t' := s.toks) (ch := [z, TI, TO, i1, i2]) (fun c o hc e => ?_) hf
   have hc' : c ≠ z /\ c ≠ TI /\ c ≠ TO /\ c ≠ i1 /\ c ≠ i2 := by simpa using hc
   exact up c o hc'.1 (a7 c o hc'.1 hc'.2.2.1 hc'.2.2.2.1 hc'.2.2.2.2 e)
  have fresh : H s.heap.objs.size = none := I.hok.fresh (Nat.le_refl _)
  have newT : h''.get? s.heap.objs.size = some _ := up _ _ (Nat.ne_of_gt zlt) a5
  have I2 : Inv X pins σ (upd H s.heap.objs.size (.tup [x, y])) { s with heap := h'' } := by
   have un : Un X.fs [z, TI, TO, i1, i2] H (upd H s.heap.objs.size (.tup [x, y])) s.heap h'' := by
    refine ⟨fun c o e n _ hx => ?_, fun c o e n _ hx => ⟨o.slots, ?_⟩, fun c o e n _ => ?_, fun c o e hx => ⟨o, ?_⟩, fun c zs e => ?_, fun c o zs e => ?_, fun c ps e => ⟨#[], ?_⟩⟩
    · have hc' : c ≠ z /\ c ≠ TI /\ c ≠ TO /\ c ≠ i1 /\ c ≠ i2 := by simpa using hx
      exact up c o hc'.1 (a7 c o hc'.1 hc'.2.2.1 hc'.2.2.2.1 hc'.2.2.2.2 e)
    · have hc' : c ≠ z /\ c ≠ TI /\ c ≠ TO /\ c ≠ i1 /\ c ≠ i2 := by simpa using hx
      exact up c o hc'.1 (a7 c o hc'.1 hc'.2.2.1 hc'.2.2.2.1 hc'.2.2.2.2 e)
    · rw [Zap (Nat.ne_of_lt (Heap.lt_size e))]; exact n
    · have hc' : c ≠ z /\ c ≠ TI /\ c ≠ TO /\ c ≠ i1 /\ c ≠ i2 := by simpa using hx
      exact up c o hc'.1 (a7 c o hc'.1 hc'.2.2.1 hc'.2.2.2.1 hc'.2.2.2.2 e)
    · rw [Zap (Zak e fresh)]; exact e
    · rw [Zap (Zak e fresh)]; exact e
    · rw [Zap (Zak e fresh), e]; simp
   have ok2 : HOk X.prog X.w (upd H s.heap.objs.size (.tup [x, y])) h'' := fun c o e => by
    by_cases hc : c = s.heap.objs.size
    · subst hc
      rw [ZaG] at e; cases e
      exact ⟨by show 2 <= sizeLine; decide, [u, u2], .cons ru (.cons ru2 .nil), ⟨_, newT, rfl, _, rfl⟩⟩
    · rw [Zap hc] at e
      exact (I1.hok c o e).stay (fun _ _ _ q => q) (fun d q => by rw [Zap (Zak q fresh)]; exact q) fun d zs q => by rw [Zap (Zak q fresh)]; exact q
   refine I.call' (s' := { s with heap := h'' }) (ch := [z, TI, TO, i1, i2]) rfl (un.mono (fun c hc => ?_) fun c hc => hc) ok2 I.bare fun c hc => ?_
   · rcases I.ok.stk with e | ⟨e, hfr⟩
     · rw [e]; exact hc
     · rw [e]
       unfold frs
       rw [List.filterMap_cons, hfr]
       exact List.mem_cons_of_mem _ hc
   · obtain ⟨f0, f1, f2, f3, f4, f5⟩ := hf c hc
     exact ⟨f3, f1, f4, f5⟩
  refine ⟨.ref s.heap.objs.size, _, I2, rfl, ⟨_, x, y, fresh, rfl, rfl, fun xs' h => by rw [I.list_inj h hq]; exact hx, fun ys' h => by rw [I.list_inj h hq2]; exact hy⟩, ⟨b1, TIs, ⟨_, _, TOs⟩, I1s, I2s⟩, fun c hc => ?_⟩
  rw [Zap ?_]
  · exact (hf c hc).1
  · have hc' : c = z \/ c = TI \/ c = TO \/ c = i1 \/ c = i2 := by simpa using hc
    rcases hc' with rfl | rfl | rfl | rfl | rfl
    · exact Nat.ne_of_lt zlt
    · exact Nat.ne_of_lt (Heap.lt_size hTI)
    · exact Nat.ne_of_lt (Heap.lt_size hTO)
    · obtain ⟨o, e, _⟩ := h1; exact Nat.ne_of_lt (Heap.lt_size e)
    · obtain ⟨o, e, _⟩ := h2; exact Nat.ne_of_lt (Heap.lt_size e)
 done := by
  intro X hP hw hK hc i pins s σ H E I hf st hg
  subst hP hw hK
  obtain ⟨xs, ys, hq, hq2, hx⟩ := hg
  obtain ⟨its, rv, p, hz1⟩ := I.list hq
  obtain ⟨its2, rv2, p2, hz2⟩ := I.list hq2
  have D := st.apart n1 n2 p.isList p2.isList
  obtain ⟨hz, hTI, ⟨v1, v2, hTO⟩, h1, h2⟩ := id st
  have l1 := rv.length
  have l2 := rv2.length
  refine wpAny_pyNext_zip_end (I.ok.hd hc) D hz hTI hTO h1 h2 p.isList p2.isList ?_ fun h' hk => ⟨rfl, ?_⟩
  · rcases hx with hx | hx
    · left; simp; omega
    · right; simp; omega
  · refine I.turnedL (t' := s.toks) (ch := [z, TI, TO, i1, i2]) (fun c o hc e => ?_) hf
    have hc' : c ≠ z /\ c ≠ TI /\ c ≠ TO /\ c ≠ i1 /\ c ≠ i2 := by simpa using hc
    exact hk c o hc'.1 hc'.2.2.1 hc'.2.2.2.1 hc'.2.2.2.2 e
 self := fun _ _ _ _ _ st h => wpAny_pyIter_zip st.1 h
section
variable {X : Cx} {es : List Expr} {kk : Nat} {tp : Pos}
end
end L2
namespace L2
open PySem PySem.Spec PyProof.Rows
@[reducible] def blk (X : Cx) (scope : Scope) (cl : List (Str × Addr)) (N : List Str) (C : Addr) (s₀ : Shared) (H₀ : Hp) (ex : List Addr) : Cx where
 prog := X.prog
 w := X.w
 K := X.K
 mg := X.mg
 base := X.base
 A := X.A
 N := N
 s₀ := s₀
 H₀ := H₀
 env := compEnvC scope cl C X.env
 outer := X.stack
 stack := X.stack
 ex := ex
 fn := fun _ => false
 calm := X.calm
 pn := []
 xe := fun _ _ => False
inductive CapOk (X : Cx) (sc : Scope) (cl : List (Str × Addr)) : List Str -> List (Option Nat) -> Prop
 | nil : CapOk X sc cl [] []
 | own {x : Str} {N : List Str} {caps : List (Option Nat)} : CapOk X sc cl N caps -> CapOk X sc cl (x :: N) (none :: caps)
 | cap {x : Str} {N : List Str} {caps : List (Option Nat)} {j : Nat} (h1 : X.N[j]? = some x) (h2 : X.env.kindOf x = some .cell \/ X.env.kindOf x = some .free)
  (h3 : (relabel sc X.env).names.lookup x = some .cell \/ (relabel sc X.env).names.lookup x = some .free) (h4 : ∃ c, cl.lookup x = some c) : CapOk X sc cl N caps -> CapOk X sc cl (x :: N) (some j :: caps)
inductive ClOk (X : Cx) : List (Str × Addr) -> Prop
 | nil : ClOk X []
 | cons {x : Str} {c : Addr} {cl : List (Str × Addr)} (h : X.env.cells.lookup x = some c) : ClOk X cl -> ClOk X ((x, c) :: cl)
theorem ClOk.get {X : Cx} : ∀ {cl : List (Str × Addr)}, ClOk X cl -> ∀ x c, cl.lookup x = some c -> X.env.cells.lookup x = some c
 | _, .nil, _, _, h => by simp at h
 | _, .cons (x := n) (c := d) h r, x, c, e => by
  rw [List.lookup_cons] at e
  cases q : x == n with
  | true =>
   rw [q] at e
   have e1 : x = n := eq_of_beq q
   have e2 : d = c := Option.some.inj e
   rw [e1, <- e2]; exact h
  | false =>
   rw [q] at e
   exact ClOk.get r x c e
def capt (σ : St) (caps : List (Option Nat)) : St := caps.map fun o => o.bind fun j => (σ[j]?).join
theorem CapOk.len {X : Cx} {sc : Scope} {cl : List (Str × Addr)} {N : List Str} {caps : List (Option Nat)} (h : CapOk X sc cl N caps) : caps.length = N.length := by
 induction h with
 | nil => rfl
 | own _ ih => simp [ih]
 | cap _ _ _ _ _ ih => simp [ih]
theorem CapOk.look {X : Cx} {sc : Scope} {cl : List (Str × Addr)} {N : List Str} {caps : List (Option Nat)} {σ : St} (h : CapOk X sc cl N caps) : ∀ (i : Nat) (x : Str) (v : V), N[i]? = some x -> (capt σ caps)[i]? = some (some v) ->
 ∃ j : Nat, X.N[j]? = some x /\ σ[j]? = some (some v) /\ (X.env.kindOf x = some .cell \/ X.env.kindOf x = some .free) /\ ((relabel sc X.env).names.lookup x = some .cell \/ (relabel sc X.env).names.lookup x = some .free) /\ ∃ c, cl.lookup x = some c := by
 induction h with
 | nil => intro i x v e; simp at e
 | own _ ih =>
  intro i x v e1 e2
  cases i with
  | zero =>
   have e2' : (none : Option V) = some v := by simpa [capt] using e2
   cases e2'
  | succ i => exact ih i x v (by simpa using e1) (by simpa [capt] using e2)
 | @cap y N caps j h1 h2 h3 h4 _ ih =>
  intro i x v e1 e2
  cases i with
  | zero =>
   have e1' : y = x := by simpa using e1
   subst e1'
   have e2' : (σ[j]?).join = some v := by simpa [capt] using e2
   refine ⟨j, h1, ?_, h2, h3, h4⟩
   cases q : σ[j]? with
   | none => rw [q] at e2'; cases e2'
   | some o =>
    rw [q] at e2'
    have : o = some v := e2'
    rw [this]
  | succ i => exact ih i x v (by simpa using e1) (by simpa [capt] using e2)
section
variable {X : Cx} {pins : List (Addr × Obj)} {σ : St} {H : Hp} {s : Shared} {scope : Scope} {cl : List (Str × Addr)} {N : List Str} {caps : List (Option Nat)} {ex : List Addr}
theorem Inv.block {h1 : Heap} {tk : Nat} (I : Inv X pins σ H s) (hkind : scope.kind = .function) (hcap : CapOk X scope cl N caps) (hcl : ClOk X cl) (hhas : ∀ x, ((relabel scope X.env).names.lookup x = some .cell \/ (relabel scope X.env).names.lookup x = some .free) -> ∃ c, cl.lookup x = some c)
 (hex : ∀ b ∈ ex, FpOk X pins H b /\ b < s.heap.objs.size)
 (hns : ∃ m, h1.Ns s.heap.objs.size m) (hk : ∀ b o, s.heap.get? b = some o -> h1.get? b = some o) (hsz : s.heap.objs.size < h1.objs.size) :
 Inv (blk X scope cl N s.heap.objs.size s H ex) [] (capt σ caps) H { s with heap := h1, toks := tk } := by
 have exfs : ∀ b ∈ ex, b ∉ frs X.stack := fun b hb z => by
  obtain ⟨⟨f0, f1, f2, f3, f4, f5⟩, _⟩ := hex b hb
  rcases List.mem_cons.mp (I.stkSub b z) with e | e
  · exact f1 e
  · exact f2 e
 have ok : (blk X scope cl N s.heap.objs.size s H ex).Ok := by
  refine ⟨I.ok.mod, hkind, I.ok.glob, I.ok.blt, Nat.le_refl _, fun x y c e1 e2 => I.ok.inj x y c (hcl.get x c e1) (hcl.get y c e2), fun x hx => hhas x hx, fun x c hx => (by cases hx), I.ok.hd, I.ok.frames, .inl rfl,
   fun b hb => ?_, I.bs, Nat.le_trans I.ok.bsz I.sz, fun b o e hb => ?_, exfs, I.stack, I.stkFree⟩
  · obtain ⟨⟨f0, f1, f2, f3, f4, f5⟩, hlt⟩ := hex b hb
    exact ⟨Nat.ne_of_lt hlt, fun x c e => f4 x c (hcl.get x c e)⟩
  · obtain ⟨⟨f0, f1, f2, f3, f4, f5⟩, hlt⟩ := hex b hb
    rcases f3 with f3 | f3
    · exact I.ok.noex b o e f3
    · exact absurd (Nat.lt_of_lt_of_le (Heap.lt_size e) (Nat.le_trans I.ok.bsz f3)) (Nat.lt_irrefl _)
 obtain ⟨m1, hm1⟩ := hns
 obtain ⟨m, hn, hl⟩ := I.loc
 refine ⟨ok, rfl, I.bare, Un.kept hk, ⟨m1, hm1, fun i x v e1 e2 e3 => ?_⟩, fun x c e => ?_, I.hok.fresh (Nat.le_refl _), fun x c e => I.freeC x c (hcl.get x c e), fun p hp => ?_, I.hok.kept hk, ?_⟩
 · obtain ⟨j, q1, q2, q3, q4, c, q5⟩ := hcap.look i x v e1 e2
   have vis : Vis X.env.scope x := q3.elim (fun z => .inr (.inl z)) fun z => .inr (.inr z)
   obtain ⟨u, r, l⟩ := hl j x v q1 q2 vis
   refine ⟨u, r, .inr ⟨q4, c, q5, ?_⟩⟩
   rcases l with ⟨k1, _⟩ | ⟨_, c', k2, k3⟩
   · rcases q3 with q3 | q3 <;> · rw [q3] at k1; cases k1
   · rw [hcl.get x c q5] at k2
     cases k2
     obtain ⟨o, k4, k5⟩ := k3
     exact ⟨o, hk _ _ k4, k5⟩
 · obtain ⟨v, o, k4, k5⟩ := I.cell x c (hcl.get x c e)
   exact ⟨v, o, hk _ _ k4, k5⟩
 · exact absurd (show p ∈ ([] : List (Addr × Obj)) from hp) (by simp)
 · show (capt σ caps).length = N.length
   unfold capt
   rw [List.length_map, hcap.len]
end
def PIfs (Y : Cx) (ifs : List Expr) (t : TT) : Prop :=
 ∀ (pins : List (Addr × Obj)) (s : Shared) (σ : St) (H : Hp) (Q : Bool -> Hp -> Prop), Inv Y pins σ H s -> t σ H Q ->
  wpAny (model Y.prog Y.w) Y.A (forIn ifs true fun c r => if r = true then do let ok <- isTrue c Y.env (eval c Y.env); pure (ForInStep.yield ok) else pure (ForInStep.yield r)) (TP Y pins σ Q) Y.xe s
def ZmJ : TT := fun _ H Q => Q true H
theorem ZdH {Y : Cx} : PIfs Y [] ZmJ := fun _ _ _ H _ I h => wpAny_tests_nil ⟨H, I, h⟩
theorem Zh8 {Y : Cx} {c : Expr} {t : TT} (h : PT Y c t) : PIfs Y [c] t := fun pins s σ H Q I hw => wpAny_tests_one (h pins s σ H Q I hw)
def Zjf (wi : TI) (caps : List (Option Nat)) (g : TG) (tt : TT) (te : TE) : TE := fun σ H Q => wi σ H fun J H1 => ∃ W : Nat -> Nat -> St -> Hp -> List V -> Prop, (∃ m, W 0 m (capt σ caps) H1 []) /\ ∀ i m σ' H' ys, W i m σ' H' ys ->
 (J.stop i H' /\ ys.length <= sizeLine /\ ∀ p, H' p = none -> Q (.ref p) (upd H' p (.lst ys))) \/
 (J.go i H' /\ ∃ Nn : St -> Hp -> List V -> Prop, (∀ σ4 H4 ys4, Nn σ4 H4 ys4 -> ∃ m', m' < m /\ W (i + 1) m' σ4 H4 ys4) /\ ∀ x H2, J.yld i H' x H2 -> g x σ' H2 fun σ3 H3 => tt σ3 H3 fun b H4 => if b = true then te σ3 H4 fun y H5 => ys.length < sizeLine /\ Nn σ3 H5 (ys ++ [y]) else Nn σ3 H4 ys)
theorem HOk.track {P : Program} {w : World} {H : Hp} {h : Heap} {a : Addr} {o : HO} (ok : HOk P w H h) (hn : H a = none) (new : ObjOk P w (upd H a o) h a o) : HOk P w (upd H a o) h := fun b u e => by
 by_cases hb : b = a
 · subst hb; rw [ZaG] at e; cases e; exact new
 · rw [Zap hb] at e
   exact (ok b u e).stay (fun c v _ q => q) (fun c q => by rw [Zap (Zak q hn)]; exact q) fun c xs q => by rw [Zap (Zak q hn)]; exact q
section
variable {X : Cx} {tg elt iter : Expr} {ifs : List Expr} {scope : Scope} {cl : List (Str × Addr)} {N : List Str} {caps : List (Option Nat)} {wi : TI} {g : TG} {tt : TT} {te : TE} {pos : Pos}
theorem Zn5 {C D : Addr} {s₀ : Shared} {H₀ : Hp} {fp : List Addr} {H' : Hp} {o : Obj} (hDf : D ∉ fp) (hb : ∀ b ∈ D :: fp, b ≠ C /\ b ∉ frs X.stack /\ ∀ x c, cl.lookup x = some c -> c ≠ b) (hn : ∀ b ∈ D :: fp, H' b = none) :
 ∀ b ∈ fp, FpOk (blk X scope cl N C s₀ H₀ (D :: fp)) [(D, o)] H' b := fun b h =>
 have h' := List.mem_cons_of_mem D h
 ⟨hn b h', (hb b h').1, (hb b h').2.1, .inl h', (hb b h').2.2, fun p hp => by
  have e : p = (D, o) := by simpa using (show p ∈ ([(D, o)] : List (Addr × Obj)) from hp)
  rw [e]
  rintro rfl
  exact hDf h⟩
theorem Zj0 {C D it : Addr} {s₀ : Shared} {H₀ : Hp} {fp : List Addr} {tn : Nat -> Heap -> Prop} {J : It} {R : Result -> Shared -> Prop} {s : Shared} {σ₁ : St} {H₁ : Hp} {W : Nat -> Nat -> St -> Hp -> List V -> Prop} {EndP : Hp -> List V -> Prop} {m0 : Nat}
 (hc : X.calm = true) (T : Turn X.prog X.w X.K tg J fp it tn) (hDf : D ∉ fp)
 (hb : ∀ b ∈ D :: fp, b ≠ C /\ b ∉ frs X.stack /\ ∀ x c, cl.lookup x = some c -> c ≠ b)
 (hg : ∀ C s₀ H₀ ex, PG (blk X scope cl N C s₀ H₀ ex) tg g) (ht : ∀ C s₀ H₀ ex, PIfs (blk X scope cl N C s₀ H₀ ex) ifs tt) (he : ∀ C s₀ H₀ ex, PE (blk X scope cl N C s₀ H₀ ex) elt te)
 (turn : ∀ i m σ' H' ys, W i m σ' H' ys -> (J.stop i H' /\ EndP H' ys) \/
   (J.go i H' /\ ∃ Nn : St -> Hp -> List V -> Prop, (∀ σ4 H4 ys4, Nn σ4 H4 ys4 -> ∃ m', m' < m /\ W (i + 1) m' σ4 H4 ys4) /\ ∀ x H2, J.yld i H' x H2 -> g x σ' H2 fun σ3 H3 => tt σ3 H3 fun b H4 => if b = true then te σ3 H4 fun y H5 => ys.length < sizeLine /\ Nn σ3 H5 (ys ++ [y]) else Nn σ3 H4 ys))
 (I : Inv (blk X scope cl N C s₀ H₀ (D :: fp)) [] σ₁ H₁ s) (st : tn 0 s.heap) (fr : ∀ b ∈ D :: fp, H₁ b = none) (hD : s.heap.get? D = some { cls := .type "list", data := .seq ([] : List Value).toArray }) (w0 : W 0 m0 σ₁ H₁ [])
 (hR : ∀ σ' H' ys its nn s', Inv (blk X scope cl N C s₀ H₀ (D :: fp)) [] σ' H' s' -> H' D = none -> s'.heap.get? D = some { cls := .type "list", data := .seq (List.toArray its) nn } -> Vals ys its -> EndP H' ys -> R (.ok .next) s') :
 codeAny (model X.prog X.w) X.A (.compLoop (.ListComp elt [⟨tg, iter, ifs, 0⟩] scope pos) 0 (.ref it) (.ref D) (compEnvC scope cl C X.env)) R s := by
 have pinD : ∀ {σ' : St} {H' : Hp} {s' : Shared} {its : List Value} {nn : Nat}, Inv (blk X scope cl N C s₀ H₀ (D :: fp)) [] σ' H' s' -> H' D = none -> s'.heap.get? D = some { cls := .type "list", data := .seq (List.toArray its) nn } ->
  Inv (blk X scope cl N C s₀ H₀ (D :: fp)) [(D, { cls := .type "list", data := .seq (List.toArray its) nn })] σ' H' s' := fun I' hn e => by
  refine I'.pins_of fun p hp => ?_
  obtain rfl := List.mem_singleton.mp hp
  exact ⟨e, hn, (hb D (.head _)).1, (hb D (.head _)).2.1, fun v q => by cases (show Data.seq _ _ = Data.cell v from q)⟩
 refine codeAny_loop rfl (fun n s' => ∃ i σ' H' ys its nn, Inv (blk X scope cl N C s₀ H₀ (D :: fp)) [(D, { cls := .type "list", data := .seq (List.toArray its) nn })] σ' H' s' /\ tn i s'.heap /\ (∀ b ∈ D :: fp, H' b = none) /\
  Vals ys its /\ ys.length <= sizeLine /\ W i n σ' H' ys) (fun n s' hI => ?_) m0 ⟨0, σ₁, H₁, [], [], 0, pinD I (fr D (.head _)) hD, st, fr, .nil, Nat.zero_le _, w0⟩
 obtain ⟨i, σ', H', ys, its, nn, I', st', fr', rv, hz, w'⟩ := hI
 show wpAny _ X.A ((compTurn (.ListComp elt [⟨tg, iter, ifs, 0⟩] scope pos) 0 (.ref it) (.ref D) (compEnvC scope cl C X.env)).onRaise (fun x => do noteFrame x (compEnvC scope cl C X.env); theTreesLotGoes x)) _ _ s'
 refine wpAny_noted ?_
 rw [compTurn_list]
 refine wpAny_bind (wpAny_standAt (wpAny_bind ?_))
 have fps : ∀ {H : Hp} {o : Obj}, (∀ b ∈ D :: fp, H b = none) -> ∀ b ∈ fp, FpOk (blk X scope cl N C s₀ H₀ (D :: fp)) [(D, o)] H b := fun hn => Zn5 hDf hb hn
 rcases turn i n σ' H' ys w' with ⟨stop, qe⟩ | ⟨go, Nn, hNn, step⟩
 · refine thn (T.done (blk X scope cl N C s₀ H₀ (D :: fp)) rfl rfl rfl hc i _ s' σ' H' _ I' (fps fr') st' stop) fun r s4 ⟨hr, I4⟩ => ?_
   subst hr
   exact wpAny_pure (hR σ' H' ys its nn s4 (I4.pins_of fun p hp => absurd hp (by simp)) (fr' D (.head _)) (I4.pin (D, { cls := .type "list", data := .seq (List.toArray its) nn }) (List.mem_append_right _ (.head _))).1 rv qe)
 · refine thn (T.item (blk X scope cl N C s₀ H₀ (D :: fp)) rfl rfl rfl hc i _ s' σ' H' _ I' (fps fr') st' go) fun r s4 ⟨u, hr, h4⟩ => ?_
   subst hr
   refine wpAny_bind (thn h4 fun _ s5 ⟨x, H5, I5, r5, y5, st5, fr5⟩ => ?_)
   have D5 : H5 D = none := (I5.pin (D, { cls := .type "list", data := .seq (List.toArray its) nn }) (List.mem_append_right _ (.head _))).2.1
   have fr5' : ∀ b ∈ D :: fp, H5 b = none := fun b hb => (List.mem_cons.mp hb).elim (fun e => by rw [e]; exact D5) (fr5 b)
   have I5' := I5.pinned (fps fr5') (T.obj _ _ st5)
   refine wpAny_bind (wpAny_mono (hg _ _ _ _ _ s5 σ' H5 x u _ I5' r5 (step x H5 y5)) (fun _ s6 ⟨σ6, H6, I6, q6⟩ => ?_) fun _ _ z => False.elim z)
   refine wpAny_bind (wpAny_mono (ht _ _ _ _ _ s6 σ6 H6 _ I6 q6) (fun ok s7 ⟨H7, I7, q7⟩ => ?_) fun _ _ z => False.elim z)
   have fin : ∀ {H8 : Hp} {s8 : Shared}, Inv (blk X scope cl N C s₀ H₀ (D :: fp)) ([(D, { cls := .type "list", data := .seq (List.toArray its) nn })] ++ Zhk fp s5.heap) σ6 H8 s8 ->
    tn (i + 1) s8.heap /\ (∀ b ∈ D :: fp, H8 b = none) /\ s8.heap.get? D = some { cls := .type "list", data := .seq (List.toArray its) nn } := fun {H8 s8} I8 => by
    refine ⟨T.keep _ _ _ st5 fun b hb o e => (I8.pin (b, o) (List.mem_append_right _ (List.mem_append_right _ (Zem hb e)))).1, fun b hb => ?_, (I8.pin (D, { cls := .type "list", data := .seq (List.toArray its) nn }) (List.mem_append_right _ (List.mem_append_left _ (.head _)))).1⟩
    rcases List.mem_cons.mp hb with e | hb
    · rw [e]; exact (I8.pin (D, { cls := .type "list", data := .seq (List.toArray its) nn }) (List.mem_append_right _ (List.mem_append_left _ (.head _)))).2.1
    · obtain ⟨o, e, d⟩ := T.obj _ _ st5 b hb
      exact (I8.pin (b, o) (List.mem_append_right _ (List.mem_append_right _ (Zem hb e)))).2.1
   cases ok with
   | false =>
    obtain ⟨m', hm, w7⟩ := hNn _ _ _ q7
    obtain ⟨t7, f7, d7⟩ := fin I7
    exact wpAny_pure ⟨rfl, m', hm, i + 1, σ6, H7, ys, its, nn, I7.unpinned, t7, f7, rv, hz, w7⟩
   | true =>
    refine wpAny_bind (wpAny_bind (wpAny_mono (he _ _ _ _ _ s7 σ6 H7 _ I7 q7) (fun yv s8 ⟨y, H8, I8, r8, hz8, w8'⟩ => ?_) fun _ _ z => False.elim z))
    obtain ⟨m', hm, w8⟩ := hNn _ _ _ w8'
    obtain ⟨t8, f8, d8⟩ := fin I8
    have hl := rv.length
    refine wpAny_bind (call_meets F.slot_list_append ⟨_, d8, rfl⟩ F.entry_list_append (F.args_list_append_2 _ _) (PySem.list_append D its.toArray nn yv (by rw [List.size_toArray]; omega)) ⟨d8, ?_⟩)
    have q8 := PySem.IsL.update d8 (·.push yv)
    have I9 : Inv (blk X scope cl N C s₀ H₀ (D :: fp)) [] σ6 H8 { s8 with heap := s8.heap.update D (Obj.mapSeq (·.push yv)) } := by
     refine (I8.pins_of (pins' := []) fun p hp => absurd hp (by simp)).turned (it := D) (t' := s8.toks) (fun b o hb e => (Heap.get?_update_other s8.heap (Obj.mapSeq (·.push yv)) (Ne.symm hb)).trans e) (f8 D (.head _)) (hb D (.head _)).1 (.inl (.head _)) (hb D (.head _)).2.2 ?_
     intro p hp
     exact absurd (show p ∈ ([] : List (Addr × Obj)) from hp) (by simp)
    have ea : its.toArray.push yv = (its ++ [yv]).toArray := by simp
    rw [ea] at q8
    refine wpAny_pure (wpAny_pure ⟨rfl, m', hm, i + 1, σ6, H8, ys ++ [y], its ++ [yv], _, pinD I9 (f8 D (.head _)) q8, ?_, f8, rv.append (.cons r8 .nil), ?_, w8⟩)
    · refine T.keep _ _ _ t8 fun b hb' o e => (Heap.get?_update_other s8.heap (Obj.mapSeq (·.push yv)) ?_).trans e
      rintro rfl
      exact hDf hb'
    · rw [List.length_append, List.length_singleton]; omega
theorem Zhx {pins : List (Addr × Obj)} {s : Shared} {σ : St} {H : Hp} {use : Option (Value -> Sem Unit)} {Q' : Value -> Shared -> Prop} {EndP : Hp -> List V -> Prop} {cpos : Pos}
 (hc : X.calm = true) (hi : PI X tg iter wi) (hclos : closureFor scope X.env = pure cl) (hcl : ClOk X cl) (hcap : CapOk X scope cl N caps)
 (hhas : ∀ x, ((relabel scope X.env).names.lookup x = some .cell \/ (relabel scope X.env).names.lookup x = some .free) -> ∃ c, cl.lookup x = some c)
 (hcell : ∀ y ∈ scope.names, y.2 ≠ .cell) (hkind : scope.kind = .function) (hnames : ∀ y ∈ scope.names, y.2 = .local -> scope.names.lookup y.1 = some .local)
 (hg : ∀ C s₀ H₀ ex, PG (blk X scope cl N C s₀ H₀ ex) tg g) (ht : ∀ C s₀ H₀ ex, PIfs (blk X scope cl N C s₀ H₀ ex) ifs tt) (he : ∀ C s₀ H₀ ex, PE (blk X scope cl N C s₀ H₀ ex) elt te)
 (hs : ∀ x, foldedSetIterable iter X.env x = pure x) (I : Inv X pins σ H s)
 (h : wi σ H fun J H1 => ∃ W : Nat -> Nat -> St -> Hp -> List V -> Prop, (∃ m, W 0 m (capt σ caps) H1 []) /\ ∀ i m σ' H' ys, W i m σ' H' ys ->
   (J.stop i H' /\ EndP H' ys) \/
   (J.go i H' /\ ∃ Nn : St -> Hp -> List V -> Prop, (∀ σ4 H4 ys4, Nn σ4 H4 ys4 -> ∃ m', m' < m /\ W (i + 1) m' σ4 H4 ys4) /\ ∀ x H2, J.yld i H' x H2 -> g x σ' H2 fun σ3 H3 => tt σ3 H3 fun b H4 => if b = true then te σ3 H4 fun y H5 => ys.length < sizeLine /\ Nn σ3 H5 (ys ++ [y]) else Nn σ3 H4 ys))
 (hz : ∀ H' ys, EndP H' ys -> ys.length <= sizeLine)
 (hfin : ∀ D C s' H' ys m', Inv X pins σ (upd H' D (.lst ys)) s' -> s'.heap.Ns C m' -> FpOk X pins (upd H' D (.lst ys)) C -> H' D = none -> EndP H' ys -> compPost (model X.prog X.w) X.A X.xe use Q' (.ref D) C (.ok .next) s') :
 wpAny (model X.prog X.w) X.A (comprehension (.ListComp elt [⟨tg, iter, ifs, 0⟩] scope pos) scope X.env cpos (newList []) false (eval iter X.env) use) Q' X.xe s := by
 refine wpAny_comprehension_free (use := use) rfl hs hclos hkind hnames (thn (hi pins s σ H _ I h) fun v s1 h1 => thn h1 fun itv s2 h2 => ?_)
 obtain ⟨it, fp, tn, J, H2, rfl, I2, T, st2, f2, W, ⟨m0, w0⟩, turn⟩ := h2
 refine wpAny_newObj_type (wpAny_newFunctionEnv hcell (by intro y hy; simp at hy) (fun h₁ hns₁ hsb₁ => ?_) hkind)
 dsimp only at hns₁ hsb₁ ⊢
 generalize hH2 : s2.heap.push { cls := .type "list", dict := none, data := .seq ([] : List Value).toArray } = P2 at hns₁ hsb₁ ⊢
 have hC : P2.objs.size = s2.heap.objs.size + 1 := by rw [<- hH2, Heap.size_push]
 have I3 : Inv X pins σ H2 { s2 with heap := P2 } := by
  rw [<- hH2]
  exact I2.kept (t' := s2.toks) fun b o e => Heap.get?_push_of_some _ e
 have hD0 : P2.get? s2.heap.objs.size = some { cls := .type "list", data := .seq ([] : List Value).toArray } := by rw [<- hH2]; exact Heap.get?_push_size _ rfl
 have fD : FpOk X pins H2 s2.heap.objs.size := I2.fpOk (Nat.le_refl _) (I2.hok.fresh (Nat.le_refl _))
 have hex : ∀ b ∈ s2.heap.objs.size :: fp, FpOk X pins H2 b /\ b < P2.objs.size := fun b hb => by
  rcases List.mem_cons.mp hb with e | hb
  · rw [e]; exact ⟨fD, by rw [hC]; exact Nat.lt_succ_self _⟩
  · obtain ⟨o, e, _⟩ := T.obj _ _ st2 b hb
    exact ⟨f2 b hb, by rw [hC]; exact Nat.lt_succ_of_lt (Heap.lt_size e)⟩
 have up1 : ∀ b o, P2.get? b = some o -> h₁.get? b = some o := fun b o e => hsb₁.extBut b o (Nat.ne_of_lt (Heap.lt_size e)) (Heap.get?_push_of_some _ e)
 have IB := I3.block (h1 := h₁) (tk := s2.toks + ([] : List (Str × Value)).length) (ex := s2.heap.objs.size :: fp) hkind hcap hcl hhas hex ⟨_, hns₁⟩ up1 hns₁.lt
 have hDf : s2.heap.objs.size ∉ fp := fun hm => by
  obtain ⟨o, e, _⟩ := T.obj _ _ st2 _ hm
  exact absurd (Heap.lt_size e) (Nat.lt_irrefl _)
 have hb : ∀ b ∈ s2.heap.objs.size :: fp, b ≠ P2.objs.size /\ b ∉ frs X.stack /\ ∀ x c, cl.lookup x = some c -> c ≠ b := fun b hb => by
  obtain ⟨⟨f0, f1, f2, f3, f4, f5⟩, hlt⟩ := hex b hb
  refine ⟨Nat.ne_of_lt hlt, fun z => ?_, fun x c e => f4 x c (hcl.get x c e)⟩
  rcases List.mem_cons.mp (I3.stkSub b z) with e | e
  · exact f1 e
  · exact f2 e
 have st4 : tn 0 h₁ := T.keep _ _ _ st2 fun b hb o e => up1 b o (by rw [<- hH2]; exact Heap.get?_push_of_some _ e)
 have loop := Zj0 (pos := pos) (iter := iter) (R := compPost (model X.prog X.w) X.A X.xe use Q' (.ref s2.heap.objs.size) P2.objs.size) (EndP := EndP)
  hc T hDf hb hg ht he turn IB st4 (fun b hb => (hex b hb).1.1) (up1 _ _ hD0) w0 ?_
 · exact codeAny_compStart_list loop (T.self _ 0 _ _ _ st4 loop)
 · intro σ' H' ys its nn s' I' hn hl rv hq
   obtain ⟨m', hm', _⟩ := id I'.loc
   have hCn : H' P2.objs.size = none := I'.free
   have hDC : s2.heap.objs.size ≠ P2.objs.size := (hb _ (.head _)).1
   have un0 : Un (frs X.stack) (s2.heap.objs.size :: fp) H2 H' P2 s'.heap := I'.base
   have un1 : Un (frs X.stack) (s2.heap.objs.size :: fp) H2 (upd H' s2.heap.objs.size (.lst ys)) P2 s'.heap := by
    have nD : ∀ {b}, b ∉ s2.heap.objs.size :: fp -> b ≠ s2.heap.objs.size := fun h e => h (by rw [e]; exact .head _)
    have fD2 : H2 s2.heap.objs.size = none := fD.1
    refine ⟨un0.keep, un0.slot, fun b o e n hx => ?_, un0.there, fun b zs e => ?_, fun b o zs e => ?_, fun b ps e => ?_⟩
    · rw [Zap (nD hx)]; exact un0.free b o e n hx
    · rw [Zap (Zak e fD2)]; exact un0.tups b zs e
    · rw [Zap (Zak e fD2)]; exact un0.frzs b o zs e
    · rw [Zap (Zak e fD2)]; exact un0.tbls b ps e
   have ok1 : HOk X.prog X.w (upd H' s2.heap.objs.size (.lst ys)) s'.heap := HOk.track I'.hok hn ⟨hz _ _ hq, its, nn, rv, hl⟩
   have I9 := I3.call' (s' := s') (ch := s2.heap.objs.size :: fp) I'.os un1 ok1 I'.bare fun b hb => by
    obtain ⟨⟨f0, f1, f2, f3, f4, f5⟩, hlt⟩ := hex b hb
    exact ⟨f3, f1, f4, f5⟩
   exact hfin _ _ _ _ _ _ I9 hm' (I3.fpOk (Nat.le_refl _) (by rw [Zap hDC.symm]; exact hCn)) hn hq
theorem ZmK (hc : X.calm = true) (hi : PI X tg iter wi) (hclos : closureFor scope X.env = pure cl) (hcl : ClOk X cl) (hcap : CapOk X scope cl N caps)
 (hhas : ∀ x, ((relabel scope X.env).names.lookup x = some .cell \/ (relabel scope X.env).names.lookup x = some .free) -> ∃ c, cl.lookup x = some c)
 (hcell : ∀ y ∈ scope.names, y.2 ≠ .cell) (hkind : scope.kind = .function) (hnames : ∀ y ∈ scope.names, y.2 = .local -> scope.names.lookup y.1 = some .local)
 (hg : ∀ C s₀ H₀ ex, PG (blk X scope cl N C s₀ H₀ ex) tg g) (ht : ∀ C s₀ H₀ ex, PIfs (blk X scope cl N C s₀ H₀ ex) ifs tt) (he : ∀ C s₀ H₀ ex, PE (blk X scope cl N C s₀ H₀ ex) elt te)
 (hs : ∀ x, foldedSetIterable iter X.env x = pure x := by intro _; rfl) :
 PE X (.ListComp elt [⟨tg, iter, ifs, 0⟩] scope pos) (Zjf wi caps g tt te) := by
 intro pins s σ H Q I h
 rw [eval_ListComp]
 refine Zhx (EndP := fun H' ys => ys.length <= sizeLine /\ ∀ p, H' p = none -> Q (.ref p) (upd H' p (.lst ys))) hc hi hclos hcl hcap hhas hcell hkind hnames hg ht he hs I h (fun _ _ q => q.1) ?_
 intro D C s' H' ys m' I' hn hf hD hq
 refine ⟨m', hn, fun h' hs' => ⟨.ref D, _, ?_, rfl, hq.2 D hD⟩⟩
 exact I'.turnedL (t' := s'.toks) (ch := [C]) (fun b o hb e => hs'.extBut b o (fun z => hb (by simp [z])) e) fun b hb => by
  obtain rfl := List.mem_singleton.mp hb
  exact hf
theorem Zjg {i : Nat} {y : Str} {py spos : Pos} (hN : X.N.Nodup) (hiN : X.N[i]? = some y) (hy : X.env.scope.names.lookup y = some .local)
 (hc : X.calm = true) (hi : PI X tg iter wi) (hclos : closureFor scope X.env = pure cl) (hcl : ClOk X cl) (hcap : CapOk X scope cl N caps)
 (hhas : ∀ x, ((relabel scope X.env).names.lookup x = some .cell \/ (relabel scope X.env).names.lookup x = some .free) -> ∃ c, cl.lookup x = some c)
 (hcell : ∀ y ∈ scope.names, y.2 ≠ .cell) (hkind : scope.kind = .function) (hnames : ∀ y ∈ scope.names, y.2 = .local -> scope.names.lookup y.1 = some .local)
 (hg : ∀ C s₀ H₀ ex, PG (blk X scope cl N C s₀ H₀ ex) tg g) (ht : ∀ C s₀ H₀ ex, PIfs (blk X scope cl N C s₀ H₀ ex) ifs tt) (he : ∀ C s₀ H₀ ex, PE (blk X scope cl N C s₀ H₀ ex) elt te)
 (hsw : swapsWith (.ListComp elt [⟨tg, iter, ifs, 0⟩] scope pos) (some (.Name y py)) spos.line X.env = pure true := by rfl)
 (hs : ∀ x, foldedSetIterable iter X.env x = pure x := by intro _; rfl) :
 PS X (.Assign [.Name y py] (.ListComp elt [⟨tg, iter, ifs, 0⟩] scope pos) spos) (tAsg (Zjf wi caps g tt te) (Zhj i)) := by
 intro pins s σ H D I h
 rw [exec_Assign_Name_used _ _ _ _ hsw]
 refine wpAny_bind (wpAny_standAt (wpAny_bind ?_))
 show wpAny _ X.A (do let _ <- comprehension (.ListComp elt [⟨tg, iter, ifs, 0⟩] scope pos) scope X.env _ (newList []) false (eval iter X.env) (some (assign (.Name y py) X.env))) _ _ s
 refine wpAny_bind (thn (Zhx (Q' := fun _ s' => SP X pins D .next s') (EndP := fun H' ys => ys.length <= sizeLine /\ ∀ p, H' p = none -> Zhj i (.ref p) σ (upd H' p (.lst ys)) D.nx) hc hi hclos hcl hcap hhas hcell hkind hnames hg ht he hs I h (fun _ _ q => q.1) ?_)
  fun _ s' hq => wpAny_pure (wpAny_pure hq))
 intro Dl C s' H' ys m' I' hn hf hD hq
 show wpAny _ X.A (assign (.Name y py) X.env (.ref Dl)) _ _ _
 refine wpAny_assign_Name (Zhg I' hN hiN (.inl hy) (show RelV (.ref Dl) (.ref Dl) from rfl) (fun s2 I2 ⟨a, hs2, ha⟩ => ?_) (.inr hy))
 obtain ⟨f0, f1, f2, f3, f4, f5⟩ := hf
 have haC : C ≠ a := by
  rintro rfl
  rcases ha with e | e
  · exact f1 e
  · exact f4 _ _ e rfl
 refine ⟨m', hn.sameBut hs2 haC, fun h3 hs3 => ⟨_, _, ?_, hq.2 Dl hD⟩⟩
 exact I2.turnedL (t' := s2.toks) (ch := [C]) (fun b o hb e => hs3.extBut b o (fun z => hb (by simp [z])) e) fun b hb => by
  obtain rfl := List.mem_singleton.mp hb
  exact ⟨f0, f1, f2, f3, f4, f5⟩
end
section
variable {K : PySem.W.Frag} {g : TG} {tt : TT} {te : TE} {σ : St} {H : Hp} {Q : VK}
end
section
variable {X : Cx}
end
end L2
namespace L2
open PySem PySem.Spec PyProof.Rows
structure TF (K : PySem.W.Frag) (mg : Str -> Option Value) (x : Str) (st : Stmt) (ps : List Str) : Prop where
 ex : ∃ (f : Addr) (fd : FuncData), Fun K x x st f fd /\ mg x = some (.ref f) /\ Binds K fd ps []
structure Cal (P : Program) (w : World) (K : PySem.W.Frag) (mg : Str -> Option Value) (base : Heap) (x : Str) (k : Nat) (ps : List Str) (sp : Sp) : Prop where
 ex : ∃ (f : Addr) (fd : FuncData), FnOk P w K mg base CX0 k f fd ps sp /\ mg x = some (.ref f) /\ PySem.W.keepIn K (.ref f) = true /\ Binds K fd ps []
theorem TF.ok {P : Program} {w : World} {K : PySem.W.Frag} {mg : Str -> Option Value} {base : Heap} {x : Str} {st : Stmt} {ps N : List Str} {k : Nat} {sp : Sp} (T : TF K mg x st ps) (S : FnScope N ps (Zaj st)) (len : ∀ vs H Q E, sp vs H Q E -> vs.length = ps.length)
 (hbody : ∀ (f : Addr) (cdv : Value) (A : Around) (outer : List Env) (s : Shared) (H : Hp) (vs : List V) (Q : VK) (E : XK), Room k (A.deeper (envOfC x (Zaj st) s.heap.objs.size f cdv)) -> sp vs H Q E ->
   ∃ t, PSs (cxOf CX0 P w K mg base N x (Zaj st) f cdv A outer s H E).nox (Zbl st) t /\ t { nx := fun _ H' => Q .non H', rt := Q } (start N vs) H) : Cal P w K mg base x (k + 1) ps sp := by
 obtain ⟨f, fd, F, m, b⟩ := T.ex
 exact ⟨f, fd, F.ok S len (hbody f), m, F.kp, b⟩
section
variable {X : Cx} {x : Str} {k : Nat} {ps : List Str} {sp : Sp} {p pos : Pos} {e : Expr} {es : List Expr} {t : TA}
end
def hasB (names : List (Str × NameKind)) (cl : List (Str × Addr)) : Bool := names.all fun y => (!(y.2 == .cell) && !(y.2 == .free)) || (cl.lookup y.1).isSome
def ZmL (names : List (Str × NameKind)) : Bool := names.all fun y => !(y.2 == .cell)
def locB (names : List (Str × NameKind)) : Bool := names.all fun y => !(y.2 == .local) || (names.lookup y.1 == some .local)
theorem Zgw {α β : Type} [BEq α] [LawfulBEq α] {x : α} {v : β} : ∀ {l : List (α × β)}, l.lookup x = some v -> (x, v) ∈ l
 | [], h => by simp at h
 | (a, b) :: r, h => by
  rw [List.lookup_cons] at h
  cases q : x == a with
  | true =>
   rw [q] at h
   have e1 : x = a := eq_of_beq q
   have e2 : b = v := Option.some.inj h
   rw [e1, e2]; exact .head _
  | false =>
   rw [q] at h
   exact .tail _ (Zgw h)
theorem Zj1 {names : List (Str × NameKind)} {cl : List (Str × Addr)} (h : hasB names cl = true) : ∀ x, (names.lookup x = some .cell \/ names.lookup x = some .free) -> ∃ c, cl.lookup x = some c := by
 intro x hx
 have key : ∀ k, names.lookup x = some k -> (k = .cell \/ k = .free) -> ∃ c, cl.lookup x = some c := fun k hk hc => by
  have := List.all_eq_true.mp h _ (Zgw hk)
  simp only [Bool.or_eq_true, Bool.and_eq_true, Bool.not_eq_true', beq_eq_false_iff_ne] at this
  rcases this with ⟨h1, h2⟩ | h1
  · rcases hc with hc | hc
    · exact absurd hc h1
    · exact absurd hc h2
  · exact Option.isSome_iff_exists.mp h1
 rcases hx with hx | hx
 · exact key _ hx (.inl rfl)
 · exact key _ hx (.inr rfl)
theorem ZiC {names : List (Str × NameKind)} (h : ZmL names = true) : ∀ y ∈ names, y.2 ≠ .cell := fun y hy e => by
 have := List.all_eq_true.mp h _ hy
 simp [e] at this
theorem Zj2 {names : List (Str × NameKind)} (h : locB names = true) : ∀ y ∈ names, y.2 = .local -> names.lookup y.1 = some .local := fun y hy e => by
 have := List.all_eq_true.mp h _ hy
 simpa [e] using this
section
variable {X : Cx} {tg elt iter : Expr} {ifs : List Expr} {scope : Scope} {cl : List (Str × Addr)} {N : List Str} {caps : List (Option Nat)} {wi : TI} {g : TG} {tt : TT} {te : TE} {pos : Pos}
theorem Zjh (hi : PI X tg iter wi) (hcl : ClOk X cl) (hcap : CapOk X scope cl N caps)
 (hg : ∀ C s₀ H₀ ex, PG (blk X scope cl N C s₀ H₀ ex) tg g) (ht : ∀ C s₀ H₀ ex, PIfs (blk X scope cl N C s₀ H₀ ex) ifs tt) (he : ∀ C s₀ H₀ ex, PE (blk X scope cl N C s₀ H₀ ex) elt te)
 (hclos : closureFor scope X.env = pure cl := by rfl) (hhas : hasB (relabel scope X.env).names cl = true := by rfl) (hcell : ZmL scope.names = true := by rfl) (hloc : locB scope.names = true := by rfl)
 (hkind : scope.kind = .function := by rfl) (hc : X.calm = true := by rfl)
 (hs : ∀ x, foldedSetIterable iter X.env x = pure x := by intro _; rfl) :
 PE X (.ListComp elt [⟨tg, iter, ifs, 0⟩] scope pos) (Zjf wi caps g tt te) := ZmK hc hi hclos hcl hcap (Zj1 hhas) (ZiC hcell) hkind (Zj2 hloc) hg ht he hs
theorem Zji {i : Nat} {y : Str} {py spos : Pos} (hN : X.N.Nodup) (hiN : X.N[i]? = some y) (hi : PI X tg iter wi) (hcl : ClOk X cl) (hcap : CapOk X scope cl N caps)
 (hg : ∀ C s₀ H₀ ex, PG (blk X scope cl N C s₀ H₀ ex) tg g) (ht : ∀ C s₀ H₀ ex, PIfs (blk X scope cl N C s₀ H₀ ex) ifs tt) (he : ∀ C s₀ H₀ ex, PE (blk X scope cl N C s₀ H₀ ex) elt te)
 (hy : X.env.scope.names.lookup y = some .local := by rfl)
 (hclos : closureFor scope X.env = pure cl := by rfl) (hhas : hasB (relabel scope X.env).names cl = true := by rfl) (hcell : ZmL scope.names = true := by rfl) (hloc : locB scope.names = true := by rfl)
 (hkind : scope.kind = .function := by rfl) (hc : X.calm = true := by rfl)
 (hsw : swapsWith (.ListComp elt [⟨tg, iter, ifs, 0⟩] scope pos) (some (.Name y py)) spos.line X.env = pure true := by rfl)
 (hs : ∀ x, foldedSetIterable iter X.env x = pure x := by intro _; rfl) :
 PS X (.Assign [.Name y py] (.ListComp elt [⟨tg, iter, ifs, 0⟩] scope pos) spos) (tAsg (Zjf wi caps g tt te) (Zhj i)) := Zjg hN hiN hy hc hi hclos hcl hcap (Zj1 hhas) (ZiC hcell) hkind (Zj2 hloc) hg ht he hsw hs
end
section
variable {X : Cx} {st : Stmt} {rest : List Stmt} {t u : TS}
def tCut (t u : TS) : TS := fun D σ H => ∃ Pm : St -> Hp -> Prop, t { D with nx := Pm } σ H /\ ∀ σ' H', Pm σ' H' -> u D σ' H'
theorem cut {t u : TS} {D : Ends} {σ : St} {H : Hp} (Pm : St -> Hp -> Prop) (h : t { D with nx := Pm } σ H) (hP : ∀ σ' H', Pm σ' H' -> u D σ' H') : tCut t u D σ H := ⟨Pm, h, hP⟩
end
def Zn6 (J : It) (g : TG) (tt : TT) (te : TE) (Q : VK) (σ : St) (H1 : Hp) : Prop := ∃ W : Nat -> Nat -> St -> Hp -> List V -> Prop, (∃ m, W 0 m σ H1 []) /\ ∀ i m σ' H' ys, W i m σ' H' ys ->
 (J.stop i H' /\ ys.length <= sizeLine /\ ∀ p, H' p = none -> Q (.ref p) (upd H' p (.lst ys))) \/
 (J.go i H' /\ ∃ Nn : St -> Hp -> List V -> Prop, (∀ σ4 H4 ys4, Nn σ4 H4 ys4 -> ∃ m', m' < m /\ W (i + 1) m' σ4 H4 ys4) /\ ∀ x H2, J.yld i H' x H2 -> g x σ' H2 fun σ3 H3 => tt σ3 H3 fun b H4 => if b = true then te σ3 H4 fun y H5 => ys.length < sizeLine /\ Nn σ3 H5 (ys ++ [y]) else Nn σ3 H4 ys)
theorem Zk7 {wi : TI} {caps : List (Option Nat)} {g : TG} {tt : TT} {te : TE} {σ : St} {H : Hp} {Q : VK} : Zjf wi caps g tt te σ H Q = wi σ H fun J H1 => Zn6 J g tt te Q (capt σ caps) H1 := rfl
section
variable {K : PySem.W.Frag} {g : TG} {tt : TT} {te : TE} {σ : St} {H : Hp} {Q : VK}
end
end L2
namespace L2
open PySem PySem.Spec PyProof.Rows
section
variable {X : Cx}
def CHug (i j : Int) : Prop := i.natAbs < 2 ^ 10000 /\ j.natAbs < 2 ^ 10000
theorem ZiD {i : Int} (h : i.natAbs < 2 ^ 10000) : Builtin.Int.intBits i <= 2 ^ 20 := Nat.le_trans (PyProof.Rows.intBits_le h) (by decide)
def ZmM (i j : Int) : Prop := CMul i j \/ CHug i j
theorem ZgV : OpR X (binaryOp .Mult) (rI ZmM fun i j => .int (i * j)) := opI fun _ _ _ _ _ _ _ hc q => mul_int q (hc.elim (fun h => h.ok) fun h => .of_bits (ZiD h.1) (ZiD h.2))
end
section
variable {prog : Program} {w : World} {A : Around} {E : Value -> Shared -> Prop} {s : Shared}
theorem Zhy {it l : Addr} {items : Array Value} (hne : l ≠ it) : ∀ (n i : Nat) (s : Shared) (Q : List Value -> Shared -> Prop), s.heap.IsListIter it l i -> s.heap.IsList l items -> i + n <= items.size ->
 (∀ h', h'.IsListIter it l (i + n) -> Heap.SameBut it s.heap h' -> Q ((items.toList.drop i).take n) { s with heap := h' }) -> wpAny (model prog w) A (draw (.ref it) n) Q E s
 | 0, i, s, Q, hit, _, _, hQ => by
  show wpAny _ _ (pure []) Q E s
  exact wpAny_pure (by simpa using hQ s.heap hit (Heap.SameBut.refl ..))
 | n + 1, i, s, Q, hit, ht, hle, hQ => by
  have hlt : i < items.size := by omega
  show wpAny _ _ (pyNext (.ref it) >>= _) Q E s
  refine wpAny_bind (wpAny_pyNext_list_item hit ht (x := items[i]) (by simp [hlt]) fun h₁ hit₁ hs₁ => ?_)
  refine wpAny_bind (wpAny_holding (Zhy hne n (i + 1) _ _ hit₁ (ht.extBut hs₁.extBut hne) (by omega) fun h₂ hit₂ hs₂ => wpAny_pure ?_))
  have hd : items.toList.drop i = items[i] :: items.toList.drop (i + 1) := by simp [List.drop_eq_getElem_cons, hlt]
  have q := hQ h₂ (by rw [show i + (n + 1) = i + 1 + n by omega]; exact hit₂) (hs₁.trans hs₂)
  rw [hd, List.take_succ_cons] at q
  exact q
theorem Zfw {l : Addr} {items : Array Value} {Q : List Value -> Shared -> Prop} (hh : A.handled = none) (hl : s.heap.IsList l items)
 (hQ : ∀ h', Heap.ExtBut s.heap.objs.size s.heap h' -> Q items.toList { s with heap := h' }) : wpAny (model prog w) A (unpackItems (.ref l) items.size none) Q E s := by
 have hlt : l ≠ s.heap.objs.size := by obtain ⟨o, ho, _⟩ := hl; exact Nat.ne_of_lt (Heap.lt_size ho)
 unfold unpackItems
 refine wpAny_bind ?_
 unfold notIterableAtAll
 refine wpAny_bind (wpAny_specialOf hl.typeIs slot_list_iter.lookup ?_)
 refine wpAny_pure ?_
 simp only [Bool.false_eq_true, if_false]
 refine wpAny_bind (wpAny_holding (wpAny_pyIter_list hl ?_))
 refine wpAny_bind (wpAny_holding (Zhy hlt items.size 0 _ _ ⟨_, Heap.get?_push_size _ rfl, rfl, rfl⟩ (hl.push _) (by omega) fun h₁ hit₁ hs₁ => ?_))
 have hall : List.take items.size (List.drop 0 items.toList) = items.toList := by
  rw [List.drop_zero]; exact List.take_of_length_le (by simp)
 rw [hall]
 rw [if_neg (by simp)]
 have ht₁ : h₁.IsList l items := (hl.push _).extBut hs₁.extBut hlt
 refine wpAny_bind (wpAny_holding (wpAny_pyNext_list_end hh hit₁ ht₁ (by simp) fun h₂ he₂ => ?_))
 simp only [Option.isSome_none, Bool.false_eq_true, if_false]
 exact wpAny_pure (hQ h₂ fun b o hb e => he₂ b o hb (hs₁.extBut b o hb (Heap.get?_push_of_some _ e)))
end
section
variable {X : Cx} {pos : Pos}
def ZmN (K : PySem.W.Frag) (n : Nat) (t : TGs) : TG := fun v σ H Q => ∃ a xs, v = .ref a /\ SqL K H a xs /\ xs.length = n /\ t xs σ H Q
theorem ZmO {es : List Expr} {k : Nat} {t : TGs} {n : Nat} (hc : X.calm = true) (h : PGs X es t)
 (hn : (assignEach es X.env).length = n := by rfl) (hst : (assignEach es X.env).findIdx? (·.1) = none := by rfl) : PG X (.Tuple es k pos) (ZmN X.K n t) := by
 intro pins s σ H v u Q I r hw
 obtain ⟨a, xs, e1, hq, hl, hw⟩ := hw
 subst e1
 cases r
 obtain ⟨its, rv, ht, hz⟩ := I.list hq
 rw [assign_Tuple]
 refine wpAny_bind (wpAny_standAt ?_)
 unfold unpack
 rw [hn, hst]
 have hlen : n = its.toArray.size := by rw [List.size_toArray, <- rv.length, hl]
 rw [hlen]
 refine wpAny_bind (wpAny_holding (Zfw (I.ok.hd hc) ht.isList fun h' hx => ?_))
 have I1 : Inv X pins σ H { s with heap := h' } := I.kept (t' := s.toks) fun b o e => hx b o (Nat.ne_of_lt (Heap.lt_size e)) e
 exact h pins _ σ H xs _ Q I1 (by simpa using rv) hw
end
section
variable {X : Cx}
def ZmP (xs : List V) : Prop := ∀ x ∈ xs, ∃ i, x = V.int i
theorem Zhz (ns : List Int) : ZmP (ns.map V.int) := fun x hx => by
 obtain ⟨i, _, rfl⟩ := List.mem_map.mp hx
 exact ⟨i, rfl⟩
def CmpOk (xs ys : List V) : Prop := xs = [] \/ ys = [] \/ (ZmP xs /\ ZmP ys)
theorem CmpOk.ints (ns ms : List Int) : CmpOk (ns.map V.int) (ms.map V.int) := .inr (.inr ⟨Zhz ns, Zhz ms⟩)
end
end L2
namespace L2
open PySem PySem.Spec PyProof.Rows
section
variable {X : Cx} {e st : Expr} {te ts : TE} {pos p2 : Pos}
end
end L2
namespace L2
open PySem PySem.Spec PyProof.Rows
section
variable {X : Cx} {K : PySem.W.Frag}
theorem ZgW (h : X.K = K) : SlR X (rSlL K) := h ▸ ZmI
theorem Zbu {tg l : Expr} {tl : TE} (h : X.K = K) (hl : PE X l tl) : PI X tg l (Zmv K tl) := h ▸ Zmw hl
theorem Zj3 {pos : Pos} {es : List Expr} {k : Nat} {t : TGs} {n : Nat} (h : X.K = K) (hc : X.calm = true) (hh : PGs X es t) (hn : (assignEach es X.env).length = n := by rfl) (hst : (assignEach es X.env).findIdx? (·.1) = none := by rfl) : PG X (.Tuple es k pos) (gTup K n t) := h ▸ ZnS hc hh hn hst
end
section
variable {K : PySem.W.Frag} {g : TG} {tt : TT} {te : TE} {σ : St} {H : Hp} {Q : VK}
end
def ZhA : Expr -> Option Int
 | .Constant (.int i) _ _ => some i
 | .UnaryOp .USub (.Constant (.int i) _ _) _ => some (-i)
 | _ => none
def ZgX : List Expr -> Option (List Int)
 | [] => some []
 | e :: r => match ZhA e, ZgX r with
  | some i, some ns => some (i :: ns)
  | _, _ => none
def ZmQ (ns : List Int) : TA := fun _ H Q => Q (ns.map V.int) H
section
variable {X : Cx}
theorem Zj4 {e : Expr} {i : Int} (h : ZhA e = some i) : PE X e (tC (.int i)) := by
 unfold ZhA at h
 split at h
 · cases h; exact Zam
 · cases h
   intro pins s σ H Q I q
   exact ZgO ZeQ Zam pins s σ H Q I ⟨_, rfl, q⟩
 · cases h
theorem Zh9 {e : Expr} {i : Int} (h : ZhA e = some i) (es : List Expr) (env : Env) : starEach (e :: es) env = (false, eval e env) :: starEach es env := by
 unfold ZhA at h
 split at h
 · rfl
 · rfl
 · cases h
theorem Zgx : ∀ {es : List Expr} {ns : List Int}, ZgX es = some ns -> PA X es (ZmQ ns)
 | [], ns, h => by
  cases (show some [] = some ns from h)
  exact Zae
 | e :: r, ns, h => by
  unfold ZgX at h
  split at h
  · rename_i i ms h1 h2
    cases h
    have := Zaa (Zj4 (X := X) h1) (Zgx h2) (Zh9 h1 r X.env)
    exact this
  · cases h
theorem Zj5 {es : List Expr} {pos : Pos} {ns : List Int} (h : ZgX es = some ns) : PE X (.List es pos) (tLst (ZmQ ns)) := ZaI (Zgx h)
end
end L2
namespace L2
open PySem PySem.Spec PyProof.Rows
section
variable {X : Cx} {es : List Expr} {kk : Nat} {tp : Pos}
end
section
variable {K : PySem.W.Frag} {g : TG} {tt : TT} {te : TE} {σ : St} {H : Hp} {Q : VK}
end
end L2
namespace L2
open PySem PySem.Spec PyProof.Rows
section
variable {X : Cx} {pins : List (Addr × Obj)} {σ : St} {H : Hp} {s : Shared}
@[reducible] def in2 (X : Cx) : Cx := { X with A := X.A.in1.in1, xe := fun _ _ => False }
end
section
variable {X : Cx} {pins : List (Addr × Obj)} {σ : St} {H : Hp} {E : Value -> Shared -> Prop}
end
section
variable {X : Cx} {x : Str} {k : Nat} {ps : List Str} {sp : Sp} {p pf pc pos kp1 kp2 : Pos} {e : Expr} {te : TE} {j : Nat}
end
end L2
namespace L2
open PySem PySem.Spec PyProof.Rows
section
variable {X : Cx}
end
end L2
namespace L2
open PySem PySem.Spec PyProof.Rows
section
variable {X : Cx}
end
end L2
namespace L2
open PySem PySem.Spec PyProof.Rows
end L2
namespace L2
open PySem PySem.Spec PyProof.Rows
section
variable {M : Model} {A : Around} {E : Value -> Shared -> Prop} {s : Shared}
end
@[reducible] def blkC (X : Cx) (scope : Scope) (x0 : Str) (c0 : Addr) (cl : List (Str × Addr)) (N : List Str) (C : Addr) (s₀ : Shared) (H₀ : Hp) (ex : List Addr) : Cx where
 prog := X.prog
 w := X.w
 K := X.K
 mg := X.mg
 base := X.base
 A := X.A
 N := N
 s₀ := s₀
 H₀ := H₀
 env := compEnvC scope ((x0, c0) :: cl) C X.env
 outer := X.stack
 stack := X.stack
 ex := ex
 fn := fun y => y == x0
 calm := X.calm
 pn := []
 xe := fun _ _ => False
section
variable {X : Cx} {pins : List (Addr × Obj)} {σ : St} {H : Hp} {s : Shared} {scope : Scope} {cl : List (Str × Addr)} {N : List Str} {caps : List (Option Nat)} {ex : List Addr} {x0 : Str} {c0 : Addr}
end
section
variable {X : Cx} {tg elt iter : Expr} {ifs : List Expr} {scope : Scope} {cl : List (Str × Addr)} {N : List Str} {caps : List (Option Nat)} {wi : TI} {g : TG} {tt : TT} {te : TE} {pos : Pos} {x0 : Str} {c0 : Addr}
end
end L2
namespace L2
open PySem PySem.Spec PyProof.Rows
section
variable {X : Cx}
end
end L2
namespace L2
open PySem PySem.Spec PyProof.Rows
def okV (N : List Str) (sc : Scope) (i : Nat) (x : Str) : Bool :=
 (N[i]? == some x) && (match sc.names.lookup x with | some .local => true | some .cell => true | some .free => true | _ => false) && !(x == ("__debug__" : Str)) && !(x == ("__classdict__" : Str))
def okL (N : List Str) (sc : Scope) (i : Nat) (x : Str) (fn : Bool) : Bool :=
 (N[i]? == some x) && (match sc.names.lookup x with | some .local => true | some .cell => fn | _ => false)
section
variable {X : Cx} {pos : Pos}
theorem pvB (i : Nat) {x : Str} (h : okV X.N X.env.scope i x = true := by rfl) : PE X (.Name x pos) (tVar i) := by
 unfold okV at h
 simp only [Bool.and_eq_true, beq_iff_eq, Bool.not_eq_true'] at h
 obtain ⟨⟨⟨h1, h2⟩, h3⟩, h4⟩ := h
 refine ZnO h1 ?_ h3 h4
 unfold Vis
 split at h2
 · rename_i e; exact .inl e
 · rename_i e; exact .inr (.inl e)
 · rename_i e; exact .inr (.inr e)
 · cases h2
theorem Ze9 {i : Nat} {x : Str} (h : okL X.N X.env.scope i x (X.fn x) = true) : X.N[i]? = some x /\ Loc X.env.scope x /\ (X.fn x = true \/ X.env.scope.names.lookup x = some .local) := by
 unfold okL at h
 simp only [Bool.and_eq_true, beq_iff_eq] at h
 obtain ⟨h1, h2⟩ := h
 split at h2
 · rename_i e; exact ⟨h1, .inl e, .inr e⟩
 · rename_i e; exact ⟨h1, .inr e, .inl h2⟩
 · cases h2
theorem Zau {i : Nat} {x : Str} (hN : X.N.Nodup) (h : okL X.N X.env.scope i x (X.fn x) = true := by rfl) : PG X (.Name x pos) (Zhj i) :=
 Zmt hN (Ze9 h).1 (Ze9 h).2.1 (Ze9 h).2.2
theorem ZaS {i : Nat} {x : Str} {e : Expr} {te : TE} {pos' : Pos} (hN : X.N.Nodup) (he : PE X e te) (h : okL X.N X.env.scope i x (X.fn x) = true := by rfl) (hs : swapsWith e (some (.Name x pos')) pos.line X.env = pure false := by rfl) :
 PS X (.Assign [.Name x pos'] e pos) (tAsg te (Zhj i)) := ZnT hN (Ze9 h).1 (Ze9 h).2.1 he hs (Ze9 h).2.2
end
end L2
namespace L2
open PySem PySem.Spec PyProof.Rows
def Zj6 (z : Str) : Bool := z.cps.all (· < 128)
def Its (z : Str) : It := ⟨fun i _ => i < z.cps.size, fun i H x H' => H' = H /\ ∃ c, z.cps[i]? = some c /\ x = .str ⟨#[c]⟩, fun i _ => z.cps.size <= i⟩
theorem Zk8 {P : Program} {w : World} {K : PySem.W.Frag} {tg : Expr} (it : Addr) (z : Str) (t : Tok) : Turn P w K tg (Its z) [it] it (fun i h => h.IsStrIter it "str_ascii_iterator" z t i) where
 mem := by simp
 obj := fun i h st b hb => by
  have e : b = it := by simpa using hb
  subst e
  obtain ⟨o, e, c, d⟩ := st
  exact ⟨o, e, fun v z => by rw [d] at z; cases z⟩
 keep := fun i h h' st k => by
  obtain ⟨o, e, r⟩ := st
  exact ⟨o, k it (by simp) o e, r⟩
 item := by
  intro X hP hw hK hc i pins s σ H E I hf st hg
  subst hP hw hK
  have hi : i < z.cps.size := hg
  obtain ⟨f0, f1, f2, f3, f4, f5⟩ := hf it (by simp)
  refine wpAny_pyNext_ascii_item st (c := z.cps[i]) (by simp [hi]) fun h' st' sb => ?_
  have I1 : Inv X pins σ H { s with heap := h', toks := s.toks + 1 } := I.turned (t' := s.toks + 1) (fun b o hb e => (sb.2 b hb).trans e) f0 f1 f3 f4 f5
  obtain ⟨o, e, c, d⟩ := id st'
  exact ⟨_, rfl, Zmu (s := { s with heap := h', toks := s.toks + 1 }) e c d (by decide) ⟨.str ⟨#[z.cps[i]]⟩, H, I1, ⟨_, rfl⟩, ⟨rfl, _, by simp [hi], rfl⟩, st', fun b hb => (hf b hb).1⟩⟩
 done := by
  intro X hP hw hK hc i pins s σ H E I hf st hg
  subst hP hw hK
  have hi : z.cps.size <= i := hg
  obtain ⟨f0, f1, f2, f3, f4, f5⟩ := hf it (by simp)
  exact wpAny_pyNext_ascii_end (I.ok.hd hc) st (by simp [hi]) fun h' eb => ⟨rfl, I.turned (t' := s.toks) (fun b o hb e => eb b o hb e) f0 f1 f3 f4 f5⟩
 self := fun _ _ _ _ _ st h => wpAny_pyIter_striter_ascii st h
section
variable {X : Cx} {tg : Expr}
def iStr (tl : TE) : TI := fun σ H R => tl σ H fun x H1 => ∃ z, x = .str z /\ Zj6 z = true /\ R (Its z) H1
theorem Zn7 {l : Expr} {tl : TE} (hl : PE X l tl) : PI X tg l (iStr tl) := by
 intro pins s σ H R I h
 refine thn (hl pins s σ H _ I h) fun v s1 ⟨x, H1, I1, r1, q1⟩ => ?_
 obtain ⟨z, e, hz, q⟩ := q1
 subst e
 obtain ⟨t, rfl⟩ := r1
 refine wpAny_pyIter_ascii hz ?_
 refine ⟨s1.heap.objs.size, [s1.heap.objs.size], _, _, H1, rfl, I1.kept (t' := s1.toks) fun b o e => Heap.get?_push_of_some _ e, Zk8 _ z t, ⟨_, Heap.get?_push_size _ rfl, rfl, rfl⟩, fun b hb => ?_, q⟩
 have e : b = s1.heap.objs.size := by simpa using hb
 subst e
 exact I1.fpOk (Nat.le_refl _) (I1.hok.fresh (Nat.le_refl _))
theorem Zj7 (hc : X.calm = true) : Zdq X (.builtin "all") (fun vs H Q => ∃ (l : Addr) (bs : List Bool), vs = [.ref l] /\ SqL X.K H l (bs.map V.bl) /\ Q (.bl (bs.all id)) H) := by
 intro pins s σ H vs us Q I r h
 obtain ⟨l, bs, rfl, hS, q⟩ := h
 obtain ⟨u, rfl, ru⟩ := ZgQ r
 cases (show u = Value.ref l from ru)
 obtain ⟨its, rv, p, hz⟩ := I.list hS
 have hlt : l ≠ s.heap.objs.size := by obtain ⟨o, ho, _⟩ := p.isList; exact Nat.ne_of_lt (Heap.lt_size ho)
 have lv := rv.length
 rw [List.length_map] at lv
 refine call_all_walk (wpAny_pyIter_list p.isList ?_)
 refine ⟨s.heap.objs.size, _, _, _, _, _, fun i => bs.getD i false, rfl, Walks.list (A := X.A.in1) (I.ok.hd hc) s.heap.objs.size l hlt its.toArray, ⟨⟨_, Heap.get?_push_size _ rfl, rfl, rfl⟩, p.isList.push _⟩, fun i v s' Q' E' hv hq => ?_, fun h' tk hk => ?_⟩
 · have hv' : its[i]? = some v := by simpa using hv
   have hi : i < bs.length := by rw [lv]; exact (List.getElem?_eq_some_iff.mp hv').1
   obtain ⟨w, hw, rw'⟩ := rv.get (show (bs.map V.bl)[i]? = some (V.bl bs[i]) by rw [List.getElem?_map, List.getElem?_eq_getElem hi]; rfl)
   obtain rfl : v = w := Option.some.inj (hv'.symm.trans hw)
   cases (show v = Value.bool bs[i] from rw')
   refine wpAny_truthy_bool ?_
   have e : bs.getD i false = bs[i] := by rw [List.getD_eq_getElem?_getD, List.getElem?_eq_getElem hi]; rfl
   rw [<- e]; exact hq
 · have e : (List.range its.toArray.size).all (fun i => bs.getD i false) = bs.all id := by
    rw [Bool.eq_iff_iff]
    simp only [List.size_toArray, List.all_eq_true, List.mem_range, id]
    constructor
    · intro h b hb
      obtain ⟨i, hi, rfl⟩ := List.getElem_of_mem hb
      have := h i (by omega)
      rwa [List.getD_eq_getElem?_getD, List.getElem?_eq_getElem hi] at this
    · intro h i hi
      have hi' : i < bs.length := by omega
      rw [List.getD_eq_getElem?_getD, List.getElem?_eq_getElem hi']
      exact h _ (List.getElem_mem hi')
   rw [e]
   exact ⟨.bl _, H, I.kept (t' := tk) fun b o eb => hk b o (fun z => by
    have := List.mem_singleton.mp z
    subst this
    exact absurd (Heap.lt_size eb) (Nat.lt_irrefl _)) (Heap.get?_push_of_some _ eb), rfl, q⟩
def ZiE (K : PySem.W.Frag) : V -> List V -> Hp -> VK -> Prop := fun x vs H Q => ∃ l xs y j, x = .ref l /\ vs = [y] /\ SqL K H l xs /\ ZeD y = true /\ xs.all ZeD = true /\ xs.findIdx? (fun z => eqV z y) = some j /\ Q (.int (j : Nat)) H
theorem Zk9 : MtM X "list.index" (ZiE X.K) := by
 intro pins s σ H x vs v us Q I rx rv h
 obtain ⟨l, xs, y, j, rfl, rfl, hS, fy, fs, hj, q⟩ := h
 cases rx
 obtain ⟨u, rfl, ru⟩ := rv.one
 obtain ⟨its, r, p, hz⟩ := I.list hS
 obtain ⟨o, n, e, hc, hd, hdat⟩ := p
 have hl := r.length
 obtain ⟨hjl, hjt, hjn⟩ := List.findIdx?_eq_some_iff_getElem.mp hj
 have eqAll : ∀ z, z ∈ its.toArray -> SeqAt.EqAt X.A.in1 s z u (eqU y z) := fun z hz => by
  have hz' : z ∈ its := by simpa using hz
  obtain ⟨i, hi, rfl⟩ := List.getElem_of_mem hz'
  have hx : xs[i]? = some xs[i] := by simp [hl ▸ hi]
  obtain ⟨w, hw, rw'⟩ := r.get hx
  rw [List.getElem?_eq_getElem hi] at hw
  cases hw
  have ff : ZeD xs[i] = true := List.all_eq_true.mp fs _ (List.getElem_mem _)
  rw [ZiB rw' ff]
  exact ZlV rw' ru ff fy
 have at_ : ∀ (i : Nat) (hi : i < its.length), eqU y its[i] = eqV (xs[i]'(by omega)) y := fun i hi => by
  have hx : xs[i]? = some (xs[i]'(by omega)) := by simp [hl ▸ hi]
  obtain ⟨w, hw, rw'⟩ := r.get hx
  rw [List.getElem?_eq_getElem hi] at hw
  cases hw
  exact ZiB rw' (List.all_eq_true.mp fs _ (List.getElem_mem _))
 obtain ⟨cl, dct, dat, sl⟩ := o
 dsimp only at hc hd hdat
 subst hc hd hdat
 refine call_meets F.slot_list_index ⟨_, e, rfl⟩ F.entry_list_index (F.args_list_index_2 _ _) (SeqAt.list_indexAt l its.toArray n none sl u (eqU y) j (by simp; omega) (by have h3 : xs.length <= sizeLine := hz; have h4 : sizeLine = 2 ^ 24 := rfl; omega) ?_ ?_) ⟨e, ?_, ?_⟩
 · have := at_ j (by omega)
   simp only [List.getElem_toArray]
   rw [this]; exact hjt
 · intro m hm hlt
   have := at_ m (by simpa using hm)
   simp only [List.getElem_toArray]
   rw [this]
   have := hjn m hlt
   simpa using this
 · intro z hz; exact eqAll z hz
 · exact ⟨.int (j : Nat), H, I.tok _, ⟨_, rfl⟩, q⟩
end
end L2
namespace L2
open PySem PySem.Spec PyProof.Rows
section
variable {κ : Type} [DecidableEq κ]
def valV (kvs : List (κ × V)) (k : κ) : Option V := (kvs.find? fun kv => decide (kv.1 = k)).map (·.2)
def putK (kvs : List (κ × V)) (k : κ) (v : V) : List (κ × V) :=
 if (kvs.any fun kv => decide (kv.1 = k)) = true then kvs.map (fun kv => if kv.1 = k then (kv.1, v) else kv) else kvs ++ [(k, v)]
def ZpM (kvs : List (κ × V)) (k : κ) : List (κ × V) := kvs.filter fun kv => decide (kv.1 ≠ k)
theorem ZfG {p : κ × V} {r : List (κ × V)} {k : κ} (e : p.1 = k) : valV (p :: r) k = some p.2 := by simp [valV, List.find?_cons, e]
theorem ZfH {p : κ × V} {r : List (κ × V)} {k : κ} (e : ¬ p.1 = k) : valV (p :: r) k = valV r k := by simp [valV, List.find?_cons, e]
theorem ZiF (k : κ) : ∀ kvs : List (κ × V), (kvs.any fun kv => decide (kv.1 = k)) = (valV kvs k).isSome
 | [] => rfl
 | p :: r => by
  rw [List.any_cons]
  by_cases e : p.1 = k
  · simp only [ZfG e, decide_eq_true e, Bool.true_or, Option.isSome_some]
  · rw [ZfH e, decide_eq_false e, Bool.false_or]; exact ZiF k r
theorem Zia (kvs : List (κ × V)) (k : κ) (v : V) : (putK kvs k v).length <= kvs.length + 1 := by
 unfold putK
 split
 · rw [List.length_map]; omega
 · rw [List.length_append, List.length_cons, List.length_nil]; omega
theorem RelO.isSome_eq {o : Option V} {u : Option Value} (r : RelO o u) : o.isSome = u.isSome := by
 cases o with
 | none => cases u with
  | none => rfl
  | some _ => exact (show False from r).elim
 | some _ => cases u with
  | none => exact (show False from r).elim
  | some _ => rfl
theorem RelO.getD {o : Option V} {u : Option Value} {d : V} {d' : Value} (r : RelO o u) (rd : RelV d d') : RelV (o.getD d) (u.getD d') := by
 cases o with
 | none => cases u with
  | none => exact rd
  | some _ => exact (show False from r).elim
 | some _ => cases u with
  | none => exact (show False from r).elim
  | some _ => exact r
theorem KV.val {kvs : List (κ × V)} {vs : List (κ × Value)} (r : KV kvs vs) (k : κ) : RelO (valV kvs k) (valueAt vs k) := by
 unfold KV at r
 induction r with
 | nil => exact True.intro
 | @cons p q ps qs h t ih =>
  obtain ⟨h1, h2⟩ := h
  by_cases e : p.1 = k
  · have e' : q.1 = k := h1.symm.trans e
    have b : valueAt (q :: qs) k = some q.2 := by simp [valueAt, List.find?_cons, e']
    rw [ZfG e, b]; exact h2
  · have e' : ¬ q.1 = k := fun z => e (h1.trans z)
    have b : valueAt (q :: qs) k = valueAt qs k := by simp [valueAt, List.find?_cons, e']
    rw [ZfH e, b]; exact ih
theorem KV.any {kvs : List (κ × V)} {vs : List (κ × Value)} (r : KV kvs vs) (k : κ) : (kvs.any fun kv => decide (kv.1 = k)) = vs.any fun kv => decide (kv.1 = k) := by
 unfold KV at r
 induction r with
 | nil => rfl
 | cons h t ih => rw [List.any_cons, List.any_cons, ih, h.1]
theorem KV.repl {kvs : List (κ × V)} {vs : List (κ × Value)} (r : KV kvs vs) (k : κ) {y : V} {u : Value} (ry : RelV y u) :
 KV (kvs.map fun kv => if kv.1 = k then (kv.1, y) else kv) (vs.map fun kv => if kv.1 = k then (kv.1, u) else kv) := by
 unfold KV at r ⊢
 induction r with
 | nil => exact .nil
 | @cons p q ps qs h t ih =>
  rw [List.map_cons, List.map_cons]
  refine .cons ?_ ih
  obtain ⟨h1, h2⟩ := h
  by_cases e : p.1 = k
  · rw [if_pos e, if_pos (h1.symm.trans e)]; exact ⟨h1, ry⟩
  · rw [if_neg e, if_neg (fun z => e (h1.trans z))]; exact ⟨h1, h2⟩
theorem KV.put {kvs : List (κ × V)} {vs : List (κ × Value)} (r : KV kvs vs) (k : κ) {y : V} {u : Value} (ry : RelV y u) : KV (putK kvs k y) (stored vs k u) := by
 unfold putK stored
 rw [r.any k]
 by_cases e : (vs.any fun kv => decide (kv.1 = k)) = true
 · rw [if_pos e, if_pos e]; exact r.repl k ry
 · rw [if_neg e, if_neg e]; exact Paired.snoc r ⟨rfl, ry⟩
theorem KV.length {kvs : List (κ × V)} {vs : List (κ × Value)} (r : KV kvs vs) : kvs.length = vs.length := Paired.length r
end
theorem ZmR {P : Program} {w : World} {k : Key} {u : Value} (r : RelV (kV k) u) : (Zbk P w).is k u = true := by
 cases k with
 | inl i => obtain ⟨t, e⟩ := (show ∃ t, u = Value.int i t from r); subst e; exact Zh0 P w i t
 | inr x => obtain ⟨t, e⟩ := (show ∃ t, u = Value.str x t from r); subst e; exact Zh1 P w x t
theorem ZhB {P : Program} {w : World} : ∀ {ks : List Key} {us : List Value}, Vals (ks.map kV) us -> ItemsAre (Zbk P w) ks us
 | [], _, r => by rw [List.map_nil] at r; cases r; exact .nil
 | k :: ks, _, r => by
  rw [List.map_cons] at r
  cases r with
  | cons h t => exact .cons (ZmR h) (ZhB t)
abbrev KT (H : Hp) : List (List Key × V) -> List (List Key × Addr × Value) -> Prop := Paired fun p q => p.1 = q.1 /\ H q.2.1 = some (.tup (p.1.map kV)) /\ RelV p.2 q.2.2
theorem KT.val {H : Hp} {kvs : List (List Key × V)} {xs : List (List Key × Addr × Value)} (r : KT H kvs xs) (k : List Key) : RelO (valV kvs k) ((atKey xs k).map (·.2)) := by
 induction r with
 | nil => exact True.intro
 | @cons p q ps qs h t ih =>
  obtain ⟨h1, _, h2⟩ := h
  by_cases e : p.1 = k
  · have e' : q.1 = k := h1.symm.trans e
    have b : atKey (q :: qs) k = some q.2 := by simp [atKey, List.find?_cons, e']
    rw [ZfG e, b]; exact h2
  · have e' : ¬ q.1 = k := fun z => e (h1.trans z)
    have b : atKey (q :: qs) k = atKey qs k := by simp [atKey, List.find?_cons, e']
    rw [ZfH e, b]; exact ih
theorem KT.repl {H : Hp} {kvs : List (List Key × V)} {xs : List (List Key × Addr × Value)} (r : KT H kvs xs) (k : List Key) {y : V} {u : Value} (ry : RelV y u) :
 KT H (kvs.map fun kv => if kv.1 = k then (kv.1, y) else kv) (xs.map (putAt k u)) := by
 induction r with
 | nil => exact .nil
 | @cons p q ps qs h t ih =>
  rw [List.map_cons, List.map_cons]
  refine .cons ?_ ih
  obtain ⟨h1, h2, h3⟩ := h
  unfold putAt
  by_cases e : p.1 = k
  · rw [if_pos e, if_pos (h1.symm.trans e)]; exact ⟨h1, h2, ry⟩
  · rw [if_neg e, if_neg (fun z => e (h1.trans z))]; exact ⟨h1, h2, h3⟩
theorem KT.put {H : Hp} {kvs : List (List Key × V)} {xs : List (List Key × Addr × Value)} (r : KT H kvs xs) (k : List Key) {b : Addr} {y : V} {u : Value} (hb : H b = some (.tup (k.map kV))) (ry : RelV y u) :
 KT H (putK kvs k y) (storedH xs k b u) := by
 have e : (kvs.any fun kv => decide (kv.1 = k)) = (atKey xs k).isSome := by
  rw [ZiF, (r.val k).isSome_eq, Option.isSome_map]
 unfold putK storedH
 rw [e]
 by_cases q : (atKey xs k).isSome = true
 · rw [if_pos q, if_pos q]; exact r.repl k ry
 · rw [if_neg q, if_neg q]; exact Paired.snoc r ⟨rfl, hb, ry⟩
theorem KT.keeps {H H' : Hp} {kvs : List (List Key × V)} {xs : List (List Key × Addr × Value)} (r : KT H kvs xs) (ht : ∀ b ys, H b = some (.tup ys) -> H' b = some (.tup ys)) : KT H' kvs xs :=
 Paired.mapP r fun _ _ z => ⟨z.1, ht _ _ z.2.1, z.2.2⟩
section
variable {P : Program} {w : World} {H : Hp} {h : Heap} {a : Addr}
theorem Zn8 {u : HO} (ok : HOk P w H h) (e : Rd H a u) : ObjOk P w H h a u := e.ok ok
theorem ZmS {kvs : List (Key × V)} (ok : HOk P w H h) (e : Rd H a (.dK kvs)) : kvs.length <= sizeLine /\ (a == sysModules) = false /\ ∃ vs, KV kvs vs /\ h.DictOf (Zbk P w) a vs :=
 show ObjOk P w H h a (.dK kvs) from Zn8 ok e
theorem Zla {kvs : List (Key × V)} (ok : HOk P w H h) (e : H a = some (.dK kvs)) : kvs.length <= sizeLine /\ (a == sysModules) = false /\ ∃ vs, KV kvs vs /\ h.DictOf (Zbk P w) a vs := ZmS ok (.inl e)
theorem ZlZ {ks : List Key} (ok : HOk P w H h) (e : H a = some (.tup (ks.map kV))) : (tupleKind (Zbk P w)).is h ks a := by
 obtain ⟨_, its, r, o, h1, h2, n, h3⟩ := (show ObjOk P w H h a (.tup (ks.map kV)) from ok a _ e)
 exact ⟨o, its.toArray, n, h1, h2, h3, by simpa using ZhB r⟩
theorem Zn9 {kvs : List (List Key × V)} (ok : HOk P w H h) (e : Rd H a (.dT kvs)) : kvs.length <= sizeLine /\ (a == sysModules) = false /\
 ∃ xs, KT H kvs xs /\ h.DictOfH (tupleKind (Zbk P w)) a xs := by
 obtain ⟨z, y, xs, r, o, es, ep, h1, h2, h3, h4, h5⟩ := (show ObjOk P w H h a (.dT kvs) from Zn8 ok e)
 refine ⟨z, y, xs, r, o, es, ep, h1, h2, h3, h4, fun x hx => ?_, h5⟩
 have all : ∀ {l : List (List Key × V)} {m : List (List Key × Addr × Value)}, KT H l m -> ∀ x ∈ m, (tupleKind (Zbk P w)).is h x.1 x.2.1 := by
  intro l m q
  induction q with
  | nil => intro x hx; exact nomatch hx
  | @cons p q ps qs hq t ih =>
   intro x hx
   rcases List.mem_cons.mp hx with e | hx
   · subst e
     exact ZlZ ok (by rw [<- hq.1]; exact hq.2.1)
   · exact ih x hx
 exact all r x hx
end
def DGet (H : Hp) (a : Addr) (y : V) (r : Option V) : Prop :=
 (∃ kvs k, Rd H a (.dK kvs) /\ y = kV k /\ r = valV kvs k) \/ ∃ kvs k b, Rd H a (.dT kvs) /\ y = .ref b /\ H b = some (.tup (k.map kV)) /\ r = valV kvs k
def DPut (H : Hp) (a : Addr) (y v : V) (H' : Hp) : Prop :=
 (∃ kvs k, H a = some (.dK kvs) /\ y = kV k /\ kvs.length < sizeLine /\ H' = upd H a (.dK (putK kvs k v))) \/
 ∃ kvs k b, H a = some (.dT kvs) /\ y = .ref b /\ H b = some (.tup (k.map kV)) /\ kvs.length < sizeLine /\ H' = upd H a (.dT (putK kvs k v))
theorem DGet.k {H : Hp} {a : Addr} {kvs : List (Key × V)} {k : Key} (e : H a = some (.dK kvs)) : DGet H a (kV k) (valV kvs k) := .inl ⟨kvs, k, .inl e, rfl, rfl⟩
theorem DGet.t {H : Hp} {a b : Addr} {kvs : List (List Key × V)} {k : List Key} (e : H a = some (.dT kvs)) (eb : H b = some (.tup (k.map kV))) : DGet H a (.ref b) (valV kvs k) := .inr ⟨kvs, k, b, .inl e, rfl, eb, rfl⟩
theorem DPut.k {H : Hp} {a : Addr} {kvs : List (Key × V)} {k : Key} {v : V} (e : H a = some (.dK kvs)) (hl : kvs.length < sizeLine) : DPut H a (kV k) v (upd H a (.dK (putK kvs k v))) := .inl ⟨kvs, k, e, rfl, hl, rfl⟩
theorem DPut.t {H : Hp} {a b : Addr} {kvs : List (List Key × V)} {k : List Key} {v : V} (e : H a = some (.dT kvs)) (eb : H b = some (.tup (k.map kV))) (hl : kvs.length < sizeLine) :
 DPut H a (.ref b) v (upd H a (.dT (putK kvs k v))) := .inr ⟨kvs, k, b, e, rfl, eb, hl, rfl⟩
section
variable {X : Cx} {pins : List (Addr × Obj)} {σ : St} {H : Hp} {s : Shared} {a : Addr} {y v : V} {u r : Value} {o : Option V} {A : Around} {E : Value -> Shared -> Prop}
theorem Inv.big (I : Inv X pins σ H s) : sysModules < s.heap.objs.size := by
 have h : mainGlobals < s.heap.objs.size := (I.mod.glob.keeps I.bk).lt
 exact Nat.lt_trans (by decide) h
theorem ZmT {h' : Heap} {t' : Nat} {ob : HO} (I : Inv X pins σ H s) (mu : Mut (H a)) (hs : Heap.SameBut a s.heap h') (he : ∃ q, h'.get? a = some q) (new : ObjOk X.prog X.w (upd H a ob) h' a ob) :
 Inv X pins σ (upd H a ob) { s with heap := h', toks := t' } :=
 I.write (x := a) (e := a) mu (.inl rfl) (fun b q hb z => (hs.2 b hb).trans z) he new
theorem Zoa {P : Program} {w : World} {H' : Hp} {h' : Heap} {kvs : List (Key × V)} {vs : List (Key × Value)} (z : kvs.length <= sizeLine) (hd : (a == sysModules) = false) (rel : KV kvs vs) (dd : h'.DictOf (Zbk P w) a vs) :
 ObjOk P w H' h' a (.dK kvs) := ⟨z, hd, vs, rel, dd⟩
end
section
variable {X : Cx} {pins : List (Addr × Obj)} {σ : St} {H : Hp} {s : Shared} {a : Addr} {kvs : List (Key × V)} {k : Key} {u : Value} {A : Around} {E : Value -> Shared -> Prop}
end
section
variable {X : Cx} {o i e value : Expr} {pos pos' tpos : Pos} {td ty tv : TE}
end
theorem ZiG {P : Program} {w : World} {H : Hp} (h : Heap) (hb : sysModules < h.objs.size) : ObjOk P w H (h.push { cls := .type "dict", data := .dict #[] }) h.objs.size (.dK []) :=
 ⟨Nat.zero_le _, beq_eq_false_iff_ne.mpr (Ne.symm (Nat.ne_of_lt hb)), [], .nil, Heap.DictOf.new h⟩
def Zl0 : TE := fun _ H Q => ∀ p, H p = none -> Q (.ref p) (upd H p (.dK []))
section
variable {X : Cx} {pos : Pos}
theorem Zlb : PE X (.Dict [] [] pos) Zl0 := fun pins s σ H Q I h =>
 wpAny_Dict_empty ⟨.ref s.heap.objs.size, _, I.laid (a := s.heap.objs.size) (o := .dK []) (t' := s.toks) (fun _ _ q => Heap.get?_push_of_some _ q) (Nat.le_refl _) (ZiG s.heap I.big), rfl, h _ (I.hok.fresh (Nat.le_refl _))⟩
end
def Zj8 : List (TE × TE) -> St -> Hp -> (List (V × V) -> Hp -> Prop) -> Prop
 | [], _, H, Q => Q [] H
 | (tk, tv) :: r, σ, H, Q => tk σ H fun x H1 => tv σ H1 fun y H2 => Zj8 r σ H2 fun ps H3 => Q ((x, y) :: ps) H3
abbrev VV : List (V × V) -> List (Value × Value) -> Prop := Paired fun p q => RelV p.1 q.1 /\ RelV p.2 q.2
def PPs (X : Cx) (pos : Pos) (keys : List (Option Expr)) (values : List Expr) (trs : List (TE × TE)) : Prop :=
 ∀ (pins : List (Addr × Obj)) (s : Shared) (σ : St) (H : Hp) (Q : List (V × V) -> Hp -> Prop), Inv X pins σ H s -> Zj8 trs σ H Q ->
  wpAny (model X.prog X.w) X.A (evalPairs (pairTrees keys values X.env pos)) (fun vs s' => ∃ ps H', Inv X pins σ H' s' /\ VV ps vs /\ Q ps H') X.xe s
theorem ZmU {X : Cx} {pos : Pos} : PPs X pos [] [] [] := fun pins s σ H Q I h => pairTrees_nil_walk ⟨[], H, I, .nil, h⟩
theorem Zlc {X : Cx} {pos : Pos} {k v : Expr} {ks : List (Option Expr)} {vs : List Expr} {tk tv : TE} {trs : List (TE × TE)} (hk : PE X k tk) (hv : PE X v tv) (hr : PPs X pos ks vs trs) :
 PPs X pos (some k :: ks) (v :: vs) ((tk, tv) :: trs) := fun pins s σ H Q I h =>
 pairTrees_cons_walk (thn (hk pins s σ H _ I h) fun u s1 ⟨x, H1, I1, rx, q1⟩ => thn (hv pins s1 σ H1 _ I1 q1) fun w2 s2 ⟨y, H2, I2, ry, q2⟩ =>
  thn (hr pins s2 σ H2 _ I2 q2) fun ws s3 ⟨ps, H3, I3, rel, q3⟩ => ⟨(x, y) :: ps, H3, I3, .cons ⟨rx, ry⟩ rel, q3⟩)
def ZeS (kvs more : List (Key × V)) : List (Key × V) := more.foldl (fun acc kv => putK acc kv.1 kv.2) kvs
theorem KV.merge : ∀ {more : List (Key × V)} {rs : List (Key × Value)} {kvs : List (Key × V)} {vs : List (Key × Value)}, KV more rs -> KV kvs vs -> KV (ZeS kvs more) (merged vs rs) := by
 intro more rs kvs vs r
 unfold KV at r
 induction r generalizing kvs vs with
 | nil => intro q; exact q
 | @cons p q ps qs h t ih =>
  intro r0
  have e : KV (putK kvs p.1 p.2) (stored vs q.1 q.2) := by
   have := r0.put p.1 h.2
   rw [<- h.1]; exact this
  exact ih e
theorem ZeT : ∀ (more kvs : List (Key × V)), (ZeS kvs more).length <= kvs.length + more.length
 | [], kvs => by show kvs.length <= kvs.length + 0; omega
 | p :: r, kvs => by
  have h1 := ZeT r (putK kvs p.1 p.2)
  have h2 := Zia kvs p.1 p.2
  show (ZeS (putK kvs p.1 p.2) r).length <= _
  rw [List.length_cons]; omega
theorem Zgy {P : Program} {w : World} : ∀ {kvs : List (Key × V)} {ws : List (Value × Value)}, VV (kvs.map fun kv => (kV kv.1, kv.2)) ws -> ∃ rs, Carries (Zbk P w) ws rs /\ KV kvs rs
 | [], _, r => by rw [List.map_nil] at r; cases r; exact ⟨[], True.intro, .nil⟩
 | p :: kvs, _, r => by
  rw [List.map_cons] at r
  cases r with
  | @cons a b as bs h t =>
   obtain ⟨rs, c, q⟩ := Zgy (P := P) (w := w) t
   obtain ⟨b1, b2⟩ := b
   exact ⟨(p.1, b2) :: rs, ⟨ZmR h.1, rfl, c⟩, .cons ⟨rfl, h.2⟩ q⟩
def Zob (trs : List (TE × TE)) : TE := fun σ H Q => ∀ p, H p = none -> Zj8 trs σ (upd H p (.dK [])) fun ps H2 => H2 p = some (.dK []) /\ ∃ kvs : List (Key × V), ps = kvs.map (fun kv => (kV kv.1, kv.2)) /\ kvs.length <= 15 /\ Q (.ref p) (upd H2 p (.dK (ZeS [] kvs)))
theorem ZmV {X : Cx} {pos : Pos} {keys : List (Option Expr)} {values : List Expr} {trs : List (TE × TE)} (h : PPs X pos keys values trs) (hall : keys.all (·.isSome) = true) (hl : keys.length = values.length) (h0 : keys ≠ [])
 (h15 : keys.length <= 15) : PE X (.Dict keys values pos) (Zob trs) := by
 intro pins s σ H Q I q
 have hn := I.hok.fresh (Nat.le_refl s.heap.objs.size)
 have I1 := I.laid (a := s.heap.objs.size) (o := .dK []) (h' := s.heap.push { cls := .type "dict", data := .dict #[] }) (t' := s.toks) (fun _ _ q => Heap.get?_push_of_some _ q) (Nat.le_refl _) (ZiG s.heap I.big)
 refine wpAny_Dict_walk (knd := Zbk X.prog X.w) hall hl h0 h15 (thn (h pins _ σ _ _ I1 (q _ hn)) fun ws s2 ⟨ps, H2, I2, rel, e, kvs, ep, lk, q2⟩ => ?_)
 subst ep
 obtain ⟨rs, c, rk⟩ := Zgy (P := X.prog) (w := X.w) rel
 obtain ⟨z, hd, vs0, r0, dd⟩ := Zla I2.hok e
 cases r0
 refine ⟨rs, c, dd, fun h' dd' hs => ⟨.ref s.heap.objs.size, _, ?_, rfl, q2⟩⟩
 have hz : (ZeS [] kvs).length <= sizeLine := by
  have h1 := ZeT kvs []
  rw [List.length_nil] at h1
  rw [sizeLine_eq]; omega
 have he : ∃ q, h'.get? s.heap.objs.size = some q := let ⟨q, _, _, hq, _⟩ := dd'; ⟨q, hq⟩
 exact ZmT I2 (by rw [e]; exact True.intro) hs he (Zoa hz hd (rk.merge .nil) dd')
structure M1 (X : Cx) (o : Expr) (m : Str) (apos : Pos) (e : Expr) (cpos : Pos) : Prop where
 base : attributeBase o m X.env (eval o X.env) = eval o X.env
 few : ((backTo cpos (starEach [e] X.env)).all (fun x => !x.1) && (backToKw cpos (keywordEach [] X.env)).all (fun x => x.1.isSome)
  && decide (([e] : List Expr).length + ([] : List Keyword).length + (if ([] : List Keyword).isEmpty then 0 else 1) < 30)) = true
 line : (apos.endLine == cpos.line) = true
 trees : backTo cpos (starEach [e] X.env) = [(false, eval e X.env)]
structure M2 (X : Cx) (o : Expr) (m : Str) (apos : Pos) (e f : Expr) (cpos : Pos) : Prop where
 base : attributeBase o m X.env (eval o X.env) = eval o X.env
 few : ((backTo cpos (starEach [e, f] X.env)).all (fun x => !x.1) && (backToKw cpos (keywordEach [] X.env)).all (fun x => x.1.isSome)
  && decide (([e, f] : List Expr).length + ([] : List Keyword).length + (if ([] : List Keyword).isEmpty then 0 else 1) < 30)) = true
 line : (apos.endLine == cpos.line) = true
 trees : backTo cpos (starEach [e, f] X.env) = [(false, eval e X.env), (false, eval f X.env)]
def IsD (H : Hp) (a : Addr) : Prop := (∃ kvs, Rd H a (.dK kvs)) \/ ∃ kvs, Rd H a (.dT kvs)
theorem Zoc {X : Cx} {pins : List (Addr × Obj)} {σ : St} {H : Hp} {s : Shared} {a : Addr} (I : Inv X pins σ H s) (d : IsD H a) :
 s.TypeIs (.ref a) "dict" /\ (∀ b, Value.ref a = .ref b -> ∃ ob, s.heap.get? b = some ob /\ ob.dict = none) /\ (a == sysModules) = false := by
 rcases d with ⟨kvs, e⟩ | ⟨kvs, e⟩
 · obtain ⟨_, hd, vs, _, dd⟩ := ZmS I.hok e
   refine ⟨dd.typeIs, fun b q => ?_, hd⟩
   cases q
   obtain ⟨ob, _, _, h1, h2, _⟩ := dd
   exact ⟨ob, h1, h2.2.1⟩
 · obtain ⟨_, hd, xs, _, dd⟩ := Zn9 I.hok e
   refine ⟨dd.typeIs, fun b q => ?_, hd⟩
   cases q
   obtain ⟨ob, _, _, h1, h2, _⟩ := dd
   exact ⟨ob, h1, h2.2.1⟩
section
variable {X : Cx} {pins : List (Addr × Obj)} {σ : St} {H : Hp} {s : Shared} {a : Addr} {y d : V} {u r : Value} {o : Option V} {A : Around} {E : Value -> Shared -> Prop}
theorem Zod {Q : Value -> Shared -> Prop} (hu : A.units + 1 < cLine) (I : Inv X pins σ H s) (g : DGet H a y o) (ry : RelV y u) (rd : RelV d r) (h : ∀ w' s', Inv X pins σ H s' -> RelV (o.getD d) w' -> Q w' s') :
 wpAny (model X.prog X.w) A (call (.builtin "dict.get") [.ref a, u, r]) Q E s := by
 rcases g with ⟨kvs, k, e, ey, l⟩ | ⟨kvs, k, b, e, ey, eb, l⟩
 · subst ey
   obtain ⟨z, hd, vs, rel, dd⟩ := ZmS I.hok e
   refine call_meetsIn PySem.F.slot_dict_get dd.typeIs PySem.F.entry_dict_get (PySem.F.args_dict_get_3 _ _ _) (meets_dict_get_default (Zbk X.prog X.w) a (ZmR ry) hd r) ⟨_, dd.mapOf, h _ _ (I.tok _) ?_⟩
   rw [l]
   exact (rel.val k).getD rd
 · subst ey
   cases (show u = Value.ref b from ry)
   obtain ⟨z, hd, xs, rel, dd⟩ := Zn9 I.hok e
   refine call_meetsIn PySem.F.slot_dict_get dd.typeIs PySem.F.entry_dict_get (PySem.F.args_dict_get_3 _ _ _) (meetsH_dict_get_default (tupleKind (Zbk X.prog X.w)) a b hd r) ⟨tupleKind_room_in1 hu, k, xs, ZlZ I.hok eb, dd, h _ _ (I.tok _) ?_⟩
   rw [l]
   exact (rel.val k).getD rd
end
def Zj9 (td ty tx : TE) : TE := fun σ H Q => td σ H fun x H1 => ∃ a, x = .ref a /\ IsD H1 a /\ ty σ H1 fun y H2 => tx σ H2 fun z H3 => ∃ o, DGet H3 a y o /\ Q (o.getD z) H3
section
variable {X : Cx} {o e f : Expr} {apos cpos : Pos} {td ty tx : TE}
theorem Zld (hu : X.A.units + 1 < cLine) (ho : PE X o td) (he : PE X e ty) (hf : PE X f tx) (m : M2 X o "get" apos e f cpos) : PE X (.Call (.Attribute o "get" apos) [e, f] [] cpos) (Zj9 td ty tx) := by
 intro pins s σ H Q I h
 refine wpAny_Call_method m.base m.few m.line PySem.F.plainAttrs_dict PySem.F.slot_dict_get PySem.F.type_dict_get (thn (ho pins s σ H _ I h) fun u s1 ⟨x, H1, I1, rx, a, ex, d, q1⟩ => ?_)
 subst ex
 obtain rfl : u = Value.ref a := rx
 obtain ⟨t1, t2, _⟩ := Zoc I1 d
 refine ⟨t1, t2, ?_⟩
 rw [m.trees]
 refine Calls.callWith_builtin rfl (Calls.evalArgs_plain (Calls.spliced_cons (thn (he pins s1 σ H1 _ I1 q1) fun iv s2 ⟨y, H2, I2, ry, q2⟩ =>
  Calls.spliced_cons (thn (hf pins s2 σ H2 _ I2 q2) fun fv s3 ⟨z, H3, I3, rz, ov, g, q3⟩ => Calls.spliced_nil ?_))))
 exact Zod hu I3 g ry rz fun w' s4 I4 rw' => ⟨_, H3, I4, rw', q3⟩
end
section
variable {X : Cx} {pins : List (Addr × Obj)} {σ : St} {H : Hp} {s : Shared} {a : Addr} {kvs : List (Key × V)} {A : Around} {E : Value -> Shared -> Prop}
end
section
variable {X : Cx} {pins : List (Addr × Obj)} {σ : St} {H : Hp} {s : Shared} {a : Addr} {y : V} {u : Value} {A : Around} {E : Value -> Shared -> Prop}
end
end L2
namespace L2
open PySem PySem.Spec PyProof.Rows PySem.W
section
variable {X : Cx}
theorem Zib : ∀ {xs : List V} {us : List Value}, us.length = xs.length -> (∀ (i : Nat) x u, xs[i]? = some x -> us[i]? = some u -> RelV x u) -> Vals xs us
 | [], [], _, _ => .nil
 | [], _ :: _, e, _ => by simp at e
 | _ :: _, [], e, _ => by simp at e
 | x :: xs, u :: us, e, h => .cons (h 0 x u rfl rfl) (Zib (by simpa using e) fun i y z a b => h (i + 1) y z (by simpa using a) (by simpa using b))
theorem Zpf {P : Program} {w : World} {k : Key} {u : Value} (h : (Zbk P w).is k u = true) : RelV (kV k) u := by
 rcases Zbd (show ZhZ k u = true from h) with ⟨i, t, rfl, rfl⟩ | ⟨x, t, rfl, rfl⟩
 · exact ⟨t, rfl⟩
 · exact ⟨t, rfl⟩
theorem Zoe {P : Program} {w : World} {h : Heap} {a : Addr} {vs : List (Key × Value)} (dd : h.DictOf (Zbk P w) a vs) : ∃ ep, h.DictAt (Zbk P w) a vs ep := by
 obtain ⟨o, es, ep, r⟩ := dd
 exact ⟨ep, o, es, r⟩
theorem Zl1 : ∀ {kvs : List (Key × V)} {vs : List (Key × Value)}, KV kvs vs -> ∀ (i : Nat) k v k' u, kvs[i]? = some (k, v) -> vs[i]? = some (k', u) -> k = k' /\ RelV v u := by
 intro kvs vs r
 induction r with
 | nil => intro i k v k' u e; simp at e
 | cons h t ih =>
  intro i k v k' u e e'
  cases i with
  | zero => simp at e e'; subst e e'; exact h
  | succ i => exact ih i k v k' u (by simpa using e) (by simpa using e')
theorem Zjj (hc : X.calm = true) : Zdq X (.type "list") (fun xs H Q => ∃ p kvs, xs = [.ref p] /\ H p = some (.dK kvs) /\ ∀ l, H l = none -> Q (.ref l) (upd H l (.lst (kvs.map fun kv => kV kv.1)))) := by
 intro pins s σ H xs us Q I r h
 obtain ⟨p, kvs, rfl, hp, q⟩ := h
 obtain ⟨u, rfl, rx⟩ := ZgQ r
 cases rx
 obtain ⟨z, hd, vs, rel, dd⟩ := Zla I.hok hp
 obtain ⟨ep, da⟩ := Zoe dd
 refine kdl_call (kdl_dict hd) (I.ok.hd hc) da (by rw [<- rel.length]; exact z) fun h' tk acc' c' kp e it => ?_
 refine ⟨.ref s.heap.objs.size, _, I.laid (t' := tk) kp (Nat.le_refl _) (show ObjOk X.prog X.w _ h' _ (.lst (kvs.map fun kv => kV kv.1)) from ⟨by rw [List.length_map]; exact z, acc'.toList, c', ?_, by simpa using e⟩), rfl, q _ (I.hok.fresh (Nat.le_refl _))⟩
 refine Zib (by rw [List.length_map, Array.length_toList, rel.length]; exact it.1) fun i x u hx hu => ?_
 rw [List.getElem?_map] at hx
 cases qk : kvs[i]? with
 | none => rw [qk] at hx; cases hx
 | some kv =>
  rw [qk] at hx
  cases hx
  obtain ⟨k', x', h1, h2⟩ := it.2 i u (by rw [<- Array.getElem?_toList]; exact hu)
  obtain ⟨e1, _⟩ := Zl1 rel i kv.1 kv.2 k' x' qk h1
  show RelV (kV kv.1) u
  rw [e1]
  exact Zpf h2
def Zjk (p a : Addr) : HO := .ext fun h => h.IsValuesView p a
def Zle : V -> List V -> Hp -> VK -> Prop := fun x vs H Q => ∃ a kvs, x = .ref a /\ vs = [] /\ H a = some (.dK kvs) /\ ∀ p, H p = none -> Q (.ref p) (upd H p (Zjk p a))
theorem Zka : MtM X "dict.values" Zle := by
 intro pins s σ H x vs v us Q I rx rv h
 obtain ⟨a, kvs, rfl, rfl, ha, q⟩ := h
 cases rx
 cases rv
 obtain ⟨z, hd, vs, rel, dd⟩ := Zla I.hok ha
 refine call_meetsIn PySem.F.slot_dict_values dd.typeIs PySem.F.entry_dict_values (PySem.F.args_dict_values_1 _) (meets_dict_values (Zbk X.prog X.w) a hd) ⟨⟨vs, dd⟩, ?_⟩
 have hv : (s.heap.push { cls := .type "dict_values", data := .fields #[.ref a] }).IsValuesView s.heap.objs.size a := ⟨_, Heap.get?_push_size _ rfl, rfl, rfl⟩
 refine ⟨.ref s.heap.objs.size, _, I.laid (t' := s.toks) (o := Zjk s.heap.objs.size a) (fun b o e => Heap.get?_push_of_some _ e) (Nat.le_refl _) ⟨hv, ⟨_, Heap.get?_push_size _ rfl⟩, fun h1 h2 ⟨o, e, r⟩ k => ⟨o, k o e, r⟩⟩, rfl, q _ (I.hok.fresh (Nat.le_refl _))⟩
theorem Zjl (hc : X.calm = true) : Zdq X (.type "list") (fun xs H Q => ∃ p a kvs, xs = [.ref p] /\ H p = some (Zjk p a) /\ H a = some (.dK kvs) /\ ∀ l, H l = none -> Q (.ref l) (upd H l (.lst (kvs.map fun kv => kv.2)))) := by
 intro pins s σ H xs us Q I r h
 obtain ⟨p, a, kvs, rfl, hp, ha, q⟩ := h
 obtain ⟨u, rfl, rx⟩ := ZgQ r
 cases rx
 obtain ⟨z, hd, vs, rel, dd⟩ := Zla I.hok ha
 obtain ⟨ep, da⟩ := Zoe dd
 obtain ⟨hv, _⟩ := I.hok p _ hp
 refine kdl_call kdl_values (I.ok.hd hc) ⟨hv, da⟩ (by rw [<- rel.length]; exact z) fun h' tk acc' c' kp e it => ?_
 refine ⟨.ref s.heap.objs.size, _, I.laid (t' := tk) kp (Nat.le_refl _) (show ObjOk X.prog X.w _ h' _ (.lst (kvs.map fun kv => kv.2)) from ⟨by rw [List.length_map]; exact z, acc'.toList, c', ?_, by simpa using e⟩), rfl, q _ (I.hok.fresh (Nat.le_refl _))⟩
 refine Zib (by rw [List.length_map, Array.length_toList, rel.length]; exact it.1) fun i x u hx hu => ?_
 rw [List.getElem?_map] at hx
 cases qk : kvs[i]? with
 | none => rw [qk] at hx; cases hx
 | some kv =>
  rw [qk] at hx
  cases hx
  obtain ⟨k', h1⟩ := it.2 i u (by rw [<- Array.getElem?_toList]; exact hu)
  exact (Zl1 rel i kv.1 kv.2 k' u qk h1).2
theorem Zof {x : V} {u t : Value} {pins : List (Addr × Obj)} {σ : St} {H : Hp} {s : Shared} (I : Inv X pins σ H s) (rx : RelV x u) (ty : TyOf X.K H x t) : ∃ G : Heap -> Prop, PySem.W.KitX X.K u t G /\ G s.heap /\ u ≠ .builtin "__main__.__loader__#opaque" := by
 cases ty with
 | non => cases (show u = Value.none from rx); exact ⟨_, PySem.W.kitx_none, True.intro, fun z => nomatch z⟩
 | bl y => cases (show u = Value.bool y from rx); exact ⟨_, PySem.W.kitx_bool, True.intro, fun z => nomatch z⟩
 | int i => obtain ⟨t, q⟩ := (show ∃ t, u = Value.int i t from rx); cases q; exact ⟨_, PySem.W.kitx_int, True.intro, fun z => nomatch z⟩
 | str y => obtain ⟨t, q⟩ := (show ∃ t, u = Value.str y t from rx); cases q; exact ⟨_, PySem.W.kitx_str, True.intro, fun z => nomatch z⟩
 | flt y => obtain ⟨t, q⟩ := (show ∃ t, u = Value.float y t from rx); cases q; exact ⟨_, PySem.W.kitx_float, True.intro, fun z => nomatch z⟩
 | @lst a xs ea =>
  cases (show u = Value.ref a from rx)
  obtain ⟨_, _, n, _, h1⟩ := (show ObjOk X.prog X.w H s.heap a (.lst xs) from I.hok a _ ea)
  exact ⟨_, PySem.W.kitx_list, ⟨_, h1, rfl⟩, fun z => nomatch z⟩
 | @frz a ob xs ea =>
  cases (show u = Value.ref a from rx)
  obtain ⟨_, _, _, n, _, h1⟩ := (show ObjOk X.prog X.w H s.heap a (.frz ob (.lst xs)) from I.hok a _ ea)
  exact ⟨_, PySem.W.kitx_list, ⟨_, h1, rfl⟩, fun z => nomatch z⟩
 | @tup a xs ea =>
  cases (show u = Value.ref a from rx)
  obtain ⟨_, _, _, p⟩ := (show ObjOk X.prog X.w H s.heap a (.tup xs) from I.hok a _ ea)
  obtain ⟨o, h1, h2, _⟩ := p
  exact ⟨_, PySem.W.kitx_tuple, ⟨o, h1, h2⟩, fun z => nomatch z⟩
 | @dK a kvs ea =>
  cases (show u = Value.ref a from rx)
  obtain ⟨_, _, vs, _, p⟩ := (show ObjOk X.prog X.w H s.heap a (.dK kvs) from I.hok a _ ea)
  obtain ⟨o, es, ep, h1, h2, _⟩ := p
  exact ⟨_, PySem.W.kitx_dict, ⟨o, h1, h2.1⟩, fun z => nomatch z⟩
 | @dT a kvs ea =>
  cases (show u = Value.ref a from rx)
  obtain ⟨_, _, xs, _, o, es, ep, h1, h2, _⟩ := (show ObjOk X.prog X.w H s.heap a (.dT kvs) from I.hok a _ ea)
  exact ⟨_, PySem.W.kitx_dict, ⟨o, h1, h2.1⟩, fun z => nomatch z⟩
 | @ins a C dx fs ea cl ha hn htk hm =>
  cases (show u = Value.ref a from rx)
  obtain ⟨mA, O, _⟩ := ZfQ I.hok ea
  obtain ⟨od, J, _⟩ := O.look
  exact ⟨_, PySem.W.kitx_own (cl.get _) cl.hd ha hn htk hm, J, fun z => nomatch z⟩
theorem Zjm : Zdq X (.builtin "isinstance") (fun xs H Q => ∃ x tp c d t b, xs = [x, .ref tp] /\ H tp = some (.tup [.ty c, .ty d]) /\ TyOf X.K H x t /\ PySem.W.kitAny X.K t [.type c, .type d] = some b /\ Q (.bl b) H) := by
 intro pins s σ H xs us Q I r h
 obtain ⟨x, tp, c, d, t, b, rfl, htp, ty, e, q⟩ := h
 obtain ⟨u1, u2, rfl, r1, r2⟩ := Zi9 r
 cases (show u2 = Value.ref tp from r2)
 obtain ⟨G, Z, g, hne⟩ := Zof I r1 ty
 obtain ⟨_, its, rv, o, h1, h2, hh⟩ := (show ObjOk X.prog X.w H s.heap tp (.tup _) from I.hok tp _ htp)
 obtain ⟨w1, w2, rfl, q1, q2⟩ := Zi9 rv
 cases (show w1 = Value.type c from q1)
 cases (show w2 = Value.type d from q2)
 obtain ⟨oc, od, oda, osl⟩ := o
 obtain ⟨n, hd⟩ := hh
 dsimp only at h2 hd
 subst h2 hd
 exact PySem.W.kia_tup Z I.kIn g h1 e hne fun tk => ⟨.bl b, H, I.tok tk, rfl, q⟩
end
end L2
namespace PySem.W
open PySem PySem.Spec PySem.Calls PyProof.Rows Builtin Builtin.ObjectAttr Builtin.Getset_descriptor
section
variable {prog : Program} {w : World} {A : Around} {E : Value -> Shared -> Prop} {s : Shared} {K : Frag} {x C : Addr} {name : Str} {R : Result -> Shared -> Prop}
def ClsAt (x C : Addr) (h : Heap) : Prop := ∃ o, h.get? x = some o /\ o.cls = .ref C
theorem ClsAt.type {M : Model} {h : Heap} (I : ClsAt x C h) : Looks M h (typeOf (.ref x)) (.ref C) := by
 obtain ⟨o, h1, h2⟩ := I
 exact h2 ▸ (Looks.ld h1).andThen .now
theorem ZmW {M : Model} {h : Heap} {a g : Value} (X : K.In h) (ha : findIn K (.ref C) name = some (some a)) (hg : specialIn K a "__get__" = some (some g)) (ht : takesIn K a = some true) : Looks M h (find (.ref x) (.ref C) name) (.bind g a) := by
 have L1 := looks_findIn (M := M) X ha
 have L2 : Looks M h (getOf (some a)) (some g) := looks_specialIn X hg
 have L3 := looks_takesIn (M := M) X ht
 refine L1.andThen (L2.andThen ?_)
 exact (show Looks M h (dataDescriptor? (some a) (some g)) (some (g, a)) from L3.andThen .now).andThen (Looks.tag .now)
theorem Zlf {Q : Option Value -> Shared -> Prop} (hga : findIn K (.ref C) "__getattribute__" = some (some (.builtin "BaseException.__getattribute__"))) (hnga : findIn K (.ref C) "__getattr__" = some none) (ha : findIn K (.ref C) "__class__" = some (some (.builtin "object.__class__")))
 (hn : specialIn K (.builtin "object.__class__") "__get__" = some (some (.builtin "getset_descriptor.__get__"))) (htk : takesIn K (.builtin "object.__class__") = some true) (hm : mroIn K C (.type "object") = some true) (hmb : mroIn K C (.type "BaseException") = some true)
 (X : K.In s.heap) (I : ClsAt x C s.heap) (h : Q (some (.ref C)) { s with toks := s.toks + 1 }) : wpAny (model prog w) A (getAttr? (.ref x) "__class__") Q E s := by
 obtain ⟨hh, gg, d, t, os⟩ := s
 have L0 := I.type (M := model prog w)
 have L1 := looks_findIn (M := model prog w) X hga
 have L2 := looks_findIn (M := model prog w) X hnga
 have L3 := ZmW (x := x) (M := model prog w) X ha hn htk
 have L4 := looks_mroIn (M := model prog w) X hm
 have L5 := looks_mroIn (M := model prog w) X hmb
 have hx0 : (false && onTheHeap (Value.builtin "BaseException.__getattribute__")) = false := rfl
 have hx2 : (Value.builtin "BaseException.__getattribute__" == Value.builtin "object.__getattribute__") = false := by decide +kernel
 have hx1 : (onTheHeap (Value.ref C) && Value.builtin "BaseException.__getattribute__" == Value.builtin "object.__getattribute__") = false := by rw [hx2]; rfl
 unfold getAttr? getAttrBy? getAttrBy
 refine wpAny_bind (wpAny_mkText (wpAny_bind (wpAny_attempt (wpAny_holding (wpAny_bind (L0.at (wpAny_bind (L1.at ?_))))))))
 refine wpAny_bind ?_
 show wpAny _ _ (typeLookup (.ref C) "__getattr__") _ _ _
 refine L2.at ?_
 refine wpAny_bind (wpAny_attempt (wpAny_holding ?_))
 show wpAny _ _ (boundAndCalled _ _ _) _ _ _
 unfold boundAndCalled
 have hb := (PySem.F.excAttr_ValueError.ga).bind (.ref x)
 rw [hb]
 refine wpAny_bind (wpAny_pure ?_)
 refine wpAny_call ?_
 refine codeAny_call_builtin (PySem.F.excAttr_ValueError.ga).plain PySem.F.entry_bexc_ga ?_
 have hk : builtinKind "BaseException.__getattribute__" = some .slot := by decide +kernel
 have hsplit : splitId "BaseException.__getattribute__" = some ("BaseException", "__getattribute__") := by decide +kernel
 have haa := PySem.F.args_bexc_ga (.ref x) (.str (Str.ofString "__class__") t)
 have L6 : Looks (model prog w) hh (isInstance (.ref x) (.type "BaseException")) true := L0.andThen L5
 simp only [checkBuiltinCall, hk, hsplit]
 refine wpAny_bind (L6.at ?_)
 repeat (first | assumption | wp_step)
 obtain ⟨o, h1, h2⟩ := I
 refine wpAny_loadPart h1 (wpAny_pure ?_)
 rw [h2]
 refine wpAny_bind (L3.at ?_)
 show wpAny _ _ (holding _ (call (.builtin "getset_descriptor.__get__") [.builtin "object.__class__", .ref x, .ref C]) >>= ret) _ _ _
 refine wpAny_bind (wpAny_holding (wpAny_call ?_))
 refine codeAny_call_builtin KF.slot_gs.plain KF.entry_gs (KF.slot_gs.check _ _ _ _ _ _ _ _ KF.type_class (KF.args_gs _ _ _) ?_)
 unfold Builtin.«getset_descriptor.__get__» descrGet
 rw [dga_obj]
 refine wpAny_bind (wpAny_pure ?_)
 unfold descrGetter descrCheckInstance descrNameAndClass isInstance
 simp only [KF.owner_class]
 repeat lk
 refine ⟨Code.quiet_builtin _ (by decide +kernel), codeAny_builtin KF.entry_class ?_⟩
 unfold Builtin.«object.__class__» shownTypeOf
 repeat lk
 exact h
theorem kitx_cls (hdct : (clsIn K C).isSome = true) (hga : findIn K (.ref C) "__getattribute__" = some (some (.builtin "BaseException.__getattribute__"))) (hnga : findIn K (.ref C) "__getattr__" = some none) (ha : findIn K (.ref C) "__class__" = some (some (.builtin "object.__class__")))
 (hn : specialIn K (.builtin "object.__class__") "__get__" = some (some (.builtin "getset_descriptor.__get__"))) (htk : takesIn K (.builtin "object.__class__") = some true) (hm : mroIn K C (.type "object") = some true) (hmb : mroIn K C (.type "BaseException") = some true) :
 KitX K (.ref x) (.ref C) (ClsAt x C) where
 ty := fun _ _ _ I => I.type
 it := fun _ _ X _ => by
  obtain ⟨cd, hc⟩ := Option.isSome_iff_exists.mp hdct
  unfold clsIn at hc
  split at hc
  · rename_i c' d' cd' sl' ho
    intro A' Q' E' s' k q
    unfold isType loadHead
    exact wpAny_bind (wpAny_loadPart (k _ _ (X _ _ ho)) (wpAny_pure q))
  · cases hc
 ne := fun h tp dd its n sl X htp => by
  obtain ⟨cd, hc⟩ := Option.isSome_iff_exists.mp hdct
  refine Bool.eq_false_iff.mpr fun q => ?_
  have e : C = tp := Value.ref.inj (beq_iff_eq.mp q)
  subst e
  unfold clsIn at hc
  split at hc
  · rename_i c' d' cd' sl' ho
    have z := (X _ _ ho).symm.trans htp
    cases z
  · cases hc
 ca := fun X I k => Zlf hga hnga ha hn htk hm hmb X I k
theorem kit_ref {D : Addr} {cd : ClassData} {b : Bool} (h1 : clsIn K D = some cd) (h2 : typeIn K (.ref D) = some (.type "type")) (h3 : mroIn K D (.ref D) = some true) (h4 : mroIn K C (.ref D) = some b) : kitOne K (.ref C) (.ref D) = some b := by
 unfold kitOne
 by_cases q : (Value.ref C == Value.ref D) = true
 · rw [if_pos q]
   have e : C = D := Value.ref.inj (beq_iff_eq.mp q)
   subst e
   rw [h3] at h4
   exact h4
 · rw [if_neg q]
   unfold kitCls
   dsimp only
   rw [h1, h2]
   exact h4
theorem kit_val (h : mroIn K C (.type "ValueError") = some true) : kitOne K (.ref C) (.type "ValueError") = some true := by
 unfold kitOne
 rw [if_neg (by intro q; cases beq_iff_eq.mp q)]
 unfold kitCls
 dsimp only
 rw [if_pos (show kitMeta "ValueError" = true by decide +kernel)]
 exact h
theorem exm_ref {D : Addr} {cd : ClassData} (h1 : clsIn K D = some cd) (h2 : typeIn K (.ref D) = some (.type "type")) (h3 : mroIn K D (.type "BaseException") = some true) (h4 : mroIn K C (.ref D) = some true) : exmOne K (.ref C) (.ref D) = some true := by
 unfold exmOne
 rw [show subIn K (.ref D) (.type "BaseException") = some true from h3, if_pos (by rfl)]
 unfold kitCls
 dsimp only
 rw [h1, h2]
 exact h4
end
end PySem.W
namespace PySem
open Sem (wp)
open F
section
variable {prog : Program} {w : World} {A : Around} {E : Value -> Shared -> Prop} {s : Shared}
structure Inn (prog : Program) (w : World) (it l : Addr) (items : Array Value) (St : Nat -> Heap -> Prop) : Prop where
 keep : ∀ (k : Nat) (h h' : Heap), St k h -> (∀ c o, c = it \/ c = l -> h.get? c = some o -> h'.get? c = some o) -> St k h'
 item : ∀ (A : Around) (E : Value -> Shared -> Prop) (s : Shared) (k : Nat) (x : Value) (Q : Value -> Shared -> Prop), St k s.heap -> items[k]? = some x ->
  (∀ h', St (k + 1) h' -> Heap.SameBut it s.heap h' -> Q x { s with heap := h' }) -> wpAny (model prog w) A (Builtin.SmallTypes.nextOf (.ref it)) Q E s
 stop : ∀ (A : Around) (E : Value -> Shared -> Prop) (s : Shared) (k : Nat) (Q : Value -> Shared -> Prop), A.handled = none -> St k s.heap -> items[k]? = none ->
  (∀ h' e, Heap.ExtBut it s.heap h' -> (∃ o, h'.get? e = some o /\ o.cls = .type "StopIteration") -> E (.ref e) { s with heap := h' }) -> wpAny (model prog w) A (Builtin.SmallTypes.nextOf (.ref it)) Q E s
theorem Inn.but {it l b : Addr} {items : Array Value} {St : Nat -> Heap -> Prop} {k : Nat} {h h' : Heap} (J : Inn prog w it l items St) (x : St k h) (hs : Heap.ExtBut b h h') (n1 : it ≠ b) (n2 : l ≠ b) : St k h' :=
 J.keep k h h' x fun c o hc e => hs c o (by rcases hc with rfl | rfl; exact n1; exact n2) e
theorem Zkb {z TI TO i1 i2 l1 l2 : Addr} {S1 S2 : Nat -> Heap -> Prop} {k1 k2 : Nat} {xs ys : Array Value} {x y a b : Value} {Q : Value -> Shared -> Prop} (D : ZipApart z TI TO i1 i2 l1 l2) (J1 : Inn prog w i1 l1 xs S1) (J2 : Inn prog w i2 l2 ys S2)
 (hz : IsZip s.heap z TI TO .none) (hTI : IsPair s.heap TI (.ref i1) (.ref i2)) (hTO : IsPair s.heap TO a b) (h1 : S1 k1 s.heap) (h2 : S2 k2 s.heap) (hx : xs[k1]? = some x) (hy : ys[k2]? = some y)
 (hQ : ∀ h', IsZip h' z TI TO (rawInt s.heap.objs.size) -> IsPair h' TO x y -> S1 (k1 + 1) h' -> S2 (k2 + 1) h' -> IsPair h' s.heap.objs.size x y ->
   (∀ c o, c ≠ z -> c ≠ TO -> c ≠ i1 -> c ≠ i2 -> s.heap.get? c = some o -> h'.get? c = some o) -> Q (.ref s.heap.objs.size) { s with heap := h' }) :
 wpAny (model prog w) A (Builtin.«zip.__next__» ⟨[.ref z], []⟩) (fun fin s' => ∃ v, fin = .done (.ret v) /\ Q v s') E s := by
 show wpAny _ _ (field (.ref z) 2 >>= _) _ _ _
 refine wpAny_bind (wpAny_field hz rfl (x := .bool false) rfl ?_)
 show wpAny _ _ (field (.ref z) 3 >>= _) _ _ _
 refine wpAny_bind (wpAny_field hz rfl (x := .ref TI) rfl (wpAny_bind (wpAny_seqItems hTI rfl ?_)))
 show wpAny _ _ (Builtin.SmallTypes.ownedTupleIsFree (.ref z) >>= _) _ _ _
 refine wpAny_bind ?_
 unfold Builtin.SmallTypes.ownedTupleIsFree
 refine wpAny_bind (wpAny_field hz rfl (x := .none) rfl (wpAny_pure ?_))
 simp only [if_true]
 refine wpAny_bind (wpAny_rule (wpAny_bind (wpAny_field hz rfl (x := .ref TO) rfl (wpAny_bind (wpAny_setField_rec hz (by simp) fun g1 z1 w1 => ?_)))))
 replace z1 : IsZip g1 z TI TO .ellipsis := z1
 refine wpAny_bind ?_
 simp only [List.zipIdx_cons, List.zipIdx_nil, List.forIn_cons, List.forIn_nil]
 have b1 : S1 k1 g1 := J1.but h1 w1.extBut D.i1z D.l1z
 have b2 : S2 k2 g1 := J2.but h2 w1.extBut D.i2z D.l2z
 refine wpAny_bind (wpAny_bind (wpAny_onRaise ?_))
 show wpAny _ _ (Builtin.SmallTypes.nextOf (.ref i1) >>= _) _ _ _
 refine wpAny_bind (J1.item _ _ _ k1 x _ b1 hx fun g2 c1 w2 => wpAny_pure ?_)
 have o2 : IsPair g2 TO a b := w2.extBut _ _ D.TOi1 (w1.extBut _ _ D.TOz hTO)
 refine wpAny_bind (wpAny_seqItems o2 rfl (wpAny_bind (wpAny_updateSeq_pair o2 fun g3 o3 w3 => ?_)))
 replace o3 : IsPair g3 TO x b := o3
 refine wpAny_bind (wpAny_letGo (wpAny_pure ?_))
 have c2 : S2 k2 g3 := J2.but (J2.but b2 w2.extBut D.i12.symm D.l2i1) w3.extBut D.TOi2.symm D.l2TO
 refine wpAny_bind (wpAny_bind (wpAny_onRaise ?_))
 show wpAny _ _ (Builtin.SmallTypes.nextOf (.ref i2) >>= _) _ _ _
 refine wpAny_bind (J2.item _ _ _ k2 y _ c2 hy fun g4 d2 w4 => wpAny_pure ?_)
 have o4 : IsPair g4 TO x b := w4.extBut _ _ D.TOi2 o3
 refine wpAny_bind (wpAny_seqItems o4 rfl (wpAny_bind (wpAny_updateSeq_pair o4 fun g5 o5 w5 => ?_)))
 replace o5 : IsPair g5 TO x y := o5
 refine wpAny_bind (wpAny_letGo (wpAny_pure (wpAny_pure (wpAny_bind (wpAny_seqItems o5 rfl (wpAny_bind (wpAny_newTuple ?_)))))))
 have size : g5.objs.size = s.heap.objs.size := by rw [w5.1, w4.1, w3.1, w2.1, w1.1]
 have z5 : IsZip g5 z TI TO .ellipsis := w5.extBut _ _ D.TOz.symm (w4.extBut _ _ D.i2z.symm (w3.extBut _ _ D.TOz.symm (w2.extBut _ _ D.i1z.symm z1)))
 have e1 : S1 (k1 + 1) g5 := J1.but (J1.but (J1.but c1 w3.extBut D.TOi1.symm D.l1TO) w4.extBut D.i12 D.l1i2) w5.extBut D.TOi1.symm D.l1TO
 have e2 : S2 (k2 + 1) g5 := J2.but d2 w5.extBut D.TOi2.symm D.l2TO
 have rest : ∀ c o, c ≠ z -> c ≠ TO -> c ≠ i1 -> c ≠ i2 -> s.heap.get? c = some o -> g5.get? c = some o := fun c o n1 n2 n3 n4 e => w5.extBut _ _ n2 (w4.extBut _ _ n4 (w3.extBut _ _ n2 (w2.extBut _ _ n3 (w1.extBut _ _ n1 e))))
 have zlt : z < g5.objs.size := Heap.lt_size z5
 show wpAny _ _ (Builtin.SmallTypes.ownedTupleHandOut (.ref z) (.ref g5.objs.size) >>= _) _ _ _
 refine wpAny_bind ?_
 unfold Builtin.SmallTypes.ownedTupleHandOut
 have z6 : IsZip (g5.push { cls := .type "tuple", data := .seq #[x, y] }) z TI TO .ellipsis := Heap.get?_push_of_some _ z5
 refine wpAny_bind (wpAny_setField_rec z6 (by simp) fun g7 z7 w7 => ?_)
 replace z7 : IsZip g7 z TI TO (rawInt g5.objs.size) := z7
 refine wpAny_setField_rec z7 (by simp) fun g8 z8 w8 => ?_
 replace z8 : IsZip g8 z TI TO (rawInt g5.objs.size) := z8
 have up : ∀ c o, c ≠ z -> g5.get? c = some o -> g8.get? c = some o := fun c o n e => w8.extBut _ _ n (w7.extBut _ _ n (Heap.get?_push_of_some _ e))
 have t8 : IsPair g8 g5.objs.size x y := w8.extBut _ _ (Nat.ne_of_gt zlt) (w7.extBut _ _ (Nat.ne_of_gt zlt) (Heap.get?_push_size _ rfl))
 rw [size] at z8 t8
 refine wpAny_pure ⟨_, rfl, ?_⟩
 show Q (.ref g5.objs.size) _
 rw [size]
 exact hQ g8 z8 (up _ _ D.TOz o5) (J1.keep _ _ _ e1 fun c o hc e => up c o (by rcases hc with rfl | rfl; exact D.i1z; exact D.l1z) e) (J2.keep _ _ _ e2 fun c o hc e => up c o (by rcases hc with rfl | rfl; exact D.i2z; exact D.l2z) e) t8 fun c o n1 n2 n3 n4 e => up c o n1 (rest c o n1 n2 n3 n4 e)
theorem Zlg {z TI TO i1 i2 l1 l2 : Addr} {S1 S2 : Nat -> Heap -> Prop} {k1 k2 : Nat} {xs ys : Array Value} {a b : Value} {Q : Fin -> Shared -> Prop} (hh : A.handled = none) (D : ZipApart z TI TO i1 i2 l1 l2) (J1 : Inn prog w i1 l1 xs S1) (J2 : Inn prog w i2 l2 ys S2)
 (hz : IsZip s.heap z TI TO .none) (hTI : IsPair s.heap TI (.ref i1) (.ref i2)) (hTO : IsPair s.heap TO a b) (h1 : S1 k1 s.heap) (h2 : S2 k2 s.heap) (hend : xs[k1]? = none \/ ys[k2]? = none)
 (hE : ∀ h' e, (∀ c o, c ≠ z -> c ≠ TO -> c ≠ i1 -> c ≠ i2 -> s.heap.get? c = some o -> h'.get? c = some o) -> (∃ o, h'.get? e = some o /\ o.cls = .type "StopIteration") -> E (.ref e) { s with heap := h' }) :
 wpAny (model prog w) A (Builtin.«zip.__next__» ⟨[.ref z], []⟩) Q E s := by
 show wpAny _ _ (field (.ref z) 2 >>= _) _ _ _
 refine wpAny_bind (wpAny_field hz rfl (x := .bool false) rfl ?_)
 show wpAny _ _ (field (.ref z) 3 >>= _) _ _ _
 refine wpAny_bind (wpAny_field hz rfl (x := .ref TI) rfl (wpAny_bind (wpAny_seqItems hTI rfl ?_)))
 show wpAny _ _ (Builtin.SmallTypes.ownedTupleIsFree (.ref z) >>= _) _ _ _
 refine wpAny_bind ?_
 unfold Builtin.SmallTypes.ownedTupleIsFree
 refine wpAny_bind (wpAny_field hz rfl (x := .none) rfl (wpAny_pure ?_))
 simp only [if_true]
 refine wpAny_bind (wpAny_rule (wpAny_bind (wpAny_field hz rfl (x := .ref TO) rfl (wpAny_bind (wpAny_setField_rec hz (by simp) fun g1 z1 w1 => ?_)))))
 replace z1 : IsZip g1 z TI TO .ellipsis := z1
 refine wpAny_bind ?_
 simp only [List.zipIdx_cons, List.zipIdx_nil, List.forIn_cons, List.forIn_nil]
 have b1 : S1 k1 g1 := J1.but h1 w1.extBut D.i1z D.l1z
 have b2 : S2 k2 g1 := J2.but h2 w1.extBut D.i2z D.l2z
 refine wpAny_bind (wpAny_bind (wpAny_onRaise ?_))
 show wpAny _ _ (Builtin.SmallTypes.nextOf (.ref i1) >>= _) _ _ _
 have fin : ∀ (g e' : Heap) (e : Addr), IsZip g z TI TO .ellipsis -> (∀ c o, c ≠ z -> c ≠ TO -> c ≠ i1 -> c ≠ i2 -> s.heap.get? c = some o -> g.get? c = some o) -> (∃ o, g.get? e = some o /\ o.cls = .type "StopIteration") -> e ≠ z := fun g _ e q1 _ q3 => by
  obtain ⟨o, ho, hc⟩ := q3
  intro x; subst x; rw [q1] at ho; cases ho; simp at hc
 cases hx : xs[k1]? with
 | none =>
  refine wpAny_bind (J1.stop _ _ _ k1 _ hh b1 hx fun g2 e w2 he => ?_)
  have z2 : IsZip g2 z TI TO .ellipsis := w2 _ _ D.i1z.symm z1
  have k2' : ∀ c o, c ≠ z -> c ≠ TO -> c ≠ i1 -> c ≠ i2 -> s.heap.get? c = some o -> g2.get? c = some o := fun c o n1 _ n3 _ q => w2 _ _ n3 (w1.extBut _ _ n1 q)
  have ne := fin g2 g2 e z2 k2' he
  obtain ⟨oe, ho, hc⟩ := he
  exact wpAny_setField_rec z2 (by simp) fun g3 _ w3 => hE g3 e (fun c o n1 n2 n3 n4 q => w3.extBut _ _ n1 (k2' c o n1 n2 n3 n4 q)) ⟨oe, w3.extBut _ _ ne ho, hc⟩
 | some x =>
  have hy : ys[k2]? = none := by rcases hend with h | h; rw [hx] at h; cases h; exact h
  refine wpAny_bind (J1.item _ _ _ k1 x _ b1 hx fun g2 c1 w2 => wpAny_pure ?_)
  have o2 : IsPair g2 TO a b := w2.extBut _ _ D.TOi1 (w1.extBut _ _ D.TOz hTO)
  refine wpAny_bind (wpAny_seqItems o2 rfl (wpAny_bind (wpAny_updateSeq_pair o2 fun g3 o3 w3 => ?_)))
  refine wpAny_bind (wpAny_letGo (wpAny_pure ?_))
  have c2 : S2 k2 g3 := J2.but (J2.but b2 w2.extBut D.i12.symm D.l2i1) w3.extBut D.TOi2.symm D.l2TO
  refine wpAny_bind (wpAny_bind (wpAny_onRaise ?_))
  show wpAny _ _ (Builtin.SmallTypes.nextOf (.ref i2) >>= _) _ _ _
  refine wpAny_bind (J2.stop _ _ _ k2 _ hh c2 hy fun g4 e w4 he => ?_)
  have z4 : IsZip g4 z TI TO .ellipsis := w4 _ _ D.i2z.symm (w3.extBut _ _ D.TOz.symm (w2.extBut _ _ D.i1z.symm z1))
  have k4 : ∀ c o, c ≠ z -> c ≠ TO -> c ≠ i1 -> c ≠ i2 -> s.heap.get? c = some o -> g4.get? c = some o := fun c o n1 n2 n3 n4 q => w4 _ _ n4 (w3.extBut _ _ n2 (w2.extBut _ _ n3 (w1.extBut _ _ n1 q)))
  have ne := fin g4 g4 e z4 k4 he
  obtain ⟨oe, ho, hc⟩ := he
  exact wpAny_setField_rec z4 (by simp) fun g5 _ w5 => hE g5 e (fun c o n1 n2 n3 n4 q => w5.extBut _ _ n1 (k4 c o n1 n2 n3 n4 q)) ⟨oe, w5.extBut _ _ ne ho, hc⟩
theorem ZeU (it l : Addr) (items : Array Value) : Inn prog w it l items (fun k h => h.IsTupleIter it l k /\ h.IsTuple l items) where
 keep := fun k h h' x q => ⟨x.1.at fun o e => q it o (.inl rfl) e, let ⟨o, ho, r⟩ := x.2; ⟨o, q l o (.inr rfl) ho, r⟩⟩
 item := fun A E s k x Q st hx hQ => by
  obtain ⟨hit, ht⟩ := st
  obtain ⟨o, ho, hc, hd⟩ := id hit
  obtain ⟨ol, hol, hcl, nl, hdl⟩ := id ht
  have ne : l ≠ it := fun z => by
   subst z
   rw [ho] at hol
   cases hol
   rw [hc] at hcl
   injection hcl with q
   exact absurd q (by decide)
  unfold Builtin.SmallTypes.nextOf
  refine wpAny_bind (wpAny_callSpecial?_slot (name := Str.ofString "__next__") hit.typeIs F.slot_tuple_iterator_next (wpAny_call_entry F.slot_tuple_iterator_next hit.typeIs F.entry_tuple_iterator_next ?_ (F.args_tuple_iterator_next_1 _)))
  show wpAny _ _ (field (.ref it) 0 >>= _) _ _ s
  refine wpAny_bind (wpAny_field ho hd (x := .ref l) rfl ?_)
  show wpAny _ _ (if (Value.ref l == Value.none) = true then _ else _) _ _ s
  rw [if_neg (show ¬ ((Value.ref l == Value.none) = true) from Bool.false_ne_true)]
  show wpAny _ _ (field (.ref it) 1 >>= _) _ _ s
  refine wpAny_bind (wpAny_field ho hd (x := .int k 0) rfl ?_)
  show wpAny _ _ (seqItems? (.ref l) >>= _) _ _ s
  refine wpAny_bind (wpAny_seqItems hol hdl ?_)
  simp only [Int.toNat_natCast, hx]
  refine wpAny_bind (wpAny_setField ho hd (by simp) (wpAny_pure ⟨x, rfl, wpAny_pure (hQ _ ⟨?_, ht.extBut (Heap.SameBut.update ..).extBut ne⟩ (Heap.SameBut.update ..))⟩))
  exact ⟨_, Heap.get?_update_self _ ho (Obj.isFreed_of_fields (Obj.data_mapFields hd _)), (Obj.cls_mapFields ..).trans hc, by rw [Obj.data_mapFields hd]; simp [rawInt]⟩
 stop := fun A E s k Q hh st hx hE => by
  obtain ⟨hit, ht⟩ := st
  obtain ⟨o, ho, hc, hd⟩ := id hit
  obtain ⟨ol, hol, hcl, nl, hdl⟩ := id ht
  unfold Builtin.SmallTypes.nextOf
  refine wpAny_bind (wpAny_callSpecial?_slot (name := Str.ofString "__next__") hit.typeIs F.slot_tuple_iterator_next (wpAny_call_entry F.slot_tuple_iterator_next hit.typeIs F.entry_tuple_iterator_next ?_ (F.args_tuple_iterator_next_1 _)))
  show wpAny _ _ (field (.ref it) 0 >>= _) _ _ s
  refine wpAny_bind (wpAny_field ho hd (x := .ref l) rfl ?_)
  show wpAny _ _ (if (Value.ref l == Value.none) = true then _ else _) _ _ s
  rw [if_neg (show ¬ ((Value.ref l == Value.none) = true) from Bool.false_ne_true)]
  show wpAny _ _ (field (.ref it) 1 >>= _) _ _ s
  refine wpAny_bind (wpAny_field ho hd (x := .int k 0) rfl ?_)
  show wpAny _ _ (seqItems? (.ref l) >>= _) _ _ s
  refine wpAny_bind (wpAny_seqItems hol hdl ?_)
  simp only [Int.toNat_natCast, hx]
  refine wpAny_bind (wpAny_rule (wpAny_bind (wpAny_setField ho hd (by simp) ?_)))
  show wpAny _ _ (newExc (.type "StopIteration") [] >>= _) _ _ _
  refine wpAny_bind ?_
  simp only [newExc, newTuple]
  refine wpAny_bind (wpAny_newObj_type ?_ (by size_fits))
  refine wpAny_bind (m := firstArgMember _ _) (wpAny_of_eq (a := Value.none) (by first | rfl | (simp only [firstArgMember]; rfl)) ?_)
  refine wpAny_newObj_type ?_ (by size_fits)
  simp only [raiseNew]
  refine wpAny_bind (wpAny_handled ?_)
  first | rw [show A.in1.handled = none from hh] | rw [hh]
  refine wpAny_bind (wpAny_pure (wpAny_throw ?_))
  exact hE _ _ (((Heap.SameBut.update ..).extBut.push _).push _) ⟨_, Heap.get?_push_size _ rfl, rfl⟩
theorem Zfx {z TI TO i1 i2 l1 l2 : Addr} {k1 k2 : Nat} {xs ys : Array Value} {x y a b : Value} {Q : Option Value -> Shared -> Prop} (D : ZipApart z TI TO i1 i2 l1 l2)
 (hz : IsZip s.heap z TI TO .none) (hTI : IsPair s.heap TI (.ref i1) (.ref i2)) (hTO : IsPair s.heap TO a b) (h1 : s.heap.IsTupleIter i1 l1 k1) (h2 : s.heap.IsTupleIter i2 l2 k2) (hl1 : s.heap.IsTuple l1 xs) (hl2 : s.heap.IsTuple l2 ys) (hx : xs[k1]? = some x) (hy : ys[k2]? = some y)
 (hQ : ∀ h', IsZip h' z TI TO (rawInt s.heap.objs.size) -> IsPair h' TO x y -> h'.IsTupleIter i1 l1 (k1 + 1) -> h'.IsTupleIter i2 l2 (k2 + 1) -> IsPair h' s.heap.objs.size x y -> True ->
   (∀ c o, c ≠ z -> c ≠ TO -> c ≠ i1 -> c ≠ i2 -> s.heap.get? c = some o -> h'.get? c = some o) -> Q (some (.ref s.heap.objs.size)) { s with heap := h' }) :
 wpAny (model prog w) A (pyNext (.ref z)) Q E s := by
 have hT : s.TypeIs (.ref z) "zip" := ⟨_, hz, rfl⟩
 unfold pyNext
 exact wpAny_bind (wpAny_attempt (wpAny_callSpecial?_slot (name := Str.ofString "__next__") hT F.slot_zip_next (wpAny_call_entry F.slot_zip_next hT F.entry_zip_next
  (Zkb D (ZeU i1 l1 xs) (ZeU i2 l2 ys) hz hTI hTO ⟨h1, hl1⟩ ⟨h2, hl2⟩ hx hy fun h' a1 a2 a3 a4 a5 a7 => wpAny_pure (hQ h' a1 a2 a3.1 a4.1 a5 trivial a7)) (F.args_zip_next_1 _))))
theorem ZfU {z TI TO i1 i2 l1 l2 : Addr} {k1 k2 : Nat} {xs ys : Array Value} {a b : Value} {Q : Option Value -> Shared -> Prop} (hh : A.handled = none) (D : ZipApart z TI TO i1 i2 l1 l2)
 (hz : IsZip s.heap z TI TO .none) (hTI : IsPair s.heap TI (.ref i1) (.ref i2)) (hTO : IsPair s.heap TO a b) (h1 : s.heap.IsTupleIter i1 l1 k1) (h2 : s.heap.IsTupleIter i2 l2 k2) (hl1 : s.heap.IsTuple l1 xs) (hl2 : s.heap.IsTuple l2 ys) (hend : xs[k1]? = none \/ ys[k2]? = none)
 (hQ : ∀ h', (∀ c o, c ≠ z -> c ≠ TO -> c ≠ i1 -> c ≠ i2 -> s.heap.get? c = some o -> h'.get? c = some o) -> Q none { s with heap := h' }) : wpAny (model prog w) A (pyNext (.ref z)) Q E s := by
 have hT : s.TypeIs (.ref z) "zip" := ⟨_, hz, rfl⟩
 unfold pyNext
 refine wpAny_bind (wpAny_attempt (wpAny_callSpecial?_slot (name := Str.ofString "__next__") hT F.slot_zip_next (wpAny_call_entry F.slot_zip_next hT F.entry_zip_next
  (Zlg hh D (ZeU i1 l1 xs) (ZeU i2 l2 ys) hz hTI hTO ⟨h1, hl1⟩ ⟨h2, hl2⟩ hend fun h' e hk he => ?_) (F.args_zip_next_1 _))))
 obtain ⟨o, ho, hc⟩ := he
 exact wpAny_bind (wpAny_isInstance (T := "StopIteration") (b := true) ⟨o, ho, hc⟩ isSubtype_stop (wpAny_pure (hQ _ hk)))
abbrev zt (c : String) (l : Addr) : Obj := { cls := .type c, data := .fields #[.ref l, .int 0 0] }
theorem Zgl (l1 l2 : Addr) (xs ys : Array Value) :
 Meets (Builtin.«zip.__new__» ⟨[.type "zip", .ref l1, .ref l2], []⟩) (fun _ R s => s.heap.IsTuple l1 xs /\ s.heap.IsTuple l2 ys /\
  R (.ok (.ret (.ref (s.heap.objs.size + 4)))) { s with heap := ((((s.heap.push (zt "tuple_iterator" l1)).push (zt "tuple_iterator" l2)).push { cls := .type "tuple", data := .seq #[.ref s.heap.objs.size, .ref (s.heap.objs.size + 1)] }).push { cls := .type "tuple", data := .seq #[.none, .none] }).push { cls := .type "zip", data := .fields #[.none, .bool false, .bool false, .ref (s.heap.objs.size + 2), .ref (s.heap.objs.size + 3)] } }) :=
 .of_wp fun prog w A R s h => by
  obtain ⟨hp, g, d, tk, os⟩ := s; obtain ⟨hl1, hl2, h⟩ := h
  have hsub := sub_zip
  have hL1 : Heap.IsTuple (Shared.heap ⟨hp, g, d, tk, os⟩) l1 xs := hl1
  have hL2 : Heap.IsTuple (Shared.heap ⟨hp.push (zt "tuple_iterator" l1), g, d, tk, os⟩) l2 ys := Heap.IsTuple.push hl2 _
  wp_walk using wpAny_pyIter_tuple hL1, wpAny_pyIter_tuple hL2
  refine ⟨_, rfl, ?_⟩
  simp only [Heap.size_push] at h ⊢
  exact h
theorem Zkc {l1 l2 : Addr} {xs ys : Array Value} {Q : Value -> Shared -> Prop} (hl1 : s.heap.IsTuple l1 xs) (hl2 : s.heap.IsTuple l2 ys)
 (h : ∀ h', IsZip h' (s.heap.objs.size + 4) (s.heap.objs.size + 2) (s.heap.objs.size + 3) .none -> IsPair h' (s.heap.objs.size + 2) (.ref s.heap.objs.size) (.ref (s.heap.objs.size + 1)) ->
   IsPair h' (s.heap.objs.size + 3) .none .none -> h'.IsTupleIter s.heap.objs.size l1 0 -> h'.IsTupleIter (s.heap.objs.size + 1) l2 0 -> h'.objs.size = s.heap.objs.size + 5 ->
   (∀ c o, s.heap.get? c = some o -> h'.get? c = some o) -> Q (.ref (s.heap.objs.size + 4)) { s with heap := h' }) :
 wpAny (model prog w) A (call (.type "zip") [.ref l1, .ref l2]) Q E s := by
 refine callType_new F.called_zip (by decide) (F.typeCall_zip_2 _ _) (F.newCall_zip_2 _ _) (fun obj => F.args_object_init_3 obj _ _) F.entry_zip_new (Zgl l1 l2 xs ys) ⟨hl1, hl2, ?_⟩
 generalize e1 : s.heap.push (zt "tuple_iterator" l1) = a1
 generalize e2 : a1.push (zt "tuple_iterator" l2) = a2
 generalize e3 : a2.push { cls := .type "tuple", data := .seq #[.ref s.heap.objs.size, .ref (s.heap.objs.size + 1)] } = a3
 generalize e4 : a3.push { cls := .type "tuple", data := .seq #[.none, .none] } = a4
 generalize e5 : a4.push { cls := .type "zip", data := .fields #[.none, .bool false, .bool false, .ref (s.heap.objs.size + 2), .ref (s.heap.objs.size + 3)] } = a5
 have n1 : a1.objs.size = s.heap.objs.size + 1 := by rw [<- e1, Heap.size_push]
 have n2 : a2.objs.size = s.heap.objs.size + 2 := by rw [<- e2, Heap.size_push, n1]
 have n3 : a3.objs.size = s.heap.objs.size + 3 := by rw [<- e3, Heap.size_push, n2]
 have n4 : a4.objs.size = s.heap.objs.size + 4 := by rw [<- e4, Heap.size_push, n3]
 have n5 : a5.objs.size = s.heap.objs.size + 5 := by rw [<- e5, Heap.size_push, n4]
 have k1 : ∀ c o, s.heap.get? c = some o -> a1.get? c = some o := fun c o e => by rw [<- e1]; exact Heap.get?_push_of_some _ e
 have k2 : ∀ c o, a1.get? c = some o -> a2.get? c = some o := fun c o e => by rw [<- e2]; exact Heap.get?_push_of_some _ e
 have k3 : ∀ c o, a2.get? c = some o -> a3.get? c = some o := fun c o e => by rw [<- e3]; exact Heap.get?_push_of_some _ e
 have k4 : ∀ c o, a3.get? c = some o -> a4.get? c = some o := fun c o e => by rw [<- e4]; exact Heap.get?_push_of_some _ e
 have k5 : ∀ c o, a4.get? c = some o -> a5.get? c = some o := fun c o e => by rw [<- e5]; exact Heap.get?_push_of_some _ e
 have p1 : a1.get? s.heap.objs.size = some (zt "tuple_iterator" l1) := by rw [<- e1]; exact Heap.get?_push_size _ rfl
 have p2 : a2.get? (s.heap.objs.size + 1) = some (zt "tuple_iterator" l2) := by rw [<- n1, <- e2]; exact Heap.get?_push_size _ rfl
 have p3 : a3.get? (s.heap.objs.size + 2) = some { cls := .type "tuple", data := .seq #[.ref s.heap.objs.size, .ref (s.heap.objs.size + 1)] } := by rw [<- n2, <- e3]; exact Heap.get?_push_size _ rfl
 have p4 : a4.get? (s.heap.objs.size + 3) = some { cls := .type "tuple", data := .seq #[.none, .none] } := by rw [<- n3, <- e4]; exact Heap.get?_push_size _ rfl
 have p5 : a5.get? (s.heap.objs.size + 4) = some { cls := .type "zip", data := .fields #[.none, .bool false, .bool false, .ref (s.heap.objs.size + 2), .ref (s.heap.objs.size + 3)] } := by rw [<- n4, <- e5]; exact Heap.get?_push_size _ rfl
 refine ⟨⟨_, p5, rfl⟩, h a5 p5 (k5 _ _ (k4 _ _ p3)) (k5 _ _ p4) ⟨_, k5 _ _ (k4 _ _ (k3 _ _ (k2 _ _ p1))), rfl, rfl⟩ ⟨_, k5 _ _ (k4 _ _ (k3 _ _ p2)), rfl, rfl⟩ n5 fun c o e => k5 _ _ (k4 _ _ (k3 _ _ (k2 _ _ (k1 _ _ e))))⟩
end
end PySem
namespace L2
open PySem PySem.Spec PyProof.Rows
def Itzt (K : PySem.W.Frag) (a b : Addr) : It :=
 ⟨fun i H => ∃ xs ys x y, H a = some (.tup xs) /\ H b = some (.tup ys) /\ xs[i]? = some x /\ ys[i]? = some y,
  fun i H v H' => ∃ T x y, H T = none /\ v = .ref T /\ H' = upd H T (.tup [x, y]) /\ (∀ xs, H a = some (.tup xs) -> xs[i]? = some x) /\ (∀ ys, H b = some (.tup ys) -> ys[i]? = some y),
  fun i H => ∃ xs ys, H a = some (.tup xs) /\ H b = some (.tup ys) /\ (xs.length <= i \/ ys.length <= i)⟩
def ZipStT (a b z TI TO i1 i2 : Addr) (i : Nat) (h : Heap) : Prop :=
 IsZip h z TI TO .none /\ IsPair h TI (.ref i1) (.ref i2) /\ (∃ x y, IsPair h TO x y) /\ h.IsTupleIter i1 a i /\ h.IsTupleIter i2 b i
theorem ZipStT.apart {a b z TI TO i1 i2 : Addr} {i : Nat} {h : Heap} {xs ys : Array Value} (st : ZipStT a b z TI TO i1 i2 i h) (n1 : TI ≠ TO) (n2 : i1 ≠ i2) (l1 : h.IsTuple a xs) (l2 : h.IsTuple b ys) (m1 : a ≠ TO) (m2 : b ≠ TO) : ZipApart z TI TO i1 i2 a b := by
 obtain ⟨hz, hTI, ⟨x, y, hTO⟩, ⟨o1, e1, c1, d1⟩, ⟨o2, e2, c2, d2⟩⟩ := st
 obtain ⟨oa, ea, ca, _⟩ := l1
 obtain ⟨ob, eb, cb, _⟩ := l2
 have k : ∀ {c d : Addr} {o u : Obj} {m n : String}, h.get? c = some o -> h.get? d = some u -> o.cls = .type m -> u.cls = .type n -> m ≠ n -> c ≠ d := fun h1 h2 e1 e2 d => ZlY h1 h2 (by rw [e1, e2]; intro q; injection q with q; exact d q)
 exact ⟨k hTI hz rfl rfl (by decide), k hTO hz rfl rfl (by decide), k e1 hz c1 rfl (by decide), k e2 hz c2 rfl (by decide), n1, k hTI e1 rfl c1 (by decide), k hTI e2 rfl c2 (by decide),
  k hTO e1 rfl c1 (by decide), k hTO e2 rfl c2 (by decide), n2, k ea hz ca rfl (by decide), m1, k ea e1 ca c1 (by decide), k ea e2 ca c2 (by decide),
  k eb hz cb rfl (by decide), m2, k eb e1 cb c1 (by decide), k eb e2 cb c2 (by decide)⟩
theorem Zkd {P : Program} {w : World} {K : PySem.W.Frag} {es : List Expr} {kk : Nat} {tp : Pos} (a b z TI TO i1 i2 : Addr) (n1 : TI ≠ TO) (n2 : i1 ≠ i2) :
 Turn P w K (.Tuple es kk tp) (Itzt K a b) [z, TI, TO, i1, i2] z (ZipStT a b z TI TO i1 i2) where
 mem := by simp
 obj := fun i h st c hc => by
  obtain ⟨hz, hTI, ⟨x, y, hTO⟩, ⟨o1, e1, c1, d1⟩, ⟨o2, e2, c2, d2⟩⟩ := st
  have : c = z \/ c = TI \/ c = TO \/ c = i1 \/ c = i2 := by simpa using hc
  rcases this with rfl | rfl | rfl | rfl | rfl
  · exact ⟨_, hz, fun v q => by cases (show Data.fields _ = Data.cell v from q)⟩
  · exact ⟨_, hTI, fun v q => by cases (show Data.seq _ _ = Data.cell v from q)⟩
  · exact ⟨_, hTO, fun v q => by cases (show Data.seq _ _ = Data.cell v from q)⟩
  · exact ⟨_, e1, fun v q => by rw [d1] at q; cases q⟩
  · exact ⟨_, e2, fun v q => by rw [d2] at q; cases q⟩
 keep := fun i h h' st k => by
  obtain ⟨hz, hTI, ⟨x, y, hTO⟩, h1, h2⟩ := st
  exact ⟨k z (by simp) _ hz, k TI (by simp) _ hTI, ⟨x, y, k TO (by simp) _ hTO⟩, h1.at fun o e => k i1 (by simp) o e, h2.at fun o e => k i2 (by simp) o e⟩
 item := by
  intro X hP hw hK hc i pins s σ H E I hf st hg
  subst hP hw hK
  obtain ⟨xs, ys, x, y, hq, hq2, hx, hy⟩ := hg
  obtain ⟨its, rv, p, hz1⟩ := I.tuple (.of hq)
  obtain ⟨its2, rv2, p2, hz2⟩ := I.tuple (.of hq2)
  obtain ⟨u, hu, ru⟩ := rv.get hx
  obtain ⟨u2, hu2, ru2⟩ := rv2.get hy
  have D := st.apart n1 n2 p p2 (Zak hq (hf TO (by simp)).1) (Zak hq2 (hf TO (by simp)).1)
  obtain ⟨hz, hTI, ⟨v1, v2, hTO⟩, h1, h2⟩ := id st
  refine Zfx D hz hTI hTO h1 h2 p p2 (x := u) (y := u2) (by simpa using hu) (by simpa using hu2) fun h' a1 a2 a3 a4 a5 a6 a7 => ?_
  refine ⟨_, rfl, wpAny_letOwnedTupleGo_zip a1 fun h'' b1 b2 => ?_⟩
  have up : ∀ c o, c ≠ z -> h'.get? c = some o -> h''.get? c = some o := fun c o hc e => b2.extBut c o hc e
  have zlt : z < s.heap.objs.size := Heap.lt_size hz
  have TIs : IsPair h'' TI (.ref i1) (.ref i2) := up _ _ D.TIz (a7 _ _ D.TIz D.TITO D.TIi1 D.TIi2 hTI)
  have TOs : IsPair h'' TO u u2 := up _ _ D.TOz a2
  have I1s : h''.IsTupleIter i1 a (i + 1) := a3.at fun o e => up _ o D.i1z e
  have I2s : h''.IsTupleIter i2 b (i + 1) := a4.at fun o e => up _ o D.i2z e
  have I1 : Inv X pins σ H { s with heap := h'' } := by
   refine I.turnedL (t' := s.toks) (ch := [z, TI, TO, i1, i2]) (fun c o hc e => ?_) hf
   have hc' : c ≠ z /\ c ≠ TI /\ c ≠ TO /\ c ≠ i1 /\ c ≠ i2 := by simpa using hc
   exact up c o hc'.1 (a7 c o hc'.1 hc'.2.2.1 hc'.2.2.2.1 hc'.2.2.2.2 e)
  have fresh : H s.heap.objs.size = none := I.hok.fresh (Nat.le_refl _)
  have newT : h''.get? s.heap.objs.size = some _ := up _ _ (Nat.ne_of_gt zlt) a5
  have I2 : Inv X pins σ (upd H s.heap.objs.size (.tup [x, y])) { s with heap := h'' } := by
   have un : Un X.fs [z, TI, TO, i1, i2] H (upd H s.heap.objs.size (.tup [x, y])) s.heap h'' := by
    refine ⟨fun c o e n _ hx => ?_, fun c o e n _ hx => ⟨o.slots, ?_⟩, fun c o e n _ => ?_, fun c o e hx => ⟨o, ?_⟩, fun c zs e => ?_, fun c o zs e => ?_, fun c ps e => ⟨#[], ?_⟩⟩
    · have hc' : c ≠ z /\ c ≠ TI /\ c ≠ TO /\ c ≠ i1 /\ c ≠ i2 := by simpa using hx
      exact up c o hc'.1 (a7 c o hc'.1 hc'.2.2.1 hc'.2.2.2.1 hc'.2.2.2.2 e)
    · have hc' : c ≠ z /\ c ≠ TI /\ c ≠ TO /\ c ≠ i1 /\ c ≠ i2 := by simpa using hx
      exact up c o hc'.1 (a7 c o hc'.1 hc'.2.2.1 hc'.2.2.2.1 hc'.2.2.2.2 e)
    · rw [Zap (Nat.ne_of_lt (Heap.lt_size e))]; exact n
    · have hc' : c ≠ z /\ c ≠ TI /\ c ≠ TO /\ c ≠ i1 /\ c ≠ i2 := by simpa using hx
      exact up c o hc'.1 (a7 c o hc'.1 hc'.2.2.1 hc'.2.2.2.1 hc'.2.2.2.2 e)
    · rw [Zap (Zak e fresh)]; exact e
    · rw [Zap (Zak e fresh)]; exact e
    · rw [Zap (Zak e fresh), e]; simp
   have ok2 : HOk X.prog X.w (upd H s.heap.objs.size (.tup [x, y])) h'' := fun c o e => by
    by_cases hc : c = s.heap.objs.size
    · subst hc
      rw [ZaG] at e; cases e
      exact ⟨by show 2 <= sizeLine; decide, [u, u2], .cons ru (.cons ru2 .nil), ⟨_, newT, rfl, _, rfl⟩⟩
    · rw [Zap hc] at e
      exact (I1.hok c o e).stay (fun _ _ _ q => q) (fun d q => by rw [Zap (Zak q fresh)]; exact q) fun d zs q => by rw [Zap (Zak q fresh)]; exact q
   refine I.call' (s' := { s with heap := h'' }) (ch := [z, TI, TO, i1, i2]) rfl (un.mono (fun c hc => ?_) fun c hc => hc) ok2 I.bare fun c hc => ?_
   · rcases I.ok.stk with e | ⟨e, hfr⟩
     · rw [e]; exact hc
     · rw [e]
       unfold frs
       rw [List.filterMap_cons, hfr]
       exact List.mem_cons_of_mem _ hc
   · obtain ⟨f0, f1, f2, f3, f4, f5⟩ := hf c hc
     exact ⟨f3, f1, f4, f5⟩
  refine ⟨.ref s.heap.objs.size, _, I2, rfl, ⟨_, x, y, fresh, rfl, rfl, fun xs' h => by rw [hq] at h; cases h; exact hx, fun ys' h => by rw [hq2] at h; cases h; exact hy⟩, ⟨b1, TIs, ⟨_, _, TOs⟩, I1s, I2s⟩, fun c hc => ?_⟩
  rw [Zap ?_]
  · exact (hf c hc).1
  · have hc' : c = z \/ c = TI \/ c = TO \/ c = i1 \/ c = i2 := by simpa using hc
    rcases hc' with rfl | rfl | rfl | rfl | rfl
    · exact Nat.ne_of_lt zlt
    · exact Nat.ne_of_lt (Heap.lt_size hTI)
    · exact Nat.ne_of_lt (Heap.lt_size hTO)
    · obtain ⟨o, e, _⟩ := h1; exact Nat.ne_of_lt (Heap.lt_size e)
    · obtain ⟨o, e, _⟩ := h2; exact Nat.ne_of_lt (Heap.lt_size e)
 done := by
  intro X hP hw hK hc i pins s σ H E I hf st hg
  subst hP hw hK
  obtain ⟨xs, ys, hq, hq2, hx⟩ := hg
  obtain ⟨its, rv, p, hz1⟩ := I.tuple (.of hq)
  obtain ⟨its2, rv2, p2, hz2⟩ := I.tuple (.of hq2)
  have D := st.apart n1 n2 p p2 (Zak hq (hf TO (by simp)).1) (Zak hq2 (hf TO (by simp)).1)
  obtain ⟨hz, hTI, ⟨v1, v2, hTO⟩, h1, h2⟩ := id st
  have l1 := rv.length
  have l2 := rv2.length
  refine ZfU (I.ok.hd hc) D hz hTI hTO h1 h2 p p2 ?_ fun h' hk => ⟨rfl, ?_⟩
  · rcases hx with hx | hx
    · left; simp; omega
    · right; simp; omega
  · refine I.turnedL (t' := s.toks) (ch := [z, TI, TO, i1, i2]) (fun c o hc e => ?_) hf
    have hc' : c ≠ z /\ c ≠ TI /\ c ≠ TO /\ c ≠ i1 /\ c ≠ i2 := by simpa using hc
    exact hk c o hc'.1 hc'.2.2.1 hc'.2.2.2.1 hc'.2.2.2.2 e
 self := fun _ _ _ _ _ st h => wpAny_pyIter_zip st.1 h
section
variable {X : Cx} {es : List Expr} {kk : Nat} {tp : Pos}
end
end L2
set_option autoImplicit false
namespace DL
open PySem L2
inductive T where
 | non | bl (b : Bool) | int (i : Int) | str (x : Str)
 | lst (ts : List T) | scr (ns : List Int) | tup (ts : List T) | dct (kvs : List (Str × T)) | ins (c : Str) (fs : List (Str × T)) | exc (c : Str)
inductive D where
 | t (x : T) | lst (ds : List D) | dct (kvs : List (Str × T)) | obj (c : Str) (fs : List (Str × D))
mutual
def frz : D -> T
 | .t x => x
 | .lst ds => .lst (frzL ds)
 | .dct kvs => .dct kvs
 | .obj c fs => .ins c (frzF fs)
def frzL : List D -> List T
 | [] => []
 | d :: r => frz d :: frzL r
def frzF : List (Str × D) -> List (Str × T)
 | [] => []
 | (f, d) :: r => (f, frz d) :: frzF r
end
theorem Zic : ∀ ds : List D, frzL ds = ds.map frz
 | [] => rfl
 | d :: r => by rw [frzL, Zic r, List.map_cons]
theorem Zid : ∀ fs : List (Str × D), frzF fs = fs.map fun p => (p.1, frz p.2)
 | [] => rfl
 | (f, d) :: r => by rw [frzF, Zid r, List.map_cons]
def ExcO (a C : Addr) : HO := .ext fun h => ∃ o vs, h.get? a = some o /\ o.cls = .ref C /\ o.data = .fields vs
inductive Den (K : PySem.W.Frag) (mg : Str -> Option Value) (P : Hp) : T -> V -> Prop where
 | non : Den K mg P .non .non
 | bl {b : Bool} : Den K mg P (.bl b) (.bl b)
 | int {i : Int} : Den K mg P (.int i) (.int i)
 | str {x : Str} : Den K mg P (.str x) (.str x)
 | scr {ns : List Int} {a : Addr} : SqL K P a (ns.map V.int) -> Den K mg P (.scr ns) (.ref a)
 | lst {ts : List T} {a : Addr} {vs : List V} : P a = some (.lst vs) -> ts.length = vs.length -> (∀ (i : Nat) t v, ts[i]? = some t -> vs[i]? = some v -> Den K mg P t v) -> Den K mg P (.lst ts) (.ref a)
 | tup {ts : List T} {a : Addr} {vs : List V} : P a = some (.tup vs) -> ts.length = vs.length -> (∀ (i : Nat) t v, ts[i]? = some t -> vs[i]? = some v -> Den K mg P t v) -> Den K mg P (.tup ts) (.ref a)
 | dct {kvs : List (Str × T)} {a : Addr} {ws : List (Key × V)} : P a = some (.dK ws) -> ws.map (·.1) = kvs.map (fun p => Sum.inr p.1) -> (∀ (i : Nat) k t w, kvs[i]? = some (k, t) -> ws[i]? = some (Sum.inr k, w) -> Den K mg P t w) -> Den K mg P (.dct kvs) (.ref a)
 | ins {c : Str} {fs : List (Str × T)} {a C dx : Addr} {ws : List (Str × V)} : P a = some (.ins C dx ws) -> mg c = some (.ref C) -> ws.map (·.1) = fs.map (·.1) -> (∀ (i : Nat) f t w, fs[i]? = some (f, t) -> ws[i]? = some (f, w) -> Den K mg P t w) -> Den K mg P (.ins c fs) (.ref a)
 | exc {c : Str} {a C : Addr} : P a = some (ExcO a C) -> mg c = some (.ref C) -> Den K mg P (.exc c) (.ref a)
variable (K : PySem.W.Frag) (mg : Str -> Option Value)
abbrev Fp := Addr -> Prop
def Sub (P H : Hp) : Prop := ∀ b o, P b = some o -> H b = some o
theorem Sub.refl (P : Hp) : Sub P P := fun _ _ h => h
theorem Sub.trans {P Q R : Hp} (a : Sub P Q) (b : Sub Q R) : Sub P R := fun c o h => b c o (a c o h)
variable {K mg}
theorem Sub.sqL {P Q : Hp} (s : Sub P Q) {a : Addr} {vs : List V} (h : SqL K P a vs) : SqL K Q a vs := Same.seq s h
theorem Sub.rd {P Q : Hp} (s : Sub P Q) {a : Addr} {u : HO} (h : Rd P a u) : Rd Q a u := h.imp (s _ _) fun ⟨o, h⟩ => ⟨o, s _ _ h⟩
theorem Den.mono {P Q : Hp} (s : Sub P Q) {t : T} {v : V} (h : Den K mg P t v) : Den K mg Q t v := by
 induction h with
 | non => exact .non
 | bl => exact .bl
 | int => exact .int
 | str => exact .str
 | scr h1 => exact .scr (Same.seq s h1)
 | lst h1 h2 _ ih => exact .lst (s _ _ h1) h2 ih
 | tup h1 h2 _ ih => exact .tup (s _ _ h1) h2 ih
 | dct h1 h2 _ ih => exact .dct (s _ _ h1) h2 ih
 | ins h1 h2 h3 _ ih => exact .ins (s _ _ h1) h2 h3 ih
 | exc h1 h2 => exact .exc (s _ _ h1) h2
variable (K mg)
inductive Own (P H : Hp) : Fp -> D -> V -> Prop where
 | t {g : Fp} {x : T} {v : V} : Den K mg P x v -> (∀ b, ¬ g b) -> Own P H g (.t x) v
 | lst {g : Fp} {gs : Nat -> Fp} {ds : List D} {a : Addr} {vs : List V} : H a = some (.lst vs) -> P a = none -> ds.length = vs.length -> (∀ (i : Nat) d v, ds[i]? = some d -> vs[i]? = some v -> Own P H (gs i) d v) ->
  (∀ i, ¬ gs i a) -> (∀ i j b, i ≠ j -> gs i b -> ¬ gs j b) -> (∀ i b, ds.length <= i -> ¬ gs i b) -> (∀ b, g b ↔ b = a \/ ∃ i, gs i b) -> Own P H g (.lst ds) (.ref a)
 | dct {g : Fp} {kvs : List (Str × T)} {a : Addr} {ws : List (Key × V)} : H a = some (.dK ws) -> P a = none -> ws.map (·.1) = kvs.map (fun p => Sum.inr p.1) -> (∀ (i : Nat) k t w, kvs[i]? = some (k, t) -> ws[i]? = some (Sum.inr k, w) -> Den K mg P t w) ->
  (∀ b, g b ↔ b = a) -> Own P H g (.dct kvs) (.ref a)
 | obj {g : Fp} {gs : Nat -> Fp} {c : Str} {fs : List (Str × D)} {a C dx : Addr} {ws : List (Str × V)} : H a = some (.ins C dx ws) -> P a = none -> mg c = some (.ref C) -> ws.map (·.1) = fs.map (·.1) -> (∀ (i : Nat) f d w, fs[i]? = some (f, d) -> ws[i]? = some (f, w) -> Own P H (gs i) d w) ->
  (∀ i, ¬ gs i a) -> (∀ i j b, i ≠ j -> gs i b -> ¬ gs j b) -> (∀ i b, fs.length <= i -> ¬ gs i b) -> (∀ b, g b ↔ b = a \/ ∃ i, gs i b) -> Own P H g (.obj c fs) (.ref a)
variable {K mg}
theorem Zdr {α : Type} {l : List α} {i : Nat} (h : i < l.length) : ∃ x, l[i]? = some x := ⟨l[i], by simp [h]⟩
theorem Zci {α : Type} {l : List α} {i : Nat} {x : α} (h : l[i]? = some x) : i < l.length := (List.getElem?_eq_some_iff.mp h).1
theorem Own.at {P H : Hp} {g : Fp} {d : D} {v : V} (h : Own K mg P H g d v) : ∀ b, g b -> (∃ o, H b = some o) /\ P b = none := by
 induction h with
 | t _ e => exact fun b h => absurd h (e b)
 | @lst g gs ds a vs h1 h2 h3 _ _ _ h7 h8 ih =>
  intro b hb
  rcases (h8 b).mp hb with rfl | ⟨i, hi⟩
  · exact ⟨⟨_, h1⟩, h2⟩
  · by_cases hl : i < ds.length
    · obtain ⟨d, e⟩ := Zdr hl
      obtain ⟨v, e'⟩ := Zdr (h3 ▸ hl)
      exact ih i d v e e' b hi
    · exact absurd hi (h7 i b (by omega))
 | dct h1 h2 _ _ h5 =>
  intro b hb
  obtain rfl := (h5 b).mp hb
  exact ⟨⟨_, h1⟩, h2⟩
 | @obj g gs c fs a C dx ws h1 h2 h3 h4 _ _ _ h7 h8 ih =>
  intro b hb
  rcases (h8 b).mp hb with rfl | ⟨i, hi⟩
  · exact ⟨⟨_, h1⟩, h2⟩
  · by_cases hl : i < fs.length
    · obtain ⟨⟨f, d⟩, e⟩ := Zdr hl
      have hl2 : i < ws.length := by have := congrArg List.length h4; simp only [List.length_map] at this; omega
      obtain ⟨⟨f', w⟩, e'⟩ := Zdr hl2
      have ef : f' = f := by
       have := congrArg (fun l => l[i]?) h4
       simp only [List.getElem?_map, e, e', Option.map_some] at this
       exact Option.some.inj this
      subst ef
      exact ih i f' d w e e' b hi
    · exact absurd hi (h7 i b (by omega))
theorem Own.frame {P H P' H' : Hp} {g : Fp} {d : D} {v : V} (h : Own K mg P H g d v) (sP : Sub P P') (hH : ∀ b o, g b -> H b = some o -> H' b = some o) (hP : ∀ b, g b -> P' b = none) : Own K mg P' H' g d v := by
 induction h with
 | t h e => exact .t (h.mono sP) e
 | @lst g gs ds a vs h1 h2 h3 _ h5 h6 h7 h8 ih =>
  exact .lst (hH a _ ((h8 a).mpr (.inl rfl)) h1) (hP a ((h8 a).mpr (.inl rfl))) h3 (fun i d v e e' => ih i d v e e' (fun b o hb => hH b o ((h8 b).mpr (.inr ⟨i, hb⟩))) (fun b hb => hP b ((h8 b).mpr (.inr ⟨i, hb⟩)))) h5 h6 h7 h8
 | dct h1 h2 h3 h4 h5 => exact .dct (hH _ _ ((h5 _).mpr rfl) h1) (hP _ ((h5 _).mpr rfl)) h3 (fun i k t w e e' => (h4 i k t w e e').mono sP) h5
 | @obj g gs c fs a C dx ws h1 h2 h3 h4 _ h5 h6 h7 h8 ih =>
  exact .obj (hH a _ ((h8 a).mpr (.inl rfl)) h1) (hP a ((h8 a).mpr (.inl rfl))) h3 h4 (fun i f d w e e' => ih i f d w e e' (fun b o hb => hH b o ((h8 b).mpr (.inr ⟨i, hb⟩))) (fun b hb => hP b ((h8 b).mpr (.inr ⟨i, hb⟩)))) h5 h6 h7 h8
theorem Own.den {P H P' : Hp} {g : Fp} {d : D} {v : V} (h : Own K mg P H g d v) (sP : Sub P P') (hg : ∀ b o, g b -> H b = some o -> P' b = some o) : Den K mg P' (frz d) v := by
 induction h with
 | t h e => exact h.mono sP
 | @lst g gs ds a vs h1 h2 h3 _ h5 h6 h7 h8 ih =>
  unfold frz
  rw [Zic]
  refine .lst (hg a _ ((h8 a).mpr (.inl rfl)) h1) (by simpa using h3) fun i t v e e' => ?_
  rw [List.getElem?_map] at e
  cases q : ds[i]? with
  | none => rw [q] at e; cases e
  | some d =>
   rw [q] at e
   cases e
   exact ih i d v q e' fun b o hb => hg b o ((h8 b).mpr (.inr ⟨i, hb⟩))
 | dct h1 h2 h3 h4 h5 => exact .dct (hg _ _ ((h5 _).mpr rfl) h1) h3 fun i k t w e e' => (h4 i k t w e e').mono sP
 | @obj g gs c fs a C dx ws h1 h2 h3 h4 _ h5 h6 h7 h8 ih =>
  unfold frz
  rw [Zid]
  refine .ins (hg a _ ((h8 a).mpr (.inl rfl)) h1) h3 (by rw [h4, List.map_map]; rfl) fun i f t w e e' => ?_
  rw [List.getElem?_map] at e
  cases q : fs[i]? with
  | none => rw [q] at e; cases e
  | some p =>
   rw [q] at e
   obtain ⟨f', d⟩ := p
   cases e
   exact ih i _ d w q e' fun b o hb => hg b o ((h8 b).mpr (.inr ⟨i, hb⟩))
structure Go (P H : Hp) (G : Fp) (P' H' : Hp) (G' : Fp) : Prop where
 mono : Sub P P'
 frame : ∀ b o, ¬ G b -> H b = some o -> H' b = some o
 new : ∀ b, G' b -> G b \/ H b = none
 pnew : ∀ b o, P' b = some o -> P b = some o \/ G b \/ H b = none
theorem Go.refl {P H : Hp} {G : Fp} : Go P H G P H G := ⟨.refl _, fun _ _ _ h => h, fun _ h => .inl h, fun _ _ h => .inl h⟩
theorem Go.trans {P H P1 H1 P2 H2 : Hp} {G G1 G2 : Fp} (a : Go P H G P1 H1 G1) (b : Go P1 H1 G1 P2 H2 G2) : Go P H G P2 H2 G2 := by
 have back : ∀ c, H1 c = none -> G c \/ H c = none := fun c h => by
  by_cases hg : G c
  · exact .inl hg
  · cases q : H c with
    | none => exact .inr rfl
    | some o => rw [a.frame c o hg q] at h; cases h
 refine ⟨a.mono.trans b.mono, fun c o hg hc => ?_, fun c hc => ?_, fun c o hc => ?_⟩
 · refine b.frame c o (fun z => ?_) (a.frame c o hg hc)
   rcases a.new c z with z | z
   · exact hg z
   · rw [hc] at z; cases z
 · rcases b.new c hc with z | z
   · exact a.new c z
   · exact back c z
 · rcases b.pnew c o hc with z | z | z
   · exact a.pnew c o z
   · exact (a.new c z).elim (fun q => .inr (.inl q)) fun q => .inr (.inr q)
   · exact (back c z).elim (fun q => .inr (.inl q)) fun q => .inr (.inr q)
theorem Go.weak {P H P' H' : Hp} {G G' G2 : Fp} (a : Go P H G P' H' G') (h : ∀ b, G2 b -> G' b) : Go P H G P' H' G2 := ⟨a.mono, a.frame, fun b z => a.new b (h b z), a.pnew⟩
theorem Go.wide {P H P' H' : Hp} {G G' F : Fp} (a : Go P H G P' H' G') : Go P H (fun b => F b \/ G b) P' H' (fun b => F b \/ G' b) :=
 ⟨a.mono, fun b o n h => a.frame b o (fun z => n (.inr z)) h, fun b z => z.elim (fun q => .inl (.inl q)) fun q => (a.new b q).elim (fun y => .inl (.inr y)) .inr, fun b o h => (a.pnew b o h).elim .inl fun y => y.elim (fun z => .inr (.inl (.inr z))) fun z => .inr (.inr z)⟩
theorem Go.other {P H P' H' : Hp} {G G' g : Fp} {d : D} {v : V} (s : Go P H G P' H' G') (h : Own K mg P H g d v) (dj : ∀ b, g b -> ¬ G b) : Own K mg P' H' g d v /\ ∀ b, g b -> ¬ G' b := by
 have hn : ∀ b, g b -> H b ≠ none := fun b hb e => by
  obtain ⟨⟨o, q⟩, _⟩ := h.at b hb
  rw [q] at e; cases e
 refine ⟨h.frame s.mono (fun b o hb e => s.frame b o (dj b hb) e) fun b hb => ?_, fun b hb z => ?_⟩
 · cases q : P' b with
   | none => rfl
   | some o =>
    rcases s.pnew b o q with z | z | z
    · rw [(h.at b hb).2] at z; cases z
    · exact absurd z (dj b hb)
    · exact absurd z (hn b hb)
 · rcases s.new b z with z | z
   · exact dj b hb z
   · exact hn b hb z
inductive Sl where
 | e | h | v (d : D) | x (d : D)
abbrev Env' := List Sl
def Sl.get : Sl -> Option D
 | .e => none
 | .h => none
 | .v d => some d
 | .x d => some d
def tot (gs : Nat -> Fp) : Fp := fun b => ∃ i, gs i b
variable (K mg)
structure StOk (fx : Nat -> Option V) (P H : Hp) (gs : Nat -> Fp) (σ : Env') (ν : St) : Prop where
 sub : Sub P H
 len : σ.length = ν.length
 slot : ∀ (i : Nat) d, (σ[i]?).bind Sl.get = some d -> ∃ v, ν[i]? = some (some v) /\ Own K mg P H (gs i) d v
 emp : ∀ (i : Nat) b, (σ[i]?).bind Sl.get = none -> ¬ gs i b
 dis : ∀ i j b, i ≠ j -> gs i b -> ¬ gs j b
 fix : ∀ (i : Nat), (σ[i]? = some .h \/ ∃ d, σ[i]? = some (.x d)) -> ∃ v, fx i = some v /\ ν[i]? = some (some v)
 fixed : ∀ (i : Nat) v, fx i = some v -> ν[i]? = some (some v) /\ (σ[i]? = some .h \/ ∃ d, σ[i]? = some (.x d))
variable {K mg}
theorem StOk.go {fx : Nat -> Option V} {P H P' H' : Hp} {gs : Nat -> Fp} {σ : Env'} {ν : St} {G G' : Fp} (S : StOk K mg fx P H gs σ ν) (s : Go P H G P' H' G') (sub : Sub P' H') (dj : ∀ b, tot gs b -> ¬ G b) : StOk K mg fx P' H' gs σ ν :=
 ⟨sub, S.len, fun i d e => by
  obtain ⟨v, h1, h2⟩ := S.slot i d e
  exact ⟨v, h1, (s.other h2 fun b hb => dj b ⟨i, hb⟩).1⟩, S.emp, S.dis, S.fix, S.fixed⟩
end DL
set_option autoImplicit false
namespace DL
open PySem L2
variable {K : PySem.W.Frag} {mg : Str -> Option Value}
theorem StOk.here {fx : Nat -> Option V} {P H : Hp} {gs : Nat -> Fp} {σ : Env'} {ν : St} (S : StOk K mg fx P H gs σ ν) {b : Addr} (h : tot gs b) : (∃ o, H b = some o) /\ P b = none := by
 obtain ⟨i, h⟩ := h
 cases q : (σ[i]?).bind Sl.get with
 | none => exact absurd h (S.emp i b q)
 | some d =>
  obtain ⟨v, _, o⟩ := S.slot i d q
  exact o.at b h
open Classical in
noncomputable def froz (P H : Hp) (g : Fp) : Hp := fun b => if g b then H b else P b
theorem ZeE {P H : Hp} {g : Fp} {b : Addr} (h : g b) : froz P H g b = H b := by unfold froz; rw [if_pos h]
theorem Zdd {P H : Hp} {g : Fp} {b : Addr} (h : ¬ g b) : froz P H g b = P b := by unfold froz; rw [if_neg h]
theorem ZcA {P H : Hp} {g : Fp} (hg : ∀ b, g b -> P b = none) : Sub P (froz P H g) := fun b o h => by
 rw [Zdd fun z => by rw [hg b z] at h; cases h]; exact h
theorem ZeV {P H : Hp} {g : Fp} (s : Sub P H) : Sub (froz P H g) H := fun b o h => by
 by_cases z : g b
 · rw [ZeE z] at h; exact h
 · rw [Zdd z] at h; exact s b o h
theorem ZmX {P H : Hp} {g F : Fp} (hg : ∀ b, g b -> P b = none) : Go P H (fun b => F b \/ g b) (froz P H g) H F :=
 ⟨ZcA hg, fun _ _ _ h => h, fun _ h => .inl (.inl h), fun b o h => by
  by_cases z : g b
  · exact .inr (.inl (.inr z))
  · rw [Zdd z] at h; exact .inl h⟩
theorem StOk.temp {fx : Nat -> Option V} {P H : Hp} {gs : Nat -> Fp} {σ : Env'} {ν : St} {g : Fp} {d : D} {v : V} (S : StOk K mg fx P H gs σ ν) (o : Own K mg P H g d v) (dj : ∀ b, tot gs b -> ¬ g b) :
 ∃ P', Go P H (fun b => tot gs b \/ g b) P' H (tot gs) /\ StOk K mg fx P' H gs σ ν /\ Den K mg P' (frz d) v := by
 have hg : ∀ b, g b -> P b = none := fun b h => (o.at b h).2
 refine ⟨froz P H g, ZmX hg, ⟨ZeV S.sub, S.len, fun i d e => ?_, S.emp, S.dis, S.fix, S.fixed⟩, o.den (ZcA hg) fun b w h e => by rw [ZeE h]; exact e⟩
 obtain ⟨v, h1, h2⟩ := S.slot i d e
 refine ⟨v, h1, h2.frame (ZcA hg) (fun _ _ _ h => h) fun b hb => ?_⟩
 rw [Zdd (dj b ⟨i, hb⟩)]
 exact (h2.at b hb).2
theorem Go.alloc {P H P' H' : Hp} {F g : Fp} (a : Go P H (fun _ => False) P' H' g) : Go P H F P' H' (fun b => F b \/ g b) :=
 ⟨a.mono, fun b o _ h => a.frame b o (fun z => z) h, fun b z => z.elim .inl fun q => (a.new b q).elim (fun y => y.elim) .inr, fun b o h => (a.pnew b o h).elim .inl fun y => y.elim (fun z => z.elim) fun z => .inr (.inr z)⟩
theorem Go.frees {P H P' H' : Hp} {F g : Fp} (a : Go P H (fun _ => False) P' H' g) (hF : ∀ b, F b -> ∃ o, H b = some o) : ∀ b, F b -> ¬ g b := fun b h z => by
 obtain ⟨o, e⟩ := hF b h
 rcases a.new b z with y | y
 · exact y
 · rw [e] at y; cases y
inductive Out (α : Type) where
 | ok (a : α) (σ : Env') | exc (c : Str) (σ : Env') | bad
def Out.bnd {α β : Type} : Out α -> (α -> Env' -> Out β) -> Out β
 | .ok a σ, f => f a σ
 | .exc c σ, _ => .exc c σ
 | .bad, _ => .bad
abbrev SE := Env' -> Out D
abbrev ST := Env' -> Out Bool
abbrev SA := Env' -> Out (List D)
variable (K mg)
def PostX (fx : Nat -> Option V) (E : XK) (P H : Hp) (gs : Nat -> Fp) (ν : St) (c : Str) (σ' : Env') : Prop :=
 ∀ P' H' gs', Go P H (tot gs) P' H' (tot gs') -> StOk K mg fx P' H' gs' σ' ν -> ∀ C, mg c = some (.ref C) -> E (.ref C) none H'
def PostE (fx : Nat -> Option V) (E : XK) (P H : Hp) (gs : Nat -> Fp) (ν : St) (Q : VK) : Out D -> Prop
 | .ok d σ' => ∀ P' H' gs' g v, Go P H (tot gs) P' H' (fun b => tot gs' b \/ g b) -> StOk K mg fx P' H' gs' σ' ν -> Own K mg P' H' g d v -> (∀ b, tot gs' b -> ¬ g b) -> Q v H'
 | .exc c σ' => PostX K mg fx E P H gs ν c σ'
 | .bad => False
def PostT (fx : Nat -> Option V) (E : XK) (P H : Hp) (gs : Nat -> Fp) (ν : St) (Q : Bool -> Hp -> Prop) : Out Bool -> Prop
 | .ok k σ' => ∀ P' H' gs', Go P H (tot gs) P' H' (tot gs') -> StOk K mg fx P' H' gs' σ' ν -> Q k H'
 | .exc c σ' => PostX K mg fx E P H gs ν c σ'
 | .bad => False
def OwnL (P H : Hp) (g : Fp) (ds : List D) (vs : List V) : Prop :=
 ds.length = vs.length /\ ∃ gs : Nat -> Fp, (∀ (i : Nat) d v, ds[i]? = some d -> vs[i]? = some v -> Own K mg P H (gs i) d v) /\ (∀ i j b, i ≠ j -> gs i b -> ¬ gs j b) /\ (∀ i b, ds.length <= i -> ¬ gs i b) /\ ∀ b, g b ↔ ∃ i, gs i b
def PostA (fx : Nat -> Option V) (E : XK) (P H : Hp) (gs : Nat -> Fp) (ν : St) (Q : List V -> Hp -> Prop) : Out (List D) -> Prop
 | .ok ds σ' => ∀ P' H' gs' g vs, Go P H (tot gs) P' H' (fun b => tot gs' b \/ g b) -> StOk K mg fx P' H' gs' σ' ν -> OwnL K mg P' H' g ds vs -> (∀ b, tot gs' b -> ¬ g b) -> Q vs H'
 | .exc c σ' => PostX K mg fx E P H gs ν c σ'
 | .bad => False
def TEd (fx : Nat -> Option V) (E : XK) (t : TE) (f : SE) : Prop := ∀ P H gs σ ν Q, StOk K mg fx P H gs σ ν -> PostE K mg fx E P H gs ν Q (f σ) -> t ν H Q
def TTd (fx : Nat -> Option V) (E : XK) (t : TT) (f : ST) : Prop := ∀ P H gs σ ν Q, StOk K mg fx P H gs σ ν -> PostT K mg fx E P H gs ν Q (f σ) -> t ν H Q
variable {K mg}
section
variable {fx : Nat -> Option V} {E : XK} {P H P1 H1 : Hp} {gs gs1 : Nat -> Fp} {ν : St}
theorem PostX.from {c : Str} {σ' : Env'} (h : PostX K mg fx E P H gs ν c σ') (s : Go P H (tot gs) P1 H1 (tot gs1)) : PostX K mg fx E P1 H1 gs1 ν c σ' := fun P' H' gs' s' S' C hC => h P' H' gs' (s.trans s') S' C hC
theorem TEd.run {ta : TE} {fa : SE} (ha : TEd K mg fx E ta fa) {σ : Env'} {Q : VK} (S : StOk K mg fx P H gs σ ν)
 (hx : ∀ c σ', fa σ = .exc c σ' -> PostX K mg fx E P H gs ν c σ') (hb : fa σ ≠ .bad)
 (hk : ∀ d σ', fa σ = .ok d σ' -> ∀ P' H' gs' v, Go P H (tot gs) P' H' (tot gs') -> StOk K mg fx P' H' gs' σ' ν -> Den K mg P' (frz d) v -> Q v H') : ta ν H Q := by
 refine ha P H gs σ ν Q S ?_
 cases e : fa σ with
 | bad => exact absurd e hb
 | exc c σ' => exact hx c σ' e
 | ok d σ' =>
  intro P1 H1 gs1 g1 v1 s1 S1 o1 dj1
  obtain ⟨P2, s2, S2, d2⟩ := S1.temp o1 dj1
  exact hk d σ' e P2 H1 gs1 v1 (s1.trans s2) S2 d2
end
def eVar (i : Nat) : SE := fun σ => match σ[i]? with
 | some (.v d) => .ok (.t (frz d)) (σ.set i (.v (.t (frz d))))
 | _ => .bad
section
variable {fx : Nat -> Option V} {E : XK}
open Classical in
theorem Zac {i : Nat} : TEd K mg fx E (tVar i) (eVar i) := by
 intro P H gs σ ν Q S post
 unfold eVar at post
 split at post
 · rename_i d e
   obtain ⟨v, hv, o⟩ := S.slot i d (by rw [e]; rfl)
   refine ⟨v, hv, ?_⟩
   have hg : ∀ b, gs i b -> P b = none := fun b h => (o.at b h).2
   have hi := Zci e
   refine post (froz P H (gs i)) H (fun j => if j = i then fun _ => False else gs j) (fun _ => False) v ⟨ZcA hg, fun _ _ _ h => h, fun b h => ?_, fun b w h => ?_⟩ ⟨ZeV S.sub, ?_, fun j d' e' => ?_, fun j b e' => ?_, fun j k b hjk hj => ?_, fun j e' => ?_, fun j w h => ?_⟩ (.t (o.den (ZcA hg) fun b w h e => by rw [ZeE h]; exact e) fun _ h => h) fun _ _ h => h
   · rcases h with ⟨j, h⟩ | h
     · by_cases hj : j = i
       · simp only [hj, if_true] at h
       · simp only [hj, if_false] at h; exact .inl ⟨j, h⟩
     · exact h.elim
   · by_cases z : gs i b
     · exact .inr (.inl ⟨i, z⟩)
     · rw [Zdd z] at h; exact .inl h
   · rw [List.length_set]; exact S.len
   · by_cases hj : j = i
     · subst hj
       rw [List.getElem?_set_self hi] at e'
       cases e'
       exact ⟨v, hv, .t (o.den (ZcA hg) fun b w h e => by rw [ZeE h]; exact e) fun b h => by simp only [if_true] at h⟩
     · rw [List.getElem?_set_ne (Ne.symm hj)] at e'
       obtain ⟨w, h1, h2⟩ := S.slot j d' e'
       simp only [hj, if_false]
       refine ⟨w, h1, h2.frame (ZcA hg) (fun _ _ _ h => h) fun b hb => ?_⟩
       rw [Zdd (S.dis j i b hj hb)]
       exact (h2.at b hb).2
   · by_cases hj : j = i
     · simp only [hj, if_true]; exact fun h => h
     · rw [List.getElem?_set_ne (Ne.symm hj)] at e'
       simp only [hj, if_false]
       exact S.emp j b e'
   · by_cases hj' : j = i
     · simp only [hj', if_true] at hj
     · simp only [hj', if_false] at hj
       by_cases hk' : k = i
       · simp only [hk', if_true]; exact fun h => h
       · simp only [hk', if_false]; exact S.dis j k b hjk hj
   · by_cases hj : j = i
     · subst hj
       rw [List.getElem?_set_self hi] at e'
       rcases e' with e' | ⟨_, e'⟩ <;> cases e'
     · rw [List.getElem?_set_ne (Ne.symm hj)] at e'
       exact S.fix j e'
   · obtain ⟨h1, h2⟩ := S.fixed j w h
     refine ⟨h1, ?_⟩
     by_cases hj : j = i
     · subst hj; rw [e] at h2; rcases h2 with h2 | ⟨_, h2⟩ <;> cases h2
     · rw [List.getElem?_set_ne (Ne.symm hj)]; exact h2
 · exact post.elim
def eC (x : T) : SE := fun σ => .ok (.t x) σ
theorem ZfI {x : T} {v : V} (h : ∀ P, Den K mg P x v) : TEd K mg fx E (tC v) (eC x) := by
 intro P H gs σ ν Q S post
 exact post P H gs (fun _ => False) v ⟨.refl _, fun _ _ _ h => h, fun b h => .inl (h.elim id fun z => z.elim), fun _ _ h => .inl h⟩ S (.t (h P) fun _ h => h) fun _ _ h => h
variable (K mg)
def OpD (r : R2) (op : T -> T -> Option D) : Prop := ∀ P H x y v w d Q, Sub P H -> Den K mg P x v -> Den K mg P y w -> op x y = some d ->
 (∀ P' H' g u, Go P H (fun _ => False) P' H' g -> Sub P' H' -> Own K mg P' H' g d u -> Q u H') -> r v w H Q
def UnD (r : V -> Hp -> VK -> Prop) (op : T -> Option D) : Prop := ∀ P H x v d Q, Sub P H -> Den K mg P x v -> op x = some d ->
 (∀ P' H' g u, Go P H (fun _ => False) P' H' g -> Sub P' H' -> Own K mg P' H' g d u -> Q u H') -> r v H Q
variable {K mg}
theorem done {P H : Hp} {x : T} {v : V} {Q : VK} (s : Sub P H) (h : Den K mg P x v) (k : ∀ P' H' g u, Go P H (fun _ => False) P' H' g -> Sub P' H' -> Own K mg P' H' g (.t x) u -> Q u H') : Q v H :=
 k P H (fun _ => False) v .refl s (.t h fun _ h => h)
theorem newL {P H : Hp} {ts : List T} {vs : List V} {Q : VK} {l : Addr} (s : Sub P H) (hl : H l = none) (hn : ts.length = vs.length) (h : ∀ (i : Nat) t v, ts[i]? = some t -> vs[i]? = some v -> Den K mg P t v)
 (k : ∀ P' H' g u, Go P H (fun _ => False) P' H' g -> Sub P' H' -> Own K mg P' H' g (.lst (ts.map D.t)) u -> Q u H') : Q (.ref l) (upd H l (.lst vs)) := by
 have hP : P l = none := by
  cases q : P l with
  | none => rfl
  | some o => rw [s l o q] at hl; cases hl
 have sb : Sub P (upd H l (.lst vs)) := fun b o e => by rw [Zap (Zak e hP)]; exact s b o e
 refine k P (upd H l (.lst vs)) (fun b => b = l) (.ref l) ⟨.refl _, fun b o _ e => by rw [Zap (Zak e hl)]; exact e, fun b e => .inr (by rw [show b = l from e]; exact hl), fun _ _ e => .inl e⟩ sb
  (.lst (gs := fun _ _ => False) ZaG hP (by rw [List.length_map]; exact hn) (fun i d v e e' => ?_) (fun _ h => h) (fun _ _ _ _ h => h.elim) (fun _ _ _ h => h) fun b => ⟨fun e => .inl e, fun e => e.elim id fun ⟨_, z⟩ => z.elim⟩)
 rw [List.getElem?_map] at e
 cases q : ts[i]? with
 | none => rw [q] at e; cases e
 | some t => rw [q] at e; cases e; exact .t (h i t v q e') fun _ h => h
def e2 (op : T -> T -> Option D) (fa fb : SE) : SE := fun σ => (fa σ).bnd fun a σ1 => (fb σ1).bnd fun b σ2 => match op (frz a) (frz b) with
 | some d => .ok d σ2
 | none => .bad
def e1 (op : T -> Option D) (fa : SE) : SE := fun σ => (fa σ).bnd fun a σ1 => match op (frz a) with
 | some d => .ok d σ1
 | none => .bad
theorem ZaK {r : R2} {op : T -> T -> Option D} {ta tb : TE} {fa fb : SE} (ho : OpD K mg r op) (ha : TEd K mg fx E ta fa) (hb : TEd K mg fx E tb fb) : TEd K mg fx E (tOp r ta tb) (e2 op fa fb) := by
 intro P H gs σ ν Q S post
 unfold e2 at post
 refine ha.run S (fun c σ' e => ?_) (fun e => ?_) fun da σ1 e P1 H1 gs1 v1 s1 S1 d1 => ?_
 · rw [e] at post; exact post
 · rw [e] at post; exact post
 rw [e] at post
 dsimp only [Out.bnd] at post
 refine hb.run S1 (fun c σ' e => ?_) (fun e => ?_) fun db σ2 e P2 H2 gs2 v2 s2 S2 d2 => ?_
 · rw [e] at post; exact post.from s1
 · rw [e] at post; exact post
 rw [e] at post
 dsimp only at post
 split at post
 · rename_i d eo
   refine ho P2 H2 _ _ v1 v2 d Q S2.sub (d1.mono s2.mono) d2 eo fun P3 H3 g u s3 sb o => ?_
   exact post P3 H3 gs2 g u ((s1.trans s2).trans s3.alloc) (S2.go s3 sb fun _ _ h => h) o (s3.frees fun b h => (S2.here h).1)
 · exact post.elim
theorem Zie {r : V -> Hp -> VK -> Prop} {op : T -> Option D} {ta : TE} {fa : SE} (ho : UnD K mg r op) (ha : TEd K mg fx E ta fa) : TEd K mg fx E (tUn r ta) (e1 op fa) := by
 intro P H gs σ ν Q S post
 unfold e1 at post
 refine ha.run S (fun c σ' e => ?_) (fun e => ?_) fun da σ1 e P1 H1 gs1 v1 s1 S1 d1 => ?_
 · rw [e] at post; exact post
 · rw [e] at post; exact post
 rw [e] at post
 dsimp only [Out.bnd] at post
 split at post
 · rename_i d eo
   refine ho P1 H1 _ v1 d Q S1.sub d1 eo fun P3 H3 g u s3 sb o => ?_
   exact post P3 H3 gs1 g u (s1.trans s3.alloc) (S1.go s3 sb fun _ _ h => h) o (s3.frees fun b h => (S1.here h).1)
 · exact post.elim
end
end DL
set_option autoImplicit false
namespace DL
open PySem L2
variable {K : PySem.W.Frag} {mg : Str -> Option Value} {fx : Nat -> Option V} {E : XK}
def ZeW : D -> Option Bool
 | .t (.bl k) => some k
 | _ => none
theorem Zlh {P H : Hp} {g : Fp} {d : D} {k : Bool} {v : V} (e : ZeW d = some k) (o : Own K mg P H g d v) : v = .bl k /\ ∀ b, ¬ g b := by
 unfold ZeW at e
 split at e
 · cases e
   cases o with
   | t h hg => cases h; exact ⟨rfl, hg⟩
 · cases e
def sT (f : SE) : ST := fun σ => (f σ).bnd fun d σ1 => match ZeW d with
 | some k => .ok k σ1
 | none => .bad
theorem Zbh {t : TE} {f : SE} (h : TEd K mg fx E t f) : TTd K mg fx E (tB t) (sT f) := by
 intro P H gs σ ν Q S post
 unfold sT at post
 refine h P H gs σ ν _ S ?_
 cases e : f σ with
 | bad => rw [e] at post; exact post
 | exc c σ' => rw [e] at post; exact post
 | ok d σ' =>
  rw [e] at post
  intro P1 H1 gs1 g v s1 S1 o dj
  dsimp only [Out.bnd] at post
  split at post
  · rename_i k ek
    obtain ⟨rfl, hg⟩ := Zlh ek o
    exact ⟨k, rfl, post P1 H1 gs1 (s1.weak fun b h => .inl h) S1⟩
  · exact post.elim
theorem ZaE {t : TE} {f : SE} (h : TEd K mg fx E t f) : TTd K mg fx E (ZnX t) (sT f) := Zbh h
def sNot (f : ST) : ST := fun σ => (f σ).bnd fun k σ1 => .ok (!k) σ1
def sAnd (f g : ST) : ST := fun σ => (f σ).bnd fun k σ1 => if k = true then g σ1 else .ok false σ1
def sOr (f g : ST) : ST := fun σ => (f σ).bnd fun k σ1 => if k = true then .ok true σ1 else g σ1
section
variable {P H P1 H1 : Hp} {gs gs1 : Nat -> Fp} {ν : St}
theorem TTd.run {ta : TT} {fa : ST} (ha : TTd K mg fx E ta fa) {σ : Env'} {Q : Bool -> Hp -> Prop} (S : StOk K mg fx P H gs σ ν)
 (hx : ∀ c σ', fa σ = .exc c σ' -> PostX K mg fx E P H gs ν c σ') (hb : fa σ ≠ .bad)
 (hk : ∀ k σ', fa σ = .ok k σ' -> ∀ P' H' gs', Go P H (tot gs) P' H' (tot gs') -> StOk K mg fx P' H' gs' σ' ν -> Q k H') : ta ν H Q := by
 refine ha P H gs σ ν Q S ?_
 cases e : fa σ with
 | bad => exact absurd e hb
 | exc c σ' => exact hx c σ' e
 | ok k σ' => exact hk k σ' e
theorem PostE.from {Q : VK} {o : Out D} (h : PostE K mg fx E P H gs ν Q o) (s : Go P H (tot gs) P1 H1 (tot gs1)) : PostE K mg fx E P1 H1 gs1 ν Q o := by
 cases o with
 | bad => exact h
 | exc c σ' => exact PostX.from h s
 | ok d σ' => exact fun P' H' gs' g v s' => h P' H' gs' g v (s.trans s')
theorem PostT.from {Q : Bool -> Hp -> Prop} {o : Out Bool} (h : PostT K mg fx E P H gs ν Q o) (s : Go P H (tot gs) P1 H1 (tot gs1)) : PostT K mg fx E P1 H1 gs1 ν Q o := by
 cases o with
 | bad => exact h
 | exc c σ' => exact PostX.from h s
 | ok d σ' => exact fun P' H' gs' s' => h P' H' gs' (s.trans s')
theorem PostA.from {Q : List V -> Hp -> Prop} {o : Out (List D)} (h : PostA K mg fx E P H gs ν Q o) (s : Go P H (tot gs) P1 H1 (tot gs1)) : PostA K mg fx E P1 H1 gs1 ν Q o := by
 cases o with
 | bad => exact h
 | exc c σ' => exact PostX.from h s
 | ok d σ' => exact fun P' H' gs' g v s' => h P' H' gs' g v (s.trans s')
end
theorem ZbW {t : TT} {f : ST} (h : TTd K mg fx E t f) : TTd K mg fx E (tNot t) (sNot f) := by
 intro P H gs σ ν Q S post
 unfold sNot at post
 refine h.run S (fun c σ' e => by rw [e] at post; exact post) (fun e => by rw [e] at post; exact post) fun k σ' e P1 H1 gs1 s1 S1 => ?_
 rw [e] at post
 exact post P1 H1 gs1 s1 S1
theorem ZiH {t u : TT} {f g : ST} (h : TTd K mg fx E t f) (h' : TTd K mg fx E u g) : TTd K mg fx E (tAnd t u) (sAnd f g) := by
 intro P H gs σ ν Q S post
 unfold sAnd at post
 refine h.run S (fun c σ' e => by rw [e] at post; exact post) (fun e => by rw [e] at post; exact post) fun k σ' e P1 H1 gs1 s1 S1 => ?_
 rw [e] at post
 dsimp only [Out.bnd] at post
 cases k with
 | true => exact h' P1 H1 gs1 σ' ν Q S1 (PostT.from post s1)
 | false => exact post P1 H1 gs1 s1 S1
theorem Zke {t u : TT} {f g : ST} (h : TTd K mg fx E t f) (h' : TTd K mg fx E u g) : TTd K mg fx E (tOr t u) (sOr f g) := by
 intro P H gs σ ν Q S post
 unfold sOr at post
 refine h.run S (fun c σ' e => by rw [e] at post; exact post) (fun e => by rw [e] at post; exact post) fun k σ' e P1 H1 gs1 s1 S1 => ?_
 rw [e] at post
 dsimp only [Out.bnd] at post
 cases k with
 | false => exact h' P1 H1 gs1 σ' ν Q S1 (PostT.from post s1)
 | true => exact post P1 H1 gs1 s1 S1
def eT (f : ST) : SE := fun σ => (f σ).bnd fun k σ1 => .ok (.t (.bl k)) σ1
def eNot (f : SE) : SE := eT (sNot (sT f))
def eAnd (f g : SE) : SE := fun σ => (sT f σ).bnd fun k σ1 => if k = true then g σ1 else .ok (.t (.bl false)) σ1
def eOr (f g : SE) : SE := fun σ => (sT f σ).bnd fun k σ1 => if k = true then .ok (.t (.bl true)) σ1 else g σ1
def eIf (c : ST) (f g : SE) : SE := fun σ => (c σ).bnd fun k σ1 => if k = true then f σ1 else g σ1
theorem okT {P H P1 H1 : Hp} {gs gs1 : Nat -> Fp} {ν : St} {Q : VK} {x : T} {v : V} {σ1 : Env'} (post : PostE K mg fx E P H gs ν Q (.ok (.t x) σ1)) (s : Go P H (tot gs) P1 H1 (tot gs1)) (S : StOk K mg fx P1 H1 gs1 σ1 ν) (h : Den K mg P1 x v) : Q v H1 :=
 post P1 H1 gs1 (fun _ => False) v ⟨s.mono, s.frame, fun b z => s.new b (z.elim id fun y => y.elim), s.pnew⟩ S (.t h fun _ h => h) fun _ _ h => h
theorem Zl2 {t u : TE} {f g : SE} (h : TEd K mg fx E t f) (h' : TEd K mg fx E u g) : TEd K mg fx E (ZnP t u) (eAnd f g) := by
 intro P H gs σ ν Q S post
 unfold eAnd at post
 refine (Zbh h).run (Q := fun c H1 => if c = true then u ν H1 Q else Q (.bl false) H1) S (fun c σ' e => by rw [e] at post; exact post) (fun e => by rw [e] at post; exact post) fun k σ' e P1 H1 gs1 s1 S1 => ?_
 rw [e] at post
 dsimp only [Out.bnd] at post
 cases k with
 | true => exact h' P1 H1 gs1 σ' ν Q S1 (PostE.from post s1)
 | false => exact okT post s1 S1 .bl
theorem Zpg {t u : TE} {f g : SE} (h : TEd K mg fx E t f) (h' : TEd K mg fx E u g) : TEd K mg fx E (tOrV t u) (eOr f g) := by
 intro P H gs σ ν Q S post
 unfold eOr at post
 refine (Zbh h).run (Q := fun c H1 => if c = true then Q (.bl true) H1 else u ν H1 Q) S (fun c σ' e => by rw [e] at post; exact post) (fun e => by rw [e] at post; exact post) fun k σ' e P1 H1 gs1 s1 S1 => ?_
 rw [e] at post
 dsimp only [Out.bnd] at post
 cases k with
 | false => exact h' P1 H1 gs1 σ' ν Q S1 (PostE.from post s1)
 | true => exact okT post s1 S1 .bl
def ZiI (op op' : T -> T -> Option Bool) (fa fb fc : SE) : SE := fun σ => (fa σ).bnd fun a σ1 => (fb σ1).bnd fun b σ2 => match op (frz a) (frz b) with
 | some true => (fc σ2).bnd fun c σ3 => (match op' (frz b) (frz c) with
  | some k => .ok (.t (.bl k)) σ3
  | none => .bad)
 | some false => .ok (.t (.bl false)) σ2
 | none => .bad
def OpB (K : PySem.W.Frag) (mg : Str -> Option Value) (r : R2) (op : T -> T -> Option Bool) : Prop := ∀ P H x y v w k (Q : VK), Sub P H -> Den K mg P x v -> Den K mg P y w -> op x y = some k -> Q (.bl k) H -> r v w H Q
theorem OpB.op {r : R2} {op : T -> T -> Option Bool} (h : OpB K mg r op) : OpD K mg r fun x y => (op x y).map fun k => .t (.bl k) := by
 intro P H x y v w d Q s hx hy e k
 dsimp only at e
 cases q : op x y with
 | none => rw [q] at e; cases e
 | some b =>
  rw [q] at e
  cases e
  exact h P H x y v w b Q s hx hy q (done s .bl k)
theorem Zli {r r' : R2} {op op' : T -> T -> Option Bool} {ta tb tc : TE} {fa fb fc : SE} (ho : OpB K mg r op) (ho' : OpB K mg r' op') (ha : TEd K mg fx E ta fa) (hb : TEd K mg fx E tb fb) (hc : TEd K mg fx E tc fc) :
 TEd K mg fx E (ZlU r r' ta tb tc) (ZiI op op' fa fb fc) := by
 intro P H gs σ ν Q S post
 unfold ZiI at post
 refine ha.run S (fun c σ' e => by rw [e] at post; exact post) (fun e => by rw [e] at post; exact post) fun da σ1 e P1 H1 gs1 v1 s1 S1 d1 => ?_
 rw [e] at post
 dsimp only [Out.bnd] at post
 refine hb.run S1 (fun c σ' e => by rw [e] at post; exact PostX.from post s1) (fun e => by rw [e] at post; exact post) fun db σ2 e P2 H2 gs2 v2 s2 S2 d2 => ?_
 rw [e] at post
 dsimp only at post
 split at post
 · rename_i eo
   refine ho P2 H2 _ _ v1 v2 true _ S2.sub (d1.mono s2.mono) d2 eo ⟨true, rfl, ?_⟩
   rw [if_pos rfl]
   refine hc.run S2 (fun c σ' e => by rw [e] at post; exact PostX.from post (s1.trans s2)) (fun e => by rw [e] at post; exact post) fun dc σ3 e P3 H3 gs3 v3 s3 S3 d3 => ?_
   rw [e] at post
   dsimp only at post
   split at post
   · rename_i k ek
     exact ho' P3 H3 _ _ v2 v3 k _ S3.sub (d2.mono s3.mono) d3 ek (okT post ((s1.trans s2).trans s3) S3 .bl)
   · exact post.elim
 · rename_i eo
   refine ho P2 H2 _ _ v1 v2 false _ S2.sub (d1.mono s2.mono) d2 eo ⟨false, rfl, ?_⟩
   rw [if_neg Bool.false_ne_true]
   exact okT post (s1.trans s2) S2 .bl
 · exact post.elim
end DL
set_option autoImplicit false
namespace DL
open PySem L2
variable {K : PySem.W.Frag} {mg : Str -> Option Value} {fx : Nat -> Option V} {E : XK}
theorem OwnL.nil {P H : Hp} : OwnL K mg P H (fun _ => False) [] [] := ⟨rfl, fun _ _ => False, fun i d v e => by simp at e, fun _ _ _ _ h => h.elim, fun _ _ _ h => h, fun b => ⟨fun h => h.elim, fun ⟨_, h⟩ => h⟩⟩
theorem OwnL.cons {P H : Hp} {g gr : Fp} {d : D} {v : V} {ds : List D} {vs : List V} (o : Own K mg P H g d v) (r : OwnL K mg P H gr ds vs) (dj : ∀ b, g b -> ¬ gr b) : OwnL K mg P H (fun b => g b \/ gr b) (d :: ds) (v :: vs) := by
 obtain ⟨hl, gs, h1, h2, h3, h4⟩ := r
 refine ⟨by simp [hl], fun i => match i with | 0 => g | i + 1 => gs i, fun i d' v' e e' => ?_, fun i j b hij hi hj => ?_, fun i b h => ?_, fun b => ?_⟩
 · cases i with
   | zero => simp at e e'; subst e e'; exact o
   | succ i => simp at e e'; exact h1 i d' v' e e'
 · cases i with
   | zero => cases j with
    | zero => exact hij rfl
    | succ j => exact dj b hi ((h4 b).mpr ⟨j, hj⟩)
   | succ i => cases j with
    | zero => exact dj b hj ((h4 b).mpr ⟨i, hi⟩)
    | succ j => exact h2 i j b (fun e => hij (by rw [e])) hi hj
 · cases i with
   | zero => simp at h
   | succ i => exact h3 i b (by simpa using h)
 · constructor
   · rintro (h | h)
     · exact ⟨0, h⟩
     · obtain ⟨i, h⟩ := (h4 b).mp h; exact ⟨i + 1, h⟩
   · rintro ⟨i, h⟩
     cases i with
     | zero => exact .inl h
     | succ i => exact .inr ((h4 b).mpr ⟨i, h⟩)
theorem OwnL.uncons {P H : Hp} {g : Fp} {d : D} {v : V} {ds : List D} {vs : List V} (r : OwnL K mg P H g (d :: ds) (v :: vs)) :
 ∃ g1 gr, Own K mg P H g1 d v /\ OwnL K mg P H gr ds vs /\ (∀ b, g1 b -> ¬ gr b) /\ ∀ b, g b ↔ g1 b \/ gr b := by
 obtain ⟨hl, gs, h1, h2, h3, h4⟩ := r
 refine ⟨gs 0, fun b => ∃ i, gs (i + 1) b, h1 0 d v rfl rfl, ⟨by simpa using hl, fun i => gs (i + 1), fun i d' v' e e' => h1 (i + 1) d' v' (by simpa using e) (by simpa using e'), fun i j b hij => h2 (i + 1) (j + 1) b (by omega), fun i b h => h3 (i + 1) b (by simpa using h), fun b => Iff.rfl⟩, fun b h0 ⟨i, h⟩ => h2 0 (i + 1) b (by omega) h0 h, fun b => ?_⟩
 rw [h4 b]
 constructor
 · rintro ⟨i, h⟩
   cases i with
   | zero => exact .inl h
   | succ i => exact .inr ⟨i, h⟩
 · rintro (h | ⟨i, h⟩)
   · exact ⟨0, h⟩
   · exact ⟨i + 1, h⟩
theorem OwnL.len {P H : Hp} {g : Fp} {ds : List D} {vs : List V} (r : OwnL K mg P H g ds vs) : ds.length = vs.length := r.1
theorem OwnL.at {P H : Hp} {g : Fp} {ds : List D} {vs : List V} (r : OwnL K mg P H g ds vs) : ∀ b, g b -> (∃ o, H b = some o) /\ P b = none := fun b h => by
 obtain ⟨hl, gs, h1, h2, h3, h4⟩ := r
 obtain ⟨i, hi⟩ := (h4 b).mp h
 by_cases hlt : i < ds.length
 · obtain ⟨d, e⟩ := Zdr hlt
   obtain ⟨v, e'⟩ := Zdr (hl ▸ hlt)
   exact (h1 i d v e e').at b hi
 · exact absurd hi (h3 i b (by omega))
theorem OwnL.frame {P H P' H' : Hp} {g : Fp} {ds : List D} {vs : List V} (r : OwnL K mg P H g ds vs) (sP : Sub P P') (hH : ∀ b o, g b -> H b = some o -> H' b = some o) (hP : ∀ b, g b -> P' b = none) : OwnL K mg P' H' g ds vs := by
 obtain ⟨hl, gs, h1, h2, h3, h4⟩ := r
 exact ⟨hl, gs, fun i d v e e' => (h1 i d v e e').frame sP (fun b o hb => hH b o ((h4 b).mpr ⟨i, hb⟩)) fun b hb => hP b ((h4 b).mpr ⟨i, hb⟩), h2, h3, h4⟩
theorem Go.otherL {P H P' H' : Hp} {G G' g : Fp} {ds : List D} {vs : List V} (s : Go P H G P' H' G') (h : OwnL K mg P H g ds vs) (dj : ∀ b, g b -> ¬ G b) : OwnL K mg P' H' g ds vs /\ ∀ b, g b -> ¬ G' b := by
 have hn : ∀ b, g b -> H b ≠ none := fun b hb e => by
  obtain ⟨⟨o, q⟩, _⟩ := h.at b hb
  rw [q] at e; cases e
 refine ⟨h.frame s.mono (fun b o hb e => s.frame b o (dj b hb) e) fun b hb => ?_, fun b hb z => ?_⟩
 · cases q : P' b with
   | none => rfl
   | some o =>
    rcases s.pnew b o q with z | z | z
    · rw [(h.at b hb).2] at z; cases z
    · exact absurd z (dj b hb)
    · exact absurd z (hn b hb)
 · rcases s.new b z with z | z
   · exact dj b hb z
   · exact hn b hb z
def aNil : SA := fun σ => .ok [] σ
def Zad (f : SE) (r : SA) : SA := fun σ => (f σ).bnd fun d σ1 => (r σ1).bnd fun ds σ2 => .ok (d :: ds) σ2
def lend (i : Nat) (σ : Env') : Option (D × Env') := match σ[i]? with
 | some (.v d) => some (d, σ.set i .e)
 | some (.x d) => some (d, σ.set i .h)
 | _ => none
def aIo (i : Nat) (r : SA) : SA := fun σ => match lend i σ with
 | some (d, σ1) => (match r σ1 with
  | .ok ds σ2 => .ok (d :: ds) σ2
  | _ => .bad)
 | none => .bad
def IoOk (io : List (Option Nat)) (ν : St) (vs : List V) : Prop := ∀ (k i : Nat) v, io[k]? = some (some i) -> vs[k]? = some v -> ν[i]? = some (some v)
variable (K mg)
def Zph (fx : Nat -> Option V) (E : XK) (io : List (Option Nat)) (P H : Hp) (gs : Nat -> Fp) (ν : St) (Q : List V -> Hp -> Prop) : Out (List D) -> Prop
 | .ok ds σ' => ∀ P' H' gs' g vs, Go P H (tot gs) P' H' (fun b => tot gs' b \/ g b) -> StOk K mg fx P' H' gs' σ' ν -> OwnL K mg P' H' g ds vs -> (∀ b, tot gs' b -> ¬ g b) -> IoOk io ν vs -> Q vs H'
 | .exc c σ' => PostX K mg fx E P H gs ν c σ'
 | .bad => False
def TLd (fx : Nat -> Option V) (E : XK) (io : List (Option Nat)) (t : TA) (f : SA) : Prop := ∀ P H gs σ ν Q, StOk K mg fx P H gs σ ν -> Zph K mg fx E io P H gs ν Q (f σ) -> t ν H Q
variable {K mg}
theorem Zag : TLd K mg fx E [] tNil aNil := by
 intro P H gs σ ν Q S post
 exact post P H gs (fun _ => False) [] ⟨.refl _, fun _ _ _ h => h, fun b h => .inl (h.elim id fun z => z.elim), fun _ _ h => .inl h⟩ S .nil (fun _ _ h => h) fun k i v e => by simp at e
theorem Zab {io : List (Option Nat)} {t : TE} {f : SE} {tr : TA} {fr : SA} (h : TEd K mg fx E t f) (hr : TLd K mg fx E io tr fr) : TLd K mg fx E (none :: io) (Zcy t tr) (Zad f fr) := by
 intro P H gs σ ν Q S post
 unfold Zad at post
 refine h P H gs σ ν _ S ?_
 cases e : f σ with
 | bad => rw [e] at post; exact post
 | exc c σ' => rw [e] at post; exact post
 | ok d σ1 =>
  rw [e] at post
  dsimp only [Out.bnd] at post
  intro P1 H1 gs1 g1 v1 s1 S1 o1 dj1
  refine hr P1 H1 gs1 σ1 ν _ S1 ?_
  cases e2 : fr σ1 with
  | bad => rw [e2] at post; exact post
  | exc c σ' => rw [e2] at post; exact PostX.from (gs1 := gs1) post (s1.weak fun b h => .inl h)
  | ok ds σ2 =>
   rw [e2] at post
   dsimp only at post
   intro P2 H2 gs2 g2 vs s2 S2 o2 dj2 hio
   obtain ⟨o1', dj1'⟩ := s2.other o1 fun b h z => dj1 b z h
   refine post P2 H2 gs2 (fun b => g1 b \/ g2 b) (v1 :: vs) ?_ S2 (.cons o1' o2 fun b h z => dj1' b h (.inr z)) (fun b h z => ?_) fun k i v ek ev => ?_
   · refine (s1.trans ((s2.wide (F := g1)).weak (G' := fun b => g1 b \/ (tot gs2 b \/ g2 b)) (G2 := fun b => tot gs2 b \/ (g1 b \/ g2 b)) ?_ |> fun z => (⟨z.mono, fun b o n h => z.frame b o (fun y => n (y.elim .inr .inl)) h, fun b h => (z.new b h).imp (fun y => y.elim .inr .inl) id, fun b o h => (z.pnew b o h).imp id fun y => y.imp (fun w => w.elim .inr .inl) id⟩ : Go P1 H1 (fun b => tot gs1 b \/ g1 b) P2 H2 (fun b => tot gs2 b \/ (g1 b \/ g2 b)))))
     rintro b (h | h | h)
     · exact .inr (.inl h)
     · exact .inl h
     · exact .inr (.inr h)
   · rcases z with z | z
     · exact dj1' b z (.inl h)
     · exact dj2 b h z
   · cases k with
     | zero => simp at ek
     | succ k => exact hio k i v (by simpa using ek) (by simpa using ev)
theorem StOk.lend {P H : Hp} {gs : Nat -> Fp} {σ σ1 : Env'} {ν : St} {i : Nat} {d : D} (S : StOk K mg fx P H gs σ ν) (e : lend i σ = some (d, σ1)) :
 ∃ v, ν[i]? = some (some v) /\ Own K mg P H (gs i) d v /\ StOk K mg fx P H (fun j => if j = i then fun _ => False else gs j) σ1 ν /\ (∀ b, tot (fun j => if j = i then fun _ => False else gs j) b -> ¬ gs i b) /\ ∀ b, tot gs b ↔ gs i b \/ tot (fun j => if j = i then fun _ => False else gs j) b := by
 have key : ∀ z : Sl, Sl.get z = none -> (σ[i]? = some (.v d) /\ z = .e \/ σ[i]? = some (.x d) /\ z = .h) -> ∃ v, ν[i]? = some (some v) /\ Own K mg P H (gs i) d v /\ StOk K mg fx P H (fun j => if j = i then fun _ => False else gs j) (σ.set i z) ν /\ (∀ b, tot (fun j => if j = i then fun _ => False else gs j) b -> ¬ gs i b) /\ ∀ b, tot gs b ↔ gs i b \/ tot (fun j => if j = i then fun _ => False else gs j) b := by
  intro z hz hσ
  have hget : (σ[i]?).bind Sl.get = some d := by rcases hσ with ⟨h, _⟩ | ⟨h, _⟩ <;> rw [h] <;> rfl
  have hi : i < σ.length := by rcases hσ with ⟨h, _⟩ | ⟨h, _⟩ <;> exact Zci h
  obtain ⟨v, hv, o⟩ := S.slot i d hget
  refine ⟨v, hv, o, ⟨S.sub, by rw [List.length_set]; exact S.len, fun j d' e' => ?_, fun j b e' => ?_, fun j k b hjk hj => ?_, fun j e' => ?_, fun j w h => ?_⟩, fun b ⟨j, h⟩ => ?_, fun b => ⟨fun ⟨j, h⟩ => ?_, fun h => ?_⟩⟩
  · by_cases hj : j = i
    · subst hj
      rw [List.getElem?_set_self hi] at e'
      rw [show (some z).bind Sl.get = z.get from rfl, hz] at e'
      cases e'
    · rw [List.getElem?_set_ne (Ne.symm hj)] at e'
      simp only [hj, if_false]
      exact S.slot j d' e'
  · by_cases hj : j = i
    · simp only [hj, if_true]; exact fun h => h
    · rw [List.getElem?_set_ne (Ne.symm hj)] at e'
      simp only [hj, if_false]
      exact S.emp j b e'
  · by_cases hj' : j = i
    · simp only [hj', if_true] at hj
    · simp only [hj', if_false] at hj
      by_cases hk' : k = i
      · simp only [hk', if_true]; exact fun h => h
      · simp only [hk', if_false]; exact S.dis j k b hjk hj
  · by_cases hj : j = i
    · subst hj
      rw [List.getElem?_set_self hi] at e'
      rcases hσ with ⟨h, hz'⟩ | ⟨h, hz'⟩
      · subst hz'; rcases e' with e' | ⟨_, e'⟩ <;> cases e'
      · exact S.fix j (.inr ⟨d, h⟩)
    · rw [List.getElem?_set_ne (Ne.symm hj)] at e'
      exact S.fix j e'
  · obtain ⟨h1, h2⟩ := S.fixed j w h
    refine ⟨h1, ?_⟩
    by_cases hj : j = i
    · subst hj
      rw [List.getElem?_set_self hi]
      rcases hσ with ⟨h, hz'⟩ | ⟨h, hz'⟩
      · rw [h] at h2; rcases h2 with h2 | ⟨_, h2⟩ <;> cases h2
      · exact .inl (by rw [hz'])
    · rw [List.getElem?_set_ne (Ne.symm hj)]; exact h2
  · by_cases hj : j = i
    · simp only [hj, if_true] at h
    · simp only [hj, if_false] at h; exact S.dis j i b hj h
  · by_cases hj : j = i
    · rw [hj] at h; exact .inl h
    · exact .inr ⟨j, by simp only [hj, if_false]; exact h⟩
  · rcases h with h | ⟨j, h⟩
    · exact ⟨i, h⟩
    · by_cases hj : j = i
      · simp only [hj, if_true] at h
      · simp only [hj, if_false] at h; exact ⟨j, h⟩
 unfold DL.lend at e
 split at e
 · rename_i d' q; cases e; exact key .e rfl (.inl ⟨q, rfl⟩)
 · rename_i d' q; cases e; exact key .h rfl (.inr ⟨q, rfl⟩)
 · cases e
theorem ZeX {io : List (Option Nat)} {i : Nat} {tr : TA} {fr : SA} (hr : TLd K mg fx E io tr fr) : TLd K mg fx E (some i :: io) (Zcy (tVar i) tr) (aIo i fr) := by
 intro P H gs σ ν Q S post
 unfold aIo at post
 split at post
 · rename_i d σ1 el
   obtain ⟨v, hv, o, S1, dj, ht⟩ := S.lend el
   refine ⟨v, hv, ?_⟩
   refine hr P H _ σ1 ν _ S1 ?_
   cases e2 : fr σ1 with
   | bad => rw [e2] at post; exact post
   | exc c σ' => rw [e2] at post; exact post.elim
   | ok ds σ2 =>
    rw [e2] at post
    dsimp only at post
    intro P2 H2 gs2 g2 vs s2 S2 o2 dj2 hio
    obtain ⟨o1', dj1'⟩ := s2.other o fun b h z => dj b z h
    refine post P2 H2 gs2 (fun b => gs i b \/ g2 b) (v :: vs) ⟨s2.mono, fun b w n h => s2.frame b w (fun y => n ((ht b).mpr (.inr y))) h, fun b h => ?_, fun b w h => (s2.pnew b w h).imp id fun y => y.imp (fun z => (ht b).mpr (.inr z)) id⟩ S2 (.cons o1' o2 fun b h z => dj1' b h (.inr z)) (fun b h z => ?_) fun k j w ek ev => ?_
    · rcases h with h | h | h
      · exact (s2.new b (.inl h)).imp (fun y => (ht b).mpr (.inr y)) id
      · exact .inl ((ht b).mpr (.inl h))
      · exact (s2.new b (.inr h)).imp (fun y => (ht b).mpr (.inr y)) id
    · rcases z with z | z
      · exact dj1' b z (.inl h)
      · exact dj2 b h z
    · cases k with
      | zero => simp at ek ev; subst ek ev; exact hv
      | succ k => exact hio k j w (by simpa using ek) (by simpa using ev)
 · exact post.elim
def put (i : Nat) (d : D) (σ : Env') : Option Env' := match σ[i]? with
 | some .e => some (σ.set i (.v d))
 | some .h => some (σ.set i (.x d))
 | _ => none
theorem StOk.put {P H : Hp} {gs : Nat -> Fp} {σ σ1 : Env'} {ν : St} {i : Nat} {d : D} {g : Fp} {v : V} (S : StOk K mg fx P H gs σ ν) (e : put i d σ = some σ1) (hv : ν[i]? = some (some v)) (o : Own K mg P H g d v) (dj : ∀ b, tot gs b -> ¬ g b) :
 StOk K mg fx P H (fun j => if j = i then g else gs j) σ1 ν /\ ∀ b, tot (fun j => if j = i then g else gs j) b ↔ g b \/ tot gs b := by
 have key : ∀ z : Sl, Sl.get z = some d -> (σ[i]? = some .e /\ z = .v d \/ σ[i]? = some .h /\ z = .x d) -> StOk K mg fx P H (fun j => if j = i then g else gs j) (σ.set i z) ν /\ ∀ b, tot (fun j => if j = i then g else gs j) b ↔ g b \/ tot gs b := by
  intro z hz hσ
  have hget : (σ[i]?).bind Sl.get = none := by rcases hσ with ⟨h, _⟩ | ⟨h, _⟩ <;> rw [h] <;> rfl
  have hi : i < σ.length := by rcases hσ with ⟨h, _⟩ | ⟨h, _⟩ <;> exact Zci h
  refine ⟨⟨S.sub, by rw [List.length_set]; exact S.len, fun j d' e' => ?_, fun j b e' => ?_, fun j k b hjk hj hk => ?_, fun j e' => ?_, fun j w h => ?_⟩, fun b => ⟨fun ⟨j, h⟩ => ?_, fun h => ?_⟩⟩
  · by_cases hj : j = i
    · subst hj
      rw [List.getElem?_set_self hi, show (some z).bind Sl.get = z.get from rfl, hz] at e'
      cases e'
      simp only [if_true]
      exact ⟨v, hv, o⟩
    · rw [List.getElem?_set_ne (Ne.symm hj)] at e'
      simp only [hj, if_false]
      exact S.slot j d' e'
  · by_cases hj : j = i
    · subst hj
      rw [List.getElem?_set_self hi, show (some z).bind Sl.get = z.get from rfl, hz] at e'
      cases e'
    · rw [List.getElem?_set_ne (Ne.symm hj)] at e'
      simp only [hj, if_false]
      exact S.emp j b e'
  · by_cases hj' : j = i
    · by_cases hk' : k = i
      · exact hjk (hj'.trans hk'.symm)
      · simp only [hj', if_true] at hj
        simp only [hk', if_false] at hk
        exact dj b ⟨k, hk⟩ hj
    · simp only [hj', if_false] at hj
      by_cases hk' : k = i
      · simp only [hk', if_true] at hk; exact dj b ⟨j, hj⟩ hk
      · simp only [hk', if_false] at hk; exact S.dis j k b hjk hj hk
  · by_cases hj : j = i
    · subst hj
      rcases hσ with ⟨h, hz'⟩ | ⟨h, hz'⟩
      · rw [List.getElem?_set_self hi, hz'] at e'
        rcases e' with e' | ⟨_, e'⟩ <;> cases e'
      · exact S.fix j (.inl h)
    · rw [List.getElem?_set_ne (Ne.symm hj)] at e'
      exact S.fix j e'
  · obtain ⟨h1, h2⟩ := S.fixed j w h
    refine ⟨h1, ?_⟩
    by_cases hj : j = i
    · subst hj
      rw [List.getElem?_set_self hi]
      rcases hσ with ⟨h, hz'⟩ | ⟨h, hz'⟩
      · rw [h] at h2; rcases h2 with h2 | ⟨_, h2⟩ <;> cases h2
      · exact .inr ⟨d, by rw [hz']⟩
    · rw [List.getElem?_set_ne (Ne.symm hj)]; exact h2
  · by_cases hj : j = i
    · simp only [hj, if_true] at h; exact .inl h
    · simp only [hj, if_false] at h; exact .inr ⟨j, h⟩
  · rcases h with h | ⟨j, h⟩
    · exact ⟨i, by simp only [if_true]; exact h⟩
    · by_cases hj : j = i
      · rw [hj] at h; exact absurd h (S.emp i b hget)
      · exact ⟨j, by simp only [hj, if_false]; exact h⟩
 unfold DL.put at e
 split at e
 · rename_i q; cases e; exact key (.v d) rfl (.inl ⟨q, rfl⟩)
 · rename_i q; cases e; exact key (.x d) rfl (.inr ⟨q, rfl⟩)
 · cases e
def wb : List (Option Nat) -> List D -> Env' -> Option Env'
 | some i :: io, d :: ds, σ => (put i d σ).bind (wb io ds)
 | none :: io, _ :: ds, σ => wb io ds σ
 | _, _, σ => some σ
theorem StOk.wb {P H : Hp} {ν : St} : ∀ {io : List (Option Nat)} {ds : List D} {vs : List V} {gs : Nat -> Fp} {σ σ1 : Env'} {g : Fp}, StOk K mg fx P H gs σ ν -> wb io ds σ = some σ1 -> OwnL K mg P H g ds vs -> IoOk io ν vs -> (∀ b, tot gs b -> ¬ g b) ->
 ∃ gs1, StOk K mg fx P H gs1 σ1 ν /\ ∀ b, tot gs1 b -> tot gs b \/ g b
 | [], ds, vs, gs, σ, σ1, g, S, e, o, hio, dj => by
  simp only [DL.wb] at e
  cases e
  exact ⟨gs, S, fun b h => .inl h⟩
 | none :: io, [], vs, gs, σ, σ1, g, S, e, o, hio, dj => by
  simp only [DL.wb] at e
  cases e
  exact ⟨gs, S, fun b h => .inl h⟩
 | some i :: io, [], vs, gs, σ, σ1, g, S, e, o, hio, dj => by
  simp only [DL.wb] at e
  cases e
  exact ⟨gs, S, fun b h => .inl h⟩
 | none :: io, d :: ds, vs, gs, σ, σ1, g, S, e, o, hio, dj => by
  cases vs with
  | nil => exact absurd o.len (by simp)
  | cons v vs =>
   obtain ⟨g1, gr, o1, o2, d12, hg⟩ := o.uncons
   obtain ⟨gs1, S1, h1⟩ := StOk.wb (io := io) S (by simpa only [DL.wb] using e) o2 (fun k i w ek ev => hio (k + 1) i w (by simpa using ek) (by simpa using ev)) fun b h z => dj b h ((hg b).mpr (.inr z))
   exact ⟨gs1, S1, fun b h => (h1 b h).imp id fun z => (hg b).mpr (.inr z)⟩
 | some i :: io, d :: ds, vs, gs, σ, σ1, g, S, e, o, hio, dj => by
  cases vs with
  | nil => exact absurd o.len (by simp)
  | cons v vs =>
   obtain ⟨g1, gr, o1, o2, d12, hg⟩ := o.uncons
   simp only [DL.wb] at e
   cases ep : DL.put i d σ with
   | none => rw [ep] at e; cases e
   | some σ2 =>
    rw [ep] at e
    obtain ⟨S2, ht⟩ := S.put ep (hio 0 i v rfl rfl) o1 fun b h z => dj b h ((hg b).mpr (.inl z))
    obtain ⟨gs1, S1, h1⟩ := StOk.wb (io := io) S2 e o2 (fun k i w ek ev => hio (k + 1) i w (by simpa using ek) (by simpa using ev)) fun b h z => ((ht b).mp h).elim (fun y => d12 b y z) fun y => dj b y ((hg b).mpr (.inr z))
    refine ⟨gs1, S1, fun b h => ?_⟩
    rcases h1 b h with z | z
    · rcases (ht b).mp z with y | y
      · exact .inr ((hg b).mpr (.inl y))
      · exact .inl y
    · exact .inr ((hg b).mpr (.inr z))
inductive FO where
 | ret (d : D) (ds : List D) | exc (c : Str) (ds : List D) | bad
variable (K mg)
def spF (n : Nat) (F : List D -> FO) : Sp := fun vs H Q E => vs.length = n /\ ∃ P g ds, Sub P H /\ OwnL K mg P H g ds vs /\ match F ds with
 | .ret d ds' => ∀ P' H' g' gd v, Go P H g P' H' (fun b => g' b \/ gd b) -> Sub P' H' -> OwnL K mg P' H' g' ds' vs -> Own K mg P' H' gd d v -> (∀ b, g' b -> ¬ gd b) -> Q v H'
 | .exc c ds' => ∀ P' H' g', Go P H g P' H' g' -> Sub P' H' -> OwnL K mg P' H' g' ds' vs -> ∀ C, mg c = some (.ref C) -> E (.ref C) none H'
 | .bad => False
variable {K mg}
def ZaB (n : Nat) (F : List D -> FO) (io : List (Option Nat)) (fa : SA) : SE := fun σ => (fa σ).bnd fun ds σ1 => if ds.length = n then (match F ds with
 | .ret d ds' => (match wb io ds' σ1 with | some σ2 => .ok d σ2 | none => .bad)
 | .exc c ds' => (match wb io ds' σ1 with | some σ2 => .exc c σ2 | none => .bad)
 | .bad => .bad) else .bad
theorem ZmY {n : Nat} {F : List D -> FO} {io : List (Option Nat)} {P H P1 H1 : Hp} {gs gs1 : Nat -> Fp} {ν : St} {ds : List D} {vs : List V} {σ1 : Env'} {g1 : Fp} {Q : VK} (s1 : Go P H (tot gs) P1 H1 (fun b => tot gs1 b \/ g1 b)) (S1 : StOk K mg fx P1 H1 gs1 σ1 ν) (o1 : OwnL K mg P1 H1 g1 ds vs) (dj1 : ∀ b, tot gs1 b -> ¬ g1 b) (hio : IoOk io ν vs)
 (post : PostE K mg fx E P H gs ν Q (if ds.length = n then (match F ds with
   | .ret d ds' => (match wb io ds' σ1 with | some σ2 => .ok d σ2 | none => .bad)
   | .exc c ds' => (match wb io ds' σ1 with | some σ2 => .exc c σ2 | none => .bad)
   | .bad => .bad) else .bad)) : spF K mg n F vs H1 Q E := by
 have hn : ds.length = n := Decidable.byContradiction fun z => by rw [if_neg z] at post; exact post
 rw [if_pos hn] at post
 refine ⟨by rw [<- o1.len]; exact hn, P1, g1, ds, S1.sub, o1, ?_⟩
 cases eF : F ds with
 | bad => rw [eF] at post; exact post
 | ret d ds' =>
  rw [eF] at post
  dsimp only at post ⊢
  intro P2 H2 g2 gd v s2 sb o2 od dj2
  have S2 := S1.go s2 sb fun b h z => dj1 b h z
  have far : ∀ b, tot gs1 b -> ¬ (g2 b \/ gd b) := fun b h z => by
   rcases s2.new b z with y | y
   · exact dj1 b h y
   · obtain ⟨⟨o, e⟩, _⟩ := S1.here h
     rw [e] at y; cases y
  split at post
  · rename_i σ2 ew
    obtain ⟨gs2, S3, h3⟩ := S2.wb ew o2 hio fun b h z => far b h (.inl z)
    refine post P2 H2 gs2 gd v ⟨s1.mono.trans s2.mono, ?_, ?_, ?_⟩ S3 od fun b h z => ?_
    · exact (s1.trans ((s2.wide (F := tot gs1)))).frame
    · intro b h
      refine (s1.trans ((s2.wide (F := tot gs1)))).new b ?_
      rcases h with h | h
      · exact (h3 b h).imp id fun y => .inl y
      · exact .inr (.inr h)
    · exact (s1.trans ((s2.wide (F := tot gs1)))).pnew
    · rcases h3 b h with y | y
      · exact far b y (.inr z)
      · exact dj2 b y z
  · exact post.elim
 | exc c ds' =>
  rw [eF] at post
  dsimp only at post ⊢
  intro P2 H2 g2 s2 sb o2 C hC
  have S2 := S1.go s2 sb fun b h z => dj1 b h z
  have far : ∀ b, tot gs1 b -> ¬ g2 b := fun b h z => by
   rcases s2.new b z with y | y
   · exact dj1 b h y
   · obtain ⟨⟨o, e⟩, _⟩ := S1.here h
     rw [e] at y; cases y
  split at post
  · rename_i σ2 ew
    obtain ⟨gs2, S3, h3⟩ := S2.wb ew o2 hio far
    refine post P2 H2 gs2 ?_ S3 C hC
    have z := s1.trans ((s2.wide (F := tot gs1)))
    exact ⟨z.mono, z.frame, fun b h => z.new b (h3 b h), z.pnew⟩
  · exact post.elim
theorem Zar {n : Nat} {F : List D -> FO} {io : List (Option Nat)} {ta : TA} {fa : SA} (ha : TLd K mg fx E io ta fa) : TEd K mg fx E (Zh2 (spF K mg n F) [] E ta) (ZaB n F io fa) := by
 intro P H gs σ ν Q S post
 unfold ZaB at post
 refine ha P H gs σ ν _ S ?_
 cases e : fa σ with
 | bad => rw [e] at post; exact post
 | exc c σ' => rw [e] at post; exact post
 | ok ds σ1 =>
  rw [e] at post
  intro P1 H1 gs1 g1 vs s1 S1 o1 dj1 hio
  rw [List.append_nil]
  exact ZmY s1 S1 o1 dj1 hio post
end DL
set_option autoImplicit false
namespace DL
open PySem L2
variable {K : PySem.W.Frag} {mg : Str -> Option Value} {fx : Nat -> Option V} {E : XK}
inductive OutS where
 | next (σ : Env') | ret (d : D) (σ : Env') | brk (σ : Env') | cont (σ : Env') | exc (c : Str) (σ : Env') | bad
abbrev SS := Env' -> OutS
variable (K mg)
def PostS (fx : Nat -> Option V) (E : XK) (P H : Hp) (gs : Nat -> Fp) (N : Ends) : OutS -> Prop
 | .next σ' => ∀ P' H' gs' ν', Go P H (tot gs) P' H' (tot gs') -> StOk K mg fx P' H' gs' σ' ν' -> N.nx ν' H'
 | .brk σ' => ∀ P' H' gs' ν', Go P H (tot gs) P' H' (tot gs') -> StOk K mg fx P' H' gs' σ' ν' -> N.bk ν' H'
 | .cont σ' => ∀ P' H' gs' ν', Go P H (tot gs) P' H' (tot gs') -> StOk K mg fx P' H' gs' σ' ν' -> N.ct ν' H'
 | .ret d σ' => ∀ P' H' gs' g v ν', Go P H (tot gs) P' H' (fun b => tot gs' b \/ g b) -> StOk K mg fx P' H' gs' σ' ν' -> Own K mg P' H' g d v -> (∀ b, tot gs' b -> ¬ g b) -> N.rt v H'
 | .exc c σ' => ∀ P' H' gs' ν', Go P H (tot gs) P' H' (tot gs') -> StOk K mg fx P' H' gs' σ' ν' -> ∀ C, mg c = some (.ref C) -> E (.ref C) none H'
 | .bad => False
def TSd (fx : Nat -> Option V) (E : XK) (t : TS) (f : SS) : Prop := ∀ P H gs σ ν N, StOk K mg fx P H gs σ ν -> PostS K mg fx E P H gs N (f σ) -> t N ν H
variable {K mg}
theorem PostS.from {P H P1 H1 : Hp} {gs gs1 : Nat -> Fp} {N : Ends} {o : OutS} (h : PostS K mg fx E P H gs N o) (s : Go P H (tot gs) P1 H1 (tot gs1)) : PostS K mg fx E P1 H1 gs1 N o := by
 cases o with
 | bad => exact h
 | next σ' => exact fun P' H' gs' ν' s' => h P' H' gs' ν' (s.trans s')
 | brk σ' => exact fun P' H' gs' ν' s' => h P' H' gs' ν' (s.trans s')
 | cont σ' => exact fun P' H' gs' ν' s' => h P' H' gs' ν' (s.trans s')
 | exc c σ' => exact fun P' H' gs' ν' s' => h P' H' gs' ν' (s.trans s')
 | ret d σ' => exact fun P' H' gs' g v ν' s' => h P' H' gs' g v ν' (s.trans s')
theorem PostS.x {P H : Hp} {gs : Nat -> Fp} {N : Ends} {c : Str} {σ' : Env'} {ν : St} (h : PostS K mg fx E P H gs N (.exc c σ')) : PostX K mg fx E P H gs ν c σ' := fun P' H' gs' s S => h P' H' gs' ν s S
def ZaH : SS := fun σ => .next σ
def sSeq (f g : SS) : SS := fun σ => match f σ with
 | .next σ1 => g σ1
 | o => o
theorem ZaA : TSd K mg fx E ZnQ ZaH := fun P H gs σ ν N S post => post P H gs ν .refl S
theorem Zan {t u : TS} {f g : SS} (h : TSd K mg fx E t f) (h' : TSd K mg fx E u g) : TSd K mg fx E (tSeq t u) (sSeq f g) := by
 intro P H gs σ ν N S post
 unfold sSeq at post
 refine h P H gs σ ν _ S ?_
 cases e : f σ with
 | bad => rw [e] at post; exact post
 | next σ1 =>
  rw [e] at post
  exact fun P1 H1 gs1 ν1 s1 S1 => h' P1 H1 gs1 σ1 ν1 N S1 (PostS.from post s1)
 | brk σ1 => rw [e] at post; exact post
 | cont σ1 => rw [e] at post; exact post
 | exc c σ1 => rw [e] at post; exact post
 | ret d σ1 => rw [e] at post; exact post
def Out.th {α : Type} : Out α -> (α -> Env' -> OutS) -> OutS
 | .ok a σ, f => f a σ
 | .exc c σ, _ => .exc c σ
 | .bad, _ => .bad
def ZcB (f : SE) : SS := fun σ => (f σ).th fun _ σ1 => .next σ1
def sRet (f : SE) : SS := fun σ => (f σ).th fun d σ1 => .ret d σ1
def Zpi : SS := fun σ => .ret (.t .non) σ
def sIf (c : ST) (f g : SS) : SS := fun σ => (c σ).th fun k σ1 => if k = true then f σ1 else g σ1
theorem Zba {t : TE} {f : SE} (h : TEd K mg fx E t f) : TSd K mg fx E (ZkW t) (ZcB f) := by
 intro P H gs σ ν N S post
 unfold ZcB at post
 refine h P H gs σ ν _ S ?_
 cases e : f σ with
 | bad => rw [e] at post; exact post
 | exc c σ1 => rw [e] at post; exact PostS.x post
 | ok d σ1 =>
  rw [e] at post
  exact fun P1 H1 gs1 g v s1 S1 _ _ => post P1 H1 gs1 ν (s1.weak fun b h => .inl h) S1
theorem Zaw {t : TE} {f : SE} (h : TEd K mg fx E t f) : TSd K mg fx E (tRet t) (sRet f) := by
 intro P H gs σ ν N S post
 unfold sRet at post
 refine h P H gs σ ν _ S ?_
 cases e : f σ with
 | bad => rw [e] at post; exact post
 | exc c σ1 => rw [e] at post; exact PostS.x post
 | ok d σ1 =>
  rw [e] at post
  exact fun P1 H1 gs1 g v s1 S1 o dj => post P1 H1 gs1 g v ν s1 S1 o dj
theorem Za3 {c : TT} {t u : TS} {sc : ST} {f g : SS} (hc : TTd K mg fx E c sc) (h : TSd K mg fx E t f) (h' : TSd K mg fx E u g) : TSd K mg fx E (tIfS c t u) (sIf sc f g) := by
 intro P H gs σ ν N S post
 unfold sIf at post
 refine hc.run (Q := fun b H1 => if b = true then t N ν H1 else u N ν H1) S (fun c σ' e => by rw [e] at post; exact PostS.x post) (fun e => by rw [e] at post; exact post) fun k σ' e P1 H1 gs1 s1 S1 => ?_
 rw [e] at post
 dsimp only [Out.th] at post
 cases k with
 | true => exact h P1 H1 gs1 σ' ν N S1 (PostS.from post s1)
 | false => exact h' P1 H1 gs1 σ' ν N S1 (PostS.from post s1)
variable (K mg)
def TGd (fx : Nat -> Option V) (g : TG) (k : D -> Env' -> Option Env') : Prop := ∀ P H gs σ ν gd d v (Q : St -> Hp -> Prop), StOk K mg fx P H gs σ ν -> Own K mg P H gd d v -> (∀ b, tot gs b -> ¬ gd b) ->
 (match k d σ with | some σ' => ∀ gs' ν', (∀ b, tot gs' b -> tot gs b \/ gd b) -> StOk K mg fx P H gs' σ' ν' -> Q ν' H | none => False) -> g v ν H Q
def TGsd (fx : Nat -> Option V) (g : TGs) (k : List D -> Env' -> Option Env') : Prop := ∀ P H gs σ ν gd ds vs (Q : St -> Hp -> Prop), StOk K mg fx P H gs σ ν -> OwnL K mg P H gd ds vs -> (∀ b, tot gs b -> ¬ gd b) ->
 (match k ds σ with | some σ' => ∀ gs' ν', (∀ b, tot gs' b -> tot gs b \/ gd b) -> StOk K mg fx P H gs' σ' ν' -> Q ν' H | none => False) -> g vs ν H Q
variable {K mg}
def Zaq (i : Nat) (d : D) (σ : Env') : Option Env' := match σ[i]? with
 | some .e => some (σ.set i (.v d))
 | some (.v _) => some (σ.set i (.v d))
 | _ => none
theorem StOk.store {P H : Hp} {gs : Nat -> Fp} {σ σ1 : Env'} {ν : St} {i : Nat} {d : D} {g : Fp} {v : V} (S : StOk K mg fx P H gs σ ν) (e : Zaq i d σ = some σ1) (o : Own K mg P H g d v) (dj : ∀ b, tot gs b -> ¬ g b) :
 StOk K mg fx P H (fun j => if j = i then g else gs j) σ1 (ν.set i (some v)) /\ ∀ b, tot (fun j => if j = i then g else gs j) b -> tot gs b \/ g b := by
 have key : (σ[i]? = some .e \/ ∃ d0, σ[i]? = some (.v d0)) -> StOk K mg fx P H (fun j => if j = i then g else gs j) (σ.set i (.v d)) (ν.set i (some v)) /\ ∀ b, tot (fun j => if j = i then g else gs j) b -> tot gs b \/ g b := by
  intro hσ
  have hi : i < σ.length := by rcases hσ with h | ⟨_, h⟩ <;> exact Zci h
  have hi' : i < ν.length := S.len ▸ hi
  refine ⟨⟨S.sub, by rw [List.length_set, List.length_set]; exact S.len, fun j d' e' => ?_, fun j b e' => ?_, fun j k b hjk hj hk => ?_, fun j e' => ?_, fun j w h => ?_⟩, fun b ⟨j, h⟩ => ?_⟩
  · by_cases hj : j = i
    · subst hj
      rw [List.getElem?_set_self hi] at e'
      cases (show some d = some d' from e')
      simp only [if_true]
      exact ⟨v, List.getElem?_set_self hi', o⟩
    · rw [List.getElem?_set_ne (Ne.symm hj)] at e'
      simp only [hj, if_false]
      obtain ⟨w, h1, h2⟩ := S.slot j d' e'
      exact ⟨w, by rw [List.getElem?_set_ne (Ne.symm hj)]; exact h1, h2⟩
  · by_cases hj : j = i
    · subst hj
      rw [List.getElem?_set_self hi] at e'
      cases (show some d = none from e')
    · rw [List.getElem?_set_ne (Ne.symm hj)] at e'
      simp only [hj, if_false]
      exact S.emp j b e'
  · by_cases hj' : j = i
    · by_cases hk' : k = i
      · exact hjk (hj'.trans hk'.symm)
      · simp only [hj', if_true] at hj
        simp only [hk', if_false] at hk
        exact dj b ⟨k, hk⟩ hj
    · simp only [hj', if_false] at hj
      by_cases hk' : k = i
      · simp only [hk', if_true] at hk; exact dj b ⟨j, hj⟩ hk
      · simp only [hk', if_false] at hk; exact S.dis j k b hjk hj hk
  · by_cases hj : j = i
    · subst hj
      rw [List.getElem?_set_self hi] at e'
      rcases e' with e' | ⟨_, e'⟩ <;> cases e'
    · rw [List.getElem?_set_ne (Ne.symm hj)] at e'
      obtain ⟨w, h1, h2⟩ := S.fix j e'
      exact ⟨w, h1, by rw [List.getElem?_set_ne (Ne.symm hj)]; exact h2⟩
  · obtain ⟨h1, h2⟩ := S.fixed j w h
    by_cases hj : j = i
    · subst hj
      rcases hσ with h | ⟨_, h⟩ <;> rw [h] at h2 <;> rcases h2 with h2 | ⟨_, h2⟩ <;> cases h2
    · exact ⟨by rw [List.getElem?_set_ne (Ne.symm hj)]; exact h1, by rw [List.getElem?_set_ne (Ne.symm hj)]; exact h2⟩
  · by_cases hj : j = i
    · simp only [hj, if_true] at h; exact .inr h
    · simp only [hj, if_false] at h; exact .inl ⟨j, h⟩
 unfold Zaq at e
 split at e
 · rename_i q; cases e; exact key (.inl q)
 · rename_i d0 q; cases e; exact key (.inr ⟨d0, q⟩)
 · cases e
theorem Zao {i : Nat} : TGd K mg fx (Zhj i) (Zaq i) := by
 intro P H gs σ ν gd d v Q S o dj post
 split at post
 · rename_i σ1 e
   obtain ⟨S1, h⟩ := S.store e o dj
   exact post _ _ h S1
 · exact post.elim
def Zd3 (ds : List D) (σ : Env') : Option Env' := match ds with
 | [] => some σ
 | _ => none
def ZaL (k : D -> Env' -> Option Env') (r : List D -> Env' -> Option Env') (ds : List D) (σ : Env') : Option Env' := match ds with
 | d :: ds => (k d σ).bind (r ds)
 | [] => none
theorem ZeF : TGsd K mg fx gNil Zd3 := by
 intro P H gs σ ν gd ds vs Q S o dj post
 unfold Zd3 at post
 split at post
 · rename_i σ1 e
   split at e
   · cases e
     have := o.len
     cases vs with
     | nil => exact ⟨rfl, post gs ν (fun b h => .inl h) S⟩
     | cons v vs => simp at this
   · cases e
 · exact post.elim
theorem ZaQ {t : TG} {k : D -> Env' -> Option Env'} {u : TGs} {r : List D -> Env' -> Option Env'} (h : TGd K mg fx t k) (h' : TGsd K mg fx u r) : TGsd K mg fx (ZnR t u) (ZaL k r) := by
 intro P H gs σ ν gd ds vs Q S o dj post
 cases ds with
 | nil => exact post.elim
 | cons d ds =>
  cases vs with
  | nil => exact absurd o.len (by simp)
  | cons v vs =>
   obtain ⟨g1, gr, o1, o2, d12, hg⟩ := o.uncons
   refine ⟨v, vs, rfl, ?_⟩
   refine h P H gs σ ν g1 d v _ S o1 (fun b y z => dj b y ((hg b).mpr (.inl z))) ?_
   simp only [ZaL] at post
   cases e : k d σ with
   | none => rw [e] at post; exact post
   | some σ1 =>
    rw [e] at post
    intro gs1 ν1 h1 S1
    refine h' P H gs1 σ1 ν1 gr ds vs Q S1 o2 (fun b y z => ?_) ?_
    · rcases h1 b y with w | w
      · exact dj b w ((hg b).mpr (.inr z))
      · exact d12 b w z
    · dsimp only [Option.bind] at post
      split at post
      · rename_i σ2 e2
        skip
        intro gs2 ν2 h2 S2
        refine post gs2 ν2 (fun b y => ?_) S2
        rcases h2 b y with w | w
        · rcases h1 b w with q | q
          · exact .inl q
          · exact .inr ((hg b).mpr (.inl q))
        · exact .inr ((hg b).mpr (.inr w))
      · exact post.elim
def Zez : D -> Option (List D)
 | .t (.lst ts) => some (ts.map .t)
 | .lst ds => some ds
 | _ => none
def Zd0 : D -> Option (List D)
 | .t (.tup ts) => some (ts.map .t)
 | _ => none
theorem ZiJ {P H : Hp} {ts : List T} {vs : List V} (hl : ts.length = vs.length) (h : ∀ (i : Nat) t v, ts[i]? = some t -> vs[i]? = some v -> Den K mg P t v) : OwnL K mg P H (fun _ => False) (ts.map D.t) vs :=
 ⟨by rw [List.length_map]; exact hl, fun _ _ => False, fun i d v e e' => by
  rw [List.getElem?_map] at e
  cases q : ts[i]? with
  | none => rw [q] at e; cases e
  | some t => rw [q] at e; cases e; exact .t (h i t v q e') fun _ h => h, fun _ _ _ _ h => h.elim, fun _ _ _ h => h, fun b => ⟨fun h => h.elim, fun ⟨_, h⟩ => h⟩⟩
def kTup (parts : D -> Option (List D)) (n : Nat) (r : List D -> Env' -> Option Env') (d : D) (σ : Env') : Option Env' := match parts d with
 | some ds => if ds.length = n then r ds σ else none
 | none => none
theorem ZfV {n : Nat} {t : TGs} {r : List D -> Env' -> Option Env'} (h : TGsd K mg fx t r) : TGd K mg fx (ZmN K n t) (kTup Zez n r) := by
 intro P H gs σ ν gd d v Q S o dj post
 unfold kTup at post
 cases d with
 | t x =>
  cases x with
  | lst ts =>
   cases o with
   | t hd hg =>
    cases hd with
    | @lst _ a vs h1 h2 h3 =>
     simp only [Zez] at post
     split at post
     · rename_i σ1 e
       split at e
       · rename_i hn
         rw [List.length_map] at hn
         refine ⟨a, vs, rfl, .of (S.sub _ _ h1), by omega, ?_⟩
         refine h P H gs σ ν (fun _ => False) _ vs Q S (ZiJ h2 h3) (fun _ _ z => z) ?_
         rw [e]
         exact fun gs' ν' hh S' => post gs' ν' (fun b y => (hh b y).imp id fun z => z.elim) S'
       · cases e
     · exact post.elim
  | _ => exact post.elim
 | lst ds =>
  cases o with
  | @lst _ gg _ a vs h1 h2 h3 h4 h5 h6 h7 h8 =>
   simp only [Zez] at post
   split at post
   · rename_i σ1 e
     split at e
     · rename_i hn
       refine ⟨a, vs, rfl, .of h1, by omega, ?_⟩
       refine h P H gs σ ν (fun b => ∃ i, gg i b) ds vs Q S ⟨h3, gg, h4, h6, h7, fun b => Iff.rfl⟩ (fun b y z => dj b y ((h8 b).mpr (.inr z))) ?_
       rw [e]
       exact fun gs' ν' hh S' => post gs' ν' (fun b y => (hh b y).imp id fun z => (h8 b).mpr (.inr z)) S'
     · cases e
   · exact post.elim
 | _ => exact post.elim
theorem Zl3 {n : Nat} {t : TGs} {r : List D -> Env' -> Option Env'} (h : TGsd K mg fx t r) : TGd K mg fx (gTup K n t) (kTup Zd0 n r) := by
 intro P H gs σ ν gd d v Q S o dj post
 unfold kTup at post
 cases d with
 | t x =>
  cases x with
  | tup ts =>
   cases o with
   | t hd hg =>
    cases hd with
    | @tup _ a vs h1 h2 h3 =>
     simp only [Zd0] at post
     split at post
     · rename_i σ1 e
       split at e
       · rename_i hn
         rw [List.length_map] at hn
         refine ⟨a, vs, rfl, .of (S.sub _ _ h1), by omega, ?_⟩
         refine h P H gs σ ν (fun _ => False) _ vs Q S (ZiJ h2 h3) (fun _ _ z => z) ?_
         rw [e]
         exact fun gs' ν' hh S' => post gs' ν' (fun b y => (hh b y).imp id fun z => z.elim) S'
       · cases e
     · exact post.elim
  | _ => exact post.elim
 | _ => exact post.elim
def sAsg (f : SE) (k : D -> Env' -> Option Env') : SS := fun σ => (f σ).th fun d σ1 => match k d σ1 with
 | some σ2 => .next σ2
 | none => .bad
theorem ZaV {t : TE} {f : SE} {g : TG} {k : D -> Env' -> Option Env'} (h : TEd K mg fx E t f) (hg : TGd K mg fx g k) : TSd K mg fx E (tAsg t g) (sAsg f k) := by
 intro P H gs σ ν N S post
 unfold sAsg at post
 refine h P H gs σ ν _ S ?_
 cases e : f σ with
 | bad => rw [e] at post; exact post
 | exc c σ1 => rw [e] at post; exact PostS.x post
 | ok d σ1 =>
  rw [e] at post
  dsimp only [Out.th] at post
  intro P1 H1 gs1 g1 v s1 S1 o dj
  refine hg P1 H1 gs1 σ1 ν g1 d v _ S1 o dj ?_
  split at post
  · rename_i σ2 e2
    skip
    exact fun gs2 ν2 h2 S2 => post P1 H1 gs2 ν2 (s1.weak h2) S2
  · exact post.elim
variable (K mg)
def ItD (P : Hp) (J : It) (ts : List T) : Prop := ∀ P' H', Sub P P' -> Sub P' H' ->
 (∀ (i : Nat) t, ts[i]? = some t -> J.go i H' /\ ∀ x H2, J.yld i H' x H2 -> ∃ P2, Go P' H' (fun _ => False) P2 H2 (fun _ => False) /\ Sub P2 H2 /\ Den K mg P2 t x) /\ J.stop ts.length H'
abbrev SI := Env' -> Out (List T)
def Zpj (fx : Nat -> Option V) (E : XK) (P H : Hp) (gs : Nat -> Fp) (ν : St) (R : It -> Hp -> Prop) : Out (List T) -> Prop
 | .ok ts σ' => ∀ P' H' gs' J, Go P H (tot gs) P' H' (tot gs') -> StOk K mg fx P' H' gs' σ' ν -> ItD K mg P' J ts -> R J H'
 | .exc c σ' => PostX K mg fx E P H gs ν c σ'
 | .bad => False
def TId (fx : Nat -> Option V) (E : XK) (w : TI) (f : SI) : Prop := ∀ P H gs σ ν R, StOk K mg fx P H gs σ ν -> Zpj K mg fx E P H gs ν R (f σ) -> w ν H R
variable {K mg}
def forS (k : D -> Env' -> Option Env') (body : SS) : List T -> Env' -> OutS
 | [], σ => .next σ
 | t :: ts, σ => match k (.t t) σ with
  | some σ1 => (match body σ1 with
   | .next σ2 => forS k body ts σ2
   | .cont σ2 => forS k body ts σ2
   | .brk σ2 => .next σ2
   | o => o)
  | none => .bad
def sFor (fi : SI) (k : D -> Env' -> Option Env') (body : SS) : SS := fun σ => (fi σ).th fun ts σ1 => forS k body ts σ1
theorem Zd9 {w : TI} {fi : SI} {g : TG} {k : D -> Env' -> Option Env'} {tb : TS} {body : SS} (hi : TId K mg fx E w fi) (hg : TGd K mg fx g k) (hb : TSd K mg fx E tb body) : TSd K mg fx E (tFor w g tb) (sFor fi k body) := by
 intro P H gs σ ν N S post
 unfold sFor at post
 refine hi P H gs σ ν _ S ?_
 cases e : fi σ with
 | bad => rw [e] at post; exact post
 | exc c σ1 => rw [e] at post; exact PostS.x post
 | ok ts σ1 =>
  rw [e] at post
  dsimp only [Out.th] at post
  intro P1 H1 gs1 J s1 S1 hJ
  have post1 := PostS.from post s1
  refine ⟨fun i m ν' H' => m = ts.length - i /\ i <= ts.length /\ ∃ P' gs' σ', Go P1 H1 (tot gs1) P' H' (tot gs') /\ StOk K mg fx P' H' gs' σ' ν' /\ PostS K mg fx E P' H' gs' N (forS k body (ts.drop i) σ'), ⟨ts.length, by simp, Nat.zero_le _, P1, gs1, σ1, .refl, S1, post1⟩, ?_⟩
  rintro i m ν' H' ⟨rfl, hle, P', gs', σ', s', S', p'⟩
  obtain ⟨hgo, hstop⟩ := hJ P' H' s'.mono S'.sub
  by_cases hlt : i < ts.length
  · obtain ⟨t, ht⟩ := Zdr hlt
    have hd : ts.drop i = t :: ts.drop (i + 1) := by
     rw [List.drop_eq_getElem_cons hlt]
     rw [List.getElem?_eq_getElem hlt] at ht
     rw [Option.some.inj ht]
    rw [hd] at p'
    obtain ⟨go, yld⟩ := hgo i t ht
    refine .inr ⟨go, fun ν2 H2 => ts.length - (i + 1) = ts.length - (i + 1) /\ i + 1 <= ts.length /\ ∃ P' gs' σ', Go P1 H1 (tot gs1) P' H2 (tot gs') /\ StOk K mg fx P' H2 gs' σ' ν2 /\ PostS K mg fx E P' H2 gs' N (forS k body (ts.drop (i + 1)) σ'), fun ν2 H2 h => ⟨_, by omega, h⟩, fun x H2 y => ?_⟩
    obtain ⟨P2, s2, sb2, hx⟩ := yld x H2 y
    have S2 := S'.go s2 sb2 fun _ _ z => z
    have s2' : Go P' H' (tot gs') P2 H2 (tot gs') := (s2.alloc (F := tot gs')).weak fun b h => .inl h
    refine hg P2 H2 gs' σ' ν' (fun _ => False) (.t t) x _ S2 (.t hx fun _ h => h) (fun _ _ z => z) ?_
    simp only [forS] at p'
    split at p'
    · rename_i σ3 e3
      skip
      intro gs3 ν3 h3 S3
      have s3 : Go P' H' (tot gs') P2 H2 (tot gs3) := s2'.weak fun b h => (h3 b h).elim id fun z => z.elim
      refine hb P2 H2 gs3 σ3 ν3 _ S3 ?_
      cases eb : body σ3 with
      | bad => rw [eb] at p'; exact p'
      | next σ4 =>
       rw [eb] at p'
       exact fun P4 H4 gs4 ν4 s4 S4 => ⟨rfl, hlt, P4, gs4, σ4, s'.trans (s3.trans s4), S4, PostS.from p' (s3.trans s4)⟩
      | cont σ4 =>
       rw [eb] at p'
       exact fun P4 H4 gs4 ν4 s4 S4 => ⟨rfl, hlt, P4, gs4, σ4, s'.trans (s3.trans s4), S4, PostS.from p' (s3.trans s4)⟩
      | brk σ4 =>
       rw [eb] at p'
       exact fun P4 H4 gs4 ν4 s4 S4 => p' P4 H4 gs4 ν4 (s3.trans s4) S4
      | ret d σ4 =>
       rw [eb] at p'
       exact fun P4 H4 gs4 g4 v4 ν4 s4 S4 => p' P4 H4 gs4 g4 v4 ν4 (s3.trans s4) S4
      | exc c σ4 =>
       rw [eb] at p'
       exact fun P4 H4 gs4 ν4 s4 S4 => p' P4 H4 gs4 ν4 (s3.trans s4) S4
    · exact p'.elim
  · have ei : i = ts.length := by omega
    subst ei
    rw [List.drop_length] at p'
    exact .inl ⟨hstop, p' P' H' gs' ν' .refl S'⟩
end DL
set_option autoImplicit false
namespace DL
open PySem L2
variable {K : PySem.W.Frag} {mg : Str -> Option Value} {fx : Nat -> Option V} {E : XK}
def isT : D -> Bool
 | .t _ => true
 | _ => false
def Zif : D -> Sl
 | .t x => .v (.t x)
 | d => .x d
theorem Zkf (d : D) : (Zif d).get = some d := by cases d <;> rfl
def ZbN (n : Nat) (ds : List D) : Env' := ds.map Zif ++ List.replicate (n - ds.length) .e
def outA : List D -> Env' -> Option (List D)
 | [], _ => some []
 | .t x :: ds, _ :: σ => (outA ds σ).map (.t x :: ·)
 | _ :: ds, .x d :: σ => (outA ds σ).map (d :: ·)
 | _, _ => none
theorem Zkg : ∀ {ds : List D} {σ : Env'} {ds' : List D}, outA ds σ = some ds' -> ds'.length = ds.length /\ ∀ (i : Nat) d, ds[i]? = some d -> ∃ d', ds'[i]? = some d' /\ (isT d = true /\ d' = d \/ isT d = false /\ σ[i]? = some (.x d'))
 | [], σ, ds', e => by
  simp only [outA] at e
  cases e
  exact ⟨rfl, fun i d h => by simp at h⟩
 | d0 :: ds, [], ds', e => by cases d0 <;> simp [outA] at e
 | d0 :: ds, s :: σ, ds', e => by
  have step : ∀ d1, (outA ds σ).map (d1 :: ·) = some ds' -> (isT d0 = true /\ d1 = d0 \/ isT d0 = false /\ s = .x d1) -> ds'.length = (d0 :: ds).length /\ ∀ (i : Nat) d, (d0 :: ds)[i]? = some d -> ∃ d', ds'[i]? = some d' /\ (isT d = true /\ d' = d \/ isT d = false /\ (s :: σ)[i]? = some (.x d')) := by
   intro d1 e h
   cases q : outA ds σ with
   | none => rw [q] at e; cases e
   | some r =>
    rw [q] at e
    cases e
    obtain ⟨l, k⟩ := Zkg q
    refine ⟨by simp [l], fun i d hd => ?_⟩
    cases i with
    | zero =>
     simp at hd
     subst hd
     exact ⟨d1, rfl, h.imp id fun z => ⟨z.1, by rw [z.2]; rfl⟩⟩
    | succ i =>
     obtain ⟨d', h1, h2⟩ := k i d (by simpa using hd)
     exact ⟨d', by simpa using h1, h2.imp id fun z => ⟨z.1, by simpa using z.2⟩⟩
  cases d0 with
  | t x => exact step (.t x) (by simpa only [outA] using e) (.inl ⟨rfl, rfl⟩)
  | lst l => cases s with
   | x d => exact step d (by simpa only [outA] using e) (.inr ⟨rfl, rfl⟩)
   | _ => simp [outA] at e
  | dct l => cases s with
   | x d => exact step d (by simpa only [outA] using e) (.inr ⟨rfl, rfl⟩)
   | _ => simp [outA] at e
  | obj c l => cases s with
   | x d => exact step d (by simpa only [outA] using e) (.inr ⟨rfl, rfl⟩)
   | _ => simp [outA] at e
def FO.of (o : Option FO) : FO := o.getD .bad
def runF (n : Nat) (body : SS) (ds : List D) : FO := match body (ZbN n ds) with
 | .next σ => .of ((outA ds σ).map (.ret (.t .non)))
 | .ret d σ => .of ((outA ds σ).map (.ret d))
 | .exc c σ => .of ((outA ds σ).map (.exc c))
 | _ => .bad
theorem StOk.args {P H P' H' : Hp} {g : Fp} {ds ds' : List D} {vs : List V} {σ' : Env'} {ν' : St} {gs' : Nat -> Fp} (own : OwnL K mg P H g ds vs) (mono : Sub P P')
 (S : StOk K mg (fun i => match ds[i]? with | some d => if isT d = true then none else vs[i]? | none => none) P' H' gs' σ' ν') (e : outA ds σ' = some ds') :
 OwnL K mg P' H' (fun b => ∃ i, (match ds[i]? with | some d => isT d = false | none => False) /\ gs' i b) ds' vs := by
 obtain ⟨hl, gs, h1, h2, h3, h4⟩ := own
 obtain ⟨l, k⟩ := Zkg e
 refine ⟨by rw [l]; exact hl, fun i b => (match ds[i]? with | some d => isT d = false | none => False) /\ gs' i b, fun i d' v hd hv => ?_, fun i j b hij hi hj => S.dis i j b hij hi.2 hj.2, fun i b hle hi => ?_, fun b => Iff.rfl⟩
 · have hi : i < ds.length := by have := Zci hd; omega
   obtain ⟨d, hd0⟩ := Zdr hi
   obtain ⟨d2, q1, q2⟩ := k i d hd0
   rw [hd] at q1
   cases q1
   rcases q2 with ⟨t1, t2⟩ | ⟨t1, t2⟩
   · subst t2
     cases d' with
     | t x =>
      have o := h1 i _ v hd0 hv
      cases o with
      | t hx _ =>
       refine .t (hx.mono mono) fun b z => ?_
       dsimp only at z
       rw [hd0] at z
       exact absurd z.1 (by simp [isT])
     | _ => cases t1
   · obtain ⟨w, f1, f2⟩ := S.fix i (.inr ⟨d', t2⟩)
     rw [hd0] at f1
     dsimp only at f1
     rw [if_neg (by rw [t1]; exact Bool.false_ne_true), hv] at f1
     cases f1
     obtain ⟨v2, g1, g2⟩ := S.slot i d' (by rw [t2]; rfl)
     rw [f2] at g1
     cases g1
     have eg : (fun b => (match ds[i]? with | some d => isT d = false | none => False) /\ gs' i b) = gs' i := by
      funext b
      rw [hd0]
      exact propext ⟨fun z => z.2, fun z => ⟨t1, z⟩⟩
     show Own K mg P' H' (fun b => (match ds[i]? with | some d => isT d = false | none => False) /\ gs' i b) d' v
     rw [eg]
     exact g2
 · have : ds[i]? = none := List.getElem?_eq_none (by omega)
   dsimp only at hi
   rw [this] at hi
   exact hi.1
theorem Zl4 {t : TS} {body : SS} {N : List Str} {n : Nat} {F : List D -> FO} {vs : List V} {H : Hp} {Q : VK} (hF : ∀ ds, F ds = .bad \/ F ds = runF N.length body ds) (h : ∀ fx, TSd K mg fx E t body) (hn : n <= N.length) (hsp : spF K mg n F vs H Q E) :
 t { nx := fun _ H' => Q .non H', rt := Q } (L2.start N vs) H := by
 obtain ⟨hvs, P, g, ds, sub, own, post⟩ := hsp
 have own' := own
 obtain ⟨hl, gs, h1, h2, h3, h4⟩ := own
 have Sget : ∀ (i : Nat), ((ZbN N.length ds)[i]?).bind Sl.get = ds[i]? := fun i => by
  unfold ZbN
  by_cases hi : i < ds.length
  · rw [List.getElem?_append_left (by simpa using hi), List.getElem?_map]
    obtain ⟨d, e⟩ := Zdr hi
    rw [e]
    exact Zkf d
  · rw [List.getElem?_append_right (by simpa using hi), List.getElem?_replicate, List.getElem?_eq_none (by omega)]
    split <;> rfl
 have Sx : ∀ (i : Nat), ((ZbN N.length ds)[i]? = some .h \/ ∃ d, (ZbN N.length ds)[i]? = some (.x d)) -> ∃ d, ds[i]? = some d /\ isT d = false /\ (ZbN N.length ds)[i]? = some (.x d) := fun i hx => by
  unfold ZbN at hx ⊢
  by_cases hi : i < ds.length
  · rw [List.getElem?_append_left (by simpa using hi), List.getElem?_map] at hx ⊢
    obtain ⟨d, e⟩ := Zdr hi
    rw [e] at hx ⊢
    cases d with
    | t x => rcases hx with hx | ⟨_, hx⟩ <;> cases hx
    | lst l => exact ⟨_, rfl, rfl, rfl⟩
    | dct l => exact ⟨_, rfl, rfl, rfl⟩
    | obj c l => exact ⟨_, rfl, rfl, rfl⟩
  · rw [List.getElem?_append_right (by simpa using hi), List.getElem?_replicate] at hx
    split at hx <;> rcases hx with hx | ⟨_, hx⟩ <;> cases hx
 have Vget : ∀ (i : Nat), i < vs.length -> (L2.start N vs)[i]? = (vs[i]?).map some := fun i hi => by
  unfold L2.start
  rw [List.getElem?_append_left (by simpa using hi), List.getElem?_map]
 have S : StOk K mg (fun i => match ds[i]? with | some d => if isT d = true then none else vs[i]? | none => none) P H gs (ZbN N.length ds) (L2.start N vs) := by
  refine ⟨sub, ?_, fun i d e => ?_, fun i b e hb => ?_, h2, fun i hx => ?_, fun i v hv => ?_⟩
  · unfold ZbN L2.start
    rw [List.length_append, List.length_map, List.length_replicate, List.length_append, List.length_map, List.length_replicate, hl]
  · rw [Sget] at e
    have hi : i < vs.length := by have := Zci e; omega
    obtain ⟨v, hv⟩ := Zdr hi
    exact ⟨v, by rw [Vget i hi, hv]; rfl, h1 i d v e hv⟩
  · rw [Sget] at e
    exact h3 i b (List.getElem?_eq_none_iff.mp e) hb
  · obtain ⟨d, e1, e2, e3⟩ := Sx i hx
    have hi : i < vs.length := by have := Zci e1; omega
    obtain ⟨v, hv⟩ := Zdr hi
    exact ⟨v, by rw [e1]; dsimp only; rw [if_neg (by rw [e2]; exact Bool.false_ne_true)]; exact hv, by rw [Vget i hi, hv]; rfl⟩
  · cases e : ds[i]? with
    | none => rw [e] at hv; cases hv
    | some d =>
     rw [e] at hv
     dsimp only at hv
     by_cases ht : isT d = true
     · rw [if_pos ht] at hv; cases hv
     · rw [if_neg ht] at hv
       refine ⟨by rw [Vget i (Zci hv), hv]; rfl, .inr ⟨d, ?_⟩⟩
       unfold ZbN
       rw [List.getElem?_append_left (by simpa using Zci e), List.getElem?_map, e]
       cases d with
       | t x => exact absurd rfl ht
       | _ => rfl
 refine h _ P H gs _ _ _ S ?_
 rcases hF ds with hb | hb
 · rw [hb] at post; exact post.elim
 rw [hb] at post
 unfold runF at post
 have tg : ∀ b, tot gs b -> g b := fun b z => (h4 b).mpr z
 have gt : ∀ b, g b -> tot gs b := fun b z => (h4 b).mp z
 have sub2 : ∀ {gs' : Nat -> Fp} {b : Addr}, (∃ i, (match ds[i]? with | some d => isT d = false | none => False) /\ gs' i b) -> tot gs' b := fun ⟨i, z⟩ => ⟨i, z.2⟩
 cases eb : body (ZbN N.length ds) with
 | bad => rw [eb] at post; exact post
 | brk σ' => rw [eb] at post; exact post.elim
 | cont σ' => rw [eb] at post; exact post.elim
 | next σ' =>
  rw [eb] at post
  dsimp only at post
  intro P' H' gs' ν' s S'
  cases eo : outA ds σ' with
  | none => rw [eo] at post; exact post.elim
  | some ds' =>
   rw [eo] at post
   exact post P' H' _ (fun _ => False) .non ⟨s.mono, fun b o n z => s.frame b o (fun y => n (tg b y)) z, fun b z => (s.new b (z.elim sub2 fun y => y.elim)).imp (tg b) id, fun b o z => (s.pnew b o z).imp id fun y => y.imp (tg b) id⟩ S'.sub (StOk.args own' s.mono S' eo) (.t .non fun _ h => h) fun _ _ h => h
 | ret d σ' =>
  rw [eb] at post
  dsimp only at post
  intro P' H' gs' gd v ν' s S' od dj
  cases eo : outA ds σ' with
  | none => rw [eo] at post; exact post.elim
  | some ds' =>
   rw [eo] at post
   exact post P' H' _ gd v ⟨s.mono, fun b o n z => s.frame b o (fun y => n (tg b y)) z, fun b z => (s.new b (z.imp sub2 id)).imp (tg b) id, fun b o z => (s.pnew b o z).imp id fun y => y.imp (tg b) id⟩ S'.sub (StOk.args own' s.mono S' eo) od fun b z y => dj b (sub2 z) y
 | exc c σ' =>
  rw [eb] at post
  dsimp only at post
  intro P' H' gs' ν' s S' C hC
  cases eo : outA ds σ' with
  | none => rw [eo] at post; exact post.elim
  | some ds' =>
   rw [eo] at post
   exact post P' H' _ ⟨s.mono, fun b o n z => s.frame b o (fun y => n (tg b y)) z, fun b z => (s.new b (sub2 z)).imp (tg b) id, fun b o z => (s.pnew b o z).imp id fun y => y.imp (tg b) id⟩ S'.sub (StOk.args own' s.mono S' eo) C hC
end DL
set_option autoImplicit false
namespace DL
open PySem L2
variable {K : PySem.W.Frag} {mg : Str -> Option Value} {fx : Nat -> Option V} {E : XK}
theorem Sub.fresh {P H : Hp} (s : Sub P H) {l : Addr} (h : H l = none) : P l = none := by
 cases q : P l with
 | none => rfl
 | some o => rw [s l o q] at h; cases h
theorem Zl5 {P H : Hp} {g : Fp} {ds : List D} {vs : List V} {l : Addr} (s : Sub P H) (o : OwnL K mg P H g ds vs) (hl : H l = none) : Own K mg P (upd H l (.lst vs)) (fun b => b = l \/ g b) (.lst ds) (.ref l) /\ Sub P (upd H l (.lst vs)) /\ ¬ g l := by
 have hP := s.fresh hl
 have ng : ¬ g l := fun z => by
  obtain ⟨⟨w, e⟩, _⟩ := o.at l z
  rw [hl] at e; cases e
 obtain ⟨hn, gs, h1, h2, h3, h4⟩ := o
 refine ⟨.lst (gs := gs) ZaG hP hn (fun i d v e e' => ?_) (fun i z => ng ((h4 l).mpr ⟨i, z⟩)) h2 h3 fun b => by rw [h4 b], fun b w e => by rw [Zap (Zak e hP)]; exact s b w e, ng⟩
 have q := h1 i d v e e'
 exact q.frame (.refl _) (fun b w _ z => by rw [Zap (Zak z hl)]; exact z) fun b z => (q.at b z).2
def eLst (fa : SA) : SE := fun σ => (fa σ).bnd fun ds σ1 => if ds.length <= 1000 then .ok (.lst ds) σ1 else .bad
theorem ZaM {ta : TA} {fa : SA} {io : List (Option Nat)} (ha : TLd K mg fx E io ta fa) : TEd K mg fx E (tLst ta) (eLst fa) := by
 intro P H gs σ ν Q S post
 unfold eLst at post
 refine ha P H gs σ ν _ S ?_
 cases e : fa σ with
 | bad => rw [e] at post; exact post
 | exc c σ1 => rw [e] at post; exact post
 | ok ds σ1 =>
  rw [e] at post
  dsimp only [Out.bnd] at post
  intro P1 H1 gs1 g1 vs s1 S1 o1 dj1 _
  have hn : ds.length <= 1000 := Decidable.byContradiction fun z => by rw [if_neg z] at post; exact post
  rw [if_pos hn] at post
  refine ⟨by rw [<- o1.len]; exact Nat.le_of_lt (Zhw hn), fun p hp => ?_⟩
  obtain ⟨ol, sb, ng⟩ := Zl5 S1.sub o1 hp
  refine post P1 (upd H1 p (.lst vs)) gs1 _ (.ref p) ⟨s1.mono, fun b w n z => by rw [Zap (Zak (s1.frame b w n z) hp)]; exact s1.frame b w n z, fun b z => ?_, s1.pnew⟩ ?_ ol fun b z y => ?_
  · rcases z with z | z | z
    · exact s1.new b (.inl z)
    · rw [z]
      by_cases q : tot gs p
      · exact .inl q
      · cases w : H p with
        | none => exact .inr rfl
        | some o => rw [s1.frame p o q w] at hp; cases hp
    · exact s1.new b (.inr z)
  · exact ⟨sb, S1.len, fun i d e => by
     obtain ⟨v, q1, q2⟩ := S1.slot i d e
     exact ⟨v, q1, q2.frame (.refl _) (fun b w _ z => by rw [Zap (Zak z hp)]; exact z) fun b z => (q2.at b z).2⟩, S1.emp, S1.dis, S1.fix, S1.fixed⟩
  · rcases y with y | y
    · obtain ⟨⟨o, w⟩, _⟩ := S1.here z
      rw [y, hp] at w; cases w
    · exact dj1 b z y
theorem OwnL.den {P H P' : Hp} {g : Fp} {ds : List D} {vs : List V} (o : OwnL K mg P H g ds vs) (sP : Sub P P') (hg : ∀ b w, g b -> H b = some w -> P' b = some w) : ∀ (i : Nat) t v, (ds.map frz)[i]? = some t -> vs[i]? = some v -> Den K mg P' t v := fun i t v e e' => by
 obtain ⟨hn, gs, h1, h2, h3, h4⟩ := o
 rw [List.getElem?_map] at e
 cases q : ds[i]? with
 | none => rw [q] at e; cases e
 | some d =>
  rw [q] at e
  cases e
  exact (h1 i d v q e').den sP fun b w z => hg b w ((h4 b).mpr ⟨i, z⟩)
def eTup (fa : SA) : SE := fun σ => (fa σ).bnd fun ds σ1 => if ds.length <= 1000 then .ok (.t (.tup (ds.map frz))) σ1 else .bad
theorem Zft {ta : TA} {fa : SA} {io : List (Option Nat)} (ha : TLd K mg fx E io ta fa) : TEd K mg fx E (tTup ta) (eTup fa) := by
 intro P H gs σ ν Q S post
 unfold eTup at post
 refine ha P H gs σ ν _ S ?_
 cases e : fa σ with
 | bad => rw [e] at post; exact post
 | exc c σ1 => rw [e] at post; exact post
 | ok ds σ1 =>
  rw [e] at post
  dsimp only [Out.bnd] at post
  intro P1 H1 gs1 g1 vs s1 S1 o1 dj1 _
  have hn : ds.length <= 1000 := Decidable.byContradiction fun z => by rw [if_neg z] at post; exact post
  rw [if_pos hn] at post
  refine ⟨by rw [<- o1.len]; exact Nat.le_of_lt (Zhw hn), fun p hp => ?_⟩
  have hg : ∀ b, g1 b -> P1 b = none := fun b z => (o1.at b z).2
  have fp : froz P1 H1 g1 p = none := (ZeV S1.sub).fresh hp
  have u1 : Sub (froz P1 H1 g1) (upd (froz P1 H1 g1) p (.tup vs)) := fun b w z => by rw [Zap (Zak z fp)]; exact z
  have u2 : Sub (upd (froz P1 H1 g1) p (.tup vs)) (upd H1 p (.tup vs)) := fun b w z => by
   by_cases q : b = p
   · subst q; rw [ZaG] at z ⊢; exact z
   · rw [Zap q] at z ⊢; exact ZeV S1.sub b w z
  refine okT (P1 := upd (froz P1 H1 g1) p (.tup vs)) (H1 := upd H1 p (.tup vs)) (gs1 := gs1) post ⟨(s1.mono.trans (ZcA hg)).trans u1, fun b w n z => by rw [Zap (Zak (s1.frame b w n z) hp)]; exact s1.frame b w n z, fun b z => s1.new b (.inl z), fun b w z => ?_⟩
   ⟨u2, S1.len, fun i d e => ?_, S1.emp, S1.dis, S1.fix, S1.fixed⟩ (.tup ZaG (by rw [List.length_map]; exact o1.len) (o1.den ((ZcA hg).trans u1) fun b w z q => u1 b w (by rw [ZeE z]; exact q)))
  · by_cases q : b = p
    · rw [q]
      by_cases q2 : tot gs p
      · exact .inr (.inl q2)
      · cases w2 : H p with
        | none => exact .inr (.inr rfl)
        | some o => rw [s1.frame p o q2 w2] at hp; cases hp
    · rw [Zap q] at z
      by_cases q3 : g1 b
      · exact (s1.new b (.inr q3)).elim (fun y => .inr (.inl y)) fun y => .inr (.inr y)
      · rw [Zdd q3] at z; exact s1.pnew b w z
  · obtain ⟨v, q1, q2⟩ := S1.slot i d e
    refine ⟨v, q1, q2.frame ((ZcA hg).trans u1) (fun b w _ z => by rw [Zap (Zak z hp)]; exact z) fun b z => ?_⟩
    obtain ⟨⟨o, w⟩, w2⟩ := q2.at b z
    rw [Zap (Zak w hp), Zdd (dj1 b ⟨i, z⟩)]
    exact w2
theorem StOk.freeze {P H : Hp} {gs : Nat -> Fp} {σ : Env'} {ν : St} {i : Nat} {d : D} (S : StOk K mg fx P H gs σ ν) (e : σ[i]? = some (.v d)) :
 ∃ P' gs', Go P H (tot gs) P' H (tot gs') /\ StOk K mg fx P' H gs' (σ.set i (.v (.t (frz d)))) ν := by
 obtain ⟨v, hv, o⟩ := S.slot i d (by rw [e]; rfl)
 have hg : ∀ b, gs i b -> P b = none := fun b h => (o.at b h).2
 have hi := Zci e
 have S0 := S.lend (i := i) (d := d) (σ1 := σ.set i .e) (by unfold DL.lend; rw [e])
 obtain ⟨v', hv', o', S1, dj, ht⟩ := S0
 obtain ⟨P', s', S', dn⟩ := S1.temp o' dj
 have ep : DL.put i (.t (frz d)) (σ.set i .e) = some ((σ.set i .e).set i (.v (.t (frz d)))) := by unfold DL.put; rw [List.getElem?_set_self hi]
 obtain ⟨S2, h2⟩ := S'.put (g := fun _ => False) ep hv' (.t dn fun _ h => h) fun _ _ h => h
 rw [List.set_set] at S2
 refine ⟨P', _, ⟨s'.mono, fun b w n z => z, fun b z => ?_, fun b w z => ?_⟩, S2⟩
 · rcases (h2 b).mp z with y | y
   · exact y.elim
   · exact .inl ((ht b).mpr (.inr y))
 · rcases s'.pnew b w z with y | (y | y) | y
   · exact .inl y
   · exact .inr (.inl ((ht b).mpr (.inr y)))
   · exact .inr (.inl ((ht b).mpr (.inl y)))
   · exact .inr (.inr y)
def Za4 : List (Option Nat) -> Env' -> Option Env'
 | [], σ => some σ
 | none :: r, σ => Za4 r σ
 | some i :: r, σ => match σ[i]? with
  | some (.v d) => Za4 r (σ.set i (.v (.t (frz d))))
  | _ => none
theorem StOk.freezes {H : Hp} {ν : St} : ∀ {caps : List (Option Nat)} {P : Hp} {gs : Nat -> Fp} {σ σ' : Env'}, StOk K mg fx P H gs σ ν -> Za4 caps σ = some σ' -> ∃ P' gs', Go P H (tot gs) P' H (tot gs') /\ StOk K mg fx P' H gs' σ' ν
 | [], P, gs, σ, σ', S, e => by
  simp only [Za4] at e
  cases e
  exact ⟨P, gs, .refl, S⟩
 | none :: r, P, gs, σ, σ', S, e => StOk.freezes (caps := r) S (by simpa only [Za4] using e)
 | some i :: r, P, gs, σ, σ', S, e => by
  simp only [Za4] at e
  split at e
  · rename_i d q
    obtain ⟨P1, gs1, s1, S1⟩ := S.freeze q
    obtain ⟨P2, gs2, s2, S2⟩ := StOk.freezes (caps := r) S1 e
    exact ⟨P2, gs2, s1.trans s2, S2⟩
  · cases e
def capE (σ : Env') : List (Option Nat) -> Option Env'
 | [] => some []
 | none :: r => (capE σ r).map (.e :: ·)
 | some j :: r => match σ[j]? with
  | some (.v (.t x)) => (capE σ r).map (.v (.t x) :: ·)
  | _ => none
theorem StOk.capt {P H : Hp} {gs : Nat -> Fp} {σ : Env'} {ν : St} (S : StOk K mg fx P H gs σ ν) : ∀ {caps : List (Option Nat)} {σi : Env'}, capE σ caps = some σi ->
 σi.length = (capt ν caps).length /\ (∀ (i : Nat) d, (σi[i]?).bind Sl.get = some d -> ∃ v, (capt ν caps)[i]? = some (some v) /\ Own K mg P H (fun _ => False) d v) /\ (∀ i : Nat, σi[i]? = some .h \/ (∃ d, σi[i]? = some (.x d)) -> False)
 | [], σi, e => by
  simp only [capE] at e
  cases e
  exact ⟨rfl, fun i d h => by simp at h, fun i h => by simp at h⟩
 | none :: r, σi, e => by
  simp only [capE] at e
  cases q : capE σ r with
  | none => rw [q] at e; cases e
  | some σr =>
   rw [q] at e
   cases e
   obtain ⟨a, b, c⟩ := StOk.capt S q
   refine ⟨by simpa [L2.capt] using a, fun i d h => ?_, fun i h => ?_⟩
   · cases i with
     | zero => cases (show (none : Option D) = some d from h)
     | succ i => exact b i d (by simpa using h)
   · cases i with
     | zero => rcases h with h | ⟨_, h⟩ <;> cases h
     | succ i => exact c i (by simpa using h)
 | some j :: r, σi, e => by
  simp only [capE] at e
  split at e
  · rename_i x hx
    cases q : capE σ r with
    | none => rw [q] at e; cases e
    | some σr =>
     rw [q] at e
     cases e
     obtain ⟨a, b, c⟩ := StOk.capt S q
     obtain ⟨v, hv, o⟩ := S.slot j (.t x) (by rw [hx]; rfl)
     refine ⟨by simpa [L2.capt] using a, fun i d h => ?_, fun i h => ?_⟩
     · cases i with
       | zero =>
        cases (show some (D.t x) = some d from h)
        refine ⟨v, by simp [L2.capt, hv], ?_⟩
        cases o with
        | t h1 _ => exact .t h1 fun _ h => h
       | succ i => exact b i d (by simpa using h)
     · cases i with
       | zero => rcases h with h | ⟨_, h⟩ <;> cases h
       | succ i => exact c i (by simpa using h)
  · cases e
theorem StOk.block {P H : Hp} {gs : Nat -> Fp} {σ σi : Env'} {ν : St} {caps : List (Option Nat)} (S : StOk K mg fx P H gs σ ν) (e : capE σ caps = some σi) : StOk K mg (fun _ => none) P H (fun _ _ => False) σi (L2.capt ν caps) := by
 obtain ⟨a, b, c⟩ := StOk.capt S e
 exact ⟨S.sub, a, b, fun _ _ _ h => h, fun _ _ _ _ h => h.elim, fun i h => (c i h).elim, fun i v h => nomatch h⟩
def Zck (k : D -> Env' -> Option Env') (ft : ST) (fe : SE) : List T -> Env' -> Option (List D)
 | [], _ => some []
 | t :: ts, σ => (k (.t t) σ).bind fun σ1 => match ft σ1 with
  | .ok true σ2 => (match fe σ2 with
   | .ok d σ3 => (Zck k ft fe ts σ3).map (d :: ·)
   | _ => none)
  | .ok false σ2 => Zck k ft fe ts σ2
  | _ => none
def Zcl (fi : SI) (caps : List (Option Nat)) (k : D -> Env' -> Option Env') (ft : ST) (fe : SE) : SE := fun σ => (fi σ).bnd fun ts σ1 => if ts.length < sizeLine then (match Za4 caps σ1 with
 | some σ2 => (match capE σ2 caps with
  | some σi => (match Zck k ft fe ts σi with
   | some ds => .ok (.lst ds) σ2
   | none => .bad)
  | none => .bad)
 | none => .bad) else .bad
theorem OwnL.snoc {P H : Hp} : ∀ {ds : List D} {vs : List V} {g gd : Fp} {d : D} {v : V}, OwnL K mg P H g ds vs -> Own K mg P H gd d v -> (∀ b, g b -> ¬ gd b) -> OwnL K mg P H (fun b => g b \/ gd b) (ds ++ [d]) (vs ++ [v])
 | [], [], g, gd, d, v, o, od, dj => by
  have := OwnL.cons od (OwnL.nil (K := K) (mg := mg) (P := P) (H := H)) fun b _ h => h
  obtain ⟨hn, gs, h1, h2, h3, h4⟩ := o
  have e : (fun b => g b \/ gd b) = fun b => gd b \/ False := by
   funext b
   refine propext ⟨fun h => h.elim (fun z => ?_) .inl, fun h => h.elim .inr fun z => z.elim⟩
   obtain ⟨i, z⟩ := (h4 b).mp z
   exact absurd z (h3 i b (Nat.zero_le _))
  rw [e]
  exact this
 | [], w :: vs, g, gd, d, v, o, od, dj => absurd o.len (by simp)
 | x :: ds, [], g, gd, d, v, o, od, dj => absurd o.len (by simp)
 | x :: ds, w :: vs, g, gd, d, v, o, od, dj => by
  obtain ⟨g1, gr, o1, o2, d12, hg⟩ := o.uncons
  have := OwnL.cons o1 (OwnL.snoc o2 od fun b z => dj b ((hg b).mpr (.inr z))) fun b z y => y.elim (fun q => d12 b z q) fun q => dj b ((hg b).mpr (.inl z)) q
  have e : (fun b => g b \/ gd b) = fun b => g1 b \/ (gr b \/ gd b) := by
   funext b
   rw [hg b]
   exact propext ⟨fun h => h.elim (fun z => z.imp id .inl) fun z => .inr (.inr z), fun h => h.elim (fun z => .inl (.inl z)) fun z => z.imp .inr id⟩
  rw [e]
  exact this
theorem ZcC {w : TI} {fi : SI} {caps : List (Option Nat)} {g : TG} {k : D -> Env' -> Option Env'} {tt : TT} {ft : ST} {te : TE} {fe : SE} (hi : TId K mg fx E w fi) (hg : TGd K mg (fun _ => none) g k) (ht : TTd K mg (fun _ => none) E0 tt ft) (he : TEd K mg (fun _ => none) E0 te fe) :
 TEd K mg fx E (Zjf w caps g tt te) (Zcl fi caps k ft fe) := by
 intro P H gs σ ν Q S post
 unfold Zcl at post
 rw [Zk7]
 refine hi P H gs σ ν _ S ?_
 cases e : fi σ with
 | bad => rw [e] at post; exact post
 | exc c σ1 => rw [e] at post; exact post
 | ok ts σ1 =>
  rw [e] at post
  dsimp only [Out.bnd] at post
  intro P1 H1 gs1 J s1 S1 hJ
  have hn : ts.length < sizeLine := Decidable.byContradiction fun z => by rw [if_neg z] at post; exact post
  rw [if_pos hn] at post
  split at post
  · rename_i σ2 e2
    split at post
    · rename_i σi ei
      split at post
      · rename_i ds ed
        obtain ⟨P2, gs2, s2, S2⟩ := S1.freezes e2
        have B := S2.block ei
        have hJ2 : ItD K mg P2 J ts := fun P' H' a b => hJ P' H' (s2.mono.trans a) b
        refine ⟨fun i m ν' H' ys => m = ts.length - i /\ i <= ts.length /\ ys.length <= i /\ ∃ P' gs' σ' gy ds0 dr, Go P2 H1 (fun _ => False) P' H' (fun b => tot gs' b \/ gy b) /\ StOk K mg (fun _ => none) P' H' gs' σ' ν' /\ OwnL K mg P' H' gy ds0 ys /\ (∀ b, tot gs' b -> ¬ gy b) /\ Zck k ft fe (ts.drop i) σ' = some dr /\ ds = ds0 ++ dr,
         ⟨ts.length, by simp, Nat.zero_le _, Nat.zero_le _, P2, (fun _ _ => False), σi, (fun _ => False), [], ds, ⟨.refl _, fun _ _ _ h => h, fun b h => .inl (h.elim (fun ⟨_, z⟩ => z) id), fun _ _ h => .inl h⟩, B, .nil, fun _ _ h => h, ed, rfl⟩, ?_⟩
        rintro i m ν' H' ys ⟨rfl, hle, hy, P', gs', σ', gy, ds0, dr, s', S', o', dj', ec, eds⟩
        obtain ⟨hgo, hstop⟩ := hJ2 P' H' s'.mono S'.sub
        by_cases hlt : i < ts.length
        · obtain ⟨t, ht0⟩ := Zdr hlt
          have hd : ts.drop i = t :: ts.drop (i + 1) := by
           rw [List.drop_eq_getElem_cons hlt]
           rw [List.getElem?_eq_getElem hlt] at ht0
           rw [Option.some.inj ht0]
          rw [hd] at ec
          simp only [Zck] at ec
          obtain ⟨go, yld⟩ := hgo i t ht0
          refine .inr ⟨go, fun ν2 H2 ys2 => ts.length - (i + 1) = ts.length - (i + 1) /\ i + 1 <= ts.length /\ ys2.length <= i + 1 /\ ∃ P' gs' σ' gy ds0 dr, Go P2 H1 (fun _ => False) P' H2 (fun b => tot gs' b \/ gy b) /\ StOk K mg (fun _ => none) P' H2 gs' σ' ν2 /\ OwnL K mg P' H2 gy ds0 ys2 /\ (∀ b, tot gs' b -> ¬ gy b) /\ Zck k ft fe (ts.drop (i + 1)) σ' = some dr /\ ds = ds0 ++ dr, fun ν2 H2 ys2 h => ⟨_, by omega, h⟩, fun x H2 y => ?_⟩
          obtain ⟨P3, s3, sb3, hx⟩ := yld x H2 y
          have S3 := S'.go s3 sb3 fun _ _ z => z
          obtain ⟨o3, _⟩ := s3.otherL o' fun _ _ z => z
          have s3' : Go P2 H1 (fun _ => False) P3 H2 (fun b => tot gs' b \/ gy b) := s'.trans ((s3.alloc (F := fun b => tot gs' b \/ gy b)).weak fun b h => .inl h)
          refine hg P3 H2 gs' σ' ν' (fun _ => False) (.t t) x _ S3 (.t hx fun _ h => h) (fun _ _ z => z) ?_
          cases ek : k (.t t) σ' with
          | none => rw [ek] at ec; cases ec
          | some σ3 =>
           rw [ek] at ec
           dsimp only [Option.bind] at ec
           intro gs3 ν3 h3 S4
           have h3' : ∀ b, tot gs3 b -> tot gs' b := fun b z => (h3 b z).elim id fun q => q.elim
           refine ht.run S4 (fun c σ' e => ?_) (fun e => ?_) fun kb σ4 e4 P4 H4 gs4 s4 S4' => ?_
           · rw [e] at ec; cases ec
           · rw [e] at ec; cases ec
           rw [e4] at ec
           obtain ⟨o4, f4⟩ := s4.otherL o3 fun b z q => dj' b (h3' b q) z
           have s34 : Go P2 H1 (fun _ => False) P4 H4 (fun b => tot gs4 b \/ gy b) := by
            refine s3'.trans (Go.weak (G' := fun b => gy b \/ tot gs4 b) ?_ fun b h => h.symm)
            have := s4.wide (F := gy)
            exact ⟨this.mono, fun b w n z => this.frame b w (fun q => n (q.elim .inr fun y => .inl (h3' b y))) z, fun b z => (this.new b z).imp (fun q => q.elim .inr fun y => .inl (h3' b y)) id, fun b w z => (this.pnew b w z).imp id fun q => q.imp (fun y => y.elim .inr fun y => .inl (h3' b y)) id⟩
           cases kb with
           | false =>
            rw [if_neg Bool.false_ne_true]
            exact ⟨rfl, hlt, Nat.le_succ_of_le hy, P4, gs4, σ4, gy, ds0, dr, s34, S4', o4, fun b z q => f4 b q z, ec, eds⟩
           | true =>
            rw [if_pos rfl]
            dsimp only at ec
            refine he P4 H4 gs4 σ4 ν3 _ S4' ?_
            cases e5 : fe σ4 with
            | bad => rw [e5] at ec; cases ec
            | exc c σ' => rw [e5] at ec; cases ec
            | ok d σ5 =>
             rw [e5] at ec
             dsimp only at ec
             intro P5 H5 gs5 gd v s5 S5 od dj5
             obtain ⟨o5, f5⟩ := s5.otherL o4 fun b z q => f4 b z q
             cases er : Zck k ft fe (ts.drop (i + 1)) σ5 with
             | none => rw [er] at ec; cases ec
             | some dr' =>
              rw [er] at ec
              cases ec
              refine ⟨by omega, rfl, hlt, by rw [List.length_append, List.length_singleton]; omega, P5, gs5, σ5, fun b => gy b \/ gd b, ds0 ++ [d], dr', ?_, S5, o5.snoc od fun b z q => f5 b z (.inr q), fun b z q => q.elim (fun y => f5 b y (.inl z)) fun y => dj5 b z y, er, by rw [eds, List.append_assoc]; rfl⟩
              have := s5.wide (F := gy)
              refine s34.trans ⟨this.mono, fun b w n z => this.frame b w (fun q => n q.symm) z, fun b z => ?_, fun b w z => (this.pnew b w z).imp id fun q => q.imp (fun y => y.symm) id⟩
              refine (this.new b ?_).imp (fun q => q.symm) id
              rcases z with z | z | z
              · exact .inr (.inl z)
              · exact .inl z
              · exact .inr (.inr z)
        · have ei' : i = ts.length := by omega
          subst ei'
          rw [List.drop_length] at ec
          simp only [Zck] at ec
          cases ec
          rw [List.append_nil] at eds
          subst eds
          refine .inl ⟨hstop, by omega, fun p hp => ?_⟩
          obtain ⟨ol, sb, ng⟩ := Zl5 S'.sub o' hp
          have S2' : StOk K mg fx P' (upd H' p (.lst ys)) gs2 σ2 ν := by
           have q := S2.go s' S'.sub fun _ _ z => z
           exact ⟨sb, q.len, fun i d e => by
            obtain ⟨v, q1, q2⟩ := q.slot i d e
            exact ⟨v, q1, q2.frame (.refl _) (fun b w _ z => by rw [Zap (Zak z hp)]; exact z) fun b z => (q2.at b z).2⟩, q.emp, q.dis, q.fix, q.fixed⟩
          have far : ∀ b, tot gs2 b -> ¬ gy b := fun b z q => by
           obtain ⟨⟨o, w⟩, _⟩ := S2.here z
           rcases s'.new b (.inr q) with y | y
           · exact y
           · rw [w] at y; cases y
          have s12 := s1.trans s2
          have sA := s12.trans (s'.alloc (F := tot gs2))
          refine post P' (upd H' p (.lst ys)) gs2 _ (.ref p) ⟨sA.mono, fun b w n z => by rw [Zap (Zak (sA.frame b w n z) hp)]; exact sA.frame b w n z, fun b z => ?_, sA.pnew⟩ S2' ol fun b z q => ?_
          · rcases z with z | z | z
            · exact sA.new b (.inl z)
            · rw [z]
              by_cases q : tot gs p
              · exact .inl q
              · cases w : H p with
                | none => exact .inr rfl
                | some o => rw [sA.frame p o q w] at hp; cases hp
            · exact sA.new b (.inr (.inr z))
          · rcases q with q | q
            · obtain ⟨⟨o, w⟩, _⟩ := S2'.here z
              have hpp : H' p = none := hp
              obtain ⟨⟨o2, w2⟩, _⟩ := (S2.go s' S'.sub fun _ _ z => z).here z
              rw [q, hpp] at w2; cases w2
            · exact far b z q
      · exact post.elim
    · exact post.elim
  · exact post.elim
end DL
set_option autoImplicit false
namespace DL
open PySem L2
variable {K : PySem.W.Frag} {mg : Str -> Option Value} {fx : Nat -> Option V} {E : XK}
def oI (c : Int -> Int -> Bool) (g : Int -> Int -> Int) : T -> T -> Option D
 | .int i, .int j => if c i j = true then some (.t (.int (g i j))) else none
 | _, _ => none
theorem ZmZ {C : Int -> Int -> Prop} {c : Int -> Int -> Bool} {g : Int -> Int -> Int} (hc : ∀ i j, c i j = true -> C i j) : OpD K mg (rI C fun i j => .int (g i j)) (oI c g) := by
 intro P H x y v w d Q s hx hy e k
 unfold oI at e
 split at e
 · cases hx; cases hy
   split at e
   · rename_i hcc
     cases e
     exact ⟨_, _, rfl, rfl, hc _ _ hcc, done s .int k⟩
   · cases e
 · cases e
theorem Zl6 {g : Int -> Int -> Int} : OpD K mg (rI0 fun i j => .int (g i j)) (oI (fun _ _ => true) g) := by
 intro P H x y v w d Q s hx hy e k
 unfold oI at e
 split at e
 · cases hx; cases hy
   cases e
   exact ⟨_, _, rfl, rfl, done s .int k⟩
 · cases e
def cMul (i j : Int) : Bool := decide (i.natAbs < 2 ^ 64) || decide (j.natAbs < 2 ^ 64) || (decide (i.natAbs < 2 ^ 10000) && decide (j.natAbs < 2 ^ 10000))
theorem Zm0 : ∀ i j, cMul i j = true -> ZmM i j := fun i j h => by
 unfold cMul at h
 simp only [Bool.or_eq_true, Bool.and_eq_true, decide_eq_true_eq] at h
 rcases h with (h | h) | h
 · exact .inl (.inl ⟨by omega, by omega⟩)
 · exact .inl (.inr ⟨by omega, by omega⟩)
 · exact .inr h
def cDiv (_ j : Int) : Bool := decide (0 < j) && decide (j < 1073741824)
theorem Zm1 : ∀ i j, cDiv i j = true -> CDiv i j := fun i j h => by
 unfold cDiv at h
 simpa [CDiv] using h
def cPos (_ j : Int) : Bool := decide (0 < j)
theorem Zm2 : ∀ i j : Int, cPos i j = true -> 0 < j := fun i j h => by simpa [cPos] using h
def oAdd := oI (fun _ _ => true) (· + ·)
def oSub := oI (fun _ _ => true) (· - ·)
def oMul := oI cMul (· * ·)
def oDiv := oI cDiv (· / ·)
def oMod := oI cPos (· % ·)
theorem Zkh : OpD K mg (rI0 fun i j => .int (i + j)) oAdd := Zl6
theorem ZeY : OpD K mg (rI0 fun i j => .int (i - j)) oSub := Zl6
theorem ZiK : OpD K mg (rI ZmM fun i j => .int (i * j)) oMul := ZmZ Zm0
theorem ZiL : OpD K mg (rI CDiv fun i j => .int (i / j)) oDiv := ZmZ Zm1
theorem Zdy : OpD K mg (rI (fun _ j => 0 < j) fun i j => .int (i % j)) oMod := ZmZ Zm2
def oNeg : T -> Option D
 | .int i => some (.t (.int (-i)))
 | _ => none
theorem Zog : UnD K mg (rU fun i => .int (-i)) oNeg := by
 intro P H x v d Q s hx e k
 unfold oNeg at e
 split at e
 · cases hx; cases e
   exact ⟨_, rfl, done s .int k⟩
 · cases e
def oB (g : Int -> Int -> Bool) : T -> T -> Option Bool
 | .int i, .int j => some (g i j)
 | _, _ => none
theorem Zlj {g : Int -> Int -> Bool} : OpB K mg (rI0 fun i j => .bl (g i j)) (oB g) := by
 intro P H x y v w k Q s hx hy e q
 unfold oB at e
 split at e
 · cases hx; cases hy; cases e
   exact ⟨_, _, rfl, rfl, q⟩
 · cases e
def oLt := oB fun i j => decide (i < j)
def oLe := oB fun i j => decide (i <= j)
def oGt := oB fun i j => decide (j < i)
def oGe := oB fun i j => decide (j <= i)
theorem Zoh : OpB K mg (rI0 fun i j => .bl (decide (i < j))) oLt := Zlj
theorem Zoi : OpB K mg (rI0 fun i j => .bl (decide (i <= j))) oLe := Zlj
theorem Zjn : OpB K mg (rI0 fun i j => .bl (decide (j < i))) oGt := Zlj
theorem Zm3 : OpB K mg (rI0 fun i j => .bl (decide (j <= i))) oGe := Zlj
def oEq : T -> T -> Option Bool
 | .int i, .int j => some (decide (i = j))
 | .str i, .str j => some (decide (i = j))
 | .bl i, .bl j => some (decide (i = j))
 | .non, .non => some true
 | .non, .int _ => some false
 | .int _, .non => some false
 | .non, .bl _ => some false
 | .bl _, .non => some false
 | .non, .str _ => some false
 | .str _, .non => some false
 | .int _, .str _ => some false
 | .str _, .int _ => some false
 | .bl _, .str _ => some false
 | .str _, .bl _ => some false
 | _, _ => none
def oNe (x y : T) : Option Bool := (oEq x y).map (!·)
theorem Zoj {P : Hp} {x y : T} {v w : V} {k : Bool} (hx : Den K mg P x v) (hy : Den K mg P y w) (e : oEq x y = some k) : scal v w = true /\ decide (v = w) = k := by
 unfold oEq at e
 split at e
 all_goals first
  | (cases e; done)
  | (cases hx; cases hy; cases e; exact ⟨rfl, by first | rfl | (simp; done) | (congr 1; simp)⟩)
theorem Zea : OpB K mg rEq oEq := by
 intro P H x y v w k Q s hx hy e q
 obtain ⟨h1, h2⟩ := Zoj hx hy e
 exact ⟨h1, by rw [h2]; exact q⟩
theorem Zlk : OpB K mg rNe oNe := by
 intro P H x y v w k Q s hx hy e q
 unfold oNe at e
 cases e2 : oEq x y with
 | none => rw [e2] at e; cases e
 | some b =>
  rw [e2] at e
  cases e
  obtain ⟨h1, h2⟩ := Zoj hx hy e2
  exact ⟨h1, by rw [h2]; exact q⟩
def isN : T -> Bool
 | .non => true
 | _ => false
theorem Zpk {P : Hp} {x : T} {v : V} (hx : Den K mg P x v) : decide (v = V.non) = isN x := by
 cases hx <;> simp [isN]
def oIsN (x y : T) : Option Bool := match y with
 | .non => some (isN x)
 | _ => none
theorem Zl7 : OpB K mg (fun x y H Q => y = .non /\ Q (.bl (decide (x = .non))) H) oIsN := by
 intro P H x y v w k Q s hx hy e q
 unfold oIsN at e
 split at e
 · cases hy; cases e
   exact ⟨rfl, by rw [Zpk hx]; exact q⟩
 · cases e
def Zc8 : T -> Bool
 | .non => true
 | .bl _ => true
 | .int _ => true
 | .str _ => true
 | _ => false
def eqT : T -> T -> Bool
 | .non, .non => true
 | .bl a, .bl b => a == b
 | .bl a, .int b => (if a then 1 else 0) == b
 | .int a, .bl b => a == (if b then 1 else 0)
 | .int a, .int b => a == b
 | .str a, .str b => a == b
 | _, _ => false
theorem ZiM {P : Hp} {x : T} {v : V} (h : Den K mg P x v) (e : Zc8 x = true) : ZeD v = true := by cases h <;> first | rfl | cases e
theorem Zok {P : Hp} {x y : T} {v w : V} (hx : Den K mg P x v) (hy : Den K mg P y w) : eqV v w = eqT x y \/ Zc8 x = false \/ Zc8 y = false := by
 cases hx <;> cases hy <;> first | exact .inl rfl | exact .inr (.inl rfl) | exact .inr (.inr rfl)
def items : T -> Option (List T)
 | .lst ts => some ts
 | .tup ts => some ts
 | .scr ns => some (ns.map .int)
 | _ => none
theorem Zen {P : Hp} {y : T} {w : V} {ts : List T} (h : Den K mg P y w) (e : items y = some ts) : ∃ p vs, w = .ref p /\ (SqL K P p vs \/ P p = some (.tup vs)) /\ ts.length = vs.length /\ ∀ (i : Nat) t v, ts[i]? = some t -> vs[i]? = some v -> Den K mg P t v := by
 unfold items at e
 split at e
 · cases e; cases h with
   | lst h1 h2 h3 => exact ⟨_, _, rfl, .inl (.of h1), h2, h3⟩
 · cases e; cases h with
   | tup h1 h2 h3 => exact ⟨_, _, rfl, .inr h1, h2, h3⟩
 · cases e; cases h with
   | scr h1 =>
    refine ⟨_, _, rfl, .inl h1, by simp, fun i t v e e' => ?_⟩
    rw [List.getElem?_map] at e e'
    cases q : (_ : List Int)[i]? with
    | none => rw [q] at e; cases e
    | some n => rw [q] at e e'; cases e; cases e'; exact .int
 · cases e
theorem Zdz {P H : Hp} {p : Addr} {vs : List V} (s : Sub P H) (h : SqL K P p vs \/ P p = some (.tup vs)) : SqL K H p vs \/ SqT K H p vs := h.imp (fun z => s.sqL z) fun z => .of (s _ _ z)
theorem all2 {P : Hp} : ∀ {ts : List T} {vs : List V}, ts.length = vs.length -> (∀ (i : Nat) t v, ts[i]? = some t -> vs[i]? = some v -> Den K mg P t v) -> ts.all Zc8 = true -> vs.all ZeD = true
 | [], [], _, _, _ => rfl
 | [], _ :: _, h, _, _ => by simp at h
 | _ :: _, [], h, _, _ => by simp at h
 | t :: ts, v :: vs, h, f, e => by
  simp only [List.all_cons, Bool.and_eq_true] at e ⊢
  exact ⟨ZiM (f 0 t v rfl rfl) e.1, all2 (by simpa using h) (fun i t v a b => f (i + 1) t v (by simpa using a) (by simpa using b)) e.2⟩
theorem any2 {P : Hp} {x : T} {w : V} (hx : Den K mg P x w) (fxx : Zc8 x = true) : ∀ {ts : List T} {vs : List V}, ts.length = vs.length -> (∀ (i : Nat) t v, ts[i]? = some t -> vs[i]? = some v -> Den K mg P t v) -> ts.all Zc8 = true -> inV w vs = ts.any fun y => eqT y x
 | [], [], _, _, _ => rfl
 | [], _ :: _, h, _, _ => by simp at h
 | _ :: _, [], h, _, _ => by simp at h
 | t :: ts, v :: vs, h, f, e => by
  simp only [List.all_cons, Bool.and_eq_true] at e
  have e1 : eqV v w = eqT t x := by
   rcases Zok (f 0 t v rfl rfl) hx with z | z | z
   · exact z
   · rw [e.1] at z; cases z
   · rw [fxx] at z; cases z
  show (eqV v w || inV w vs) = (eqT t x || ts.any fun y => eqT y x)
  rw [e1, any2 hx fxx (by simpa using h) (fun i t v a b => f (i + 1) t v (by simpa using a) (by simpa using b)) e.2]
def oIn (x y : T) : Option Bool := match items y with
 | some ts => if Zc8 x && ts.all Zc8 then some (ts.any fun z => eqT z x) else none
 | none => none
def ZeA (x y : T) : Option Bool := (oIn x y).map (!·)
theorem Zol {P H : Hp} {x y : T} {v w : V} {k : Bool} (s : Sub P H) (hx : Den K mg P x v) (hy : Den K mg P y w) (e : oIn x y = some k) : ∃ p vs, w = .ref p /\ (SqL K H p vs \/ SqT K H p vs) /\ ZeD v = true /\ vs.all ZeD = true /\ inV v vs = k := by
 unfold oIn at e
 split at e
 · rename_i ts ei
   split at e
   · rename_i hf
     rw [Bool.and_eq_true] at hf
     cases e
     obtain ⟨p, vs, rfl, h1, h2, h3⟩ := Zen hy ei
     exact ⟨p, vs, rfl, Zdz s h1, ZiM hx hf.1, all2 h2 h3 hf.2, any2 hx hf.1 h2 h3 hf.2⟩
   · cases e
 · cases e
theorem Zjo : OpB K mg (rIn K false) oIn := by
 intro P H x y v w k Q s hx hy e q
 obtain ⟨p, vs, rfl, h1, h2, h3, h4⟩ := Zol s hx hy e
 exact ⟨p, vs, rfl, h1, h2, h3, by rw [h4]; exact q⟩
theorem ZfJ : OpB K mg (rIn K true) ZeA := by
 intro P H x y v w k Q s hx hy e q
 unfold ZeA at e
 cases e2 : oIn x y with
 | none => rw [e2] at e; cases e
 | some b =>
  rw [e2] at e
  cases e
  obtain ⟨p, vs, rfl, h1, h2, h3, h4⟩ := Zol s hx hy e2
  exact ⟨p, vs, rfl, h1, h2, h3, by rw [h4]; exact q⟩
def oCat : T -> T -> Option D
 | .lst a, .lst b => if a.length + b.length <= 1000000 then some (.lst ((a ++ b).map .t)) else none
 | _, _ => none
theorem Zm4 {P : Hp} {ts us : List T} {vs ws : List V} (h1 : ts.length = vs.length) (h2 : ∀ (i : Nat) t v, ts[i]? = some t -> vs[i]? = some v -> Den K mg P t v) (h3 : us.length = ws.length) (h4 : ∀ (i : Nat) t v, us[i]? = some t -> ws[i]? = some v -> Den K mg P t v) :
 (ts ++ us).length = (vs ++ ws).length /\ ∀ (i : Nat) t v, (ts ++ us)[i]? = some t -> (vs ++ ws)[i]? = some v -> Den K mg P t v := by
 refine ⟨by simp [h1, h3], fun i t v e e' => ?_⟩
 by_cases hi : i < ts.length
 · rw [List.getElem?_append_left hi] at e
   rw [List.getElem?_append_left (h1 ▸ hi)] at e'
   exact h2 i t v e e'
 · rw [List.getElem?_append_right (by omega)] at e
   rw [List.getElem?_append_right (by omega)] at e'
   exact h4 (i - ts.length) t v e (by rw [h1]; exact e')
theorem Zfu : OpD K mg rCat oCat := by
 intro P H x y v w d Q s hx hy e k
 unfold oCat at e
 split at e
 · split at e
   · rename_i hz
     cases e
     cases hx with
     | lst a1 a2 a3 => cases hy with
      | lst b1 b2 b3 =>
       obtain ⟨c1, c2⟩ := Zm4 a2 a3 b2 b3
       refine ⟨_, _, _, _, rfl, rfl, s _ _ a1, s _ _ b1, by rw [<- a2, <- b2]; exact Nat.le_trans hz (by decide), fun p hp => newL s hp c1 c2 k⟩
   · cases e
 · cases e
def oIx (x y : T) : Option D := match y with
 | .int i => (match items x with
  | some ts => (atI ts i).map .t
  | none => none)
 | _ => none
theorem Zki {P : Hp} {ts : List T} {vs : List V} {i : Int} {t : T} (h1 : ts.length = vs.length) (h2 : ∀ (i : Nat) t v, ts[i]? = some t -> vs[i]? = some v -> Den K mg P t v) (e : atI ts i = some t) : ∃ v, atI vs i = some v /\ Den K mg P t v := by
 unfold atI at e ⊢
 rw [<- h1]
 cases q : ixN ts.length i with
 | none => rw [q] at e; cases e
 | some j =>
  rw [q] at e
  dsimp only [Option.bind] at e ⊢
  have hj := Zci e
  obtain ⟨v, hv⟩ := Zdr (h1 ▸ hj)
  exact ⟨v, hv, h2 j t v e hv⟩
theorem Zpl {P H : Hp} {x y : T} {v w : V} {d : D} {Q : VK} (s : Sub P H) (hx : Den K mg P x v) (hy : Den K mg P y w) (e : oIx x y = some d) (k : ∀ P' H' g u, Go P H (fun _ => False) P' H' g -> Sub P' H' -> Own K mg P' H' g d u -> Q u H') :
 ∃ p vs i u, v = .ref p /\ w = .int i /\ (SqL K H p vs \/ SqT K H p vs) /\ atI vs i = some u /\ Q u H := by
 unfold oIx at e
 split at e
 · cases hy
   split at e
   · rename_i ts ei
     obtain ⟨p, vs, rfl, h1, h2, h3⟩ := Zen hx ei
     cases q : atI ts _ with
     | none => rw [q] at e; cases e
     | some t =>
      rw [q] at e
      cases e
      obtain ⟨u, hu, dn⟩ := Zki h2 h3 q
      exact ⟨p, vs, _, u, rfl, rfl, Zdz s h1, hu, done s dn k⟩
   · cases e
 · cases e
def Zll (K : PySem.W.Frag) : R2 := fun x y H Q => rIxL K x y H Q \/ rIxT K x y H Q
theorem Zc9 : OpD K mg (Zll K) oIx := by
 intro P H x y v w d Q s hx hy e k
 obtain ⟨p, vs, i, u, rfl, rfl, h, hu, q⟩ := Zpl s hx hy e k
 rcases h with h | h
 · exact .inl ⟨p, vs, i, u, rfl, rfl, h, hu, q⟩
 · exact .inr ⟨p, vs, i, u, rfl, rfl, h, hu, q⟩
theorem Za9 {r : List V -> Hp -> VK -> Prop} {op : T -> Option D} {ta : TE} {fa : SE} (ho : UnD K mg (fun x H Q => r [x] H Q) op) (ha : TEd K mg fx E ta fa) : TEd K mg fx E (tCB r (Zcy ta tNil)) (e1 op fa) := Zie ho ha
theorem Zom {r : List V -> Hp -> VK -> Prop} {op : T -> T -> Option D} {ta tb : TE} {fa fb : SE} (ho : OpD K mg (fun x y H Q => r [x, y] H Q) op) (ha : TEd K mg fx E ta fa) (hb : TEd K mg fx E tb fb) : TEd K mg fx E (tCB r (Zcy ta (Zcy tb tNil))) (e2 op fa fb) := ZaK ho ha hb
def oLen : T -> Option D
 | .str z => if z.length <= 1000000 then some (.t (.int z.length)) else none
 | x => (items x).map fun ts => .t (.int ts.length)
def rLen (K : PySem.W.Frag) : List V -> Hp -> VK -> Prop := fun xs H Q => (∃ p ys, xs = [.ref p] /\ (SqL K H p ys \/ SqT K H p ys) /\ Q (.int ys.length) H) \/ ∃ z, xs = [.str z] /\ z.length <= sizeLine /\ Q (.int z.length) H
theorem Zb1 : UnD K mg (fun x H Q => rLen K [x] H Q) oLen := by
 intro P H x v d Q s hx e k
 unfold oLen at e
 split at e
 · split at e
   · rename_i hz
     cases hx; cases e
     exact .inr ⟨_, rfl, Nat.le_trans hz (by decide), done s .int k⟩
   · cases e
 · cases q : items x with
   | none => rw [q] at e; cases e
   | some ts =>
    rw [q] at e
    cases e
    obtain ⟨p, vs, rfl, h1, h2, h3⟩ := Zen hx q
    exact .inl ⟨p, vs, rfl, Zdz s h1, by rw [<- h2]; exact done s .int k⟩
def oList (x : T) : Option D := (items x).map fun ts => .lst (ts.map .t)
theorem Zm5 : UnD K mg (fun x H Q => ∃ p ys, [x] = [.ref p] /\ (SqL K H p ys \/ SqT K H p ys) /\ ∀ l, H l = none -> Q (.ref l) (upd H l (.lst ys))) oList := by
 intro P H x v d Q s hx e k
 unfold oList at e
 cases q : items x with
 | none => rw [q] at e; cases e
 | some ts =>
  rw [q] at e
  cases e
  obtain ⟨p, vs, rfl, h1, h2, h3⟩ := Zen hx q
  exact ⟨p, vs, rfl, Zdz s h1, fun l hl => newL s hl h2 h3 k⟩
def oAbs : T -> Option D
 | .int i => some (.t (.int (if i < 0 then -i else i)))
 | _ => none
theorem Zon : UnD K mg (fun x H Q => ∃ i, [x] = [V.int i] /\ Q (.int (if i < 0 then -i else i)) H) oAbs := by
 intro P H x v d Q s hx e k
 unfold oAbs at e
 split at e
 · cases hx; cases e
   exact ⟨_, rfl, done s .int k⟩
 · cases e
def oInt : T -> Option D
 | .int i => some (.t (.int i))
 | .bl b => some (.t (.int (if b then 1 else 0)))
 | _ => none
theorem Zoo : UnD K mg (fun x H Q => (∃ i, [x] = [V.int i] /\ Q (.int i) H) \/ ∃ k, [x] = [V.bl k] /\ Q (.int (if k then 1 else 0)) H) oInt := by
 intro P H x v d Q s hx e k
 unfold oInt at e
 split at e
 · cases hx; cases e
   exact .inl ⟨_, rfl, done s .int k⟩
 · cases hx; cases e
   exact .inr ⟨_, rfl, done s .int k⟩
 · cases e
def iLst (f : SE) : SI := fun σ => (f σ).bnd fun d σ1 => match frz d with
 | .lst ts => .ok ts σ1
 | .scr ns => .ok (ns.map .int) σ1
 | _ => .bad
def ZfW : T -> Option (List T)
 | .lst ts => some ts
 | .scr ns => some (ns.map .int)
 | _ => none
theorem Zop {P : Hp} {a : Addr} {ts : List T} {vs : List V} (h : SqL K P a vs) (h1 : ts.length = vs.length) (h2 : ∀ (i : Nat) t v, ts[i]? = some t -> vs[i]? = some v -> Den K mg P t v) : ItD K mg P (Itl K a) ts := fun P' H' s s' => by
 have sq : SqL K H' a vs := (s.trans s').sqL h
 refine ⟨fun i t e => ?_, vs, sq, by omega⟩
 obtain ⟨v, hv⟩ := Zdr (h1 ▸ Zci e)
 refine ⟨⟨vs, v, sq, hv⟩, fun x H2 y => ?_⟩
 obtain ⟨rfl, y⟩ := y
 have := y vs sq
 rw [hv] at this
 cases this
 exact ⟨P', .refl, s', (h2 i t v e hv).mono s⟩
theorem Zb2 {t : TE} {f : SE} (h : TEd K mg fx E t f) : TId K mg fx E (Zmv K t) (iLst f) := by
 intro P H gs σ ν R S post
 unfold iLst at post
 refine h.run S (fun c σ' e => by rw [e] at post; exact post) (fun e => by rw [e] at post; exact post) fun d σ1 e P1 H1 gs1 v s1 S1 dn => ?_
 rw [e] at post
 dsimp only [Out.bnd] at post
 split at post
 · rename_i ts et
   rw [et] at dn
   cases dn with
   | @lst _ a vs h1 h2 h3 => exact ⟨a, rfl, ⟨vs, .of (S1.sub _ _ h1)⟩, post P1 H1 gs1 _ s1 S1 (Zop (.of h1) h2 h3)⟩
 · rename_i ns et
   rw [et] at dn
   cases dn with
   | @scr _ a h1 =>
    refine ⟨a, rfl, ⟨_, S1.sub.sqL h1⟩, post P1 H1 gs1 _ s1 S1 (Zop h1 (by simp) fun i t v e e' => ?_)⟩
    rw [List.getElem?_map] at e e'
    cases q : ns[i]? with
    | none => rw [q] at e; cases e
    | some n => rw [q] at e e'; cases e; cases e'; exact .int
 · exact post.elim
def rngT (lo : Int) (n : Nat) : List T := (List.range n).map fun i => .int (lo + (i : Nat))
theorem Zpm {P : Hp} {lo : Int} {n : Nat} : ItD K mg P (Itr lo n) (rngT lo n) := fun P' H' s s' => by
 have hl : (rngT lo n).length = n := by simp [rngT]
 refine ⟨fun i t e => ?_, by rw [hl]; exact Nat.le_refl n⟩
 have hi : i < n := by have := Zci e; rwa [hl] at this
 refine ⟨hi, fun x H2 y => ?_⟩
 obtain ⟨rfl, rfl⟩ := y
 have : t = .int (lo + (i : Nat)) := by
  simp only [rngT, List.getElem?_map, List.getElem?_range hi, Option.map_some] at e
  exact (Option.some.inj e).symm
 subst this
 exact ⟨P', .refl, s', .int⟩
def ZeG (f : SE) : SI := fun σ => (f σ).bnd fun d σ1 => match frz d with
 | .int j => if j.natAbs < 1000000 then .ok (rngT 0 j.toNat) σ1 else .bad
 | _ => .bad
theorem ZdA {t : TE} {f : SE} (h : TEd K mg fx E t f) : TId K mg fx E (ZnU (Zcy t tNil)) (ZeG f) := by
 intro P H gs σ ν R S post
 unfold ZeG at post
 refine h.run (Q := fun x H1 => ∃ j : Int, [x] = [V.int j] /\ -(2 ^ 62) <= j /\ j < 2 ^ 62 /\ R (Itr 0 j.toNat) H1) S (fun c σ' e => by rw [e] at post; exact post) (fun e => by rw [e] at post; exact post) fun d σ1 e P1 H1 gs1 v s1 S1 dn => ?_
 rw [e] at post
 dsimp only [Out.bnd] at post
 split at post
 · rename_i j et
   rw [et] at dn
   cases dn
   split at post
   · rename_i hj
     exact ⟨j, rfl, by omega, by omega, post P1 H1 gs1 _ s1 S1 Zpm⟩
   · exact post.elim
 · exact post.elim
theorem ZhC {P : Hp} {x : T} {v : V} {ts : List T} (h : Den K mg P x v) (e : ZfW x = some ts) : ∃ p vs, v = .ref p /\ SqL K P p vs /\ ts.length = vs.length /\ ∀ (i : Nat) t v, ts[i]? = some t -> vs[i]? = some v -> Den K mg P t v := by
 unfold ZfW at e
 split at e
 · cases e; cases h with
   | lst h1 h2 h3 => exact ⟨_, _, rfl, .of h1, h2, h3⟩
 · cases e; cases h with
   | scr h1 =>
    refine ⟨_, _, rfl, h1, by simp, fun i t v e e' => ?_⟩
    rw [List.getElem?_map] at e e'
    cases q : (_ : List Int)[i]? with
    | none => rw [q] at e; cases e
    | some n => rw [q] at e e'; cases e; cases e'; exact .int
 · cases e
theorem tup2 {P' H' : Hp} {t u : T} {v w : V} {l : Addr} (s : Sub P' H') (hl : H' l = none) (h1 : Den K mg P' t v) (h2 : Den K mg P' u w) : ∃ P2, Go P' H' (fun _ => False) P2 (upd H' l (.tup [v, w])) (fun _ => False) /\ Sub P2 (upd H' l (.tup [v, w])) /\ Den K mg P2 (.tup [t, u]) (.ref l) := by
 have hP := s.fresh hl
 have u1 : Sub P' (upd P' l (.tup [v, w])) := fun b o e => by rw [Zap (Zak e hP)]; exact e
 refine ⟨upd P' l (.tup [v, w]), ⟨u1, fun b o _ e => by rw [Zap (Zak e hl)]; exact e, fun b h => h.elim, fun b o e => ?_⟩, fun b o e => ?_, .tup ZaG rfl fun i t' v' e e' => ?_⟩
 · by_cases q : b = l
   · exact .inr (.inr (by rw [q]; exact hl))
   · rw [Zap q] at e; exact .inl e
 · by_cases q : b = l
   · subst q; rw [ZaG] at e ⊢; exact e
   · rw [Zap q] at e ⊢; exact s b o e
 · match i with
   | 0 => simp at e e'; subst e e'; exact h1.mono u1
   | 1 => simp at e e'; subst e e'; exact h2.mono u1
   | i + 2 => simp at e
theorem Zpn {P : Hp} {a b : Addr} {ts us : List T} {vs ws : List V} (h : SqL K P a vs) (h1 : ts.length = vs.length) (h2 : ∀ (i : Nat) t v, ts[i]? = some t -> vs[i]? = some v -> Den K mg P t v) (h' : SqL K P b ws) (h1' : us.length = ws.length) (h2' : ∀ (i : Nat) t v, us[i]? = some t -> ws[i]? = some v -> Den K mg P t v) :
 ItD K mg P (Itz K a b) (List.zipWith (fun x y => .tup [x, y]) ts us) := fun P' H' s s' => by
 have sq : SqL K H' a vs := (s.trans s').sqL h
 have sq' : SqL K H' b ws := (s.trans s').sqL h'
 refine ⟨fun i t e => ?_, vs, ws, sq, sq', by rw [List.length_zipWith]; omega⟩
 rw [List.getElem?_zipWith] at e
 cases e1 : ts[i]? with
 | none => rw [e1] at e; cases e
 | some x =>
  cases e2 : us[i]? with
  | none => rw [e1, e2] at e; cases e
  | some y =>
   rw [e1, e2] at e
   cases e
   obtain ⟨v, hv⟩ := Zdr (h1 ▸ Zci e1)
   obtain ⟨w, hw⟩ := Zdr (h1' ▸ Zci e2)
   refine ⟨⟨vs, ws, v, w, sq, sq', hv, hw⟩, fun z H2 yl => ?_⟩
   obtain ⟨l, x', y', hl, rfl, rfl, q1, q2⟩ := yl
   have z1 := q1 vs sq
   have z2 := q2 ws sq'
   rw [hv] at z1
   rw [hw] at z2
   cases z1; cases z2
   exact tup2 s' hl ((h2 i x v e1 hv).mono s) ((h2' i y w e2 hw).mono s)
end DL
set_option autoImplicit false
namespace DL
open PySem L2
variable {K : PySem.W.Frag} {mg : Str -> Option Value} {fx : Nat -> Option V} {E : XK}
def upSl (i : Nat) (d : D) (σ : Env') : Option Env' := match σ[i]? with
 | some (.v _) => some (σ.set i (.v d))
 | some (.x _) => some (σ.set i (.x d))
 | _ => none
theorem StOk.mut {P H H2 : Hp} {gs : Nat -> Fp} {σ σ1 : Env'} {ν : St} {i : Nat} {d2 : D} {v : V} {g2 g0 : Fp} (S : StOk K mg fx P H gs σ ν) (e : upSl i d2 σ = some σ1) (hv : ν[i]? = some (some v)) (hg0 : ∀ b, tot gs b -> ¬ g0 b)
 (hH : ∀ b o, ¬ gs i b -> H b = some o -> H2 b = some o) (sb : Sub P H2) (o2 : Own K mg P H2 g2 d2 v) (hn : ∀ b, g2 b -> gs i b \/ g0 b \/ H b = none) :
 StOk K mg fx P H2 (fun j => if j = i then g2 else gs j) σ1 ν /\ Go P H (fun b => tot gs b \/ g0 b) P H2 (tot fun j => if j = i then g2 else gs j) := by
 have key : ∀ z : Sl, Sl.get z = some d2 -> ((∃ d, σ[i]? = some (.v d)) /\ z = .v d2 \/ (∃ d, σ[i]? = some (.x d)) /\ z = .x d2) -> StOk K mg fx P H2 (fun j => if j = i then g2 else gs j) (σ.set i z) ν := by
  intro z hz hσ
  have hi : i < σ.length := by rcases hσ with ⟨⟨_, h⟩, _⟩ | ⟨⟨_, h⟩, _⟩ <;> exact Zci h
  refine ⟨sb, by rw [List.length_set]; exact S.len, fun j d' e' => ?_, fun j b e' => ?_, fun j k b hjk hj hk => ?_, fun j e' => ?_, fun j w h => ?_⟩
  · by_cases hj : j = i
    · subst hj
      rw [List.getElem?_set_self hi, show (some z).bind Sl.get = z.get from rfl, hz] at e'
      cases e'
      simp only [if_true]
      exact ⟨v, hv, o2⟩
    · rw [List.getElem?_set_ne (Ne.symm hj)] at e'
      simp only [hj, if_false]
      obtain ⟨w, h1, h2⟩ := S.slot j d' e'
      exact ⟨w, h1, h2.frame (.refl _) (fun b o hb => hH b o (S.dis j i b hj hb)) fun b hb => (h2.at b hb).2⟩
  · by_cases hj : j = i
    · subst hj
      rw [List.getElem?_set_self hi, show (some z).bind Sl.get = z.get from rfl, hz] at e'
      cases e'
    · rw [List.getElem?_set_ne (Ne.symm hj)] at e'
      simp only [hj, if_false]
      exact S.emp j b e'
  · have far : ∀ j', j' ≠ i -> gs j' b -> ¬ g2 b := fun j' hj' h1 h2 => by
     rcases hn b h2 with q | q | q
     · exact S.dis j' i b hj' h1 q
     · exact hg0 b ⟨j', h1⟩ q
     · obtain ⟨⟨o, w⟩, _⟩ := S.here ⟨j', h1⟩
       rw [w] at q; cases q
    by_cases hj' : j = i
    · by_cases hk' : k = i
      · exact hjk (hj'.trans hk'.symm)
      · simp only [hj', if_true] at hj
        simp only [hk', if_false] at hk
        exact far k hk' hk hj
    · simp only [hj', if_false] at hj
      by_cases hk' : k = i
      · simp only [hk', if_true] at hk; exact far j hj' hj hk
      · simp only [hk', if_false] at hk; exact S.dis j k b hjk hj hk
  · by_cases hj : j = i
    · subst hj
      rcases hσ with ⟨⟨_, h⟩, hz'⟩ | ⟨⟨dd, h⟩, hz'⟩
      · rw [List.getElem?_set_self hi, hz'] at e'
        rcases e' with e' | ⟨_, e'⟩ <;> cases e'
      · exact S.fix j (.inr ⟨dd, h⟩)
    · rw [List.getElem?_set_ne (Ne.symm hj)] at e'
      exact S.fix j e'
  · obtain ⟨h1, h2⟩ := S.fixed j w h
    refine ⟨h1, ?_⟩
    by_cases hj : j = i
    · subst hj
      rw [List.getElem?_set_self hi]
      rcases hσ with ⟨⟨_, h⟩, hz'⟩ | ⟨⟨_, h⟩, hz'⟩
      · rw [h] at h2; rcases h2 with h2 | ⟨_, h2⟩ <;> cases h2
      · exact .inr ⟨d2, by rw [hz']⟩
    · rw [List.getElem?_set_ne (Ne.symm hj)]; exact h2
 refine ⟨?_, .refl _, fun b o n h => hH b o (fun z => n (.inl ⟨i, z⟩)) h, fun b ⟨j, h⟩ => ?_, fun _ _ h => .inl h⟩
 · unfold upSl at e
   split at e
   · rename_i d q; cases e; exact key (.v d2) rfl (.inl ⟨⟨d, q⟩, rfl⟩)
   · rename_i d q; cases e; exact key (.x d2) rfl (.inr ⟨⟨d, q⟩, rfl⟩)
   · cases e
 · by_cases hj : j = i
   · simp only [hj, if_true] at h
     rcases hn b h with q | q | q
     · exact .inl (.inl ⟨i, q⟩)
     · exact .inl (.inr q)
     · exact .inr q
   · simp only [hj, if_false] at h
     exact .inl (.inl ⟨j, h⟩)
theorem Own.sub_upd {P H : Hp} {a : Addr} {o : HO} (s : Sub P H) (h : P a = none) : Sub P (upd H a o) := fun b w e => by rw [Zap (Zak e h)]; exact s b w e
theorem Own.app {P H : Hp} {g g0 : Fp} {ds : List D} {d0 : D} {v v0 : V} (h : Own K mg P H g (.lst ds) v) (h0 : Own K mg P H g0 d0 v0) (dj : ∀ b, g b -> ¬ g0 b) :
 ∃ a vs, v = .ref a /\ g a /\ P a = none /\ H a = some (.lst vs) /\ ds.length = vs.length /\ Own K mg P (upd H a (.lst (vs ++ [v0]))) (fun b => g b \/ g0 b) (.lst (ds ++ [d0])) v := by
 cases h with
 | @lst _ gs _ a vs h1 h2 h3 h4 h5 h6 h7 h8 =>
  have ga : g a := (h8 a).mpr (.inl rfl)
  refine ⟨a, vs, rfl, ga, h2, h1, h3, ?_⟩
  refine .lst (gs := fun i => if i = ds.length then g0 else gs i) ZaG h2 (by simp [h3]) (fun i d v e e' => ?_) (fun i z => ?_) (fun i j b hij hi hj => ?_) (fun i b hle z => ?_) fun b => ?_
  · by_cases hi : i < ds.length
    · rw [List.getElem?_append_left hi] at e
      rw [List.getElem?_append_left (h3 ▸ hi)] at e'
      simp only [Nat.ne_of_lt hi, if_false]
      have q := h4 i d v e e'
      refine q.frame (.refl _) (fun b w z y => ?_) fun b z => (q.at b z).2
      rw [Zap (fun z2 => h5 i (by rw [<- z2]; exact z))]; exact y
    · have hi2 : i = ds.length := by have := Zci e; simp at this; omega
      subst hi2
      rw [List.getElem?_append_right (Nat.le_refl _), Nat.sub_self] at e
      rw [h3, List.getElem?_append_right (Nat.le_refl _), Nat.sub_self] at e'
      cases e; cases e'
      simp only [if_true]
      refine h0.frame (.refl _) (fun b w z y => ?_) fun b z => (h0.at b z).2
      rw [Zap (fun z2 => dj a ga (by rw [<- z2]; exact z))]; exact y
  · by_cases hi : i = ds.length
    · simp only [hi, if_true] at z; exact dj a ga z
    · simp only [hi, if_false] at z; exact h5 i z
  · by_cases hi' : i = ds.length
    · by_cases hj' : j = ds.length
      · exact hij (hi'.trans hj'.symm)
      · simp only [hi', if_true] at hi
        simp only [hj', if_false] at hj
        exact dj b ((h8 b).mpr (.inr ⟨j, hj⟩)) hi
    · simp only [hi', if_false] at hi
      by_cases hj' : j = ds.length
      · simp only [hj', if_true] at hj; exact dj b ((h8 b).mpr (.inr ⟨i, hi⟩)) hj
      · simp only [hj', if_false] at hj; exact h6 i j b hij hi hj
  · have hi : i ≠ ds.length := by simp at hle; omega
    simp only [hi, if_false] at z
    exact h7 i b (by simp at hle; omega) z
  · rw [h8 b]
    constructor
    · rintro ((z | ⟨i, z⟩) | z)
      · exact .inl z
      · refine .inr ⟨i, ?_⟩
        by_cases hi : i = ds.length
        · exact absurd z (h7 i b (by omega))
        · simp only [hi, if_false]; exact z
      · exact .inr ⟨ds.length, by simp only [if_true]; exact z⟩
    · rintro (z | ⟨i, z⟩)
      · exact .inl (.inl z)
      · by_cases hi : i = ds.length
        · simp only [hi, if_true] at z; exact .inr z
        · simp only [hi, if_false] at z; exact .inl (.inr ⟨i, z⟩)
theorem Own.setAt {P H H2 : Hp} {g g0 gk : Fp} {gs : Nat -> Fp} {ds : List D} {d0 : D} {a : Addr} {vs vs2 : List V} {k : Nat} {v0 : V} (h2 : P a = none) (h3 : ds.length = vs.length)
 (h4 : ∀ (i : Nat) d v, ds[i]? = some d -> vs[i]? = some v -> Own K mg P H (gs i) d v) (h5 : ∀ i, ¬ gs i a) (h6 : ∀ i j b, i ≠ j -> gs i b -> ¬ gs j b) (h7 : ∀ i b, ds.length <= i -> ¬ gs i b)
 (hk : k < ds.length) (hv : vs2 = vs.set k v0) (ha : H2 a = some (.lst vs2)) (hH : ∀ b o, b ≠ a -> ¬ gs k b -> H b = some o -> H2 b = some o) (o0 : Own K mg P H2 g0 d0 v0) (f1 : ¬ g0 a) (f2 : ∀ i b, i ≠ k -> gs i b -> ¬ g0 b) :
 Own K mg P H2 (fun b => b = a \/ (∃ i, i ≠ k /\ gs i b) \/ g0 b) (.lst (ds.set k d0)) (.ref a) := by
 subst hv
 refine .lst (gs := fun i => if i = k then g0 else gs i) ha h2 (by simp [h3]) (fun i d v e e' => ?_) (fun i z => ?_) (fun i j b hij hi hj => ?_) (fun i b hle z => ?_) fun b => ?_
 · by_cases hi : i = k
   · subst hi
     rw [List.getElem?_set_self hk] at e
     rw [List.getElem?_set_self (h3 ▸ hk)] at e'
     cases e; cases e'
     simp only [if_true]
     exact o0
   · rw [List.getElem?_set_ne (Ne.symm hi)] at e e'
     simp only [hi, if_false]
     have q := h4 i d v e e'
     exact q.frame (.refl _) (fun b w z y => hH b w (fun z2 => h5 i (by rw [<- z2]; exact z)) (h6 i k b hi z) y) fun b z => (q.at b z).2
 · by_cases hi : i = k
   · simp only [hi, if_true] at z; exact f1 z
   · simp only [hi, if_false] at z; exact h5 i z
 · by_cases hi' : i = k
   · by_cases hj' : j = k
     · exact hij (hi'.trans hj'.symm)
     · simp only [hi', if_true] at hi
       simp only [hj', if_false] at hj
       exact f2 j b hj' hj hi
   · simp only [hi', if_false] at hi
     by_cases hj' : j = k
     · simp only [hj', if_true] at hj; exact f2 i b hi' hi hj
     · simp only [hj', if_false] at hj; exact h6 i j b hij hi hj
 · have hi : i ≠ k := by simp at hle; omega
   simp only [hi, if_false] at z
   exact h7 i b (by simpa using hle) z
 · constructor
   · rintro (z | ⟨i, hi, z⟩ | z)
     · exact .inl z
     · exact .inr ⟨i, by simp only [hi, if_false]; exact z⟩
     · exact .inr ⟨k, by simp only [if_true]; exact z⟩
   · rintro (z | ⟨i, z⟩)
     · exact .inl z
     · by_cases hi : i = k
       · simp only [hi, if_true] at z; exact .inr (.inr z)
       · simp only [hi, if_false] at z; exact .inr (.inl ⟨i, hi, z⟩)
def sApp (i : Nat) (f : SE) : SS := fun σ => match (σ[i]?).bind Sl.get with
 | some (.lst _) => (f σ).th fun d σ1 => (match (σ1[i]?).bind Sl.get with
  | some (.lst ds) => if ds.length < 1000000 then (match upSl i (.lst (ds ++ [d])) σ1 with
   | some σ2 => .next σ2
   | none => .bad) else .bad
  | _ => .bad)
 | _ => .bad
theorem Zfv {i : Nat} {t : TE} {f : SE} (h : TEd K mg fx E t f) : TSd K mg fx E (ZkW (tBM K "list" ZgU (tVar i) (Zcy t tNil))) (sApp i f) := by
 intro P H gs σ ν N S post
 unfold sApp at post
 split at post
 · rename_i ds0 e0
   obtain ⟨v, hv, o⟩ := S.slot i _ e0
   refine ⟨v, hv, ?_, ?_⟩
   · cases o with
     | lst h1 => exact .inl ⟨rfl, _, .of h1⟩
   · refine h P H gs σ ν _ S ?_
     cases e : f σ with
     | bad => rw [e] at post; exact post
     | exc c σ1 => rw [e] at post; exact PostS.x post
     | ok d σ1 =>
      rw [e] at post
      dsimp only [Out.th] at post
      intro P1 H1 gs1 g1 v1 s1 S1 o1 dj1
      split at post
      · rename_i ds e1
        obtain ⟨v', hv', o'⟩ := S1.slot i _ e1
        rw [hv] at hv'
        cases hv'
        obtain ⟨a, vs, rfl, ga, hP, ha, hl, on⟩ := o'.app o1 fun b z y => dj1 b ⟨i, z⟩ y
        split at post
        · rename_i hz
          split at post
          · rename_i σ2 e2
            refine ⟨a, vs, v1, rfl, rfl, ha, by rw [<- hl]; exact Nat.lt_trans hz (by decide), ?_⟩
            obtain ⟨S2, s2⟩ := S1.mut e2 hv dj1 (fun b w n z => by rw [Zap (fun q => n (by rw [q]; exact ga))]; exact z) (Own.sub_upd S1.sub hP) on fun b z => z.elim .inl fun q => .inr (.inl q)
            exact post P1 _ _ ν (s1.trans s2) S2
          · exact post.elim
        · exact post.elim
      · exact post.elim
 · exact post.elim
end DL
set_option autoImplicit false
namespace DL
open PySem L2
variable {K : PySem.W.Frag} {mg : Str -> Option Value} {fx : Nat -> Option V} {E : XK}
abbrev SB := Env' -> Option D
abbrev SP := Env' -> Option T
variable (K mg)
def TBd (fx : Nat -> Option V) (t : TE) (f : SB) : Prop := ∀ P H gs σ ν Q, StOk K mg fx P H gs σ ν -> (match f σ with | some d => ∀ g v, Own K mg P H g d v -> (∀ b, g b -> tot gs b) -> Q v H | none => False) -> t ν H Q
def TPd (fx : Nat -> Option V) (t : TE) (f : SP) : Prop := ∀ P H gs σ ν Q, StOk K mg fx P H gs σ ν -> (match f σ with | some x => ∀ v, Den K mg P x v -> Q v H | none => False) -> t ν H Q
variable {K mg}
def bVar (i : Nat) : SB := fun σ => (σ[i]?).bind Sl.get
theorem Zbs {i : Nat} : TBd K mg fx (tVar i) (bVar i) := by
 intro P H gs σ ν Q S post
 unfold bVar at post
 split at post
 · rename_i d e
   obtain ⟨v, hv, o⟩ := S.slot i d e
   exact ⟨v, hv, post _ v o fun b h => ⟨i, h⟩⟩
 · exact post.elim
def fldD (c f : Str) : D -> Option D
 | .obj c' fs => if c' = c then fs.lookup f else none
 | .t (.ins c' fs) => if c' = c then (fs.lookup f).map .t else none
 | _ => none
theorem ZfX {α : Type} {f : Str} {d : α} : ∀ {fs : List (Str × α)}, fs.lookup f = some d -> ∃ k : Nat, fs[k]? = some (f, d) /\ ∀ {β : Type} (ws : List (Str × β)), ws.map (·.1) = fs.map (·.1) -> ∃ w, ws[k]? = some (f, w) /\ ws.lookup f = some w
 | [], e => by simp at e
 | (g, x) :: r, e => by
  rw [List.lookup_cons] at e
  cases q : f == g with
  | true =>
   rw [q] at e
   cases e
   have eg : f = g := eq_of_beq q
   refine ⟨0, by rw [eg]; rfl, fun ws hw => ?_⟩
   cases ws with
   | nil => simp at hw
   | cons p ws =>
    obtain ⟨g', w⟩ := p
    simp only [List.map_cons, List.cons.injEq] at hw
    refine ⟨w, by rw [hw.1, eg]; rfl, ?_⟩
    rw [List.lookup_cons, hw.1, q]
  | false =>
   rw [q] at e
   obtain ⟨k, h1, h2⟩ := ZfX e
   refine ⟨k + 1, by simpa using h1, fun ws hw => ?_⟩
   cases ws with
   | nil => simp at hw
   | cons p ws =>
    obtain ⟨g', w⟩ := p
    simp only [List.map_cons, List.cons.injEq] at hw
    obtain ⟨w', h3, h4⟩ := h2 ws hw.2
    refine ⟨w', by simpa using h3, ?_⟩
    rw [List.lookup_cons, hw.1, q]
    exact h4
def FOk (K : PySem.W.Frag) (mg : Str -> Option Value) (c f : Str) : Prop := ∀ C, mg c = some (.ref C) -> Cls K C /\ NoAttr K C f
def rFld (K : PySem.W.Frag) (f : Str) : V -> Hp -> VK -> Prop := fun x H Q => ∃ a C dx fs v, x = .ref a /\ H a = some (.ins C dx fs) /\ Cls K C /\ NoAttr K C f /\ fs.lookup f = some v /\ Q v H
theorem Zl8 {P H : Hp} {g : Fp} {d d' : D} {v : V} {c f : Str} {Q : VK} (ok : FOk K mg c f) (s : Sub P H) (o : Own K mg P H g d v) (e : fldD c f d = some d') (k : ∀ g' w, Own K mg P H g' d' w -> (∀ b, g' b -> g b) -> Q w H) : rFld K f v H Q := by
 unfold fldD at e
 split at e
 · split at e
   · rename_i c' fs hc
     subst hc
     cases o with
     | @obj _ gs _ _ a C dx ws h1 h2 h3 h4 h5 h6 h7 h8 h9 =>
      obtain ⟨i, q1, q2⟩ := ZfX e
      obtain ⟨w, q3, q4⟩ := q2 ws h4
      obtain ⟨c1, c2⟩ := ok C h3
      exact ⟨a, C, dx, ws, w, rfl, h1, c1, c2, q4, k _ w (h5 i f d' w q1 q3) fun b z => (h9 b).mpr (.inr ⟨i, z⟩)⟩
   · cases e
 · split at e
   · rename_i c' fs hc
     subst hc
     cases o with
     | t hx hg =>
      cases hx with
      | @ins _ _ a C dx ws h1 h3 h4 h5 =>
       cases q : fs.lookup f with
       | none => rw [q] at e; cases e
       | some x =>
        rw [q] at e
        cases e
        obtain ⟨i, q1, q2⟩ := ZfX q
        obtain ⟨w, q3, q4⟩ := q2 ws h4
        obtain ⟨c1, c2⟩ := ok C h3
        exact ⟨a, C, dx, ws, w, rfl, s _ _ h1, c1, c2, q4, k (fun _ => False) w (.t (h5 i f x w q1 q3) fun _ h => h) fun _ h => h.elim⟩
   · cases e
 · cases e
def bFld (c f : Str) (b : SB) : SB := fun σ => (b σ).bind (fldD c f)
theorem Zgz {c f : Str} {t : TE} {b : SB} (ok : FOk K mg c f) (h : TBd K mg fx t b) : TBd K mg fx (tFld K t f) (bFld c f b) := by
 intro P H gs σ ν Q S post
 unfold bFld at post
 refine h P H gs σ ν _ S ?_
 cases e : b σ with
 | none => rw [e] at post; exact post
 | some d =>
  rw [e] at post
  dsimp only [Option.bind] at post ⊢
  intro g v o hg
  cases e2 : fldD c f d with
  | none => rw [e2] at post; exact post.elim
  | some d' =>
   rw [e2] at post
   exact Zl8 ok S.sub o e2 fun g' w o' hs => post g' w o' fun b z => hg b (hs b z)
def oFld (c f : Str) : T -> Option D
 | .ins c' fs => if c' = c then (fs.lookup f).map .t else none
 | _ => none
theorem Zoq {c f : Str} (ok : FOk K mg c f) : UnD K mg (rFld K f) (oFld c f) := by
 intro P H x v d Q s hx e k
 unfold oFld at e
 split at e
 · rename_i c' fs
   refine Zl8 (d := .t (.ins c' fs)) (d' := d) ok s (.t hx fun _ h => h) e fun g' w o' _ => ?_
   split at e
   · cases q : fs.lookup f with
     | none => rw [q] at e; cases e
     | some x =>
      rw [q] at e
      cases e
      cases o' with
      | t h1 _ => exact done s h1 k
   · cases e
 · cases e
theorem ZaW {c f : Str} {t : TE} {fa : SE} (ok : FOk K mg c f) (h : TEd K mg fx E t fa) : TEd K mg fx E (tFld K t f) (e1 (oFld c f) fa) := Zie (r := rFld K f) (Zoq ok) h
def pC (x : T) : SP := fun _ => some x
theorem Zlm {x : T} {v : V} (h : ∀ P, Den K mg P x v) : TPd K mg fx (tC v) (pC x) := fun P H gs σ ν Q S post => post v (h P)
def pB (b : SB) : SP := fun σ => (b σ).bind fun | .t x => some x | _ => none
theorem tp_b {t : TE} {b : SB} (h : TBd K mg fx t b) : TPd K mg fx t (pB b) := by
 intro P H gs σ ν Q S post
 unfold pB at post
 refine h P H gs σ ν _ S ?_
 cases e : b σ with
 | none => rw [e] at post; exact post
 | some d =>
  rw [e] at post
  intro g v o _
  cases d with
  | t x => cases o with
   | t h1 _ => exact post v h1
  | _ => exact post.elim
def lenD : D -> Option T
 | .lst ds => some (.int ds.length)
 | .t x => (match items x with
  | some ts => some (.int ts.length)
  | none => none)
 | _ => none
def pLen (b : SB) : SP := fun σ => (b σ).bind lenD
theorem Zkj {t : TE} {b : SB} (h : TBd K mg fx t b) : TPd K mg fx (tCB (rLen K) (Zcy t tNil)) (pLen b) := by
 intro P H gs σ ν Q S post
 unfold pLen at post
 refine h P H gs σ ν _ S ?_
 cases e : b σ with
 | none => rw [e] at post; exact post
 | some d =>
  rw [e] at post
  intro g v o _
  dsimp only [Option.bind] at post
  cases d with
  | t x =>
   simp only [lenD] at post
   cases q : items x with
   | none => rw [q] at post; exact post.elim
   | some ts =>
    rw [q] at post
    cases o with
    | t h1 _ =>
     obtain ⟨p, vs, rfl, a1, a2, a3⟩ := Zen h1 q
     exact .inl ⟨p, vs, rfl, Zdz S.sub a1, by rw [<- a2]; exact post _ .int⟩
  | lst ds =>
   cases o with
   | lst h1 h2 h3 => exact .inl ⟨_, _, rfl, .inl (.of h1), by rw [<- h3]; exact post _ .int⟩
  | _ => exact post.elim
def p2 (op : T -> T -> Option D) (f g : SP) : SP := fun σ => (f σ).bind fun x => (g σ).bind fun y => (op x y).bind fun | .t z => some z | _ => none
theorem Zl9 {o : Int -> Int -> Int} {ta tb : TE} {f g : SP} (ha : TPd K mg fx ta f) (hb : TPd K mg fx tb g) : TPd K mg fx (tOp (rI0 fun i j => .int (o i j)) ta tb) (p2 (oI (fun _ _ => true) o) f g) := by
 intro P H gs σ ν Q S post
 unfold p2 at post
 refine ha P H gs σ ν _ S ?_
 cases e : f σ with
 | none => rw [e] at post; exact post
 | some x =>
  rw [e] at post
  intro v hx
  refine hb P H gs σ ν _ S ?_
  cases e2 : g σ with
  | none => rw [e2] at post; exact post
  | some y =>
   rw [e2] at post
   intro w hy
   dsimp only [Option.bind] at post
   cases x with
   | int i => cases y with
    | int j => cases hx; cases hy; exact ⟨i, j, rfl, rfl, post _ .int⟩
    | _ => exact post.elim
   | _ => exact post.elim
def pNeg (f : SP) : SP := fun σ => (f σ).bind fun | .int i => some (.int (-i)) | _ => none
theorem ZfY {t : TE} {f : SP} (h : TPd K mg fx t f) : TPd K mg fx (tUn (rU fun i => .int (-i)) t) (pNeg f) := by
 intro P H gs σ ν Q S post
 unfold pNeg at post
 refine h P H gs σ ν _ S ?_
 cases e : f σ with
 | none => rw [e] at post; exact post
 | some x =>
  rw [e] at post
  intro v hx
  cases x with
  | int i => cases hx; exact ⟨i, rfl, post _ .int⟩
  | _ => exact post.elim
def eP (f : SP) : SE := fun σ => match f σ with
 | some x => .ok (.t x) σ
 | none => .bad
theorem td_p {t : TE} {f : SP} (h : TPd K mg fx t f) : TEd K mg fx E t (eP f) := by
 intro P H gs σ ν Q S post
 unfold eP at post
 refine h P H gs σ ν _ S ?_
 cases e : f σ with
 | none => rw [e] at post; exact post
 | some x =>
  rw [e] at post
  intro v hx
  exact okT post .refl S hx
def ixD : D -> Int -> Option T
 | .lst ds, k => (atI ds k).bind fun | .t x => some x | _ => none
 | .t x, k => (match items x with
  | some ts => atI ts k
  | none => none)
 | _, _ => none
def pIx (b : SB) (f : SP) : SP := fun σ => (b σ).bind fun d => (f σ).bind fun | .int k => ixD d k | _ => none
theorem Zm6 {ds : List D} {vs : List V} {k : Int} {d : D} (hl : ds.length = vs.length) (e : atI ds k = some d) : ∃ (j : Nat) (v : V), ds[j]? = some d /\ vs[j]? = some v /\ atI vs k = some v := by
 unfold atI at e ⊢
 rw [<- hl]
 cases q : ixN ds.length k with
 | none => rw [q] at e; cases e
 | some j =>
  rw [q] at e
  obtain ⟨v, hv⟩ := Zdr (hl ▸ Zci e)
  exact ⟨j, v, e, hv, hv⟩
theorem Zjp {t u : TE} {b : SB} {f : SP} (h : TBd K mg fx t b) (h' : TPd K mg fx u f) : TPd K mg fx (tOp (Zll K) t u) (pIx b f) := by
 intro P H gs σ ν Q S post
 unfold pIx at post
 refine h P H gs σ ν _ S ?_
 cases e : b σ with
 | none => rw [e] at post; exact post
 | some d =>
  rw [e] at post
  intro g v o _
  refine h' P H gs σ ν _ S ?_
  cases e2 : f σ with
  | none => rw [e2] at post; exact post
  | some y =>
   rw [e2] at post
   intro w hy
   dsimp only [Option.bind] at post
   cases y with
   | int k =>
    cases hy
    dsimp only at post
    cases d with
    | t x =>
     simp only [ixD] at post
     cases q : items x with
     | none => rw [q] at post; exact post.elim
     | some ts =>
      rw [q] at post
      dsimp only at post
      cases o with
      | t h1 _ =>
       obtain ⟨p, vs, rfl, a1, a2, a3⟩ := Zen h1 q
       cases q2 : atI ts k with
       | none => rw [q2] at post; exact post.elim
       | some z =>
        rw [q2] at post
        obtain ⟨u, hu, dn⟩ := Zki a2 a3 q2
        rcases Zdz (K := K) S.sub a1 with y | y
        · exact .inl ⟨p, vs, k, u, rfl, rfl, y, hu, post u dn⟩
        · exact .inr ⟨p, vs, k, u, rfl, rfl, y, hu, post u dn⟩
    | lst ds =>
     simp only [ixD] at post
     cases o with
     | lst h1 h2 h3 h4 =>
      cases q2 : atI ds k with
      | none => rw [q2] at post; exact post.elim
      | some z =>
       rw [q2] at post
       cases z with
       | t x =>
        obtain ⟨j, u, k1, k2, k3⟩ := Zm6 h3 q2
        have ou := h4 j _ u k1 k2
        cases ou with
        | t dn _ => exact .inl ⟨_, _, k, u, rfl, rfl, .of h1, k3, post u dn⟩
       | _ => exact post.elim
    | _ => exact post.elim
   | _ => exact post.elim
def putD (f : Str) (d : D) : List (Str × D) -> List (Str × D)
 | [] => [(f, d)]
 | (g, x) :: r => if g = f then (g, d) :: r else (g, x) :: putD f d r
end DL
set_option autoImplicit false
namespace DL
open PySem L2
variable {K : PySem.W.Frag} {mg : Str -> Option Value} {fx : Nat -> Option V} {E : XK}
theorem ZgY {f : Str} {d : D} : ∀ {fs : List (Str × D)}, fs.lookup f = some d -> ∃ k : Nat, fs[k]? = some (f, d) /\ (∀ d2, putD f d2 fs = fs.set k (f, d2)) /\ (∀ ws : List (Str × V), ws.map (·.1) = fs.map (·.1) -> ∃ w, ws[k]? = some (f, w) /\ ws.lookup f = some w /\ ∀ y, putF f y ws = ws.set k (f, y))
 | [], e => by simp at e
 | (g, x) :: r, e => by
  rw [List.lookup_cons] at e
  cases q : f == g with
  | true =>
   rw [q] at e
   cases e
   have eg : f = g := eq_of_beq q
   subst eg
   refine ⟨0, rfl, fun d2 => by simp [putD], fun ws hw => ?_⟩
   cases ws with
   | nil => simp at hw
   | cons p ws =>
    obtain ⟨g', w⟩ := p
    simp only [List.map_cons, List.cons.injEq] at hw
    obtain ⟨rfl, hw⟩ := hw
    exact ⟨w, rfl, by rw [List.lookup_cons, q], fun y => by simp [putF]⟩
  | false =>
   rw [q] at e
   have ng : ¬ g = f := fun z => by rw [z] at q; simp at q
   obtain ⟨k, h1, h2, h3⟩ := ZgY e
   refine ⟨k + 1, by simpa using h1, fun d2 => by rw [putD, if_neg ng, h2 d2]; rfl, fun ws hw => ?_⟩
   cases ws with
   | nil => simp at hw
   | cons p ws =>
    obtain ⟨g', w⟩ := p
    simp only [List.map_cons, List.cons.injEq] at hw
    obtain ⟨rfl, hw⟩ := hw
    obtain ⟨w', h4, h5, h6⟩ := h3 ws hw
    exact ⟨w', by simpa using h4, by rw [List.lookup_cons, q]; exact h5, fun y => by rw [putF, if_neg ng, h6 y]; rfl⟩
theorem ZiN {f : Str} {d2 : D} : ∀ {fs : List (Str × D)}, fs.lookup f = none -> putD f d2 fs = fs ++ [(f, d2)] /\ ∀ ws : List (Str × V), ws.map (·.1) = fs.map (·.1) -> ∀ y, putF f y ws = ws ++ [(f, y)]
 | [], e => ⟨rfl, fun ws hw y => by cases ws with | nil => rfl | cons p ws => simp at hw⟩
 | (g, x) :: r, e => by
  rw [List.lookup_cons] at e
  cases q : f == g with
  | true => rw [q] at e; cases e
  | false =>
   rw [q] at e
   have ng : ¬ g = f := fun z => by rw [z] at q; simp at q
   obtain ⟨h1, h2⟩ := ZiN (d2 := d2) e
   refine ⟨by rw [putD, if_neg ng, h1]; rfl, fun ws hw y => ?_⟩
   cases ws with
   | nil => simp at hw
   | cons p ws =>
    obtain ⟨g', w⟩ := p
    simp only [List.map_cons, List.cons.injEq] at hw
    obtain ⟨rfl, hw⟩ := hw
    rw [putF, if_neg ng, h2 ws hw y]; rfl
theorem ZiO {α : Type} {fs : List (Str × α)} {k : Nat} {f : Str} {d x : α} (h : fs[k]? = some (f, d)) : (fs.set k (f, x)).map (·.1) = fs.map (·.1) := by
 apply List.ext_getElem?
 intro i
 rw [List.getElem?_map, List.getElem?_map]
 by_cases hi : i = k
 · subst hi; rw [List.getElem?_set_self (Zci h), h]; rfl
 · rw [List.getElem?_set_ne (Ne.symm hi)]
theorem Own.setFld {P H H2 : Hp} {gs : Nat -> Fp} {c f : Str} {fs : List (Str × D)} {ws : List (Str × V)} {a C dx : Addr} {k : Nat} {d d0 : D} {w v0 : V} {g0 : Fp} (h2 : P a = none) (h3 : mg c = some (.ref C)) (h4 : ws.map (·.1) = fs.map (·.1))
 (h5 : ∀ (i : Nat) f d w, fs[i]? = some (f, d) -> ws[i]? = some (f, w) -> Own K mg P H (gs i) d w) (h6 : ∀ i, ¬ gs i a) (h7 : ∀ i j b, i ≠ j -> gs i b -> ¬ gs j b) (h8 : ∀ i b, fs.length <= i -> ¬ gs i b)
 (q1 : fs[k]? = some (f, d)) (q4 : ws[k]? = some (f, w)) (ha : H2 a = some (.ins C dx (ws.set k (f, v0)))) (hH : ∀ b o, b ≠ a -> ¬ gs k b -> H b = some o -> H2 b = some o) (o0 : Own K mg P H2 g0 d0 v0) (f1 : ¬ g0 a) (f2 : ∀ i b, i ≠ k -> gs i b -> ¬ g0 b) :
 Own K mg P H2 (fun b => b = a \/ (∃ i, i ≠ k /\ gs i b) \/ g0 b) (.obj c (fs.set k (f, d0))) (.ref a) := by
 refine .obj (gs := fun i => if i = k then g0 else gs i) ha h2 h3 (by rw [ZiO q4, ZiO q1]; exact h4) (fun i f' d' w' e e' => ?_) (fun i z => ?_) (fun i j b hij hi hj => ?_) (fun i b hle z => ?_) fun b => ?_
 · by_cases hi : i = k
   · subst hi
     rw [List.getElem?_set_self (Zci q1)] at e
     rw [List.getElem?_set_self (Zci q4)] at e'
     cases e; cases e'
     simp only [if_true]
     exact o0
   · rw [List.getElem?_set_ne (Ne.symm hi)] at e e'
     simp only [hi, if_false]
     have q := h5 i f' d' w' e e'
     exact q.frame (.refl _) (fun b w z y => hH b w (fun z2 => h6 i (by rw [<- z2]; exact z)) (h7 i k b hi z) y) fun b z => (q.at b z).2
 · by_cases hi : i = k
   · simp only [hi, if_true] at z; exact f1 z
   · simp only [hi, if_false] at z; exact h6 i z
 · by_cases hi' : i = k
   · by_cases hj' : j = k
     · exact hij (hi'.trans hj'.symm)
     · simp only [hi', if_true] at hi
       simp only [hj', if_false] at hj
       exact f2 j b hj' hj hi
   · simp only [hi', if_false] at hi
     by_cases hj' : j = k
     · simp only [hj', if_true] at hj; exact f2 i b hi' hi hj
     · simp only [hj', if_false] at hj; exact h7 i j b hij hi hj
 · have hi : i ≠ k := by have := Zci q1; simp at hle; omega
   simp only [hi, if_false] at z
   exact h8 i b (by simpa using hle) z
 · constructor
   · rintro (z | ⟨i, hi, z⟩ | z)
     · exact .inl z
     · exact .inr ⟨i, by simp only [hi, if_false]; exact z⟩
     · exact .inr ⟨k, by simp only [if_true]; exact z⟩
   · rintro (z | ⟨i, z⟩)
     · exact .inl z
     · by_cases hi : i = k
       · simp only [hi, if_true] at z; exact .inr (.inr z)
       · simp only [hi, if_false] at z; exact .inr (.inl ⟨i, hi, z⟩)
theorem Own.inField {P H : Hp} {g : Fp} {c f : Str} {fs : List (Str × D)} {d : D} {v : V} (h : Own K mg P H g (.obj c fs) v) (e : fs.lookup f = some d) :
 ∃ a C dx ws w gk, v = .ref a /\ H a = some (.ins C dx ws) /\ mg c = some (.ref C) /\ ws.lookup f = some w /\ Own K mg P H gk d w /\ (∀ b, gk b -> g b) /\ ∀ H2 g2 d2 (g0 : Fp), (∀ b o, ¬ gk b -> H b = some o -> H2 b = some o) -> Own K mg P H2 g2 d2 w -> (∀ b, g2 b -> gk b \/ g0 b \/ H b = none) -> (∀ b, g b -> ¬ g0 b) ->
  ∃ g', Own K mg P H2 g' (.obj c (putD f d2 fs)) v /\ ∀ b, g' b -> g b \/ g0 b \/ H b = none := by
 have at_ := h.at
 cases h with
 | @obj _ gs _ _ a C dx ws h1 h2 h3 h4 h5 h6 h7 h8 h9 =>
  obtain ⟨k, q1, q2, q3⟩ := ZgY e
  obtain ⟨w, q4, q5, _⟩ := q3 ws h4
  have ga : g a := (h9 a).mpr (.inl rfl)
  have gi : ∀ i b, gs i b -> g b := fun i b z => (h9 b).mpr (.inr ⟨i, z⟩)
  refine ⟨a, C, dx, ws, w, gs k, rfl, h1, h3, q5, h5 k f d w q1 q4, gi k, fun H2 g2 d2 g0 hH o2 hn hg0 => ?_⟩
  rw [q2 d2]
  have far : ∀ b, g b -> ¬ gs k b -> ¬ g2 b := fun b z y x => by
   rcases hn b x with q | q | q
   · exact y q
   · exact hg0 b z q
   · obtain ⟨⟨o, w⟩, _⟩ := at_ b z
     rw [w] at q; cases q
  have ha2 : H2 a = some (.ins C dx (ws.set k (f, w))) := by
   rw [hH a _ (h6 k) h1]
   congr 2
   apply List.ext_getElem?
   intro i
   by_cases hi : i = k
   · subst hi; rw [List.getElem?_set_self (Zci q4), q4]
   · rw [List.getElem?_set_ne (Ne.symm hi)]
  refine ⟨_, Own.setFld h2 h3 h4 h5 h6 h7 h8 q1 q4 ha2 (fun b o _ n z => hH b o n z) o2 (far a ga (h6 k)) (fun i b hi z => far b (gi i b z) (h7 i k b hi z)), fun b z => ?_⟩
  rcases z with z | ⟨i, _, z⟩ | z
  · rw [z]; exact .inl ga
  · exact .inl (gi i b z)
  · exact (hn b z).imp (gi k b) id
def Zln (i : Nat) (c f : Str) (p : SP) : SS := fun σ => match (σ[i]?).bind Sl.get with
 | some (.obj c' fs) => if c' = c then (match fs.lookup f with
  | some (.lst ds) => if ds.length < 1000000 then (match p σ with
   | some x => (match upSl i (.obj c (putD f (.lst (ds ++ [.t x])) fs)) σ with
    | some σ2 => .next σ2
    | none => .bad)
   | none => .bad) else .bad
  | _ => .bad) else .bad
 | _ => .bad
theorem Zm7 {i : Nat} {c f : Str} {t : TE} {p : SP} (ok : FOk K mg c f) (h : TPd K mg fx t p) : TSd K mg fx E (ZkW (tBM K "list" ZgU (tFld K (tVar i) f) (Zcy t tNil))) (Zln i c f p) := by
 intro P H gs σ ν N S post
 unfold Zln at post
 split at post
 · rename_i c' fs e0
   split at post
   · rename_i hc
     subst hc
     split at post
     · rename_i ds e1
       split at post
       · rename_i hz
         split at post
         · rename_i x ep
           split at post
           · rename_i σ2 e2
             obtain ⟨v, hv, o⟩ := S.slot i _ e0
             obtain ⟨a, C, dx, ws, w, gk, rfl, ha, hm, hl, ok2, hsub, up⟩ := o.inField e1
             obtain ⟨c1, c2⟩ := ok C hm
             refine ⟨.ref a, hv, a, C, dx, ws, w, rfl, ha, c1, c2, hl, ?_, ?_⟩
             · cases ok2 with
               | lst q1 => exact .inl ⟨rfl, _, .of q1⟩
             · refine h P H gs σ ν _ S ?_
               rw [ep]
               intro v1 dn
               obtain ⟨l, vs, rfl, gl, hP, hl2, hlen, on⟩ := ok2.app (g0 := fun _ => False) (.t dn fun _ h => h) fun _ _ h => h
               refine ⟨l, vs, v1, rfl, rfl, hl2, by rw [<- hlen]; exact Nat.lt_trans hz (by decide), ?_⟩
               obtain ⟨g', og, hg'⟩ := up (upd H l (.lst (vs ++ [v1]))) _ _ (fun _ => False) (fun b o n z => by rw [Zap (fun q => n (by rw [q]; exact gl))]; exact z) on (fun b z => z.elim .inl fun q => q.elim) fun _ _ h => h
               obtain ⟨S2, s2⟩ := S.mut (g0 := fun _ => False) e2 hv (fun _ _ h => h) (fun b o n z => by rw [Zap (fun q => n (hsub b (by rw [q]; exact gl)))]; exact z) (Own.sub_upd S.sub hP) og hg'
               exact post P _ _ ν ⟨s2.mono, fun b o n z => s2.frame b o (fun y => y.elim n id) z, fun b z => (s2.new b z).imp (fun y => y.elim id fun q => q.elim) id, fun b o z => (s2.pnew b o z).imp id fun y => y.imp (fun q => q.elim id fun r => r.elim) id⟩ S2
           · exact post.elim
         · exact post.elim
       · exact post.elim
     · exact post.elim
   · exact post.elim
 · exact post.elim
theorem Own.putField {P H : Hp} {g g0 : Fp} {c f : Str} {fs : List (Str × D)} {d0 : D} {v v0 : V} (h : Own K mg P H g (.obj c fs) v) (o0 : Own K mg P H g0 d0 v0) (dj : ∀ b, g b -> ¬ g0 b) :
 ∃ a C dx ws g', v = .ref a /\ g a /\ P a = none /\ H a = some (.ins C dx ws) /\ mg c = some (.ref C) /\ ws.length = fs.length /\ Own K mg P (upd H a (.ins C dx (putF f v0 ws))) g' (.obj c (putD f d0 fs)) v /\ ∀ b, g' b -> g b \/ g0 b := by
 cases h with
 | @obj _ gs _ _ a C dx ws h1 h2 h3 h4 h5 h6 h7 h8 h9 =>
  have ga : g a := (h9 a).mpr (.inl rfl)
  have gi : ∀ i b, gs i b -> g b := fun i b z => (h9 b).mpr (.inr ⟨i, z⟩)
  have hlen : ws.length = fs.length := by have := congrArg List.length h4; simpa using this
  have f1 : ¬ g0 a := dj a ga
  have o0' : Own K mg P (upd H a (.ins C dx (putF f v0 ws))) g0 d0 v0 := o0.frame (.refl _) (fun b w z y => by rw [Zap (fun q => f1 (by rw [<- q]; exact z))]; exact y) fun b z => (o0.at b z).2
  cases e : fs.lookup f with
  | some d =>
   obtain ⟨k, q1, q2, q3⟩ := ZgY e
   obtain ⟨w, q4, q5, q6⟩ := q3 ws h4
   refine ⟨a, C, dx, ws, fun b => b = a \/ (∃ i, i ≠ k /\ gs i b) \/ g0 b, rfl, ga, h2, h1, h3, hlen, ?_, ?_⟩
   · rw [q2 d0]
     exact Own.setFld h2 h3 h4 h5 h6 h7 h8 q1 q4 (by rw [ZaG, q6 v0]) (fun b o n _ z => by rw [Zap n]; exact z) o0' f1 fun i b _ z => dj b (gi i b z)
   · rintro b (z | ⟨i, _, z⟩ | z)
     · rw [z]; exact .inl ga
     · exact .inl (gi i b z)
     · exact .inr z
  | none =>
   obtain ⟨q1, q2⟩ := ZiN (d2 := d0) e
   refine ⟨a, C, dx, ws, fun b => g b \/ g0 b, rfl, ga, h2, h1, h3, hlen, ?_, fun b z => z⟩
   rw [q1]
   refine .obj (gs := fun i => if i = fs.length then g0 else gs i) (by rw [ZaG, q2 ws h4 v0]) h2 h3 (by simp [h4]) (fun i f' d' w' e e' => ?_) (fun i z => ?_) (fun i j b hij hi hj => ?_) (fun i b hle z => ?_) fun b => ?_
   · by_cases hi : i < fs.length
     · rw [List.getElem?_append_left hi] at e
       rw [List.getElem?_append_left (hlen ▸ hi)] at e'
       simp only [Nat.ne_of_lt hi, if_false]
       have q := h5 i f' d' w' e e'
       exact q.frame (.refl _) (fun b w z y => by rw [Zap (fun z2 => h6 i (by rw [<- z2]; exact z))]; exact y) fun b z => (q.at b z).2
     · have hi2 : i = fs.length := by have := Zci e; simp at this; omega
       subst hi2
       rw [List.getElem?_append_right (Nat.le_refl _), Nat.sub_self] at e
       rw [<- hlen, List.getElem?_append_right (Nat.le_refl _), Nat.sub_self] at e'
       cases e; cases e'
       simp only [if_true]
       exact o0'
   · by_cases hi : i = fs.length
     · simp only [hi, if_true] at z; exact f1 z
     · simp only [hi, if_false] at z; exact h6 i z
   · by_cases hi' : i = fs.length
     · by_cases hj' : j = fs.length
       · exact hij (hi'.trans hj'.symm)
       · simp only [hi', if_true] at hi
         simp only [hj', if_false] at hj
         exact dj b (gi j b hj) hi
     · simp only [hi', if_false] at hi
       by_cases hj' : j = fs.length
       · simp only [hj', if_true] at hj; exact dj b (gi i b hi) hj
       · simp only [hj', if_false] at hj; exact h7 i j b hij hi hj
   · have hi : i ≠ fs.length := by simp at hle; omega
     simp only [hi, if_false] at z
     exact h8 i b (by simp at hle; omega) z
   · rw [h9 b]
     constructor
     · rintro ((z | ⟨i, z⟩) | z)
       · exact .inl z
       · refine .inr ⟨i, ?_⟩
         by_cases hi : i = fs.length
         · exact absurd z (h8 i b (by omega))
         · simp only [hi, if_false]; exact z
       · exact .inr ⟨fs.length, by simp only [if_true]; exact z⟩
     · rintro (z | ⟨i, z⟩)
       · exact .inl (.inl z)
       · by_cases hi : i = fs.length
         · simp only [hi, if_true] at z; exact .inr z
         · simp only [hi, if_false] at z; exact .inl (.inr ⟨i, z⟩)
def ZgZ (i : Nat) (c f : Str) (fa : SE) : SS := fun σ => (fa σ).th fun d σ1 => match (σ1[i]?).bind Sl.get with
 | some (.obj c' fs) => if c' = c /\ fs.length < 1000 then (match upSl i (.obj c (putD f d fs)) σ1 with
  | some σ2 => .next σ2
  | none => .bad) else .bad
 | _ => .bad
theorem Zfa {i : Nat} {c f : Str} {t : TE} {fa : SE} (ok : FOk K mg c f) (h : TEd K mg fx E t fa) : TSd K mg fx E (sFld K (tVar i) t f) (ZgZ i c f fa) := by
 intro P H gs σ ν N S post
 unfold ZgZ at post
 refine h P H gs σ ν _ S ?_
 cases e : fa σ with
 | bad => rw [e] at post; exact post
 | exc c σ1 => rw [e] at post; exact PostS.x post
 | ok d σ1 =>
  rw [e] at post
  dsimp only [Out.th] at post
  intro P1 H1 gs1 g1 v1 s1 S1 o1 dj1
  split at post
  · rename_i c' fs e1
    split at post
    · rename_i hc
      obtain ⟨hc, hz⟩ := hc
      subst hc
      split at post
      · rename_i σ2 e2
        obtain ⟨v, hv, o⟩ := S1.slot i _ e1
        obtain ⟨a, C, dx, ws, g', rfl, ga, hP, ha, hm, hlen, on, hg'⟩ := o.putField (f := f) o1 fun b z y => dj1 b ⟨i, z⟩ y
        obtain ⟨c1, c2⟩ := ok C hm
        refine ⟨.ref a, hv, a, C, dx, ws, rfl, ha, c1, c2, by omega, ?_⟩
        obtain ⟨S2, s2⟩ := S1.mut e2 hv dj1 (fun b w n z => by rw [Zap (fun q => n (by rw [q]; exact ga))]; exact z) (Own.sub_upd S1.sub hP) on fun b z => (hg' b z).imp id .inl
        exact post P1 _ _ ν (s1.trans s2) S2
      · exact post.elim
    · exact post.elim
  · exact post.elim
def Zlo (i : Nat) (fa : SE) (p : SP) : SS := fun σ => (fa σ).th fun d σ1 => match (σ1[i]?).bind Sl.get, p σ1 with
 | some (.lst ds), some (.int k) => (match ixN ds.length k with
  | some j => (match upSl i (.lst (ds.set j d)) σ1 with
   | some σ2 => .next σ2
   | none => .bad)
  | none => .bad)
 | _, _ => .bad
theorem Zm8 {i : Nat} {t u : TE} {fa : SE} {p : SP} (h : TEd K mg fx E t fa) (h' : TPd K mg fx u p) : TSd K mg fx E (tAsg t (gSub (tVar i) u ZmH)) (Zlo i fa p) := by
 intro P H gs σ ν N S post
 unfold Zlo at post
 refine h P H gs σ ν _ S ?_
 cases e : fa σ with
 | bad => rw [e] at post; exact post
 | exc c σ1 => rw [e] at post; exact PostS.x post
 | ok d σ1 =>
  rw [e] at post
  dsimp only [Out.th] at post
  intro P1 H1 gs1 g1 v1 s1 S1 o1 dj1
  split at post
  · rename_i ds k e1 ep
    split at post
    · rename_i j ej
      split at post
      · rename_i σ2 e2
        obtain ⟨v, hv, o⟩ := S1.slot i _ e1
        refine ⟨v, hv, ?_⟩
        refine h' P1 H1 gs1 σ1 ν _ S1 ?_
        rw [ep]
        intro w hw
        cases hw
        cases o with
        | @lst _ gg _ a vs q1 q2 q3 q4 q5 q6 q7 q8 =>
         have ga : gs1 i a := (q8 a).mpr (.inl rfl)
         refine ⟨a, vs, k, j, rfl, rfl, q1, by rw [<- q3]; exact ej, ?_⟩
         have hj := (ZfR ej).2.1
         have fa' : ¬ g1 a := dj1 a ⟨i, ga⟩
         have on := Own.setAt (H2 := upd H1 a (.lst (vs.set j v1))) (g := gs1 i) (gk := fun _ => False) (k := j) q2 q3 q4 q5 q6 q7 hj rfl ZaG (fun b o n _ z => by rw [Zap n]; exact z) (o1.frame (.refl _) (fun b o z y => by rw [Zap (fun q => fa' (by rw [<- q]; exact z))]; exact y) fun b z => (o1.at b z).2) fa' fun l b _ z => dj1 b |> fun f y => f ⟨i, (q8 b).mpr (.inr ⟨l, z⟩)⟩ y
         obtain ⟨S2, s2⟩ := S1.mut e2 hv dj1 (fun b w n z => by rw [Zap (fun q => n (by rw [q]; exact ga))]; exact z) (Own.sub_upd S1.sub q2) on fun b z => by
          rcases z with z | ⟨l, _, z⟩ | z
          · rw [z]; exact .inl ga
          · exact .inl ((q8 b).mpr (.inr ⟨l, z⟩))
          · exact .inr (.inl z)
         exact post P1 _ _ ν (s1.trans s2) S2
      · exact post.elim
    · exact post.elim
  · exact post.elim
def Zig (i : Nat) (fa : SE) (p q : SP) : SS := fun σ => (fa σ).th fun d σ1 => match (σ1[i]?).bind Sl.get, p σ1, q σ1 with
 | some (.lst ds), some (.int k), some (.int l) => (match ixN ds.length k with
  | some j => (match ds[j]? with
   | some (.lst es) => (match ixN es.length l with
    | some m => (match upSl i (.lst (ds.set j (.lst (es.set m d)))) σ1 with
     | some σ2 => .next σ2
     | none => .bad)
    | none => .bad)
   | _ => .bad)
  | none => .bad)
 | _, _, _ => .bad
theorem Zkk {i : Nat} {t u w : TE} {fa : SE} {p q : SP} (h : TEd K mg fx E t fa) (h' : TPd K mg fx u p) (h'' : TPd K mg fx w q) : TSd K mg fx E (tAsg t (gSub (tOp (Zll K) (tVar i) u) w ZmH)) (Zig i fa p q) := by
 intro P H gs σ ν N S post
 unfold Zig at post
 refine h P H gs σ ν _ S ?_
 cases e : fa σ with
 | bad => rw [e] at post; exact post
 | exc c σ1 => rw [e] at post; exact PostS.x post
 | ok d σ1 =>
  rw [e] at post
  dsimp only [Out.th] at post
  intro P1 H1 gs1 g1 v1 s1 S1 o1 dj1
  split at post
  · rename_i ds k l e1 ep eq
    split at post
    · rename_i j ej
      split at post
      · rename_i es ee
        split at post
        · rename_i m em
          split at post
          · rename_i σ2 e2
            obtain ⟨v, hv, o⟩ := S1.slot i _ e1
            refine ⟨v, hv, ?_⟩
            refine h' P1 H1 gs1 σ1 ν _ S1 ?_
            rw [ep]
            intro w0 hw
            cases hw
            cases o with
            | @lst _ gg _ a vs q1 q2 q3 q4 q5 q6 q7 q8 =>
             have ga : gs1 i a := (q8 a).mpr (.inl rfl)
             have gi : ∀ l b, gg l b -> gs1 i b := fun l b z => (q8 b).mpr (.inr ⟨l, z⟩)
             have hj := (ZfR ej).2.1
             obtain ⟨vj, hvj⟩ := Zdr (q3 ▸ hj)
             have oj := q4 j _ vj ee hvj
             refine .inl ⟨a, vs, k, vj, rfl, rfl, .of q1, by unfold atI; rw [<- q3, ej]; exact hvj, ?_⟩
             refine h'' P1 H1 gs1 σ1 ν _ S1 ?_
             rw [eq]
             intro w1 hw1
             cases hw1
             have atj := oj.at
             cases oj with
             | @lst _ g3 _ a2 ws r1 r2 r3 r4 r5 r6 r7 r8 =>
              have ga2 : gg j a2 := (r8 a2).mpr (.inl rfl)
              refine ⟨a2, ws, l, m, rfl, rfl, r1, by rw [<- r3]; exact em, ?_⟩
              have hm := (ZfR em).2.1
              have na2 : ¬ g1 a2 := dj1 a2 ⟨i, gi j a2 ga2⟩
              have ne : a ≠ a2 := fun z => q5 j (by rw [z]; exact ga2)
              have oi := Own.setAt (H2 := upd H1 a2 (.lst (ws.set m v1))) (g := gg j) (gk := fun _ => False) (k := m) r2 r3 r4 r5 r6 r7 hm rfl ZaG (fun b o n _ z => by rw [Zap n]; exact z) (o1.frame (.refl _) (fun b o z y => by rw [Zap (fun q => na2 (by rw [<- q]; exact z))]; exact y) fun b z => (o1.at b z).2) na2 (fun n b _ z y => dj1 b ⟨i, gi j b ((r8 b).mpr (.inr ⟨n, z⟩))⟩ y)
              have sub3 : ∀ b, (b = a2 \/ (∃ n, n ≠ m /\ g3 n b) \/ g1 b) -> gg j b \/ g1 b := by
               rintro b (z | ⟨n, _, z⟩ | z)
               · rw [z]; exact .inl ga2
               · exact .inl ((r8 b).mpr (.inr ⟨n, z⟩))
               · exact .inr z
              have on := Own.setAt (H2 := upd H1 a2 (.lst (ws.set m v1))) (vs2 := vs.set j (.ref a2)) (g := gs1 i) (gk := fun _ => False) (k := j) q2 q3 q4 q5 q6 q7 hj rfl (by
               rw [Zap ne, q1]
               congr 2
               apply List.ext_getElem?
               intro n
               by_cases hn : n = j
               · subst hn; rw [List.getElem?_set_self (Zci hvj), hvj]
               · rw [List.getElem?_set_ne (Ne.symm hn)]) (fun b o _ n z => by rw [Zap (fun q => n (by rw [q]; exact ga2))]; exact z) oi (fun z => (sub3 a z).elim (fun y => q5 j y) fun y => dj1 a ⟨i, ga⟩ y) fun n b hn z y => (sub3 b y).elim (fun x => q6 n j b hn z x) fun x => dj1 b ⟨i, gi n b z⟩ x
              obtain ⟨S2, s2⟩ := S1.mut e2 hv dj1 (fun b w n z => by rw [Zap (fun q => n (by rw [q]; exact gi j a2 ga2))]; exact z) (Own.sub_upd S1.sub r2) on fun b z => by
               rcases z with z | ⟨n, _, z⟩ | z
               · rw [z]; exact .inl ga
               · exact .inl (gi n b z)
               · exact (sub3 b z).imp (gi j b) .inl
              exact post P1 _ _ ν (s1.trans s2) S2
          · exact post.elim
        · exact post.elim
      · exact post.elim
    · exact post.elim
  · exact post.elim
end DL
set_option autoImplicit false
namespace DL
open PySem L2
variable {K : PySem.W.Frag} {mg : Str -> Option Value} {fx : Nat -> Option V} {E : XK}
theorem ZhD {α β : Type} {f : Str} : ∀ {fs : List (Str × α)} {ws : List (Str × β)}, fs.lookup f = none -> ws.map (·.1) = fs.map (·.1) -> ws.lookup f = none
 | [], [], _, _ => rfl
 | [], _ :: _, _, h => by simp at h
 | _ :: _, [], _, h => by simp at h
 | (g, x) :: r, (g', w) :: ws, e, h => by
  simp only [List.map_cons, List.cons.injEq] at h
  rw [List.lookup_cons] at e ⊢
  rw [h.1]
  cases q : f == g with
  | true => rw [q] at e; cases e
  | false => rw [q] at e; exact ZhD e h.2
def Zbi (i : Nat) (c m : Str) (n : Nat) (F : List D -> FO) (io : List (Option Nat)) (fa : SA) : SE := fun σ => match (σ[i]?).bind Sl.get with
 | some (.obj c' fs) => if c' = c /\ (fs.lookup m).isNone = true then ZaB n F (some i :: io) (aIo i fa) σ else .bad
 | _ => .bad
theorem ZaF {i : Nat} {c m : Str} {C : Addr} {n : Nat} {F : List D -> FO} {io : List (Option Nat)} {ta : TA} {fa : SA} (hC : mg c = some (.ref C)) (ha : TLd K mg fx E io ta fa) : TEd K mg fx E (Zh3 C m (spF K mg n F) [] E (tVar i) ta) (Zbi i c m n F io fa) := by
 intro P H gs σ ν Q S post
 unfold Zbi at post
 split at post
 · rename_i c' fs e0
   split at post
   · rename_i hc
     obtain ⟨hc, hm⟩ := hc
     subst hc
     have hm' : fs.lookup m = none := by
      cases q : fs.lookup m with
      | none => rfl
      | some z => rw [q] at hm; cases hm
     obtain ⟨v, hv, o⟩ := S.slot i _ e0
     have key := Zar (n := n) (F := F) (ZeX (i := i) ha) P H gs σ ν Q S post
     obtain ⟨v', hv', key⟩ := key
     rw [hv] at hv'
     cases hv'
     refine ⟨v, hv, ?_⟩
     cases o with
     | @obj _ gg _ _ a C' dx ws h1 h2 h3 h4 =>
      rw [hC] at h3
      cases h3
      refine ⟨a, dx, ws, rfl, h1, ZhD hm' h4, ?_⟩
      exact key
   · exact post.elim
 · exact post.elim
def Zgm (c : Str) (n : Nat) (F : List D -> FO) (fa : SA) : SE := fun σ => (fa σ).bnd fun ds σ1 => if ds.length + 1 = n then (match F (.obj c [] :: ds) with
 | .ret (.t .non) (d :: _) => .ok d σ1
 | _ => .bad) else .bad
theorem ZeH {c : Str} {C : Addr} {n : Nat} {F : List D -> FO} {io : List (Option Nat)} {ta : TA} {fa : SA} (hC : mg c = some (.ref C)) (ha : TLd K mg fx E io ta fa) : TEd K mg fx E (ZjS C (spF K mg n F) [] E ta) (Zgm c n F fa) := by
 intro P H gs σ ν Q S post
 unfold Zgm at post
 refine ha P H gs σ ν _ S ?_
 cases e : fa σ with
 | bad => rw [e] at post; exact post
 | exc c σ' => rw [e] at post; exact post
 | ok ds σ1 =>
  rw [e] at post
  dsimp only [Out.bnd] at post
  intro P1 H1 gs1 g1 vs s1 S1 o1 dj1 _
  have hn : ds.length + 1 = n := Decidable.byContradiction fun z => by rw [if_neg z] at post; exact post
  rw [if_pos hn] at post
  intro x dx hx hdx hne
  rw [List.append_nil]
  have hPx := S1.sub.fresh hx
  have hPd := S1.sub.fresh hdx
  -- the heap with the new instance
  generalize hH' : upd (upd H1 dx (.own x)) x (.ins C dx []) = H'
  have up : ∀ b w, H1 b = some w -> H' b = some w := fun b w z => by
   rw [<- hH', Zap (Zak z hx), Zap (Zak z hdx)]; exact z
  have hx' : H' x = some (.ins C dx []) := by rw [<- hH']; exact ZaG
  have sb : Sub P1 H' := fun b w z => up b w (S1.sub b w z)
  have ox : Own K mg P1 H' (fun b => b = x) (.obj c []) (.ref x) := .obj (gs := fun _ _ => False) hx' hPx hC rfl (fun i f d w z => by simp at z) (fun _ h => h) (fun _ _ _ _ h => h.elim) (fun _ _ _ h => h) fun b => ⟨.inl, fun h => h.elim id fun ⟨_, z⟩ => z.elim⟩
  have o1' : OwnL K mg P1 H' g1 ds vs := o1.frame (.refl _) (fun b w _ z => up b w z) fun b z => (o1.at b z).2
  have nx : ¬ g1 x := fun z => by
   obtain ⟨⟨w, q⟩, _⟩ := o1.at x z
   rw [hx] at q; cases q
  refine ⟨by rw [List.length_cons, <- o1.len]; exact hn, P1, _, _, sb, OwnL.cons ox o1' fun b z y => nx (by rw [<- show b = x from z]; exact y), ?_⟩
  cases eF : F (.obj c [] :: ds) with
  | bad => rw [eF] at post; exact post.elim
  | exc c' ds' => rw [eF] at post; exact post.elim
  | ret d ds' =>
   rw [eF] at post
   dsimp only at post ⊢
   intro P2 H2 g2 gd v s2 sb2 o2 od dj2
   cases ds' with
   | nil => exact absurd o2.len (by simp)
   | cons d1 dr =>
    cases d with
    | t z =>
     cases z with
     | non =>
      cases od with
      | t hz _ =>
       cases hz
       refine ⟨rfl, ?_⟩
       obtain ⟨gx, gr, ox2, _, _, hg⟩ := o2.uncons
       have S1' : StOk K mg fx P1 H' gs1 σ1 ν := ⟨sb, S1.len, fun i d e => by
        obtain ⟨v, q1, q2⟩ := S1.slot i d e
        exact ⟨v, q1, q2.frame (.refl _) (fun b w _ z => up b w z) fun b z => (q2.at b z).2⟩, S1.emp, S1.dis, S1.fix, S1.fixed⟩
       have far : ∀ b, tot gs1 b -> ¬ (b = x \/ g1 b) := fun b z y => y.elim (fun q => by
        obtain ⟨⟨w, q2⟩, _⟩ := S1.here z
        rw [q, hx] at q2; cases q2) fun q => dj1 b z q
       have S2 := S1'.go s2 sb2 far
       -- the whole step
       have sA : Go P1 H1 (fun b => tot gs1 b \/ g1 b) P1 H' (fun b => tot gs1 b \/ (b = x \/ g1 b)) := ⟨.refl _, fun b w _ z => up b w z, fun b z => by
        rcases z with z | z | z
        · exact .inl (.inl z)
        · exact .inr (by rw [z]; exact hx)
        · exact .inl (.inr z), fun _ _ z => .inl z⟩
       have sB := (s1.trans sA).trans (s2.wide (F := tot gs1))
       refine post P2 H2 gs1 gx (.ref x) ⟨sB.mono, sB.frame, fun b z => sB.new b ?_, sB.pnew⟩ S2 ox2 fun b z y => ?_
       · rcases z with z | z
         · exact .inl z
         · exact .inr (.inl ((hg b).mpr (.inl z)))
       · rcases s2.new b (.inl ((hg b).mpr (.inl y))) with q | q
         · exact far b z q
         · obtain ⟨⟨w, q2⟩, _⟩ := S1'.here z
           rw [q2] at q; cases q
     | _ => exact post.elim
    | _ => exact post.elim
end DL
namespace L2
open PySem PySem.Spec PyProof.Rows PySem.W
theorem ObjOk.here {P : Program} {w : World} {H : Hp} {h : Heap} {a : Addr} {o : HO} (x : ObjOk P w H h a o) : ∃ ob, h.get? a = some ob := by
 cases o with
 | lst xs => obtain ⟨_, _, _, _, e⟩ := x; exact ⟨_, e⟩
 | tup xs => obtain ⟨_, _, _, p⟩ := x; obtain ⟨o, e, _⟩ := p; exact ⟨_, e⟩
 | dK kvs => obtain ⟨_, _, _, _, o, _, _, e, _⟩ := x; exact ⟨_, e⟩
 | dT kvs => obtain ⟨_, _, _, _, o, _, _, e, _⟩ := x; exact ⟨_, e⟩
 | set S n => obtain ⟨o, _, _, _, e, _⟩ := x; exact ⟨_, e⟩
 | ins C dx fs => obtain ⟨_, _, _, e, _⟩ := x; exact ⟨_, e⟩
 | own y => exact x
 | xd fs => obtain ⟨_, ⟨_, _, _, e, _⟩, _⟩ := x; exact ⟨_, e⟩
 | rng lo hi => obtain ⟨_, _, _, e⟩ := x; exact ⟨_, e⟩
 | frz ob u => obtain ⟨e, _⟩ := x; exact ⟨_, e⟩
 | tbl ps => exact ⟨_, show h.get? a = some _ from x⟩
 | met f y => exact ⟨_, show h.get? a = some _ from x⟩
 | ext φ => obtain ⟨_, e, _⟩ := x; exact e
def XC (P : Program) (w : World) : CXT := fun outer H s E e s' => ∃ a C t H' B, e = Value.ref a /\ s'.os = s.os /\ AllBare s'.gens /\ Un (frs outer) [] H H' s.heap s'.heap /\ HOk P w H' s'.heap /\ Heap.FlyingW B outer a (.ref C) (.ref t) s'.heap /\
 H' a = none /\ s.heap.get? a = none /\ (∀ b o, s.heap.get? b = some o -> H b = none -> b ∉ frs outer -> B.get? b = some o) /\ (∀ b o u, H' b = some u -> s'.heap.get? b = some o -> B.get? b = some o) /\
 (∀ b o, s.heap.get? b = some o -> b ∉ frs outer -> ∃ o', B.get? b = some o') /\ E (.ref C) none H'
theorem XC.none {P : Program} {w : World} {outer : List Env} {H : Hp} {s s' : Shared} {e : Value} (h : XC P w outer H s E0 e s') : False := by
 obtain ⟨_, _, _, _, _, _, _, _, _, _, _, _, _, _, _, _, q⟩ := h
 exact q
theorem HOk.via {P : Program} {w : World} {H : Hp} {h h' : Heap} (x : HOk P w H h) (k : ∀ b u o, H b = some u -> h.get? b = some o -> h'.get? b = some o) : HOk P w H h' := fun a o e =>
 (x a o e).stay (fun b u hb q => hb.elim (fun z => by subst z; exact k b _ u e q) fun z => k b _ u z q) (fun _ q => q) fun _ _ q => q
section
variable {P : Program} {w : World} {K : PySem.W.Frag} {mg : Str -> Option Value} {base : Heap} {N : List Str} {qual : Str} {scope : Scope} {f : Addr} {cd : Value} {A : Around} {outer : List Env} {s : Shared} {H : Hp} {E : XK}
theorem ZdI {pins : List (Addr × Obj)} {σ : St} {H1 : Hp} {s1 : Shared} {e C : Addr} {vs : List Value} {h' : Heap} (I : Inv (cxOf (XC P w) P w K mg base N qual scope f cd A outer s H E) pins σ H1 s1) (hx : Heap.MadeExcOf s1.heap h' e (.ref C) vs) (hE : E (.ref C) none H1) :
 (cxOf (XC P w) P w K mg base N qual scope f cd A outer s H E).xe (.ref e) { s1 with heap := h' } := by
 have hst : (cxOf (XC P w) P w K mg base N qual scope f cd A outer s H E).stack = envOfC qual scope s.heap.objs.size f cd :: outer := rfl
 have fr := I.stack
 rw [hst] at fr
 have hs0 : ∀ b o, s.heap.get? b = some o -> b ≠ s.heap.objs.size := fun b o q => Nat.ne_of_lt (Heap.lt_size q)
 have notin : ∀ b o, s.heap.get? b = some o -> b ∉ frs outer -> b ∉ frs (envOfC qual scope s.heap.objs.size f cd :: outer) := fun b o q n z => by
  rcases List.mem_cons.mp (show b ∈ s.heap.objs.size :: frs outer from z) with y | y
  · exact hs0 b o q y
  · exact n y
 have sfree := I.stkFree
 rw [hst] at sfree
 have keepB : ∀ b o, s1.heap.get? b = some o -> b ∉ frs (envOfC qual scope s.heap.objs.size f cd :: outer) -> (hideAll s1.heap (frs (envOfC qual scope s.heap.objs.size f cd :: outer))).get? b = some o := fun b o q n => hideAll_get _ q n
 refine wpAny_leaves_madeW (A := A.deeper (envOfC qual scope s.heap.objs.size f cd)) (base := hideAll s1.heap (frs (envOfC qual scope s.heap.objs.size f cd :: outer))) (h := s1.heap) (I.ok.frames) rfl (fun b o q => of_hideAll _ q) (funFrames_hide fr fun env he b hb => List.mem_filterMap.mpr ⟨env, he, hb⟩) hx fun h2 t fl _ _ up => ?_
 have base1 := I.base
 have tr : ∀ b u, H1 b = some u -> b ∉ frs (envOfC qual scope s.heap.objs.size f cd :: outer) := fun b u q z => by rw [sfree b z] at q; cases q
 have new : s.heap.get? e = none := by
  cases q : s.heap.get? e with
  | none => rfl
  | some o =>
   obtain ⟨o', q'⟩ := base1.there e o q (by exact fun z => nomatch z)
   rw [hx.new] at q'; cases q'
 refine ⟨e, C, t, H1, _, rfl, I.os, I.bare, ⟨fun b o q n hb _ => fl.1 b o (keepB b o (base1.keep b o q n hb (by exact fun z => nomatch z)) (notin b o q hb)), fun b o q n hb _ => ?_, fun b o q n z => base1.free b o q n (by exact fun z => nomatch z), fun b o q z => ?_, base1.tups, base1.frzs, base1.tbls⟩, I.hok.via fun b u o q z => fl.1 b o (keepB b o z (tr b u q)), fl, ?_, new, fun b o q n hb => keepB b o (base1.keep b o q n hb (by exact fun z => nomatch z)) (notin b o q hb), fun b o u q z => ?_, fun b o q hb => ?_, hE⟩
 · obtain ⟨sl, q1⟩ := base1.slot b o q n hb (by exact fun z => nomatch z)
   obtain ⟨_, o2, q2, q3⟩ := fr.mem (show b ∈ List.filterMap (·.frame) (envOfC qual scope s.heap.objs.size f cd :: outer) from List.mem_cons_of_mem _ hb)
   rw [q1] at q2
   cases q2
   obtain ⟨sl2, q4⟩ := up b _ (hx.keeps b _ q1) q3
   exact ⟨sl2, q4⟩
 · obtain ⟨o1, q1⟩ := base1.there b o q (by exact fun z => nomatch z)
   by_cases hb : b ∈ frs (envOfC qual scope s.heap.objs.size f cd :: outer)
   · obtain ⟨_, o2, q2, q3⟩ := fr.mem hb
     rw [q1] at q2
     cases q2
     obtain ⟨sl2, q4⟩ := up b _ (hx.keeps b _ q1) q3
     exact ⟨_, q4⟩
   · exact ⟨o1, fl.1 b o1 (keepB b o1 q1 hb)⟩
 · cases q : H1 e with
   | none => rfl
   | some u =>
    obtain ⟨ob, q2⟩ := (I.hok e u q).here
    rw [hx.new] at q2; cases q2
 · obtain ⟨o1, q1⟩ := (I.hok b u q).here
   have q2 := keepB b o1 q1 (tr b u q)
   have q3 := fl.1 b o1 q2
   rw [show h2.get? b = some o from z] at q3
   cases q3
   exact q2
 · obtain ⟨o1, q1⟩ := base1.there b o q (by exact fun z => nomatch z)
   exact ⟨o1, keepB b o1 q1 (notin b o q hb)⟩
theorem Zai : ZcH (XC P w) (cxOf (XC P w) P w K mg base N qual scope f cd A outer s H E) E := by
 intro pins σ H1 s1 e s2 I hx
 obtain ⟨a, C, t, H', B, rfl, os, bare, un, hok, fl, na, new, k1, k2, k3, hE⟩ := hx
 have hst : (cxOf (XC P w) P w K mg base N qual scope f cd A outer s H E).stack = envOfC qual scope s.heap.objs.size f cd :: outer := rfl
 rw [hst] at un fl k1 k3
 have fr := I.stack
 rw [hst] at fr
 have hs0 : ∀ b o, s.heap.get? b = some o -> b ≠ s.heap.objs.size := fun b o q => Nat.ne_of_lt (Heap.lt_size q)
 have notin : ∀ b o, s.heap.get? b = some o -> b ∉ frs outer -> b ∉ frs (envOfC qual scope s.heap.objs.size f cd :: outer) := fun b o q n z => by
  rcases List.mem_cons.mp (show b ∈ s.heap.objs.size :: frs outer from z) with y | y
  · exact hs0 b o q y
  · exact n y
 have base1 := I.base
 have ne : ∀ b : Addr, b ∉ (cxOf (XC P w) P w K mg base N qual scope f cd A outer s H E).ex := fun b z => nomatch (show b ∈ ([] : List Addr) from z)
 have ne2 : ∀ b : Addr, b ∉ ([] : List Addr) := fun b z => nomatch z
 refine wpAny_leaves_onW (A := A.deeper (envOfC qual scope s.heap.objs.size f cd)) (base := B) (I.ok.frames) rfl fl fun h2 fl2 up => ?_
 have frame : ∀ b o, s.heap.get? b = some o -> H b = none -> b ∈ frs outer -> ∃ sl, h2.get? b = some { o with slots := sl } := fun b o q n hb => by
  obtain ⟨sl, q1⟩ := base1.slot b o q n hb (ne b)
  have hb' : b ∈ frs (envOfC qual scope s.heap.objs.size f cd :: outer) := List.mem_cons_of_mem _ hb
  obtain ⟨sl2, q2⟩ := un.slot b _ q1 (base1.free b o q n (ne b)) hb' (ne2 b)
  obtain ⟨_, o3, q3, q4⟩ := fl.2.2.1.mem hb'
  rw [q2] at q3
  cases q3
  obtain ⟨sl3, q5⟩ := up b _ q2 q4
  exact ⟨sl3, q5⟩
 refine ⟨a, C, t, H', B, rfl, os.trans I.os, bare, ⟨fun b o q n hb _ => ?_, fun b o q n hb _ => frame b o q n hb, fun b o q n _ => ?_, fun b o q _ => ?_, fun b xs q => un.tups b xs (base1.tups b xs q), fun b o u q => un.frzs b o u (base1.frzs b o u q), fun b ps q => ?_⟩, hok.via fun b u o q z => fl2.1 b o (k2 b o u q z), fl2, na, ?_, fun b o q n hb => k1 b o (base1.keep b o q n hb (ne b)) (base1.free b o q n (ne b)) (notin b o q hb), fun b o u q z => ?_, fun b o q hb => ?_, hE⟩
 · exact fl2.1 b o (k1 b o (base1.keep b o q n hb (ne b)) (base1.free b o q n (ne b)) (notin b o q hb))
 · obtain ⟨o1, q1⟩ := base1.there b o q (ne b)
   exact un.free b o1 q1 (base1.free b o q n (ne b)) (ne2 b)
 · by_cases hb : b ∈ frs outer
   · obtain ⟨_, o3, q3, q4⟩ := fl2.2.2.1.mem hb
     exact ⟨o3, q3⟩
   · obtain ⟨o1, q1⟩ := base1.there b o q (ne b)
     obtain ⟨o2, q2⟩ := k3 b o1 q1 (notin b o q hb)
     exact ⟨o2, fl2.1 b o2 q2⟩
 · obtain ⟨m1, e1⟩ := base1.tbls b ps q
   obtain ⟨m2, e2⟩ := un.tbls b _ e1
   exact ⟨m1 ++ m2, by rw [e2, Array.append_assoc]⟩
 · cases q : s.heap.get? a with
   | none => rfl
   | some o =>
    obtain ⟨o1, q1⟩ := base1.there a o q (ne a)
    rw [new] at q1; cases q1
 · obtain ⟨o1, q1⟩ := (hok b u q).here
   have q2 := k2 b o1 u q q1
   have q3 := fl2.1 b o1 q2
   rw [show h2.get? b = some o from z] at q3
   cases q3
   exact q2
 · obtain ⟨o1, q1⟩ := base1.there b o q (ne b)
   exact k3 b o1 q1 (notin b o q hb)
end
end L2
namespace L2
open PySem PySem.Spec PyProof.Rows PySem.W
open PySem.Builtin PySem.Builtin.Str
def ZgA (z : Str) : Bool := decide (z.length <= 1000) && z.cps.toList.all fun c => decide (c < 16 ^ 8)
section
variable {X : Cx} {e : Expr} {es : List Expr} {ta : TE} {pos : Pos}
def Zor (ta : TE) : TE := fun σ H Q => ta σ H fun x H1 => ∃ z, x = .str z /\ ZgA z = true /\ ∀ y : Str, y.length <= 20000 -> Q (.str y) H1
def Zos (ta : TE) : TE := fun σ H Q => ta σ H fun x H1 => ∃ i : Int, x = .int i /\ 0 <= i /\ i < 1000000 /\ ∀ y : Str, y.length <= 20000 -> Q (.str y) H1
theorem Zlp {z : Str} (h : ZgA z = true) : (reprText z).length <= 20000 := by
 unfold ZgA at h
 simp only [Bool.and_eq_true, decide_eq_true_eq, List.all_eq_true] at h
 have := PySem.StrLaws.reprText_len z h.2
 omega
theorem Zfb (ha : PE X e ta) : PE X (.FormattedValue e 114 none pos) (Zor ta) := by
 intro pins s σ H Q I h
 refine wpAny_FormattedValue_repr (thn (ha pins s σ H _ I h) fun u s1 ⟨x, H1, I1, rx, z, ex, hz, q⟩ => ?_)
 subst ex
 obtain ⟨t, rfl⟩ := rx
 have hl := Zlp hz
 have hl2 : (reprText z).length <= sizeLine := Nat.le_trans hl (by decide)
 refine wpAny_pyReprObj_str ?_ hl2
 refine PyProof.Rows.formatField_str (fun t' tk => ?_) hl2
 exact ⟨.str _, H1, I1.tok tk, ⟨_, rfl⟩, q _ hl⟩
theorem ZfZ (ha : PE X e ta) : PE X (.FormattedValue e (-1) none pos) (Zos ta) := by
 intro pins s σ H Q I h
 refine wpAny_FormattedValue_plain (thn (ha pins s σ H _ I h) fun u s1 ⟨x, H1, I1, rx, i, ex, h0, h1, q⟩ => ?_)
 subst ex
 obtain ⟨t, rfl⟩ := rx
 have hd : i.natAbs.log2 < 1920 := by
  have : i.natAbs < 2 ^ 20 := by omega
  by_cases z : i.natAbs = 0
  · rw [z]; decide
  · exact Nat.lt_trans ((Nat.log2_lt z).mpr this) (by decide)
 have hl : (Str.ofString (toString i)).length <= 20000 := Nat.le_trans (toString_length_le h0 (k := 6) (by decide) (by omega)) (by decide)
 exact wpAny_formatField_int hd ⟨.str _, H1, I1.tok _, ⟨_, rfl⟩, q _ hl⟩
abbrev TJ := St -> Hp -> Str -> (Str -> Hp -> Prop) -> Prop
def PJ (X : Cx) (es : List Expr) (t : TJ) : Prop := ∀ (pins : List (Addr × Obj)) (s : Shared) (σ : St) (H : Hp) (acc : Str) (Q : Str -> Hp -> Prop) (R : Str -> Shared -> Prop), Inv X pins σ H s -> (∀ out s1 H1, Inv X pins σ H1 s1 -> Q out H1 -> R out s1) -> t σ H acc Q ->
 Joins (model X.prog X.w) X.A X.xe (evalEach es X.env) acc R s
def jNil : TJ := fun _ H acc Q => Q acc H
def Zot (te : TE) (t : TJ) : TJ := fun σ H acc Q => te σ H fun x H1 => ∃ y, x = .str y /\ (acc ++ y).length <= sizeLine /\ t σ H1 (acc ++ y) Q
theorem ZeZ : PJ X [] jNil := fun _ s _ H acc _ _ I hR h => hR acc s H I h
theorem ZaT {t : TJ} {te : TE} (he : PE X e te) (hr : PJ X es t) (hs : evalEach (e :: es) X.env = eval e X.env :: evalEach es X.env := by rfl) : PJ X (e :: es) (Zot te t) := by
 intro pins s σ H acc Q R I hR h
 rw [hs]
 refine thn (he pins s σ H _ I h) fun u s1 ⟨x, H1, I1, rx, y, ex, hl, q⟩ => ?_
 subst ex
 obtain ⟨t, rfl⟩ := rx
 exact ⟨y, t, rfl, hl, hr pins s1 σ H1 (acc ++ y) Q R I1 hR q⟩
def Zm9 (t : TJ) : TE := fun σ H Q => t σ H Str.empty fun out H1 => out.length <= sizeLine /\ Q (.str out) H1
theorem ZdJ {e2 : Expr} {t : TJ} (h : PJ X (e :: e2 :: es) t) : PE X (.JoinedStr (e :: e2 :: es) pos) (Zm9 t) := by
 intro pins s σ H Q I hw
 refine wpAny_JoinedStr (h pins s σ H _ _ _ I (fun out s1 H1 I1 q => ?_) hw)
 exact ⟨q.1, .str out, H1, I1.tok _, ⟨_, rfl⟩, q.2⟩
end
def bmV : List Value := [.type "ValueError", .type "Exception", .type "BaseException", .type "object"]
structure ExcC (K : PySem.W.Frag) (C : Addr) : Prop where
 ok : PySem.W.excIn K C bmV "ValueError.__new__" = true
theorem Zna {K : PySem.W.Frag} {h : Heap} {C : Addr} {bmB : List Value} {newId : String} (X : K.In h) (q : PySem.W.excIn K C bmB newId = true) :
 ∃ tl N nm qn bs hdct sn sub ab col dd k0 k1 k2 k3 k5 mN, h.get? C = some (excClassObj nm qn C N bs tl hdct sn sub ab col dd k0 k1 k2 k3 k5 newId) /\ h.Ns N mN /\ mN "__init__" = none /\ OwnTail h bmB tl := by
 unfold PySem.W.excIn at q
 split at q
 · rename_i dd cd sl ho
   split at q
   · rename_i C' bm k0 k1 k2 k3 n k5 hm hs
     simp only [Bool.and_eq_true, beq_iff_eq, Bool.not_eq_true'] at q
     obtain ⟨⟨⟨⟨⟨rfl, rfl⟩, hdel⟩, ht⟩, hok⟩, hni⟩ := q
     obtain ⟨nm, bs, mro, ns, qn, hd, sn, sub, ab, col, del⟩ := cd
     dsimp only at hm hdel hok hni
     subst hm hdel
     have hsl : sl = #[k0, k1, k2, k3, some (.builtin n), k5] := by
      obtain ⟨l⟩ := sl
      simp only at hs
      rw [hs]
     subst hsl
     exact ⟨bm, ns, nm, qn, bs, hd, sn, sub, ab, col, dd, k0, k1, k2, k3, k5, _, X _ _ ho, .of_isNs (PySem.W.isNs_of_in X hok), PySem.W.nsMap_none_of_in X hok hni, PySem.W.tail_of_in X ht⟩
   · cases q
 · cases q
def Zkl (C : Addr) (E : XK) (te : TE) : TS := fun _ σ H => te σ H fun x H1 => [x].length = 1 /\ E (.ref C) none H1
section
variable {X : Cx} {e : Expr} {te : TE} {pos np cpos : Pos} {x : Str} {C : Addr} {E : XK}
def Zou (X : Cx) (E : XK) : Prop := ∀ (pins : List (Addr × Obj)) (σ : St) (H1 : Hp) (s1 : Shared) (a C : Addr) (vs : List Value) (h' : Heap), Inv X pins σ H1 s1 -> Heap.MadeExcOf s1.heap h' a (.ref C) vs -> E (.ref C) none H1 -> X.xe (.ref a) { s1 with heap := h' }
theorem Zlq (hX : Zou X E) (hc : X.calm = true) (hg : Gl X x) (hm : X.mg x = some (.ref C)) (hC : ExcC X.K C) (ha : PE X e te) (hdb : (x == ("__debug__" : Str)) = false := by decide)
 (he : starEach [e] X.env = [(false, eval e X.env)] := by rfl) : PS X (.Raise (some (.Call (.Name x np) [e] [] cpos)) none pos) (Zkl C E te) := by
 intro pins s σ H D I h
 obtain ⟨tl, N, nm, q, bs, hdct, sn, sub, ab, col, dd, k0, k1, k2, k3, k5, mN, oC, hN, hni, T⟩ := Zna I.ok.mod.kin hC.ok
 refine wpAny_Raise_call_subU (C := C) (nm := nm) (q := q) (N := N) (bs := bs) (bm := tl) (hdct := hdct) (sn := sn) (sub := sub) (ab := ab) (col := col) (dd := dd) (k0 := k0) (k1 := k1) (k2 := k2) (k3 := k3) (k5 := k5)
  PySem.F.excBase_ValueError (by decide +kernel) PySem.F.excBase_ValueError (mN := mN) (T.hasType PySem.F.excBase_ValueError.hasBase) (I.ok.hd hc) (by rw [he]; rfl) hni (Zd4 I hg hm ⟨rfl, ?_⟩ hdb)
 have hA : PA X [e] (Zcy te tNil) := Zaa ha Zae he
 have h2 : Zcy te tNil σ H fun vs H1 => vs.length = 1 /\ E (.ref C) none H1 := h
 have hw := hA cpos pins s σ H _ I h2
 rw [he] at hw ⊢
 refine Calls.evalArgs_plain (wpAny_mono hw (fun us s2 ⟨vs, H2, I2, r, q2⟩ => ?_) fun _ _ y => y)
 have hl : us.length <= sizeLine := by
  rw [<- r.length, q2.1]
  decide
 exact ⟨rfl, hl, I2.bk _ _ oC, hN.keeps I2.bk, T.keeps I2.bk, fun h' a hmd => hX pins σ H2 s2 a C us h' I2 hmd q2.2⟩
end
end L2
namespace L2
open PySem PySem.Spec PyProof.Rows PySem.W
section
variable {X : Cx} {pins : List (Addr × Obj)} {σ : St} {H : Hp} {s : Shared}
theorem Zg0 {M : Model} {A : Around} {E : Value -> Shared -> Prop} {i : Nat} {x : Str} {pos : Pos} {Q : Unit -> Shared -> Prop} (I : Inv X pins σ H s) (hN : X.N.Nodup) (hi : X.N[i]? = some x) (hk : X.env.scope.names.lookup x = some .local)
 (h : ∀ s', Inv X pins (σ.set i none) H s' -> Q () s') : wpAny M A (do bindName X.env x .none; unbindBehindTheSuite X.env x pos) Q E s := by
 obtain ⟨m, hn, hl⟩ := id I.loc
 have hcls : (X.env.scope.kind == .class || (X.env.scope.kind == .module && X.env.locals != X.env.globals)) = false := by rw [I.ok.kind]; rfl
 have cne := I.cne
 obtain ⟨oL, _, _, hoL, _⟩ := id hn
 refine wpAny_nameGoes_keeps hk hn hcls fun h' v hn' hs => ?_
 have tracked : HOk X.prog X.w H h' := fun b ob e => by
  refine (I.hok b ob e).stay (fun c w' hc q => (hs.2 c ?_).trans q) (fun _ q => q) fun _ _ q => q
  rintro rfl
  rcases hc with rfl | hc
  · rw [I.free] at e; cases e
  · rw [I.free] at hc; cases hc
 refine h _ ⟨I.ok, I.os, I.bare, ⟨fun b o e n hb hx => ?_, fun b o e n hb hx => ?_, I.base.free, fun b o e hx => ?_, I.base.tups, I.base.frzs, I.base.tbls⟩, ⟨_, hn', fun j y v' e1 e2 e3 => ?_⟩, fun y c e => ?_, I.free, I.freeC, fun p hp => ?_, tracked, by simpa using I.len⟩
 · exact (hs.2 b (Nat.ne_of_lt (Nat.lt_of_lt_of_le (Heap.lt_size e) I.ok.above))).trans (I.base.keep b o e n hb hx)
 · obtain ⟨sl, e1⟩ := I.base.slot b o e n hb hx
   exact ⟨sl, (hs.2 b (Nat.ne_of_lt (Nat.lt_of_lt_of_le (Heap.lt_size e) I.ok.above))).trans e1⟩
 · obtain ⟨o', e1⟩ := I.base.there b o e hx
   exact ⟨o', (hs.2 b (Nat.ne_of_lt (Nat.lt_of_lt_of_le (Heap.lt_size e) I.ok.above))).trans e1⟩
 · by_cases hj : j = i
   · subst hj
     by_cases hlt : j < σ.length
     · rw [List.getElem?_set_self hlt] at e2; cases e2
     · rw [List.getElem?_eq_none (by rw [List.length_set]; omega)] at e2; cases e2
   · rw [List.getElem?_set_ne (Ne.symm hj)] at e2
     obtain ⟨u', r', q⟩ := hl j y v' e1 e2 e3
     refine ⟨u', r', ?_⟩
     rcases q with ⟨k, e⟩ | ⟨k, c, e, z⟩
     · refine .inl ⟨k, ?_⟩
       have : y ≠ x := fun e => hj (ZgL hN e1 (e ▸ hi))
       simp [this, e]
     · exact .inr ⟨k, c, e, z.sameBut hs (cne y c e)⟩
 · obtain ⟨w', z⟩ := I.cell y c e
   exact ⟨w', z.sameBut hs (cne y c e)⟩
 · obtain ⟨e, n, ne, nf, d⟩ := I.pin p hp
   exact ⟨(hs.2 p.1 ne).trans e, n, ne, nf, d⟩
end
abbrev Cx.inx (X : Cx) (a : Addr) : Cx := { X with A := X.A.mark (some (.ref a)), calm := false, xe := fun _ _ => False }
abbrev Cx.tr (X : Cx) (xe : Value -> Shared -> Prop) (pn : List (Addr × Obj)) : Cx := { X with xe := xe, pn := pn }
section
variable {X : Cx} {pins : List (Addr × Obj)} {σ : St} {H : Hp} {s : Shared}
theorem Cx.Ok.inx (ok : X.Ok) (a : Addr) : (X.inx a).Ok := ⟨ok.mod, ok.kind, ok.glob, ok.blt, ok.above, ok.inj, ok.has, ok.cab, fun z => (by cases z), ok.frames, ok.stk, ok.exf, ok.bs, ok.bsz, ok.noex, ok.exfs, ok.funs, ok.frf⟩
theorem Inv.inx (I : Inv X pins σ H s) (a : Addr) : Inv (X.inx a) pins σ H s := ⟨I.ok.inx a, I.os, I.bare, I.base, I.loc, I.cell, I.free, I.freeC, I.pin, I.hok, I.len⟩
theorem Inv.uninx {a : Addr} (ok : X.Ok) (I : Inv (X.inx a) pins σ H s) : Inv X pins σ H s := ⟨ok, I.os, I.bare, I.base, I.loc, I.cell, I.free, I.freeC, I.pin, I.hok, I.len⟩
theorem Inv.tr (I : Inv X pins σ H s) (xe : Value -> Shared -> Prop) : Inv (X.tr xe (X.pn ++ pins)) [] σ H s :=
 ⟨⟨I.ok.mod, I.ok.kind, I.ok.glob, I.ok.blt, I.ok.above, I.ok.inj, I.ok.has, I.ok.cab, I.ok.hd, I.ok.frames, I.ok.stk, I.ok.exf, I.ok.bs, I.ok.bsz, I.ok.noex, I.ok.exfs, I.ok.funs, I.ok.frf⟩, I.os, I.bare, I.base, I.loc, I.cell, I.free, I.freeC, fun p hp => I.pin p (by simpa using hp), I.hok, I.len⟩
theorem Inv.untr {xe : Value -> Shared -> Prop} {pins' : List (Addr × Obj)} (ok : X.Ok) (I : Inv (X.tr xe (X.pn ++ pins)) pins' σ H s) : Inv X pins σ H s :=
 ⟨ok, I.os, I.bare, I.base, I.loc, I.cell, I.free, I.freeC, fun p hp => I.pin p (List.mem_append_left _ hp), I.hok, I.len⟩
end
def ZfK (CX : CXT) (X : Cx) (E : XK) (σ : St) : Prop := ∀ (pins : List (Addr × Obj)) (H : Hp) (s : Shared) (e : Value) (s' : Shared), Inv X pins σ H s -> CX X.stack H s E e s' -> X.xe e s'
def tAt (σ0 : St) (t : TE) : TE := fun σ H Q => σ = σ0 /\ t σ H Q
section
variable {X : Cx} {CX : CXT} {k : Nat} {f C : Addr} {fd : FuncData} {ps : List Str} {sp : Sp} {dvs : List V} {ds : List Value} {E : XK} {x m : Str} {p pos apos : Pos} {e o : Expr} {es : List Expr} {ta : TE} {t : TA} {σ0 : St}
theorem Zjq (F : FnOk X.prog X.w X.K X.mg X.base CX k f fd ps sp) (hr : Room k X.A) (hg : Gl X x) (hm : X.mg x = some (.ref f)) (hk : PySem.W.keepIn X.K (.ref f) = true) (hb : Binds X.K fd ps ds) (hd : Vals dvs ds) (hx : ZfK CX X E σ0)
 (ha : PA X (e :: es) t) (hdb : (x == ("__debug__" : Str)) = false := by decide) (he : starEach (e :: es) X.env = (false, eval e X.env) :: starEach es X.env := by rfl) (hpl : (backTo pos (starEach es X.env)).any (·.1) = false := by rfl) :
 PE X (.Call (.Name x p) (e :: es) [] pos) (tAt σ0 (Zh2 sp dvs E t)) := by
 intro pins s σ H Q I ⟨hσ, h⟩
 subst hσ
 refine wpAny_Call_Name_kw (Zd4 I hg hm ?_ hdb)
 refine PySem.W.callWith_K (h₀ := X.base) I.ok.mod.kin hk (thn (ha pos pins s σ H _ I h) fun us s1 ⟨vs, H1, I1, r, q⟩ => ⟨I1.kIn, ?_⟩) he hpl
 have r2 : Vals (vs ++ dvs) (us ++ ds) := r.append hd
 have hl : (us ++ ds).length = ps.length := by rw [<- r2.length]; exact F.len _ _ _ _ q
 refine wpAny_call (codeAny_mono (F.run X.A X.stack s1 H1 ⟨us, []⟩ (us ++ ds) (vs ++ dvs) Q E hr I1.env0 (hb s1 us I1.kIn hl) r2 q) fun r s' hq => ?_)
 cases r with
 | error e => exact hx pins H1 s1 e s' I1 hq
 | ok fl =>
  cases fl with
  | ret u => exact I1.after hq
  | next => exact False.elim hq
  | brk => exact False.elim hq
  | cont => exact False.elim hq
end
theorem Zkm {P : Program} {w : World} {stack : List Env} {H H' : Hp} {s s' : Shared} {B h6 : Heap} {a C : Addr} {a0 : Value} (un : Un (frs stack) [] H H' s.heap s'.heap) (hok : HOk P w H' s'.heap) (fl : Heap.FlyingW B stack a (.ref C) a0 s'.heap)
 (k1 : ∀ b o, s.heap.get? b = some o -> H b = none -> b ∉ frs stack -> B.get? b = some o) (k2 : ∀ b o u, H' b = some u -> s'.heap.get? b = some o -> B.get? b = some o) (k3 : ∀ b o, s.heap.get? b = some o -> b ∉ frs stack -> ∃ o', B.get? b = some o')
 (st : B.StaysIn h6) (up : s'.heap.UpToSlots h6) : Un (frs stack) [] H H' s.heap h6 /\ HOk P w H' h6 := by
 have ne2 : ∀ b : Addr, b ∉ ([] : List Addr) := fun b z => nomatch z
 refine ⟨⟨fun b o q n hb _ => st b o (k1 b o q n hb), fun b o q n hb _ => ?_, fun b o q n _ => un.free b o q n (ne2 b), fun b o q _ => ?_, un.tups, un.frzs, un.tbls⟩, hok.via fun b u o q z => st b o (k2 b o u q z)⟩
 · obtain ⟨sl2, q2⟩ := un.slot b _ q n hb (ne2 b)
   obtain ⟨_, o3, q3, q4⟩ := fl.2.2.1.mem hb
   rw [q2] at q3
   cases q3
   obtain ⟨sl3, q5⟩ := up b _ q2 q4
   exact ⟨sl3, q5⟩
 · by_cases hb : b ∈ frs stack
   · obtain ⟨_, o3, q3, q4⟩ := fl.2.2.1.mem hb
     obtain ⟨sl3, q5⟩ := up b _ q3 q4
     exact ⟨_, q5⟩
   · obtain ⟨o2, q2⟩ := k3 b o q hb
     exact ⟨o2, st b o2 q2⟩
def EX (i : Nat) (ok : Addr -> Prop) (th : TS) (D : Ends) (σ : St) : XK := fun cls _ H' => ∃ C', cls = .ref C' /\ ok C' /\ ∀ a, H' a = none -> th { nx := fun σ2 H2 => D.nx (σ2.set i none) H2, rt := D.rt, bk := fun σ2 H2 => D.bk (σ2.set i none) H2, ct := fun σ2 H2 => D.ct (σ2.set i none) H2 } (σ.set i (some (.ref a))) (upd H' a (DL.ExcO a C'))
def tTry (i : Nat) (ok : Addr -> Prop) (tb : St -> XK -> TS) (th : TS) : TS := fun D σ H => tb σ (EX i ok th D σ) D σ H
section
variable {X : Cx} {st b0 : Stmt} {suite : List Stmt} {x n : Str} {xp hp pos : Pos} {C : Addr} {i : Nat} {tb : St -> XK -> TS} {th : TS}
theorem Zov (hst : X.stack = X.env :: X.outer) (hfr : X.env.frame = some X.env.locals) (hb : ∀ xe pn σ0 E', ZfK (XC X.prog X.w) (X.tr xe pn) E' σ0 -> PS (X.tr xe pn) st (tb σ0 E')) (hh : ∀ a, PSs (X.inx a) (b0 :: suite) th)
 (hg : Gl X x) (hm : X.mg x = some (.ref C)) (hN : X.N.Nodup) (hi : X.N[i]? = some n) (hl : X.env.scope.names.lookup n = some .local) (hdb : (x == ("__debug__" : Str)) = false := by decide) :
 PS X (.Try [st] [.ExceptHandler (some (.Name x xp)) (some n) (b0 :: suite) hp] [] [] pos) (tTry i (fun C' => PySem.W.exmOne X.K (.ref C') (.ref C) = some true) tb th) := by
 intro pins s σ H D I h
 refine wpAny_Try_except ?_
 have pass : ZfK (XC X.prog X.w) (X.tr (fun e s₁ => wpAny (model X.prog X.w) X.A (noteFrame e X.env) (fun _ s₂ => wpAny (model X.prog X.w) X.A (setFlight e none) (fun _ s₃ => wpAny (model X.prog X.w) X.A (handleBy e X.env [.ExceptHandler (some (.Name x xp)) (some n) (b0 :: suite) hp]) (SP X pins D) X.xe s₃) X.xe s₂) X.xe s₁) (X.pn ++ pins)) (EX i (fun C' => PySem.W.exmOne X.K (.ref C') (.ref C) = some true) th D σ) σ := by
  intro pins' H1 s1 e s2 I1 hx
  have I0 := Inv.untr I.ok I1
  obtain ⟨a, C1, t, H', B, rfl, os, bare, un, hok, fl, na, new, k1, k2, k3, C', hcls, hex, hth⟩ := hx
  cases hcls
  have fl' : Heap.FlyingW B (X.env :: X.outer) a (.ref C1) (.ref t) s2.heap := by rw [<- hst]; exact fl
  have hfs : X.A.frames = some (X.env :: X.outer) := by rw [I.ok.frames, hst]
  refine wpAny_looks_onW hfs hfr fl' fun h4 held4 sm4 => ?_
  refine wpAny_landsW held4 fun h5 fl5 sm5 => ?_
  have land : ∀ h6, B.StaysIn h6 -> s2.heap.UpToSlots h6 -> Inv X pins σ H' { s2 with heap := h6 } := fun h6 a1 a2 => by
   obtain ⟨u6, ok6⟩ := Zkm (s := s1) (s' := s2) un hok fl k1 k2 k3 a1 a2
   exact I0.call' (s' := { s2 with heap := h6 }) (ch := []) os u6 ok6 bare fun b z => nomatch z
  have I5 := land h5 fl5.1 (sm4.trans sm5)
  refine wpAny_handleBy_cons (codeAny_handlers_test (Zd4 (X := X.inx a) (I5.inx a) hg hm ?_ hdb)) (by intro q; cases q)
  obtain ⟨ob, hob, hobc⟩ := fl5.there
  have LT : Looks (model X.prog X.w) h5 (typeOf (.ref a)) (.ref C1) := by
   rw [<- hobc]
   exact (Looks.ld hob).andThen .now
  refine (exm_one (M := model X.prog X.w) (h := h5) I5.kIn LT hex).here (s := { s2 with heap := h5 }) ?_
  refine codeAny_handlers_suite_as ?_
  refine lands_againW fl5 fun h6 fl6 sm6 => ?_
  have up6 := (sm4.trans sm5).trans sm6
  obtain ⟨u6, ok6⟩ := Zkm (s := s1) (s' := s2) un hok fl k1 k2 k3 fl6.1 up6
  obtain ⟨oe, vs, hoe, hoec, hoed, _⟩ := fl6.first
  have okx : HOk X.prog X.w (upd H' a (DL.ExcO a C1)) h6 := HOk.track ok6 na ⟨⟨oe, vs, hoe, hoec, hoed⟩, ⟨oe, hoe⟩, fun h1 h2 ⟨o, vs, q1, q2, q3⟩ kk => ⟨o, vs, kk o q1, q2, q3⟩⟩
  have ux : Un (frs X.stack) [] H1 (upd H' a (DL.ExcO a C1)) s1.heap h6 := by
   have nea : ∀ b o, s1.heap.get? b = some o -> b ≠ a := fun b o q z => by rw [z, new] at q; cases q
   have nat : ∀ b u, H1 b = some u -> b ≠ a := fun b u q z => by
    obtain ⟨o, q2⟩ := (I0.hok b u q).here
    exact nea b o q2 z
   refine ⟨u6.keep, u6.slot, fun b o q n hx => ?_, u6.there, fun b xs q => ?_, fun b o u q => ?_, fun b ps q => ?_⟩
   · rw [Zap (nea b o q)]; exact u6.free b o q n hx
   · rw [Zap (nat b _ q)]; exact u6.tups b xs q
   · rw [Zap (nat b _ q)]; exact u6.frzs b o u q
   · rw [Zap (nat b _ q)]; exact u6.tbls b ps q
  have I6 : Inv X pins σ (upd H' a (DL.ExcO a C1)) { s2 with heap := h6 } := I0.call' (s' := { s2 with heap := h6 }) (ch := []) os ux okx bare fun b z => nomatch z
  refine ZgM (X := X.inx a) (v := .ref a) (I6.inx a) hN hi (.inl hl) rfl (fun s7 I7 => ?_) (.inr hl)
  refine wpAny_mono (hh a pins s7 _ _ _ I7 (hth a na)) (fun f s8 q8 => ?_) fun _ _ z => False.elim z
  cases f with
  | next =>
   obtain ⟨σ8, H8, I8, q⟩ := q8
   exact Zg0 (Inv.uninx I.ok I8) hN hi hl fun s9 I9 => ⟨_, H8, I9, q⟩
  | brk =>
   obtain ⟨σ8, H8, I8, q⟩ := q8
   exact Zg0 (Inv.uninx I.ok I8) hN hi hl fun s9 I9 => ⟨_, H8, I9, q⟩
  | cont =>
   obtain ⟨σ8, H8, I8, q⟩ := q8
   exact Zg0 (Inv.uninx I.ok I8) hN hi hl fun s9 I9 => ⟨_, H8, I9, q⟩
  | ret u =>
   obtain ⟨v, σ8, H8, I8, r8, q⟩ := q8
   exact Zg0 (Inv.uninx I.ok I8) hN hi hl fun s9 I9 => ⟨v, _, H8, I9, r8, q⟩
 refine wpAny_execs_cons (thn (hb _ _ σ _ pass [] s σ H D (I.tr _) h) fun f s1 q => ?_)
 cases f with
 | next =>
  obtain ⟨σ', H', I', q⟩ := q
  exact wpAny_execs_nil (wpAny_execs_nil ⟨σ', H', Inv.untr I.ok I', q⟩)
 | ret v =>
  obtain ⟨w, σ', H', I', r, q⟩ := q
  exact ⟨w, σ', H', Inv.untr I.ok I', r, q⟩
 | brk =>
  obtain ⟨σ', H', I', q⟩ := q
  exact ⟨σ', H', Inv.untr I.ok I', q⟩
 | cont =>
  obtain ⟨σ', H', I', q⟩ := q
  exact ⟨σ', H', Inv.untr I.ok I', q⟩
end
end L2
set_option autoImplicit false
namespace DL
open PySem L2
variable {K : PySem.W.Frag} {mg : Str -> Option Value} {fx : Nat -> Option V} {E : XK}
abbrev SU := Env' -> Out Unit
variable (K mg)
def TUs (fx : Nat -> Option V) (E : XK) (t : TE) (f : SU) : Prop := ∀ P H gs σ ν (Q : VK), StOk K mg fx P H gs σ ν -> (match f σ with
 | .ok _ σ' => ∀ P' H' gs' y, Go P H (tot gs) P' H' (tot gs') -> StOk K mg fx P' H' gs' σ' ν -> Str.length y <= 20000 -> Q (.str y) H'
 | .exc c σ' => PostX K mg fx E P H gs ν c σ'
 | .bad => False) -> t ν H Q
def TJd (fx : Nat -> Option V) (E : XK) (k : Nat) (t : TJ) (f : SU) : Prop := ∀ P H gs σ ν acc m (Q : Str -> Hp -> Prop), StOk K mg fx P H gs σ ν -> Str.length acc <= m -> m + k * 20000 <= 1000000 -> (match f σ with
 | .ok _ σ' => ∀ P' H' gs' out, Go P H (tot gs) P' H' (tot gs') -> StOk K mg fx P' H' gs' σ' ν -> Str.length out <= m + k * 20000 -> Q out H'
 | .exc c σ' => PostX K mg fx E P H gs ν c σ'
 | .bad => False) -> t ν H acc Q
variable {K mg}
def uC : SU := fun σ => .ok () σ
theorem Zbj {x : Str} (h : x.length <= 20000) : TUs K mg fx E (tC (.str x)) uC := fun P H gs σ ν Q S post => post P H gs x .refl S h
def Zfy (f : SE) : SU := fun σ => (f σ).bnd fun d σ1 => match frz d with
 | .str z => if ZgA z = true then .ok () σ1 else .bad
 | _ => .bad
theorem Zfc {t : TE} {f : SE} (h : TEd K mg fx E t f) : TUs K mg fx E (Zor t) (Zfy f) := by
 intro P H gs σ ν Q S post
 unfold Zfy at post
 refine h.run S (fun c σ' e => by rw [e] at post; exact post) (fun e => by rw [e] at post; exact post) fun d σ1 e P1 H1 gs1 v s1 S1 dn => ?_
 rw [e] at post
 dsimp only [Out.bnd] at post
 cases q : frz d with
 | str z =>
  rw [q] at post dn
  dsimp only at post
  cases dn
  by_cases hz : ZgA z = true
  · rw [if_pos hz] at post
    exact ⟨z, rfl, hz, fun y hy => post P1 H1 gs1 y s1 S1 hy⟩
  · rw [if_neg hz] at post; exact post.elim
 | _ => rw [q] at post; exact post.elim
def Zgn (f : SE) : SU := fun σ => (f σ).bnd fun d σ1 => match frz d with
 | .int i => if 0 <= i /\ i < 1000000 then .ok () σ1 else .bad
 | _ => .bad
theorem Zf0 {t : TE} {f : SE} (h : TEd K mg fx E t f) : TUs K mg fx E (Zos t) (Zgn f) := by
 intro P H gs σ ν Q S post
 unfold Zgn at post
 refine h.run S (fun c σ' e => by rw [e] at post; exact post) (fun e => by rw [e] at post; exact post) fun d σ1 e P1 H1 gs1 v s1 S1 dn => ?_
 rw [e] at post
 dsimp only [Out.bnd] at post
 cases q : frz d with
 | int z =>
  rw [q] at post dn
  dsimp only at post
  cases dn
  by_cases hz : 0 <= z /\ z < 1000000
  · rw [if_pos hz] at post
    exact ⟨z, rfl, hz.1, hz.2, fun y hy => post P1 H1 gs1 y s1 S1 hy⟩
  · rw [if_neg hz] at post; exact post.elim
 | _ => rw [q] at post; exact post.elim
def uSeq (f g : SU) : SU := fun σ => (f σ).bnd fun _ σ1 => g σ1
theorem Ze0 : TJd K mg fx E 0 jNil uC := fun P H gs σ ν acc m Q S hl hm post => post P H gs acc .refl S (by omega)
theorem ZaU {k : Nat} {te : TE} {t : TJ} {f g : SU} (h : TUs K mg fx E te f) (h' : TJd K mg fx E k t g) : TJd K mg fx E (k + 1) (Zot te t) (uSeq f g) := by
 intro P H gs σ ν acc m Q S hl hm post
 unfold uSeq at post
 refine h P H gs σ ν _ S ?_
 cases e : f σ with
 | bad => rw [e] at post; exact post
 | exc c σ' => rw [e] at post; exact post
 | ok u σ1 =>
  rw [e] at post
  dsimp only [Out.bnd] at post
  intro P1 H1 gs1 y s1 S1 hy
  have hay : Str.length (acc ++ y) <= m + 20000 := by rw [strLen_append]; omega
  refine ⟨y, rfl, Nat.le_trans hay (Nat.le_trans (by omega) (show 1000000 <= sizeLine by decide)), ?_⟩
  refine h' P1 H1 gs1 σ1 ν (acc ++ y) (m + 20000) Q S1 hay (by omega) ?_
  cases e2 : g σ1 with
  | bad => rw [e2] at post; exact post
  | exc c σ' => rw [e2] at post; exact PostX.from post s1
  | ok u2 σ2 =>
   rw [e2] at post
   exact fun P2 H2 gs2 out s2 S2 hout => post P2 H2 gs2 out (s1.trans s2) S2 (by omega)
theorem Znb {k : Nat} {t : TJ} {f : SU} (h : TJd K mg fx E k t f) (hk : k <= 40) : ∀ P H gs σ ν (Q : VK), StOk K mg fx P H gs σ ν -> (match f σ with
 | .ok _ σ' => ∀ P' H' gs' y, Go P H (tot gs) P' H' (tot gs') -> StOk K mg fx P' H' gs' σ' ν -> Q (.str y) H'
 | .exc c σ' => PostX K mg fx E P H gs ν c σ'
 | .bad => False) -> Zm9 t ν H Q := by
 intro P H gs σ ν Q S post
 refine h P H gs σ ν Str.empty 0 _ S (Nat.le_refl 0) (by omega) ?_
 cases e : f σ with
 | bad => rw [e] at post; exact post
 | exc c σ' => rw [e] at post; exact post
 | ok u σ1 =>
  rw [e] at post
  exact fun P1 H1 gs1 out s1 S1 ho => ⟨Nat.le_trans ho (Nat.le_trans (by omega) (show 1000000 <= sizeLine by decide)), post P1 H1 gs1 out s1 S1⟩
def ZcI (c : Str) (f : SU) : SS := fun σ => (f σ).th fun _ σ1 => .exc c σ1
theorem ZcJ {c : Str} {C : Addr} {k : Nat} {t : TJ} {f : SU} (hC : mg c = some (.ref C)) (h : TJd K mg fx E k t f) (hk : k <= 40) : TSd K mg fx E (Zkl C E (Zm9 t)) (ZcI c f) := by
 intro P H gs σ ν N S post
 unfold ZcI at post
 refine Znb h hk P H gs σ ν _ S ?_
 cases e : f σ with
 | bad => rw [e] at post; exact post
 | exc c σ' => rw [e] at post; exact PostS.x post
 | ok u σ1 =>
  rw [e] at post
  exact fun P1 H1 gs1 y s1 S1 => ⟨rfl, post P1 H1 gs1 ν s1 S1 C hC⟩
variable (K mg)
def Zow (fx : Nat -> Option V) (E : XK) (P H : Hp) (gs : Nat -> Fp) (ν : St) (N : Ends) : OutS -> Prop
 | .exc c σ' => PostX K mg fx E P H gs ν c σ'
 | o => PostS K mg fx E P H gs N o
def TS1 (fx : Nat -> Option V) (E : XK) (t : TS) (f : SS) : Prop := ∀ P H gs σ ν N, StOk K mg fx P H gs σ ν -> Zow K mg fx E P H gs ν N (f σ) -> t N ν H
variable {K mg}
theorem Znc {t : TE} {f : SE} {g : TG} {k : D -> Env' -> Option Env'} (h : TEd K mg fx E t f) (hg : TGd K mg fx g k) : TS1 K mg fx E (tAsg t g) (sAsg f k) := by
 intro P H gs σ ν N S post
 unfold sAsg at post
 refine h P H gs σ ν _ S ?_
 cases e : f σ with
 | bad => rw [e] at post; exact post
 | exc c σ1 => rw [e] at post; exact post
 | ok d σ1 =>
  rw [e] at post
  dsimp only [Out.th] at post
  intro P1 H1 gs1 g1 v s1 S1 o dj
  refine hg P1 H1 gs1 σ1 ν g1 d v _ S1 o dj ?_
  split at post
  · rename_i σ2 e2
    exact fun gs2 ν2 h2 S2 => post P1 H1 gs2 ν2 (s1.weak h2) S2
  · exact post.elim
def clr (i : Nat) (σ : Env') : Option Env' := match σ[i]? with
 | some .e => some (σ.set i .e)
 | some (.v _) => some (σ.set i .e)
 | _ => none
theorem StOk.clr {P H : Hp} {gs : Nat -> Fp} {σ σ1 : Env'} {ν : St} {i : Nat} (S : StOk K mg fx P H gs σ ν) (e : clr i σ = some σ1) : StOk K mg fx P H (fun j => if j = i then fun _ => False else gs j) σ1 (ν.set i none) := by
 have key : (σ[i]? = some .e \/ ∃ d, σ[i]? = some (.v d)) -> StOk K mg fx P H (fun j => if j = i then fun _ => False else gs j) (σ.set i .e) (ν.set i none) := by
  intro hσ
  have hi : i < σ.length := by rcases hσ with h | ⟨_, h⟩ <;> exact Zci h
  refine ⟨S.sub, by rw [List.length_set, List.length_set]; exact S.len, fun j d' e' => ?_, fun j b e' => ?_, fun j k b hjk hj => ?_, fun j e' => ?_, fun j w h => ?_⟩
  · by_cases hj : j = i
    · subst hj
      rw [List.getElem?_set_self hi] at e'
      cases (show (none : Option D) = some d' from e')
    · rw [List.getElem?_set_ne (Ne.symm hj)] at e'
      simp only [hj, if_false]
      obtain ⟨w, h1, h2⟩ := S.slot j d' e'
      exact ⟨w, by rw [List.getElem?_set_ne (Ne.symm hj)]; exact h1, h2⟩
  · by_cases hj : j = i
    · simp only [hj, if_true]; exact fun h => h
    · rw [List.getElem?_set_ne (Ne.symm hj)] at e'
      simp only [hj, if_false]
      exact S.emp j b e'
  · by_cases hj' : j = i
    · simp only [hj', if_true] at hj
    · simp only [hj', if_false] at hj
      by_cases hk' : k = i
      · simp only [hk', if_true]; exact fun h => h
      · simp only [hk', if_false]; exact S.dis j k b hjk hj
  · by_cases hj : j = i
    · subst hj
      rw [List.getElem?_set_self hi] at e'
      rcases e' with e' | ⟨_, e'⟩ <;> cases e'
    · rw [List.getElem?_set_ne (Ne.symm hj)] at e'
      obtain ⟨w, h1, h2⟩ := S.fix j e'
      exact ⟨w, h1, by rw [List.getElem?_set_ne (Ne.symm hj)]; exact h2⟩
  · obtain ⟨h1, h2⟩ := S.fixed j w h
    by_cases hj : j = i
    · subst hj
      rcases hσ with h | ⟨_, h⟩ <;> rw [h] at h2 <;> rcases h2 with h2 | ⟨_, h2⟩ <;> cases h2
    · exact ⟨by rw [List.getElem?_set_ne (Ne.symm hj)]; exact h1, by rw [List.getElem?_set_ne (Ne.symm hj)]; exact h2⟩
 unfold DL.clr at e
 split at e
 · rename_i q; cases e; exact key (.inl q)
 · rename_i d q; cases e; exact key (.inr ⟨d, q⟩)
 · cases e
def OutS.clr (i : Nat) : OutS -> OutS
 | .next σ => (match DL.clr i σ with | some σ1 => .next σ1 | none => .bad)
 | .brk σ => (match DL.clr i σ with | some σ1 => .brk σ1 | none => .bad)
 | .cont σ => (match DL.clr i σ with | some σ1 => .cont σ1 | none => .bad)
 | .ret d σ => (match DL.clr i σ with | some σ1 => .ret d σ1 | none => .bad)
 | .exc _ _ => .bad
 | .bad => .bad
def sTry (i : Nat) (subs : List Str) (body suite : SS) : SS := fun σ => match body σ with
 | .exc c σ1 => if subs.contains c then (match Zaq i (.t (.exc c)) σ1 with
  | some σ2 => (suite σ2).clr i
  | none => .bad) else .bad
 | o => o
theorem Zox {i : Nat} {ok : Addr -> Prop} {subs : List Str} {tb : St -> XK -> TS} {tb' : XK -> TS} {th : TS} {body suite : SS} (hsub : ∀ c ∈ subs, ∀ C, mg c = some (.ref C) -> ok C) (hat : ∀ E' N ν H, tb' E' N ν H -> tb ν E' N ν H) (hb : ∀ E', TS1 K mg fx E' (tb' E') body) (hh : TSd K mg fx E0 th suite) :
 TSd K mg fx E (tTry i ok tb th) (sTry i subs body suite) := by
 intro P H gs σ ν N S post
 refine hat _ _ _ _ (hb (EX i ok th N ν) P H gs σ ν N S ?_)
 unfold sTry at post
 cases e : body σ with
 | bad => rw [e] at post; exact post
 | next σ1 => rw [e] at post; exact post
 | brk σ1 => rw [e] at post; exact post
 | cont σ1 => rw [e] at post; exact post
 | ret d σ1 => rw [e] at post; exact post
 | exc c σ1 =>
  rw [e] at post
  dsimp only at post
  intro P1 H1 gs1 s1 S1 C hC
  split at post
  · rename_i hc
    split at post
    · rename_i σ2 e2
      refine ⟨C, rfl, hsub c (List.contains_iff_mem.mp hc) C hC, fun a ha => ?_⟩
      have hPa := S1.sub.fresh ha
      have u1 : Sub P1 (upd P1 a (ExcO a C)) := fun b w z => by rw [Zap (Zak z hPa)]; exact z
      have u2 : Sub (upd P1 a (ExcO a C)) (upd H1 a (ExcO a C)) := fun b w z => by
       by_cases q : b = a
       · subst q; rw [ZaG] at z ⊢; exact z
       · rw [Zap q] at z ⊢; exact S1.sub b w z
      have sA : Go P1 H1 (fun _ => False) (upd P1 a (ExcO a C)) (upd H1 a (ExcO a C)) (fun _ => False) := ⟨u1, fun b w _ z => by rw [Zap (Zak z ha)]; exact z, fun b z => z.elim, fun b w z => by
       by_cases q : b = a
       · exact .inr (.inr (by rw [q]; exact ha))
       · rw [Zap q] at z; exact .inl z⟩
      have S2 := S1.go sA u2 fun _ _ z => z
      obtain ⟨S3, h3⟩ := S2.store (g := fun _ => False) e2 (.t (Den.exc (ZaG) hC) fun _ h => h) fun _ _ h => h
      have s3 : Go P H (tot gs) (upd P1 a (ExcO a C)) (upd H1 a (ExcO a C)) (tot fun j => if j = i then fun _ => False else gs1 j) := s1.trans ((sA.alloc (F := tot gs1)).weak fun b z => (h3 b z).elim .inl fun y => y.elim)
      refine hh _ _ _ σ2 _ _ S3 ?_
      have low : ∀ {gs' : Nat -> Fp} {b : Addr}, tot (fun j => if j = i then fun _ => False else gs' j) b -> tot gs' b := fun {gs' b} ⟨j, z⟩ => by
       by_cases hj : j = i
       · simp only [hj, if_true] at z
       · simp only [hj, if_false] at z; exact ⟨j, z⟩
      cases es : suite σ2 with
      | bad => rw [es] at post; exact post
      | exc c' σ4 => rw [es] at post; exact post.elim
      | next σ4 =>
       rw [es] at post
       intro P4 H4 gs4 ν4 s4 S4
       simp only [OutS.clr] at post
       cases ec : clr i σ4 with
       | none => rw [ec] at post; exact post.elim
       | some σ5 => rw [ec] at post; exact post P4 H4 _ _ ((s3.trans s4).weak fun b z => low z) (S4.clr ec)
      | brk σ4 =>
       rw [es] at post
       intro P4 H4 gs4 ν4 s4 S4
       simp only [OutS.clr] at post
       cases ec : clr i σ4 with
       | none => rw [ec] at post; exact post.elim
       | some σ5 => rw [ec] at post; exact post P4 H4 _ _ ((s3.trans s4).weak fun b z => low z) (S4.clr ec)
      | cont σ4 =>
       rw [es] at post
       intro P4 H4 gs4 ν4 s4 S4
       simp only [OutS.clr] at post
       cases ec : clr i σ4 with
       | none => rw [ec] at post; exact post.elim
       | some σ5 => rw [ec] at post; exact post P4 H4 _ _ ((s3.trans s4).weak fun b z => low z) (S4.clr ec)
      | ret d σ4 =>
       rw [es] at post
       intro P4 H4 gs4 g4 v4 ν4 s4 S4 o4 d4
       simp only [OutS.clr] at post
       cases ec : clr i σ4 with
       | none => rw [ec] at post; exact post.elim
       | some σ5 => rw [ec] at post; exact post P4 H4 _ g4 v4 _ ((s3.trans s4).weak fun b z => z.imp low id) (S4.clr ec) o4 fun b z y => d4 b (low z) y
    · exact post.elim
  · exact post.elim
end DL
set_option autoImplicit false
namespace DL
open PySem L2
variable {K : PySem.W.Frag} {mg : Str -> Option Value} {fx : Nat -> Option V} {E : XK}
def tyN : T -> Option String
 | .non => some "NoneType"
 | .bl _ => some "bool"
 | .int _ => some "int"
 | .str _ => some "str"
 | .lst _ => some "list"
 | .tup _ => some "tuple"
 | .dct _ => some "dict"
 | _ => none
theorem Zma {P H : Hp} {x : T} {v : V} {n : String} (s : Sub P H) (h : Den K mg P x v) (e : tyN x = some n) : TyOf K H v (.type n) := by
 cases h with
 | non => cases e; exact .non
 | bl => cases e; exact .bl _
 | int => cases e; exact .int _
 | str => cases e; exact .str _
 | scr h1 => cases e
 | lst h1 => cases e; exact .lst (s _ _ h1)
 | tup h1 => cases e; exact .tup (s _ _ h1)
 | dct h1 => cases e; exact .dK (s _ _ h1)
 | ins => cases e
 | exc => cases e
def Zfz (c n : String) : Bool := n == c || (n == "bool" && c == "int")
theorem Zih {c n : String} (hc : c ∈ ["list", "tuple", "int", "bool", "str"]) (hn : n ∈ ["NoneType", "bool", "int", "str", "list", "tuple", "dict"]) : PySem.W.kitOne K (.type n) (.type c) = some (Zfz c n) := by
 simp only [List.mem_cons, List.not_mem_nil, or_false] at hc hn
 rcases hc with rfl | rfl | rfl | rfl | rfl <;> rcases hn with rfl | rfl | rfl | rfl | rfl | rfl | rfl <;> kernel_rfl
theorem Zkn {x : T} {n : String} (e : tyN x = some n) : n ∈ ["NoneType", "bool", "int", "str", "list", "tuple", "dict"] := by
 cases x <;> cases e <;> simp
def oIs (c : String) (x : T) : Option D := if c ∈ ["list", "tuple", "int", "bool", "str"] then (tyN x).map fun n => .t (.bl (Zfz c n)) else none
def rIsi (K : PySem.W.Frag) : List V -> Hp -> VK -> Prop := fun xs H Q => ∃ x c t b, xs = [x, .ty c] /\ TyOf K H x t /\ PySem.W.kitOne K t (.type c) = some b /\ Q (.bl b) H
theorem Zii {c : String} {t : TE} {f : SE} (h : TEd K mg fx E t f) : TEd K mg fx E (tCB (rIsi K) (Zcy t (Zcy (tC (.ty c)) tNil))) (e1 (oIs c) f) := by
 refine Zie (r := fun x H Q => rIsi K [x, .ty c] H Q) ?_ h
 intro P H x v d Q s hx e k
 unfold oIs at e
 split at e
 · rename_i hc
   cases q : tyN x with
   | none => rw [q] at e; cases e
   | some n =>
    rw [q] at e
    cases e
    exact ⟨v, c, .type n, _, rfl, Zma s hx q, Zih hc (Zkn q), done s .bl k⟩
 · cases e
def oIs2 (c c' : String) (x : T) : Option D := if c ∈ ["list", "tuple", "int", "bool", "str"] /\ c' ∈ ["list", "tuple", "int", "bool", "str"] then (tyN x).map fun n => .t (.bl (Zfz c n || Zfz c' n)) else none
def rIsT (K : PySem.W.Frag) : List V -> Hp -> VK -> Prop := fun xs H Q => ∃ x tp c d t b, xs = [x, .ref tp] /\ H tp = some (.tup [.ty c, .ty d]) /\ TyOf K H x t /\ PySem.W.kitAny K t [.type c, .type d] = some b /\ Q (.bl b) H
theorem Znd {c c' n : String} (hc : c ∈ ["list", "tuple", "int", "bool", "str"]) (hc' : c' ∈ ["list", "tuple", "int", "bool", "str"]) (hn : n ∈ ["NoneType", "bool", "int", "str", "list", "tuple", "dict"]) : PySem.W.kitAny K (.type n) [.type c, .type c'] = some (Zfz c n || Zfz c' n) := by
 unfold PySem.W.kitAny
 rw [Zih hc hn]
 cases Zfz c n with
 | true => rfl
 | false =>
  dsimp only
  unfold PySem.W.kitAny
  rw [Zih hc' hn]
  cases Zfz c' n <;> rfl
theorem Zmb {c c' : String} {t : TE} {f : SE} (h : TEd K mg fx E t f) : TEd K mg fx E (tCB (rIsT K) (Zcy t (Zcy (tTup (Zcy (tC (.ty c)) (Zcy (tC (.ty c')) tNil))) tNil))) (e1 (oIs2 c c') f) := by
 refine Zie (r := fun x H Q => [V.ty c, .ty c'].length <= sizeLine /\ ∀ p, H p = none -> rIsT K [x, .ref p] (upd H p (.tup [.ty c, .ty c'])) Q) ?_ h
 intro P H x v d Q s hx e k
 unfold oIs2 at e
 split at e
 · rename_i hc
   cases q : tyN x with
   | none => rw [q] at e; cases e
   | some n =>
    rw [q] at e
    cases e
    refine ⟨show 2 <= sizeLine by decide, fun p hp => ?_⟩
    have hP := s.fresh hp
    have s' : Sub P (upd H p (.tup [.ty c, .ty c'])) := fun b o e => by rw [Zap (Zak e hP)]; exact s b o e
    refine ⟨v, p, c, c', .type n, _, rfl, ZaG, Zma s' hx q, Znd hc.1 hc.2 (Zkn q), ?_⟩
    exact k P _ (fun _ => False) _ ⟨.refl _, fun b o _ e => by rw [Zap (Zak e hp)]; exact e, fun _ z => z.elim, fun _ _ e => .inl e⟩ s' (.t .bl fun _ h => h)
 · cases e
structure ExcL (K : PySem.W.Frag) (C : Addr) : Prop where
 c : (PySem.W.clsIn K C).isSome = true
 ga : PySem.W.findIn K (.ref C) "__getattribute__" = some (some (.builtin "BaseException.__getattribute__"))
 ng : PySem.W.findIn K (.ref C) "__getattr__" = some none
 fi : PySem.W.findIn K (.ref C) "__class__" = some (some (.builtin "object.__class__"))
 sp : PySem.W.specialIn K (.builtin "object.__class__") "__get__" = some (some (.builtin "getset_descriptor.__get__"))
 tk : PySem.W.takesIn K (.builtin "object.__class__") = some true
 mr : PySem.W.mroIn K C (.type "object") = some true
 mb : PySem.W.mroIn K C (.type "BaseException") = some true
def rIsX (K : PySem.W.Frag) : List V -> Hp -> VK -> Prop := fun xs H Q => ∃ a C w c b, xs = [.ref a, w] /\ H a = some (ExcO a C) /\ RelV w c /\ (∀ u, RelV w u -> u = c) /\ ExcL K C /\ PySem.W.kitOne K (.ref C) c = some b /\ Q (.bl b) H
theorem Zlr {X : Cx} : Zdq X (.builtin "isinstance") (rIsX X.K) := by
 intro pins s σ H xs us Q I r h
 obtain ⟨a, C, w, c, b, rfl, ha, rw', hu, L, e, q⟩ := h
 obtain ⟨u1, u2, rfl, r1, r2⟩ := Zi9 r
 cases (show u1 = Value.ref a from r1)
 rw [hu u2 r2]
 obtain ⟨⟨o, vs, h1, h2, h3⟩, _⟩ := I.hok a _ ha
 exact PySem.W.kia_one (PySem.W.kitx_cls L.c L.ga L.ng L.fi L.sp L.tk L.mr L.mb) I.kIn ⟨o, h1, h2⟩ e (fun z => nomatch z) fun tk => ⟨.bl b, H, I.tok tk, rfl, q⟩
def oIsX (all subs : List Str) : T -> Option D
 | .exc c => if all.contains c then some (.t (.bl (subs.contains c))) else none
 | _ => none
theorem Zeb {all subs : List Str} {w : V} {c : Value} {t : TE} {f : SE} (hw : RelV w c) (hu : ∀ u, RelV w u -> u = c) (ok : ∀ x ∈ all, ∀ C, mg x = some (.ref C) -> ExcL K C /\ PySem.W.kitOne K (.ref C) c = some (subs.contains x)) (h : TEd K mg fx E t f) :
 TEd K mg fx E (tCB (rIsX K) (Zcy t (Zcy (tC w) tNil))) (e1 (oIsX all subs) f) := by
 refine Zie (r := fun x H Q => rIsX K [x, w] H Q) ?_ h
 intro P H x v d Q s hx e k
 unfold oIsX at e
 split at e
 · rename_i x
   split at e
   · rename_i hc
     cases e
     cases hx with
     | @exc _ a C h1 h2 =>
      obtain ⟨L, hk⟩ := ok x (by simpa using hc) C h2
      exact ⟨a, C, w, c, _, rfl, s _ _ h1, hw, hu, L, hk, done s .bl k⟩
   · cases e
 · cases e
def eFrz (f : SE) : SE := fun σ => (f σ).bnd fun d σ1 => .ok (.t (frz d)) σ1
theorem Zas {t : TE} {f : SE} (h : TEd K mg fx E t f) : TEd K mg fx E t (eFrz f) := by
 intro P H gs σ ν Q S post
 unfold eFrz at post
 refine h.run S (fun c σ' e => by rw [e] at post; exact post) (fun e => by rw [e] at post; exact post) fun d σ1 e P1 H1 gs1 v s1 S1 dn => ?_
 rw [e] at post
 exact okT post s1 S1 dn
def oInS (x y : T) : Option Bool := match x, y with
 | .str i, .str j => some (!(Builtin.Str.occurrences j i 0 j.length 1).isEmpty)
 | _, _ => none
def rInS : R2 := fun x y H Q => ∃ i j, x = .str i /\ y = .str j /\ Q (.bl (!(Builtin.Str.occurrences j i 0 j.length 1).isEmpty)) H
theorem Zoy : OpB K mg rInS oInS := by
 intro P H x y v w k Q s hx hy e q
 unfold oInS at e
 split at e
 · cases hx; cases hy; cases e; exact ⟨_, _, rfl, rfl, q⟩
 · cases e
def Zko (z : Str) : List T := z.cps.toList.map fun c => .str ⟨#[c]⟩
def Zls (f : SE) : SI := fun σ => (f σ).bnd fun d σ1 => match frz d with
 | .str z => if Zj6 z = true then .ok (Zko z) σ1 else .bad
 | _ => .bad
theorem Zpo {P : Hp} {z : Str} : ItD K mg P (Its z) (Zko z) := fun P' H' s s' => by
 refine ⟨fun i t e => ?_, ?_⟩
 · unfold Zko at e
   rw [List.getElem?_map] at e
   cases q : z.cps.toList[i]? with
   | none => rw [q] at e; cases e
   | some c =>
    rw [q] at e
    cases e
    have hq : z.cps[i]? = some c := by rw [<- Array.getElem?_toList]; exact q
    refine ⟨(Array.getElem?_eq_some_iff.mp hq).1, ?_⟩
    rintro x H2 ⟨rfl, c', hc', rfl⟩
    rw [hq] at hc'
    cases hc'
    exact ⟨P', .refl, s', .str⟩
 · show z.cps.size <= _
   unfold Zko
   simp
theorem Zoz {t : TE} {f : SE} (h : TEd K mg fx E t f) : TId K mg fx E (iStr t) (Zls f) := by
 intro P H gs σ ν R S post
 unfold Zls at post
 refine h.run S (fun c σ' e => by rw [e] at post; exact post) (fun e => by rw [e] at post; exact post) fun d σ1 e P1 H1 gs1 v s1 S1 dn => ?_
 rw [e] at post
 dsimp only [Out.bnd] at post
 split at post
 · rename_i z et
   rw [et] at dn
   cases dn
   split at post
   · rename_i ha
     exact ⟨z, rfl, ha, post P1 H1 gs1 _ s1 S1 Zpo⟩
   · exact post.elim
 · exact post.elim
def ZeB : List T -> Option (List Bool)
 | [] => some []
 | .bl z :: r => (ZeB r).map (z :: ·)
 | _ => none
theorem ZiP {P : Hp} : ∀ {ts : List T} {zs : List Bool} {vs : List V}, ZeB ts = some zs -> ts.length = vs.length -> (∀ (i : Nat) t v, ts[i]? = some t -> vs[i]? = some v -> Den K mg P t v) -> vs = zs.map V.bl
 | [], zs, vs, e, hl, h => by
  cases e
  cases vs with
  | nil => rfl
  | cons _ _ => simp at hl
 | t :: r, zs, [], e, hl, h => by simp at hl
 | t :: r, zs, v :: vs, e, hl, h => by
  cases t <;> try (cases e; done)
  rename_i z
  unfold ZeB at e
  cases q : ZeB r with
  | none => rw [q] at e; cases e
  | some ys =>
   rw [q] at e
   cases e
   cases h 0 _ v rfl rfl
   rw [ZiP (vs := vs) q (by simpa using hl) fun i t v a b => h (i + 1) t v (by simpa using a) (by simpa using b), List.map_cons]
def oAll : T -> Option D
 | .lst ts => (ZeB ts).map fun bs => .t (.bl (bs.all id))
 | _ => none
def rAll (K : PySem.W.Frag) : List V -> Hp -> VK -> Prop := fun vs H Q => ∃ (l : Addr) (bs : List Bool), vs = [.ref l] /\ SqL K H l (bs.map V.bl) /\ Q (.bl (bs.all id)) H
theorem ZoA : UnD K mg (fun x H Q => rAll K [x] H Q) oAll := by
 intro P H x v d Q s hx e k
 unfold oAll at e
 split at e
 · rename_i ts
   cases q : ZeB ts with
   | none => rw [q] at e; cases e
   | some bs =>
    rw [q] at e
    cases e
    cases hx with
    | @lst _ a vs h1 h2 h3 => exact ⟨a, bs, rfl, by rw [<- ZiP q h2 h3]; exact .of (s _ _ h1), done s .bl k⟩
 · cases e
def Zkp (x y : T) : Option D := match x with
 | .lst ts => if Zc8 y && ts.all Zc8 then (ts.findIdx? fun z => eqT z y).map fun (j : Nat) => .t (.int j) else none
 | _ => none
theorem Zne {P : Hp} {x : T} {w : V} (hx : Den K mg P x w) (fxx : Zc8 x = true) : ∀ {ts : List T} {vs : List V}, ts.length = vs.length -> (∀ (i : Nat) t v, ts[i]? = some t -> vs[i]? = some v -> Den K mg P t v) -> ts.all Zc8 = true -> vs.findIdx? (fun z => eqV z w) = ts.findIdx? fun z => eqT z x
 | [], [], _, _, _ => rfl
 | [], _ :: _, e, _, _ => by simp at e
 | _ :: _, [], e, _, _ => by simp at e
 | t :: ts, v :: vs, e, h, f => by
  simp only [List.all_cons, Bool.and_eq_true] at f
  have hd : eqV v w = eqT t x := by
   rcases Zok (h 0 t v rfl rfl) hx with z | z | z
   · exact z
   · rw [f.1] at z; cases z
   · rw [fxx] at z; cases z
  rw [List.findIdx?_cons, List.findIdx?_cons, hd, Zne hx fxx (ts := ts) (vs := vs) (by simpa using e) (fun i t v a b => h (i + 1) t v (by simpa using a) (by simpa using b)) f.2]
def eIdx (f g : SE) : SE := fun σ => (f σ).bnd fun a σ1 => match frz a with
 | .lst ts => (g σ1).bnd fun b σ2 => (match Zkp (.lst ts) (frz b) with
  | some d => .ok d σ2
  | none => .bad)
 | _ => .bad
theorem ZfL {t u : TE} {f g : SE} (h : TEd K mg fx E t f) (h' : TEd K mg fx E u g) : TEd K mg fx E (tBM K "list" (ZiE K) t (Zcy u tNil)) (eIdx f g) := by
 intro P H gs σ ν Q S post
 unfold eIdx at post
 refine h.run S (fun c σ' e => by rw [e] at post; exact post) (fun e => by rw [e] at post; exact post) fun da σ1 e P1 H1 gs1 v1 s1 S1 d1 => ?_
 rw [e] at post
 dsimp only [Out.bnd] at post
 split at post
 rotate_left
 · exact post.elim
 rename_i ts et
 rw [et] at d1
 cases d1 with
 | @lst _ a vs q1 q2 q3 =>
  refine ⟨.inl ⟨rfl, vs, .of (S1.sub _ _ q1)⟩, ?_⟩
  refine h'.run S1 (fun c σ' e => by rw [e] at post; exact PostX.from post s1) (fun e => by rw [e] at post; exact post) fun db σ2 e P2 H2 gs2 v2 s2 S2 d2 => ?_
  rw [e] at post
  dsimp only at post
  split at post
  · rename_i d eo
    unfold Zkp at eo
    dsimp only at eo
    split at eo
    · rename_i hf
      rw [Bool.and_eq_true] at hf
      cases qi : ts.findIdx? fun z => eqT z (frz db) with
      | none => rw [qi] at eo; cases eo
      | some j =>
       rw [qi] at eo
       cases eo
       have q3' : ∀ (i : Nat) t v, ts[i]? = some t -> vs[i]? = some v -> Den K mg P2 t v := fun i t v a b => (q3 i t v a b).mono s2.mono
       refine ⟨a, vs, v2, j, rfl, rfl, .of (S2.sub _ _ (s2.mono _ _ q1)), ZiM d2 hf.1, all2 q2 q3' hf.2, by rw [Zne d2 hf.1 q2 q3' hf.2]; exact qi, ?_⟩
       exact okT post (s1.trans s2) S2 .int
    · cases eo
  · exact post.elim
def Znf : SE := fun σ => .ok (.dct []) σ
theorem Zng : TEd K mg fx E Zl0 Znf := by
 intro P H gs σ ν Q S post p hp
 have hP := S.sub.fresh hp
 have sb : Sub P (upd H p (.dK [])) := fun b o e => by rw [Zap (Zak e hP)]; exact S.sub b o e
 have ng : ¬ tot gs p := fun z => by
  obtain ⟨⟨o, e⟩, _⟩ := S.here z
  rw [hp] at e; cases e
 have s1 : Go P H (fun _ => False) P (upd H p (.dK [])) (fun b => b = p) := ⟨.refl _, fun b o _ e => by rw [Zap (Zak e hp)]; exact e, fun b z => .inr (by rw [show b = p from z]; exact hp), fun _ _ e => .inl e⟩
 exact post P _ gs (fun b => b = p) (.ref p) s1.alloc (S.go s1 sb fun _ _ z => z) (.dct ZaG hP rfl (fun i k t w e => by simp at e) fun b => Iff.rfl) fun b z y => ng (by rw [<- show b = p from y]; exact z)
def Zf1 (f g h : SE) : SE := fun σ => (f σ).bnd fun a σ1 => match frz a with
 | .dct kvs => (g σ1).bnd fun b σ2 => (h σ2).bnd fun c σ3 => (match frz b with
  | .str k => .ok (.t ((kvs.lookup k).getD (frz c))) σ3
  | _ => .bad)
 | _ => .bad
theorem ZgB {P : Hp} {k : Str} : ∀ {kvs : List (Str × T)} {ws : List (Key × V)}, ws.map (·.1) = kvs.map (fun p => Sum.inr p.1) -> (∀ (i : Nat) k t w, kvs[i]? = some (k, t) -> ws[i]? = some (Sum.inr k, w) -> Den K mg P t w) ->
 (kvs.lookup k = none /\ valV ws (Sum.inr k) = none) \/ ∃ t w, kvs.lookup k = some t /\ valV ws (Sum.inr k) = some w /\ Den K mg P t w
 | [], [], _, _ => .inl ⟨rfl, rfl⟩
 | [], _ :: _, e, _ => by simp at e
 | _ :: _, [], e, _ => by simp at e
 | (k', t) :: kvs, (j, w) :: ws, e, h => by
  simp only [List.map_cons, List.cons.injEq] at e
  obtain ⟨e1, e2⟩ := e
  subst e1
  rw [List.lookup_cons]
  by_cases q : k = k'
  · subst q
    rw [show (k == k) = true by simp, ZfG rfl]
    exact .inr ⟨t, w, rfl, rfl, h 0 k t w rfl rfl⟩
  · rw [show (k == k') = false by simp [q], ZfH fun z => q (Sum.inr.inj z).symm]
    exact ZgB e2 fun i k t w a b => h (i + 1) k t w (by simpa using a) (by simpa using b)
theorem ZiQ {t u w : TE} {f g h : SE} (hf : TEd K mg fx E t f) (hg : TEd K mg fx E u g) (hh : TEd K mg fx E w h) : TEd K mg fx E (Zj9 t u w) (Zf1 f g h) := by
 intro P H gs σ ν Q S post
 unfold Zf1 at post
 refine hf.run S (fun c σ' e => by rw [e] at post; exact post) (fun e => by rw [e] at post; exact post) fun da σ1 e P1 H1 gs1 v1 s1 S1 d1 => ?_
 rw [e] at post
 dsimp only [Out.bnd] at post
 split at post
 rotate_left
 · exact post.elim
 rename_i kvs et
 rw [et] at d1
 cases d1 with
 | @dct _ a ws q1 q2 q3 =>
  refine ⟨a, rfl, .inl ⟨ws, .inl (S1.sub _ _ q1)⟩, ?_⟩
  refine hg.run S1 (fun c σ' e => by rw [e] at post; exact PostX.from post s1) (fun e => by rw [e] at post; exact post) fun db σ2 e P2 H2 gs2 v2 s2 S2 d2 => ?_
  rw [e] at post
  dsimp only at post
  refine hh.run S2 (fun c σ' e => by rw [e] at post; exact PostX.from post (s1.trans s2)) (fun e => by rw [e] at post; exact post) fun dc σ3 e P3 H3 gs3 v3 s3 S3 d3 => ?_
  rw [e] at post
  dsimp only at post
  split at post
  rotate_left
  · exact post.elim
  rename_i k ek
  rw [ek] at d2
  cases d2
  have q3' : ∀ (i : Nat) k t w, kvs[i]? = some (k, t) -> ws[i]? = some (Sum.inr k, w) -> Den K mg P3 t w := fun i k t w a b => (q3 i k t w a b).mono (s2.mono.trans s3.mono)
  refine ⟨valV ws (Sum.inr k), .inl ⟨ws, Sum.inr k, .inl (S3.sub _ _ (s3.mono _ _ (s2.mono _ _ q1))), rfl, rfl⟩, ?_⟩
  rcases ZgB (k := k) q2 q3' with ⟨z1, z2⟩ | ⟨t, w, z1, z2, dn⟩
  · rw [z1] at post
    rw [z2]
    exact okT post ((s1.trans s2).trans s3) S3 d3
  · rw [z1] at post
    rw [z2]
    exact okT post ((s1.trans s2).trans s3) S3 dn
def ZcW : T -> Option D
 | .dct kvs => some (.lst (kvs.map fun p => .t (.str p.1)))
 | x => oList x
def Zmc (K : PySem.W.Frag) : List V -> Hp -> VK -> Prop := fun xs H Q => (∃ p ys, xs = [.ref p] /\ (SqL K H p ys \/ SqT K H p ys) /\ ∀ l, H l = none -> Q (.ref l) (upd H l (.lst ys))) \/
 ∃ p kvs, xs = [.ref p] /\ H p = some (.dK kvs) /\ ∀ l, H l = none -> Q (.ref l) (upd H l (.lst (kvs.map fun kv => kV kv.1)))
theorem ZbX {X : Cx} (h : X.K = K) (hc : X.calm = true) : Zdq X (.type "list") (Zmc K) := by
 subst h
 intro pins s σ H xs us Q I r q
 rcases q with q | q
 · exact Zhu pins s σ H xs us Q I r q
 · exact Zjj hc pins s σ H xs us Q I r q
theorem Zde : UnD K mg (fun x H Q => Zmc K [x] H Q) ZcW := by
 intro P H x v d Q s hx e k
 unfold ZcW at e
 split at e
 · rename_i kvs
   cases e
   cases hx with
   | @dct _ a ws q1 q2 q3 =>
    refine .inr ⟨a, ws, rfl, s _ _ q1, fun l hl => ?_⟩
    have e1 : (kvs.map fun p => D.t (.str p.1)) = (kvs.map fun p => T.str p.1).map D.t := by rw [List.map_map]; rfl
    have e2 : (ws.map fun kv => kV kv.1) = kvs.map fun p => V.str p.1 := by
     have := congrArg (List.map kV) q2
     rw [List.map_map, List.map_map] at this
     exact this
    rw [e2]
    rw [e1] at k
    refine newL s hl (by simp) (fun i t v a b => ?_) k
    rw [List.getElem?_map] at a b
    cases q : kvs[i]? with
    | none => rw [q] at a; cases a
    | some p => rw [q] at a b; cases a; cases b; exact .str
 · exact .inl (Zm5 P H x v d Q s hx e k)
def Zkq : T -> Option D
 | .dct kvs => some (.lst (kvs.map fun p => .t p.2))
 | _ => none
def Zkr : List V -> Hp -> VK -> Prop := fun xs H Q => ∃ p a kvs, xs = [.ref p] /\ H p = some (Zjk p a) /\ H a = some (.dK kvs) /\ ∀ l, H l = none -> Q (.ref l) (upd H l (.lst (kvs.map fun kv => kv.2)))
theorem Znh {t : TE} {f : SE} (h : TEd K mg fx E t f) : TEd K mg fx E (tCB Zkr (Zcy (tBM0 K "dict" Zle t) tNil)) (e1 Zkq f) := by
 refine Zie (r := fun x H Q => tyV K "dict" x H /\ Zle x [] H fun y H1 => Zkr [y] H1 Q) ?_ h
 intro P H x v d Q s hx e k
 unfold Zkq at e
 split at e
 · rename_i kvs
   cases e
   cases hx with
   | @dct _ a ws q1 q2 q3 =>
    refine ⟨.inr (.inr (.inl ⟨rfl, .inl ⟨ws, s _ _ q1⟩⟩)), a, ws, rfl, rfl, s _ _ q1, fun p hp => ?_⟩
    have hP := s.fresh hp
    have hpa : a ≠ p := Zak (s _ _ q1) hp
    refine ⟨p, a, ws, rfl, ZaG, by rw [Zap hpa]; exact s _ _ q1, fun l hl => ?_⟩
    have s' : Sub P (upd H p (Zjk p a)) := fun b o e => by rw [Zap (Zak e hP)]; exact s b o e
    have e1 : (kvs.map fun q => D.t q.2) = (kvs.map fun q => q.2).map D.t := by rw [List.map_map]; rfl
    rw [e1] at k
    have hlen : kvs.length = ws.length := by have := congrArg List.length q2; simpa using this.symm
    refine newL s' hl (by simp [hlen]) (fun i t v a b => ?_) fun P' H' g u s1 sb o => k P' H' g u ?_ sb o
    · rw [List.getElem?_map] at a b
      cases q : kvs[i]? with
      | none => rw [q] at a; cases a
      | some p =>
       cases q' : ws[i]? with
       | none => rw [q'] at b; cases b
       | some w =>
        rw [q] at a; rw [q'] at b; cases a; cases b
        have ek : w.1 = Sum.inr p.1 := by
         have := congrArg (fun l => l[i]?) q2
         simp only [List.getElem?_map, q, q', Option.map_some] at this
         exact Option.some.inj this
        exact q3 i p.1 p.2 w.2 q (by rw [q', <- ek])
    · have s0 : Go P H (fun _ => False) P (upd H p (Zjk p a)) (fun _ => False) := ⟨.refl _, fun b o _ e => by rw [Zap (Zak e hp)]; exact e, fun _ z => z.elim, fun _ _ e => .inl e⟩
      exact s0.trans s1
 · cases e
def cutT (ts : List T) (lo hi : Option Int) : List T := (ts.drop (HT.sIx ts.length 0 lo)).take (HT.sIx ts.length ts.length hi - HT.sIx ts.length 0 lo)
def eCut (lo hi : Option Int) (f : SE) : SE := e1 (fun x => match x with
 | .lst ts => some (.lst ((cutT ts lo hi).map .t))
 | .scr ns => some (.lst ((cutT (ns.map .int) lo hi).map .t))
 | _ => none) f
theorem Zks {α : Type} {xs : List α} {i a b : Nat} {x : α} (h : ((xs.drop a).take b)[i]? = some x) : xs[a + i]? = some x := by
 rw [List.getElem?_take] at h
 split at h
 · rwa [List.getElem?_drop] at h
 · cases h
theorem Zni {P H : Hp} {ts : List T} {vs : List V} {lo hi : Option Int} {Q : VK} (s : Sub P H) (h1 : ts.length = vs.length) (h2 : ∀ (i : Nat) t v, ts[i]? = some t -> vs[i]? = some v -> Den K mg P t v)
 (k : ∀ P' H' g u, Go P H (fun _ => False) P' H' g -> Sub P' H' -> Own K mg P' H' g (.lst ((cutT ts lo hi).map .t)) u -> Q u H') : ∀ p, H p = none -> Q (.ref p) (upd H p (.lst (cutV vs lo hi))) := fun p hp => by
 refine newL s hp ?_ (fun i t v a b => ?_) k
 · unfold cutT cutV; rw [h1]; simp [h1]
 · unfold cutT at a
   unfold cutV at b
   rw [<- h1] at b
   exact h2 _ t v (Zks a) (Zks b)
end DL
set_option autoImplicit false
namespace DL
open PySem L2 PySem.Spec PyProof.Rows
def clsA (mg : Str -> Option Value) (c : Str) : Addr := match mg c with
 | some (.ref C) => C
 | _ => 0
section
variable (P : Program) (w : World) (K : PySem.W.Frag) (mg : Str -> Option Value) (base : Heap)
structure CalX (x : Str) (k : Nat) (ps : List Str) (F : List D -> FO) : Prop where
 ex : ∃ (f : Addr) (fd : FuncData), FnOk P w K mg base (XC P w) k f fd ps (spF K mg ps.length F) /\ mg x = some (.ref f) /\ PySem.W.keepIn K (.ref f) = true /\ Binds K fd ps []
structure CalM (c m : Str) (k : Nat) (ps : List Str) (F : List D -> FO) : Prop where
 ex : ∃ (f : Addr) (fd : FuncData), mg c = some (.ref (clsA mg c)) /\ Cls K (clsA mg c) /\ Meth K (clsA mg c) m f /\ FnOk P w K mg base (XC P w) k f fd ps (spF K mg ps.length F) /\ Binds K fd ps []
structure CalI (c : Str) (k : Nat) (ps : List Str) (F : List D -> FO) : Prop where
 ex : ∃ (f : Addr) (fd : FuncData), mg c = some (.ref (clsA mg c)) /\ Mk K (clsA mg c) f /\ FnOk P w K mg base (XC P w) k f fd ps (spF K mg ps.length F) /\ Binds K fd ps []
end
structure TFX (K : PySem.W.Frag) (mg : Str -> Option Value) (x : Str) (st : Stmt) (ps : List Str) : Prop where
 ex : ∃ (f : Addr) (fd : FuncData), Fun K x x st f fd /\ mg x = some (.ref f) /\ Binds K fd ps []
structure TMX (K : PySem.W.Frag) (mg : Str -> Option Value) (c m qual : Str) (st : Stmt) (ps : List Str) : Prop where
 ex : ∃ (f : Addr) (fd : FuncData), mg c = some (.ref (clsA mg c)) /\ Cls K (clsA mg c) /\ Meth K (clsA mg c) m f /\ Fun K m qual st f fd /\ Binds K fd ps []
structure TIX (K : PySem.W.Frag) (mg : Str -> Option Value) (c qual : Str) (st : Stmt) (ps : List Str) : Prop where
 ex : ∃ (f : Addr) (fd : FuncData), mg c = some (.ref (clsA mg c)) /\ Mk K (clsA mg c) f /\ Fun K "__init__" qual st f fd /\ Binds K fd ps []
section
variable {P : Program} {w : World} {K : PySem.W.Frag} {mg : Str -> Option Value} {base : Heap}
theorem Fun.okX {x qual : Str} {st : Stmt} {f : Addr} {fd : FuncData} {N ps : List Str} {k : Nat} {body : SS} {F : List D -> FO} (T : Fun K x qual st f fd) (S : FnScope N ps (Zaj st)) (hn : ps.length <= N.length) (hF : ∀ ds, F ds = .bad \/ F ds = runF N.length body ds)
 (hbody : ∀ (cdv : Value) (A : Around) (outer : List Env) (s : Shared) (H : Hp) (E : XK), Room k (A.deeper (envOfC qual (Zaj st) s.heap.objs.size f cdv)) ->
   ∃ t, PSs (cxOf (XC P w) P w K mg base N qual (Zaj st) f cdv A outer s H E) (Zbl st) t /\ ∀ fx, TSd K mg fx E t body) : FnOk P w K mg base (XC P w) (k + 1) f fd ps (spF K mg ps.length F) := by
 obtain ⟨oc, od, kV, doc, pm, an, cdv, ct, osl, rfl, lk, hcd⟩ := T.ex
 refine ZmE lk hcd S (fun vs H Q E h => h.1) fun A outer s H vs Q E hr hsp => ?_
 obtain ⟨t, h, q⟩ := hbody cdv A outer s H E hr
 exact ⟨t, h, Zl4 hF q hn hsp⟩
theorem TFX.ok {x : Str} {st : Stmt} {ps N : List Str} {k : Nat} {body : SS} {F : List D -> FO} (T : TFX K mg x st ps) (S : FnScope N ps (Zaj st)) (hn : ps.length <= N.length) (hF : ∀ ds, F ds = .bad \/ F ds = runF N.length body ds)
 (hbody : ∀ (f : Addr) (cdv : Value) (A : Around) (outer : List Env) (s : Shared) (H : Hp) (E : XK), Room k (A.deeper (envOfC x (Zaj st) s.heap.objs.size f cdv)) ->
   ∃ t, PSs (cxOf (XC P w) P w K mg base N x (Zaj st) f cdv A outer s H E) (Zbl st) t /\ ∀ fx, TSd K mg fx E t body) : CalX P w K mg base x (k + 1) ps F := by
 obtain ⟨f, fd, Fn, m, b⟩ := T.ex
 exact ⟨f, fd, Fun.okX Fn S hn hF (hbody f), m, Fn.kp, b⟩
theorem TMX.ok {c m qual : Str} {st : Stmt} {ps N : List Str} {k : Nat} {body : SS} {F : List D -> FO} (T : TMX K mg c m qual st ps) (S : FnScope N ps (Zaj st)) (hn : ps.length <= N.length) (hF : ∀ ds, F ds = .bad \/ F ds = runF N.length body ds)
 (hbody : ∀ (f : Addr) (cdv : Value) (A : Around) (outer : List Env) (s : Shared) (H : Hp) (E : XK), Room k (A.deeper (envOfC qual (Zaj st) s.heap.objs.size f cdv)) ->
   ∃ t, PSs (cxOf (XC P w) P w K mg base N qual (Zaj st) f cdv A outer s H E) (Zbl st) t /\ ∀ fx, TSd K mg fx E t body) : CalM P w K mg base c m (k + 1) ps F := by
 obtain ⟨f, fd, hc, cl, mt, Fn, b⟩ := T.ex
 exact ⟨f, fd, hc, cl, mt, Fun.okX Fn S hn hF (hbody f), b⟩
theorem TIX.ok {c qual : Str} {st : Stmt} {ps N : List Str} {k : Nat} {body : SS} {F : List D -> FO} (T : TIX K mg c qual st ps) (S : FnScope N ps (Zaj st)) (hn : ps.length <= N.length) (hF : ∀ ds, F ds = .bad \/ F ds = runF N.length body ds)
 (hbody : ∀ (f : Addr) (cdv : Value) (A : Around) (outer : List Env) (s : Shared) (H : Hp) (E : XK), Room k (A.deeper (envOfC qual (Zaj st) s.heap.objs.size f cdv)) ->
   ∃ t, PSs (cxOf (XC P w) P w K mg base N qual (Zaj st) f cdv A outer s H E) (Zbl st) t /\ ∀ fx, TSd K mg fx E t body) : CalI P w K mg base c (k + 1) ps F := by
 obtain ⟨f, fd, hc, mk, Fn, b⟩ := T.ex
 exact ⟨f, fd, hc, mk, Fun.okX Fn S hn hF (hbody f), b⟩
end
section
variable {X : Cx} {K : PySem.W.Frag} {mg : Str -> Option Value} {E : XK} {x c m f : Str} {k : Nat} {ps : List Str} {F : List D -> FO} {p pos apos : Pos} {e o value : Expr} {es : List Expr} {t : TA} {ta te tv : TE}
theorem Zay (h : CalX X.prog X.w X.K X.mg X.base x k ps F) (hK : X.K = K) (hmg : X.mg = mg) (hx : ZcH (XC X.prog X.w) X E) (hr : Room k X.A) (ha : PA X (e :: es) t) (hg : Gl X x := by rfl) (hdb : (x == ("__debug__" : Str)) = false := by decide)
 (he : starEach (e :: es) X.env = (false, eval e X.env) :: starEach es X.env := by rfl) (hpl : (backTo pos (starEach es X.env)).any (·.1) = false := by rfl) :
 PE X (.Call (.Name x p) (e :: es) [] pos) (Zh2 (spF K mg ps.length F) [] E t) := by
 subst hK hmg
 obtain ⟨f, fd, G, m, kp, b⟩ := h.ex
 exact ZmB G hr hg m kp b .nil hx ha hdb he hpl
theorem Znj (h : CalX X.prog X.w X.K X.mg X.base x k ps F) (hK : X.K = K) (hmg : X.mg = mg) (hx : ZcH (XC X.prog X.w) X E) (hr : Room k X.A) (hg : Gl X x := by rfl) (hdb : (x == ("__debug__" : Str)) = false := by decide) :
 PE X (.Call (.Name x p) [] [] pos) (Zh2 (spF K mg ps.length F) [] E tNil) := by
 subst hK hmg
 obtain ⟨f, fd, G, m, kp, b⟩ := h.ex
 exact Zk3 G hr hg m kp b .nil hx hdb
theorem Zlt {σ0 : L2.St} (h : CalX X.prog X.w X.K X.mg X.base x k ps F) (hK : X.K = K) (hmg : X.mg = mg) (hx : ZfK (XC X.prog X.w) X E σ0) (hr : Room k X.A) (ha : PA X (e :: es) t) (hg : Gl X x := by rfl) (hdb : (x == ("__debug__" : Str)) = false := by decide)
 (he : starEach (e :: es) X.env = (false, eval e X.env) :: starEach es X.env := by rfl) (hpl : (backTo pos (starEach es X.env)).any (·.1) = false := by rfl) :
 PE X (.Call (.Name x p) (e :: es) [] pos) (tAt σ0 (Zh2 (spF K mg ps.length F) [] E t)) := by
 subst hK hmg
 obtain ⟨f, fd, G, m, kp, b⟩ := h.ex
 exact Zjq G hr hg m kp b .nil hx ha hdb he hpl
theorem Zd1 {pl : Sem Bool} (h : CalM X.prog X.w X.K X.mg X.base c m k ps F) (hK : X.K = K) (hmg : X.mg = mg) (hx : ZcH (XC X.prog X.w) X E) (hr : Room k X.A) (ho : PE X o ta) (ha : PA X (e :: es) t)
 (hst : starEach (e :: es) X.env = (false, eval e X.env) :: starEach es X.env := by rfl) (hpl : (backTo pos (starEach es X.env)).any (·.1) = false := by rfl)
 (ht : eval (.Call (.Attribute o m apos) (e :: es) [] pos) X.env = (do
   let ov <- eval o X.env
   standAt apos.atName
   let (f, first) <- holding [ov] (getMethod ov m pl)
   callWith pos f first (backTo pos (starEach (e :: es) X.env)) (backToKw pos (keywordEach [] X.env))) := by rfl) :
 PE X (.Call (.Attribute o m apos) (e :: es) [] pos) (Zh3 (clsA mg c) m (spF K mg ps.length F) [] E ta t) := by
 subst hK hmg
 obtain ⟨f, fd, hc, cl, mt, G, b⟩ := h.ex
 exact ZmC ho cl mt G hr b .nil hx ha hst hpl ht
theorem Za7 {pl : Sem Bool} (h : CalM X.prog X.w X.K X.mg X.base c m k ps F) (hK : X.K = K) (hmg : X.mg = mg) (hx : ZcH (XC X.prog X.w) X E) (hr : Room k X.A) (ho : PE X o ta)
 (ht : eval (.Call (.Attribute o m apos) [] [] pos) X.env = (do
   let ov <- eval o X.env
   standAt apos.atName
   let (f, first) <- holding [ov] (getMethod ov m pl)
   callWith pos f first (backTo pos (starEach [] X.env)) (backToKw pos (keywordEach [] X.env))) := by rfl) :
 PE X (.Call (.Attribute o m apos) [] [] pos) (Zh3 (clsA mg c) m (spF K mg ps.length F) [] E ta tNil) := by
 subst hK hmg
 obtain ⟨f, fd, hc, cl, mt, G, b⟩ := h.ex
 exact Ziy ho cl mt G hr b .nil hx ht
theorem ZgC (h : CalI X.prog X.w X.K X.mg X.base x k ps F) (hK : X.K = K) (hmg : X.mg = mg) (hx : ZcH (XC X.prog X.w) X E) (hr : Room (k + 1) X.A) (ha : PA X (e :: es) t) (hg : Gl X x := by rfl) (hdb : (x == ("__debug__" : Str)) = false := by decide)
 (he : starEach (e :: es) X.env = (false, eval e X.env) :: starEach es X.env := by rfl) (hpl : (backTo pos (starEach es X.env)).any (·.1) = false := by rfl) :
 PE X (.Call (.Name x p) (e :: es) [] pos) (ZjS (clsA mg x) (spF K mg ps.length F) [] E t) := by
 subst hK hmg
 obtain ⟨f, fd, hc, mk, G, b⟩ := h.ex
 exact ZmD mk G hr hg hc b .nil hx ha hdb he hpl
theorem Znk (h : CalI X.prog X.w X.K X.mg X.base x k ps F) (hK : X.K = K) (hmg : X.mg = mg) (hx : ZcH (XC X.prog X.w) X E) (hr : Room (k + 1) X.A) (hg : Gl X x := by rfl) (hdb : (x == ("__debug__" : Str)) = false := by decide) :
 PE X (.Call (.Name x p) [] [] pos) (ZjS (clsA mg x) (spF K mg ps.length F) [] E tNil) := by
 subst hK hmg
 obtain ⟨f, fd, hc, mk, G, b⟩ := h.ex
 exact Zk4 mk G hr hg hc b .nil hx hdb
theorem Zbf (hK : X.K = K) (he : PE X e ta) (hb : attributeBase e f X.env (eval e X.env) = eval e X.env := by rfl) : PE X (.Attribute e f pos) (tFld K ta f) := hK ▸ ZnY he hb
theorem ZgD {pos' : Pos} (hK : X.K = K) (ha : PE X o ta) (hv : PE X value tv) (hs : swapsWith value (some (.Attribute o f pos')) pos.line X.env = pure false := by rfl) : PS X (.Assign [.Attribute o f pos'] value pos) (sFld K ta tv f) := hK ▸ ZnZ ha hv hs
theorem q_ix (hK : X.K = K) : IxR X (Zll K) := hK ▸ IxR.or ZmG Zn1
theorem Zda (hK : X.K = K) : Zdq X (.builtin "len") (rLen K) := by
 subst hK
 intro pins s σ H xs us Q I r q
 rcases q with q | q
 · exact Zhs pins s σ H xs us Q I r q
 · exact Zht pins s σ H xs us Q I r q
theorem Zij (hK : X.K = K) : Zdq X (.builtin "isinstance") (rIsi K) := hK ▸ Zh7
theorem ZoB (hK : X.K = K) : Zdq X (.builtin "isinstance") (rIsT K) := hK ▸ Zjm
theorem Zf2 (hK : X.K = K) : Zdq X (.builtin "isinstance") (rIsX K) := hK ▸ Zlr
theorem Zpp (hK : X.K = K) (hc : X.calm = true) : Zdq X (.builtin "all") (rAll K) := hK ▸ Zj7 hc
theorem Znl (hc : X.calm = true) : Zdq X (.type "list") Zkr := Zjl hc
theorem q_in (hK : X.K = K) : OpR X (compareOp .In) (rIn K false) := hK ▸ ZjW
theorem Zg1 (hK : X.K = K) : OpR X (compareOp .NotIn) (rIn K true) := hK ▸ Zhr
theorem Zpq : OpR X (compareOp .In) rInS := ZjM
theorem ZhE {k : Nat} {u : TGs} {n : Nat} (hK : X.K = K) (hc : X.calm = true) (h : PGs X es u) (hn : (assignEach es X.env).length = n := by rfl) (hst : (assignEach es X.env).findIdx? (·.1) = none := by rfl) : PG X (.Tuple es k pos) (ZmN K n u) := hK ▸ ZmO hc h hn hst
theorem ZcK (hK : X.K = K) (ho : PE X o ta) (ha : PA X (e :: es) t)
 (hbase : attributeBase o "append" X.env (eval o X.env) = eval o X.env := by rfl)
 (hfew : ((backTo pos (starEach (e :: es) X.env)).all (fun x => !x.1) && (backToKw pos (keywordEach [] X.env)).all (fun x => x.1.isSome)
   && decide ((e :: es).length + ([] : List Keyword).length + (if ([] : List Keyword).isEmpty then 0 else 1) < 30)) = true := by rfl)
 (hline : (apos.endLine == pos.line) = true := by rfl) (hs : starEach (e :: es) X.env = (false, eval e X.env) :: starEach es X.env := by rfl) (hplain : (backTo pos (starEach es X.env)).any (·.1) = false := by rfl) :
 PE X (.Call (.Attribute o "append" apos) (e :: es) [] pos) (tBM K "list" ZgU ta t) := hK ▸ Zn3 PySem.F.plainAttrs_list PySem.F.slot_list_append PySem.F.type_list_append ZjX ho ha hbase hfew hline hs hplain
theorem ZdK (hK : X.K = K) (ho : PE X o ta) (ha : PA X (e :: es) t)
 (hbase : attributeBase o "index" X.env (eval o X.env) = eval o X.env := by rfl)
 (hfew : ((backTo pos (starEach (e :: es) X.env)).all (fun x => !x.1) && (backToKw pos (keywordEach [] X.env)).all (fun x => x.1.isSome)
   && decide ((e :: es).length + ([] : List Keyword).length + (if ([] : List Keyword).isEmpty then 0 else 1) < 30)) = true := by rfl)
 (hline : (apos.endLine == pos.line) = true := by rfl) (hs : starEach (e :: es) X.env = (false, eval e X.env) :: starEach es X.env := by rfl) (hplain : (backTo pos (starEach es X.env)).any (·.1) = false := by rfl) :
 PE X (.Call (.Attribute o "index" apos) (e :: es) [] pos) (tBM K "list" (ZiE K) ta t) := hK ▸ Zn3 PySem.F.plainAttrs_list PySem.F.slot_list_index PySem.F.type_list_index Zk9 ho ha hbase hfew hline hs hplain
theorem Zlu (hK : X.K = K) (ho : PE X o ta) (hbase : attributeBase o "values" X.env (eval o X.env) = eval o X.env := by rfl) (hline : (apos.endLine == pos.line) = true := by rfl) :
 PE X (.Call (.Attribute o "values" apos) [] [] pos) (tBM0 K "dict" Zle ta) := hK ▸ Zn2 PySem.F.plainAttrs_dict PySem.F.slot_dict_values PySem.F.type_dict_values Zka ho hbase hline
theorem Zmd {e2 : Expr} {ty tx : TE} (hu : X.A.units + 1 < cLine) (ho : PE X o ta) (he : PE X e ty) (hf : PE X e2 tx) (hbase : attributeBase o "get" X.env (eval o X.env) = eval o X.env := by rfl)
 (hfew : ((backTo pos (starEach [e, e2] X.env)).all (fun x => !x.1) && (backToKw pos (keywordEach [] X.env)).all (fun x => x.1.isSome)
   && decide (([e, e2] : List Expr).length + ([] : List Keyword).length + (if ([] : List Keyword).isEmpty then 0 else 1) < 30)) = true := by rfl) (hline : (apos.endLine == pos.line) = true := by rfl)
 (htr : backTo pos (starEach [e, e2] X.env) = [(false, eval e X.env), (false, eval e2 X.env)] := by rfl) : PE X (.Call (.Attribute o "get" apos) [e, e2] [] pos) (Zj9 ta ty tx) := Zld hu ho he hf ⟨hbase, hfew, hline, htr⟩
theorem Zgo (hmg : X.mg = mg) (hm : mg x = some (.ref (clsA mg x))) (hg : Gl X x := by rfl) (hd : (x == ("__debug__" : Str)) = false := by decide) : PE X (.Name x pos) (tC (.ref (clsA mg x))) := by
 subst hmg
 exact ZjC hg hm rfl hd
theorem Zme {v : V} {u : Value} (hmg : X.mg = mg) (hm : mg x = some u) (r : RelV v u) (hg : Gl X x := by rfl) (hd : (x == ("__debug__" : Str)) = false := by decide) : PE X (.Name x pos) (tC v) := by
 subst hmg
 exact ZjC hg hm r hd
theorem ZdL {np cpos : Pos} (hK : X.K = K) (hmg : X.mg = mg) (hX : Zou X E) (hm : mg x = some (.ref (clsA mg x))) (hC : ExcC K (clsA mg x)) (ha : PE X e te) (hc : X.calm = true := by rfl) (hg : Gl X x := by rfl) (hdb : (x == ("__debug__" : Str)) = false := by decide)
 (he : starEach [e] X.env = [(false, eval e X.env)] := by rfl) : PS X (.Raise (some (.Call (.Name x np) [e] [] cpos)) none pos) (Zkl (clsA mg x) E te) := by
 subst hK hmg
 exact Zlq hX hc hg hm hC ha hdb he
end
section
variable {K : PySem.W.Frag} {mg : Str -> Option Value} {fx : Nat -> Option V} {E : XK}
theorem Znm : TTd K mg fx E ZmJ (fun σ => .ok true σ) := fun P H gs σ ν Q S post => post P H gs .refl S
def Zds : ST := fun σ => .ok true σ
theorem ZcL : TTd K mg fx E ZmJ Zds := Znm
end
end DL
set_option autoImplicit false
namespace DL
open PySem L2
variable {K : PySem.W.Frag} {mg : Str -> Option Value} {fx : Nat -> Option V} {E : XK}
def eB (op : T -> T -> Option Bool) (fa fb : SE) : SE := e2 (fun x y => (op x y).map fun k => .t (.bl k)) fa fb
theorem td_b {r : R2} {op : T -> T -> Option Bool} {ta tb : TE} {fa fb : SE} (ho : OpB K mg r op) (ha : TEd K mg fx E ta fa) (hb : TEd K mg fx E tb fb) : TEd K mg fx E (tOp r ta tb) (eB op fa fb) := ZaK ho.op ha hb
def Znn (x y : T) : Option Bool := (oInS x y).map (!·)
theorem Zal {i : Int} : TEd K mg fx E (tC (.int i)) (eC (.int i)) := ZfI fun _ => .int
theorem Zcw {x : Str} : TEd K mg fx E (tC (.str x)) (eC (.str x)) := ZfI fun _ => .str
theorem Zdb {b : Bool} : TEd K mg fx E (tC (.bl b)) (eC (.bl b)) := ZfI fun _ => .bl
theorem ZiR : TEd K mg fx E (tC .non) (eC .non) := ZfI fun _ => .non
theorem Zf3 {i : Int} : TPd K mg fx (tC (.int i)) (pC (.int i)) := Zlm fun _ => .int
theorem Zpr {r : V -> Hp -> VK -> Prop} {op : T -> Option D} {ta : TE} {fa : SE} (ho : UnD K mg r op) (ha : TEd K mg fx E ta fa) : TEd K mg fx E (tUn r ta) (e1 op fa) := Zie ho ha
def Zik (ns : List Int) : SE := fun σ => if ns.length <= 1000 then .ok (.lst (ns.map fun i => .t (.int i))) σ else .bad
theorem Zkt {ns : List Int} : TEd K mg fx E (tLst (ZmQ ns)) (Zik ns) := by
 intro P H gs σ ν Q S post
 unfold Zik at post
 split at post
 · rename_i hn
   refine ⟨by rw [List.length_map]; exact Nat.le_trans hn (by decide), fun p hp => ?_⟩
   have := newL (K := K) (mg := mg) (ts := ns.map T.int) (vs := ns.map V.int) (Q := fun v H' => Q v H') (l := p) S.sub hp (by simp) (fun i t v a b => by
    rw [List.getElem?_map] at a b
    cases q : ns[i]? with
    | none => rw [q] at a; cases a
    | some n => rw [q] at a b; cases a; cases b; exact .int) fun P' H' g u s1 sb o => by
     rw [List.map_map] at o
     exact post P' H' gs g u s1.alloc (S.go s1 sb fun _ _ z => z) o (s1.frees fun b h => (S.here h).1)
   exact this
 · exact post.elim
theorem clsC {c : Str} {C : Addr} (h : mg c = some (.ref C)) : mg c = some (.ref (clsA mg c)) := by
 unfold clsA
 rw [h]
theorem clsE {c : Str} {C : Addr} (h : mg c = some (.ref C)) : clsA mg c = C := by
 unfold clsA
 rw [h]
end DL
set_option autoImplicit false
namespace DL
open PySem L2 PySem.Spec PyProof.Rows
section
variable {X : Cx} {mg : Str -> Option Value} {x : Str} {pos : Pos}
theorem ZcD {i : Int} (hmg : X.mg = mg) (hm : ∃ t, mg x = some (.int i t)) (hg : Gl X x := by rfl) (hd : (x == ("__debug__" : Str)) = false := by decide) : PE X (.Name x pos) (tC (.int i)) := by
 obtain ⟨t, hm⟩ := hm
 exact Zme hmg hm ⟨t, rfl⟩ hg hd
theorem Zno {i : Str} (hmg : X.mg = mg) (hm : ∃ t, mg x = some (.str i t)) (hg : Gl X x := by rfl) (hd : (x == ("__debug__" : Str)) = false := by decide) : PE X (.Name x pos) (tC (.str i)) := by
 obtain ⟨t, hm⟩ := hm
 exact Zme hmg hm ⟨t, rfl⟩ hg hd
end
theorem Zf4 : bootBuiltins "ValueError" = some (.type "ValueError") := by kernel_rfl
theorem TFX.never {P : Program} {w : World} {K : PySem.W.Frag} {mg : Str -> Option Value} {base : Heap} {x : Str} {st : Stmt} {ps : List Str} {k : Nat} (T : TFX K mg x st ps) : CalX P w K mg base x k ps fun _ => .bad := by
 obtain ⟨f, fd, Fn, m, b⟩ := T.ex
 exact ⟨f, fd, ⟨fun vs H Q E h => h.1, fun A outer s H args us vs Q E _ _ _ _ h => by
  obtain ⟨_, _, _, _, _, _, h⟩ := h
  exact h.elim⟩, m, Fn.kp, b⟩
end DL
set_option autoImplicit false
namespace DL
open PySem L2 PySem.Spec PyProof.Rows
def sp_law (K : PySem.W.Frag) : Sp := fun vs H Q _ => ∃ (a : Addr) (ns : List Int), vs = [.ref a] /\ SqL K H a (ns.map V.int) /\ ns.length <= 63 /\ ∀ H', Q (.bl true) H'
theorem law_sp {K : PySem.W.Frag} {H : Hp} {a : Addr} {ns : List Int} {E : XK} (hl : ns.length <= 63) (hS : SqL K H a (ns.map V.int)) : sp_law K [.ref a] H (fun v _ => v = .bl true) E := ⟨a, ns, rfl, hS, hl, fun _ => rfl⟩
theorem Zps {K : PySem.W.Frag} {mg : Str -> Option Value} {F : List D -> FO} (h : ∀ ns : List Int, ns.length <= 63 -> ∃ ds, F [.t (.scr ns)] = .ret (.t (.bl true)) ds) : ∀ vs H Q E, sp_law K vs H Q E -> spF K mg 1 F vs H Q E := by
 rintro vs H Q E ⟨a, ns, rfl, hS, hl, hq⟩
 obtain ⟨ds, e⟩ := h ns hl
 refine ⟨rfl, H, fun b => False \/ False, [.t (.scr ns)], .refl _, .cons (.t (.scr hS) fun _ h => h) .nil fun _ h _ => h, ?_⟩
 rw [e]
 intro P' H' g' gd v _ _ _ o _
 cases o with
 | t h _ => cases h; exact hq H'
end DL
namespace L2
open PySem PySem.Spec PyProof.Rows
section
variable {X : Cx} {es : List Expr} {kk : Nat} {tp : Pos}
def ZoC (K : PySem.W.Frag) (ta : TA) : TI := fun σ H R => ta σ H fun vs H1 => ∃ p q, vs = [.ref p, .ref q] /\
 (((∃ xs, SqL K H1 p xs) /\ (∃ ys, SqL K H1 q ys) /\ R (Itz K p q) H1) \/ ((∃ xs, H1 p = some (.tup xs)) /\ (∃ ys, H1 q = some (.tup ys)) /\ R (Itzt K p q) H1))
theorem Zku {K : PySem.W.Frag} {a b : Expr} {ta : TA} {p pos : Pos} (hK : X.K = K) (hg : Gl X "zip") (hm : X.mg "zip" = none) (ha : PA X [a, b] ta) (hs : starEach [a, b] X.env = [(false, eval a X.env), (false, eval b X.env)] := by rfl) (hs2 : starEach [b] X.env = [(false, eval b X.env)] := by rfl) :
 PI X (.Tuple es kk tp) (.Call (.Name "zip" p) [a, b] [] pos) (ZoC K ta) := by
 subst hK
 intro pins s σ H R I h
 refine Call_ (Zhh I hg hm boot_zip (PyProof.Rows.callWith_type1 (thn (ha pos pins s σ H _ I h) fun us s1 ⟨vs, H1, I1, r1, q1⟩ => ?_) (by rw [hs, hs2]) (by rw [hs2]; rfl)))
 obtain ⟨a1, b1, e, q⟩ := q1
 subst e
 obtain ⟨u1, u2, rfl, r, r'⟩ := Zi9 r1
 cases (show u1 = Value.ref a1 from r)
 cases (show u2 = Value.ref b1 from r')
 rcases q with ⟨⟨xs, hx⟩, ⟨ys, hy⟩, q⟩ | ⟨⟨xs, hx⟩, ⟨ys, hy⟩, q⟩
 · obtain ⟨its, rv, p1, hz1⟩ := I1.list hx
   obtain ⟨its2, rv2, p2, hz2⟩ := I1.list hy
   refine call_zip_2 p1.isList p2.isList fun h' z1 z2 z3 z4 z5 z6 z7 => ?_
   refine wpAny_pyIter_zip z1 ?_
   have I2 : Inv X pins σ H1 { s1 with heap := h' } := I1.kept (t' := s1.toks) z7
   refine ⟨s1.heap.objs.size + 4, [s1.heap.objs.size + 4, s1.heap.objs.size + 2, s1.heap.objs.size + 3, s1.heap.objs.size, s1.heap.objs.size + 1], _, _, H1, rfl, I2,
    Zk6 a1 b1 _ _ _ _ _ (fun e => absurd (Nat.add_left_cancel e) (by decide)) (fun e => absurd (Nat.add_left_cancel (m := 0) e) (by decide)), ⟨z1, z2, ⟨_, _, z3⟩, z4, z5⟩, fun c hc => ?_, q⟩
   have hc' : s1.heap.objs.size <= c := by
    have : c = s1.heap.objs.size + 4 \/ c = s1.heap.objs.size + 2 \/ c = s1.heap.objs.size + 3 \/ c = s1.heap.objs.size \/ c = s1.heap.objs.size + 1 := by simpa using hc
    rcases this with e | e | e | e | e
    · rw [e]; exact Nat.le_add_right _ _
    · rw [e]; exact Nat.le_add_right _ _
    · rw [e]; exact Nat.le_add_right _ _
    · rw [e]; exact Nat.le_refl _
    · rw [e]; exact Nat.le_add_right _ _
   exact I1.fpOk hc' (I1.hok.fresh hc')
 · obtain ⟨its, rv, p1, hz1⟩ := I1.tuple (.of hx)
   obtain ⟨its2, rv2, p2, hz2⟩ := I1.tuple (.of hy)
   refine Zkc p1 p2 fun h' z1 z2 z3 z4 z5 z6 z7 => ?_
   refine wpAny_pyIter_zip z1 ?_
   have I2 : Inv X pins σ H1 { s1 with heap := h' } := I1.kept (t' := s1.toks) z7
   refine ⟨s1.heap.objs.size + 4, [s1.heap.objs.size + 4, s1.heap.objs.size + 2, s1.heap.objs.size + 3, s1.heap.objs.size, s1.heap.objs.size + 1], _, _, H1, rfl, I2,
    Zkd a1 b1 _ _ _ _ _ (fun e => absurd (Nat.add_left_cancel e) (by decide)) (fun e => absurd (Nat.add_left_cancel (m := 0) e) (by decide)), ⟨z1, z2, ⟨_, _, z3⟩, z4, z5⟩, fun c hc => ?_, q⟩
   have hc' : s1.heap.objs.size <= c := by
    have : c = s1.heap.objs.size + 4 \/ c = s1.heap.objs.size + 2 \/ c = s1.heap.objs.size + 3 \/ c = s1.heap.objs.size \/ c = s1.heap.objs.size + 1 := by simpa using hc
    rcases this with e | e | e | e | e
    · rw [e]; exact Nat.le_add_right _ _
    · rw [e]; exact Nat.le_add_right _ _
    · rw [e]; exact Nat.le_add_right _ _
    · rw [e]; exact Nat.le_refl _
    · rw [e]; exact Nat.le_add_right _ _
   exact I1.fpOk hc' (I1.hok.fresh hc')
end
end L2
namespace L2
open PySem PySem.Spec PyProof.Rows
theorem walk_ofX {l : PySem.W.OpenLaw} {n k : Nat} {q : Program} {loose : List Str} {XP : (Str -> Option Value) -> Heap -> Prop} {YP : World -> Heap -> Prop} {d : DefRec} {K : Params -> PySem.W.Frag} {sp : PySem.W.Frag -> Sp} {x : Str}
 (hn : l.most = some n) (hn2 : n <= sizeLine) (hdf : d.params.defaults = []) (hr : Room k callerA) (hY : ∀ (w : World) (h : Heap), YP w h -> (K w.params).In h)
 (F : ∀ (w : World) (mg : Str -> Option Value) (fa : Addr) (h : Heap), (K w.params).In h -> h.Ns mainGlobals mg -> mg d.name = some (.ref fa) ->
   ∃ fd : FuncData, (∀ (s : Shared) (u : Value), BindsTo s fd ⟨[u], []⟩ [(x, u)]) /\ ∀ base : Heap, (K w.params).In base -> base.Ns mainGlobals mg -> FnOk l.prog w (K w.params) mg base (XC l.prog w) k fa fd [x] (sp (K w.params)))
 (hsp : ∀ (K : PySem.W.Frag) (H : Hp) (a : Addr) (ns : List Int), ns.length <= n -> Only H -> SqL K H a (ns.map V.int) -> sp K [.ref a] H (fun v _ => v = .bl true) fun _ _ _ => False) :
 PySem.W.WalkO q loose XP YP l.row.toRowW d [] (fun f vs => PySem.call f vs) :=
 walk_of (K := K) (CX := fun w => XC l.prog w) (sp := fun w => sp (K w.params)) hn hn2 hdf hr hY F (fun w H a ns h1 h2 h3 => hsp (K w.params) H a ns h1 h2 h3) fun w H s e s' z => z.none
end L2
namespace DL
open PySem L2
variable {K : PySem.W.Frag} {mg : Str -> Option Value} {fx : Nat -> Option V} {E : XK}
theorem ZoD {P : Hp} {a b : Addr} {ts us : List T} {vs ws : List V} (h : P a = some (.tup vs)) (h1 : ts.length = vs.length) (h2 : ∀ (i : Nat) t v, ts[i]? = some t -> vs[i]? = some v -> Den K mg P t v) (h' : P b = some (.tup ws)) (h1' : us.length = ws.length) (h2' : ∀ (i : Nat) t v, us[i]? = some t -> ws[i]? = some v -> Den K mg P t v) :
 ItD K mg P (Itzt K a b) (List.zipWith (fun x y => .tup [x, y]) ts us) := fun P' H' s s' => by
 have sq : H' a = some (.tup vs) := (s.trans s') _ _ h
 have sq' : H' b = some (.tup ws) := (s.trans s') _ _ h'
 refine ⟨fun i t e => ?_, vs, ws, sq, sq', by rw [List.length_zipWith]; omega⟩
 rw [List.getElem?_zipWith] at e
 cases e1 : ts[i]? with
 | none => rw [e1] at e; cases e
 | some x =>
  cases e2 : us[i]? with
  | none => rw [e1, e2] at e; cases e
  | some y =>
   rw [e1, e2] at e
   cases e
   obtain ⟨v, hv⟩ := Zdr (h1 ▸ Zci e1)
   obtain ⟨w, hw⟩ := Zdr (h1' ▸ Zci e2)
   refine ⟨⟨vs, ws, v, w, sq, sq', hv, hw⟩, fun z H2 yl => ?_⟩
   obtain ⟨l, x', y', hl, rfl, rfl, q1, q2⟩ := yl
   have z1 := q1 vs sq
   have z2 := q2 ws sq'
   rw [hv] at z1
   rw [hw] at z2
   cases z1; cases z2
   exact tup2 s' hl ((h2 i x v e1 hv).mono s) ((h2' i y w e2 hw).mono s)
def zipD : T -> T -> Option (List T)
 | .tup ts, .tup us => some (List.zipWith (fun x y => .tup [x, y]) ts us)
 | x, y => match ZfW x, ZfW y with
  | some ts, some us => some (List.zipWith (fun x y => .tup [x, y]) ts us)
  | _, _ => none
def Zg2 (f g : SE) : SI := fun σ => (f σ).bnd fun a σ1 => (g σ1).bnd fun b σ2 => match zipD (frz a) (frz b) with
 | some ts => .ok ts σ2
 | none => .bad
theorem Zkv {t u : TE} {f g : SE} (h : TEd K mg fx E t f) (h' : TEd K mg fx E u g) : TId K mg fx E (ZoC K (Zcy t (Zcy u tNil))) (Zg2 f g) := by
 intro P H gs σ ν R S post
 unfold Zg2 at post
 refine h.run (Q := fun x H1 => u ν H1 fun y H2 => ∃ p q, [x, y] = [.ref p, .ref q] /\ (((∃ xs, SqL K H2 p xs) /\ (∃ ys, SqL K H2 q ys) /\ R (Itz K p q) H2) \/ ((∃ xs, H2 p = some (.tup xs)) /\ (∃ ys, H2 q = some (.tup ys)) /\ R (Itzt K p q) H2))) S (fun c σ' e => by rw [e] at post; exact post) (fun e => by rw [e] at post; exact post) fun a σ1 e P1 H1 gs1 v s1 S1 d1 => ?_
 rw [e] at post
 dsimp only [Out.bnd] at post
 refine h'.run S1 (fun c σ' e => by rw [e] at post; exact PostX.from post s1) (fun e => by rw [e] at post; exact post) fun b σ2 e P2 H2 gs2 w s2 S2 d2 => ?_
 rw [e] at post
 dsimp only at post
 split at post
 · rename_i zs ez
   unfold zipD at ez
   split at ez
   · rename_i ts us e1 e2
     cases ez
     have d1' := d1.mono s2.mono
     rw [e1] at d1'
     rw [e2] at d2
     cases d1' with
     | @tup _ p vs a1 a2 a3 =>
      cases d2 with
      | @tup _ q ws b1 b2 b3 => exact ⟨p, q, rfl, .inr ⟨⟨vs, S2.sub _ _ a1⟩, ⟨ws, S2.sub _ _ b1⟩, post P2 H2 gs2 _ (s1.trans s2) S2 (ZoD a1 a2 a3 b1 b2 b3)⟩⟩
   · split at ez
     · rename_i ts us e1 e2
       cases ez
       obtain ⟨p, vs, rfl, a1, a2, a3⟩ := ZhC (d1.mono s2.mono) e1
       obtain ⟨q, ws, rfl, b1, b2, b3⟩ := ZhC d2 e2
       exact ⟨p, q, rfl, .inl ⟨⟨vs, S2.sub.sqL a1⟩, ⟨ws, S2.sub.sqL b1⟩, post P2 H2 gs2 _ (s1.trans s2) S2 (Zpn a1 a2 a3 b1 b2 b3)⟩⟩
     · cases ez
 · exact post.elim
end DL
set_option autoImplicit false
namespace DL
open PySem L2
section
variable {op : T -> T -> Option Bool} {fa fb : SE} {σ : Env'} {i j : Int} {x y : Str} {p q : Bool} {ts us : List T} {ns : List Int}
theorem Zjr : eB op fa fb σ = (fa σ).bnd fun a σ1 => (fb σ1).bnd fun b σ2 => match op (frz a) (frz b) with | some k => .ok (.t (.bl k)) σ2 | none => .bad := by
 unfold eB e2
 cases fa σ with
 | bad => rfl
 | exc c σ' => rfl
 | ok a σ1 =>
  dsimp only [Out.bnd]
  cases fb σ1 with
  | bad => rfl
  | exc c σ' => rfl
  | ok b σ2 =>
   dsimp only
   cases op (frz a) (frz b) <;> rfl
theorem Znp {f : SE} : eNot f σ = (sT f σ).bnd fun k σ1 => .ok (.t (.bl (!k))) σ1 := by
 unfold eNot eT sNot
 cases sT f σ <;> rfl
theorem ZoE {lo hi : Option Int} {f : SE} : eCut lo hi f σ = (f σ).bnd fun a σ1 => match frz a with | .lst ts => .ok (.lst ((cutT ts lo hi).map .t)) σ1 | .scr ns => .ok (.lst ((cutT (ns.map .int) lo hi).map .t)) σ1 | _ => .bad := by
 unfold eCut e1
 cases f σ with
 | bad => rfl
 | exc c σ' => rfl
 | ok a σ1 =>
  dsimp only [Out.bnd]
  cases frz a <;> rfl
theorem ZoF : oAdd (.int i) (.int j) = some (.t (.int (i + j))) := rfl
theorem Zmf : oSub (.int i) (.int j) = some (.t (.int (i - j))) := rfl
theorem ZiS (h0 : 0 < j) (h1 : j < 1073741824) : oDiv (.int i) (.int j) = some (.t (.int (i / j))) := by
 show (if cDiv i j = true then _ else _) = _
 rw [if_pos (by simp [cDiv, h0, h1])]
theorem ZdB (h0 : 0 < j) : oMod (.int i) (.int j) = some (.t (.int (i % j))) := by
 show (if cPos i j = true then _ else _) = _
 rw [if_pos (by simp [cPos, h0])]
theorem ZoG : oNeg (.int i) = some (.t (.int (-i))) := rfl
theorem Zpt : oLt (.int i) (.int j) = some (decide (i < j)) := rfl
theorem Zpu : oLe (.int i) (.int j) = some (decide (i <= j)) := rfl
theorem Zpv : oGt (.int i) (.int j) = some (decide (j < i)) := rfl
theorem Zpw : oGe (.int i) (.int j) = some (decide (j <= i)) := rfl
theorem Zpx : oEq (.int i) (.int j) = some (decide (i = j)) := rfl
theorem Zpy : oEq (.str x) (.str y) = some (decide (x = y)) := rfl
theorem Zpz : oEq (.bl p) (.bl q) = some (decide (p = q)) := rfl
theorem ZpA : oNe (.int i) (.int j) = some (!decide (i = j)) := rfl
theorem ZpB : oNe (.bl p) (.bl q) = some (!decide (p = q)) := rfl
theorem Zmg : oInS (.str x) (.str y) = some (!(Builtin.Str.occurrences y x 0 y.length 1).isEmpty) := rfl
theorem Zkw : Znn (.str x) (.str y) = some (!(!(Builtin.Str.occurrences y x 0 y.length 1).isEmpty)) := rfl
theorem Zf5 {zs : List Str} : (zs.map T.str).all Zc8 = true := by
 induction zs with
 | nil => rfl
 | cons z zs ih => simp only [List.map_cons, List.all_cons, ih, Zc8, Bool.and_self]
theorem Zlv {zs : List Str} {x : Str} : ((zs.map T.str).any fun z => eqT z (.str x)) = decide (x ∈ zs) := by
 induction zs with
 | nil => rfl
 | cons z zs ih =>
  rw [List.map_cons, List.any_cons, ih]
  show ((z == x) || _) = _
  by_cases h : x = z
  · subst h; simp
  · simp [h, Ne.symm h]
theorem Zlw {zs : List Str} : oIn (.str x) (.lst (zs.map .str)) = some (decide (x ∈ zs)) := by
 show (if (Zc8 (.str x) && (zs.map T.str).all Zc8) = true then _ else _) = _
 rw [Zf5, Zlv]
 rfl
theorem Zlx {zs : List Str} : ZeA (.str x) (.lst (zs.map .str)) = some (!decide (x ∈ zs)) := by
 unfold ZeA
 rw [Zlw]
 rfl
theorem Zkx (h : x.length <= 1000000) : oLen (.str x) = some (.t (.int x.length)) := by
 show (if _ then _ else _) = _
 rw [if_pos h]
theorem ZiT : oLen (.lst ts) = some (.t (.int ts.length)) := rfl
theorem ZoH : oLen (.tup ts) = some (.t (.int ts.length)) := rfl
theorem ZhF : oIx (.lst ts) (.int i) = (atI ts i).map .t := rfl
theorem ZgE (h : ts.length + us.length <= 1000000) : oCat (.lst ts) (.lst us) = some (.lst ((ts ++ us).map .t)) := by
 show (if _ then _ else _) = _
 rw [if_pos h]
theorem Zly : ZcW (.lst ts) = some (.lst (ts.map .t)) := rfl
theorem ZiU {kvs : List (Str × T)} : ZcW (.dct kvs) = some (.lst (kvs.map fun p => .t (.str p.1))) := rfl
theorem Zky {kvs : List (Str × T)} : Zkq (.dct kvs) = some (.lst (kvs.map fun p => .t p.2)) := rfl
theorem Zkz {c f : Str} {fs : List (Str × T)} : oFld c f (.ins c fs) = (fs.lookup f).map .t := by
 show (if c = c then _ else _) = _
 rw [if_pos rfl]
theorem ZdC {t : T} : frz (.t t) = t := by rw [frz]
theorem Zlz {ds : List D} : frz (.lst ds) = .lst (ds.map frz) := by rw [frz, Zic]
theorem Zdf : frz (.lst (ts.map .t)) = .lst ts := by
 rw [Zlz, List.map_map, show frz ∘ D.t = id from funext fun t => ZdC, List.map_id]
theorem ZoI {kvs : List (Str × T)} : frz (.dct kvs) = .dct kvs := by rw [frz]
theorem ZoJ {c : Str} {fs : List (Str × D)} : frz (.obj c fs) = .ins c (fs.map fun p => (p.1, frz p.2)) := by rw [frz, Zid]
theorem ZdM : ZeW (.t (.bl p)) = some p := rfl
theorem ZiV {α : Type} {xs : List α} {a : α} : atI (xs ++ [a]) (-1) = some a := by
 unfold atI
 have h : ixN (xs ++ [a]).length (-1) = some xs.length := by
  unfold ixN
  rw [List.length_append, List.length_singleton, if_neg (by decide), if_pos (by omega)]
  congr 1
  omega
 rw [h]
 simp
theorem atI_nat {α : Type} {xs : List α} {k : Nat} : atI xs (k : Int) = xs[k]? := by
 unfold atI ixN
 rw [if_pos (by omega)]
 by_cases h : k < xs.length
 · rw [if_pos (by omega)]
   rfl
 · rw [if_neg (by omega), List.getElem?_eq_none (by omega)]
   rfl
end
theorem Zil {ts : List T} : List.map frz (List.map D.t ts) = ts := by
 rw [List.map_map, show frz ∘ D.t = id from funext fun t => ZdC, List.map_id]
theorem beqS {a b : Str} : (a == b) = decide (a = b) := by
 by_cases h : a = b
 · subst h; simp
 · simp [h]
end DL
set_option autoImplicit false
namespace DL
open PySem L2 PySem.Spec PyProof.Rows
variable {K : PySem.W.Frag} {mg : Str -> Option Value} {fx : Nat -> Option V} {E : XK}
def seen : Sl -> Sl
 | .v d => .v (.t (frz d))
 | .x d => .v (.t (frz d))
 | _ => .e
def ZhG : T -> Bool
 | .non => true
 | .bl _ => true
 | .int _ => true
 | .str _ => true
 | _ => false
def Zjs : D -> Bool
 | .t x => ZhG x
 | _ => false
def Znq : D -> Bool
 | .t x => ZhG x
 | .lst ds => ds.all Zjs
 | _ => false
theorem ZiW {P P' : Hp} {x : T} {v : V} (f : ZhG x = true) (h : Den K mg P x v) : Den K mg P' x v := by
 cases h <;> first | exact .non | exact .bl | exact .int | exact .str | (cases f)
def Zbg (f : SE) : SE := fun σ => match f (σ.map seen) with
 | .ok d _ => if Znq d = true then .ok d σ else .bad
 | _ => .bad
theorem Zcm {t : TE} {f : SE} (h : ∀ fx, TEd K mg fx E t f) : TEd K mg fx E t (Zbg f) := by
 intro P H gs σ ν Q S post
 unfold Zbg at post
 have hg : ∀ b, tot gs b -> P b = none := fun b z => (S.here z).2
 have S' : StOk K mg (fun _ => none) (froz P H (tot gs)) H (fun _ _ => False) (σ.map seen) ν := by
  refine ⟨ZeV S.sub, by rw [List.length_map]; exact S.len, fun i d e => ?_, fun _ _ _ z => z, fun _ _ _ _ z => z.elim, fun i e => ?_, fun i v e => by cases e⟩
  · rw [List.getElem?_map] at e
    cases q : σ[i]? with
    | none => rw [q] at e; cases e
    | some s =>
     rw [q] at e
     cases s with
     | e => cases e
     | h => cases e
     | v d0 =>
      cases e
      obtain ⟨v, h1, h2⟩ := S.slot i d0 (by rw [q]; rfl)
      exact ⟨v, h1, .t (h2.den (ZcA hg) fun b o hb e => by rw [ZeE ⟨i, hb⟩]; exact e) fun _ z => z⟩
     | x d0 =>
      cases e
      obtain ⟨v, h1, h2⟩ := S.slot i d0 (by rw [q]; rfl)
      exact ⟨v, h1, .t (h2.den (ZcA hg) fun b o hb e => by rw [ZeE ⟨i, hb⟩]; exact e) fun _ z => z⟩
  · rw [List.getElem?_map] at e
    cases q : σ[i]? with
    | none => rw [q] at e; rcases e with e | ⟨_, e⟩ <;> cases e
    | some s => rw [q] at e; cases s <;> rcases e with e | ⟨_, e⟩ <;> cases e
 refine h _ _ _ _ _ ν Q S' ?_
 cases e : f (σ.map seen) with
 | bad => rw [e] at post; exact post
 | exc c σ1 => rw [e] at post; exact post.elim
 | ok d σ1 =>
  rw [e] at post
  dsimp only at post
  split at post
  rotate_left
  · exact post.elim
  rename_i hf
  intro P1 H1 gs1 g1 v1 s1 S1 o1 dj1
  have ext : ∀ b o, H b = some o -> H1 b = some o := fun b o hb => s1.frame b o (fun ⟨_, z⟩ => z) hb
  have newg : ∀ b, g1 b -> H b = none := fun b z => (s1.new b (.inr z)).elim (fun ⟨_, y⟩ => y.elim) id
  have sub1 : Sub P H1 := fun b o hb => ext b o (S.sub b o hb)
  have nP : ∀ b, H b = none -> P b = none := fun b z => by
   cases q : P b with
   | none => rfl
   | some o => rw [S.sub b o q] at z; cases z
  have own1 : Own K mg P H1 g1 d v1 := by
   cases d with
   | t x => cases o1 with | t hx hn => exact .t (ZiW hf hx) hn
   | lst ds =>
    cases o1 with
    | lst h1 h2 h3 h4 h5 h6 h7 h8 =>
     refine .lst h1 (nP _ (newg _ ((h8 _).mpr (.inl rfl)))) h3 (fun i d v a b => ?_) h5 h6 h7 h8
     have fd : Zjs d = true := List.all_eq_true.mp hf d (List.mem_of_getElem? a)
     have o := h4 i d v a b
     cases d with
     | t x => cases o with | t hx hn => exact .t (ZiW fd hx) hn
     | _ => cases fd
   | _ => cases hf
  refine post P H1 gs g1 v1 ⟨.refl _, fun b o _ hb => ext b o hb, fun b z => z.elim (fun y => .inl y) fun y => .inr (newg b y), fun _ _ hb => .inl hb⟩ ⟨sub1, S.len, fun i d e => ?_, S.emp, S.dis, S.fix, S.fixed⟩ own1 fun b z y => ?_
  · obtain ⟨v, h1, h2⟩ := S.slot i d e
    exact ⟨v, h1, h2.frame (.refl _) (fun b o _ hb => ext b o hb) fun b hb => (h2.at b hb).2⟩
  · obtain ⟨⟨o, q⟩, _⟩ := S.here z
    rw [newg b y] at q; cases q
def tOf : D -> Option T
 | .t x => some x
 | _ => none
def Zim : D -> Option (List T)
 | .t (.lst ts) => some ts
 | .lst ds => if ds.all (fun d => (tOf d).isSome) = true then some (ds.map frz) else none
 | _ => none
theorem ZhH {P H : Hp} {g : Fp} {d : D} {v : V} {ts : List T} (s : Sub P H) (o : Own K mg P H g d v) (e : Zim d = some ts) : ∃ a vs, v = .ref a /\ H a = some (.lst vs) /\ ts.length = vs.length /\ ∀ (i : Nat) t v, ts[i]? = some t -> vs[i]? = some v -> Den K mg P t v := by
 cases d with
 | t x =>
  cases x <;> try (cases e; done)
  cases e
  cases o with
  | t hx _ => cases hx with | @lst _ a vs h1 h2 h3 => exact ⟨a, vs, rfl, s _ _ h1, h2, h3⟩
 | lst ds =>
  replace e : (if ds.all (fun d => (tOf d).isSome) = true then some (ds.map frz) else none) = some ts := e
  split at e
  · rename_i hz
    cases e
    cases o with
    | lst h1 h2 h3 h4 =>
     refine ⟨_, _, rfl, h1, by rw [List.length_map]; exact h3, fun i t v a b => ?_⟩
     rw [List.getElem?_map] at a
     cases q : ds[i]? with
     | none => rw [q] at a; cases a
     | some d =>
      rw [q] at a
      cases a
      have := List.all_eq_true.mp hz d (List.mem_of_getElem? q)
      have ow := h4 i d v q b
      cases d with
      | t x => cases ow with | t hx _ => rw [ZdC]; exact hx
      | _ => cases this
  · cases e
 | _ => cases e
def pIdx (b : SB) (f : SP) : SP := fun σ => (b σ).bind fun d => (f σ).bind fun y => match Zim d with
 | some ts => if Zc8 y && ts.all Zc8 then (ts.findIdx? fun z => eqT z y).map fun (j : Nat) => .int j else none
 | none => none
theorem ZhI {t u : TE} {b : SB} {f : SP} (h : TBd K mg fx t b) (h' : TPd K mg fx u f) : TPd K mg fx (tBM K "list" (ZiE K) t (Zcy u tNil)) (pIdx b f) := by
 intro P H gs σ ν Q S post
 unfold pIdx at post
 refine h P H gs σ ν _ S ?_
 cases e : b σ with
 | none => rw [e] at post; exact post
 | some d =>
  rw [e] at post
  intro g v o _
  cases e2 : f σ with
  | none => rw [e2] at post; exact post.elim
  | some y =>
   rw [e2] at post
   dsimp only [Option.bind] at post
   cases e3 : Zim d with
   | none => rw [e3] at post; exact post.elim
   | some ts =>
    rw [e3] at post
    dsimp only at post
    obtain ⟨a, vs, rfl, ha, hl, hd⟩ := ZhH S.sub o e3
    refine ⟨.inl ⟨rfl, vs, .of ha⟩, ?_⟩
    refine h' P H gs σ ν _ S ?_
    rw [e2]
    intro w hy
    by_cases hf : (Zc8 y && ts.all Zc8) = true
    · rw [if_pos hf] at post
      rw [Bool.and_eq_true] at hf
      cases qi : ts.findIdx? fun z => eqT z y with
      | none => rw [qi] at post; exact post.elim
      | some j =>
       rw [qi] at post
       exact ⟨a, vs, w, j, rfl, rfl, .of ha, ZiM hy hf.1, all2 hl hd hf.2, by rw [Zne hy hf.1 hl hd hf.2]; exact qi, post _ .int⟩
    · rw [if_neg hf] at post
      exact post.elim
end DL
set_option autoImplicit false
namespace DL
open PySem L2 PySem.Spec PyProof.Rows
variable {K : PySem.W.Frag} {mg : Str -> Option Value} {fx : Nat -> Option V} {E : XK}
def oMin : T -> T -> Option D
 | .int i, .int j => some (.t (.int (if j < i then j else i)))
 | _, _ => none
theorem ZoK : OpD K mg (fun x y H Q => ∃ i j, [x, y] = [V.int i, .int j] /\ Q (.int (if j < i then j else i)) H) oMin := by
 intro P H x y v w d Q s hx hy e k
 unfold oMin at e
 split at e
 · cases e
   cases hx
   cases hy
   exact ⟨_, _, rfl, done s .int k⟩
 · cases e
end DL
set_option autoImplicit false
namespace DL
open PySem L2 PySem.Spec PyProof.Rows
structure FunD (K : PySem.W.Frag) (x qual : Str) (st : Stmt) (f : Addr) (fd : FuncData) : Prop where
 ex : ∃ (oc : Value) (od : Option Addr) (dV kV doc pm : Value) (an : Option Addr) (cdv ct : Value) (osl : Array (Option Value)),
  fd = PySem.W.fnOf x qual (Zcz st) (Zbl st) (Zaj st) dV kV doc pm an cdv ct /\ K.lookup f = some ⟨oc, od, .func fd, osl⟩ /\ PySem.W.codeIn K cdv qual = true
 kp : PySem.W.keepIn K (.ref f) = true
section
variable {P : Program} {w : World} {K : PySem.W.Frag} {mg : Str -> Option Value} {base : Heap}
theorem FunD.okX {x qual : Str} {st : Stmt} {f : Addr} {fd : FuncData} {N ps : List Str} {k : Nat} {body : SS} {F : List D -> FO} (T : FunD K x qual st f fd) (S : FnScope N ps (Zaj st)) (hn : ps.length <= N.length) (hF : ∀ ds, F ds = .bad \/ F ds = runF N.length body ds)
 (hbody : ∀ (cdv : Value) (A : Around) (outer : List Env) (s : Shared) (H : Hp) (E : XK), Room k (A.deeper (envOfC qual (Zaj st) s.heap.objs.size f cdv)) ->
   ∃ t, PSs (cxOf (XC P w) P w K mg base N qual (Zaj st) f cdv A outer s H E) (Zbl st) t /\ ∀ fx, TSd K mg fx E t body) : FnOk P w K mg base (XC P w) (k + 1) f fd ps (spF K mg ps.length F) := by
 obtain ⟨oc, od, dV, kV, doc, pm, an, cdv, ct, osl, rfl, lk, hcd⟩ := T.ex
 refine ZmE lk hcd S (fun vs H Q E h => h.1) fun A outer s H vs Q E hr hsp => ?_
 obtain ⟨t, h, q⟩ := hbody cdv A outer s H E hr
 exact ⟨t, h, Zl4 hF q hn hsp⟩
structure TMD (K : PySem.W.Frag) (mg : Str -> Option Value) (c m qual : Str) (st : Stmt) (ps : List Str) (d : Int) : Prop where
 ex : ∃ (f : Addr) (fd : FuncData) (t : Tok), mg c = some (.ref (clsA mg c)) /\ Cls K (clsA mg c) /\ Meth K (clsA mg c) m f /\ FunD K m qual st f fd /\ Binds K fd ps [] /\ Binds K fd ps [.int d t]
structure CalMD (P : Program) (w : World) (K : PySem.W.Frag) (mg : Str -> Option Value) (base : Heap) (c m : Str) (k : Nat) (ps : List Str) (F : List D -> FO) (d : Int) : Prop where
 ex : ∃ (f : Addr) (fd : FuncData) (t : Tok), mg c = some (.ref (clsA mg c)) /\ Cls K (clsA mg c) /\ Meth K (clsA mg c) m f /\ FnOk P w K mg base (XC P w) k f fd ps (spF K mg ps.length F) /\ Binds K fd ps [] /\ Binds K fd ps [.int d t]
theorem CalMD.m {c m : Str} {k : Nat} {ps : List Str} {F : List D -> FO} {d : Int} (h : CalMD P w K mg base c m k ps F d) : CalM P w K mg base c m k ps F := by
 obtain ⟨f, fd, t, a, b, e, g, h1, h2⟩ := h.ex
 exact ⟨f, fd, a, b, e, g, h1⟩
theorem TMD.ok {c m qual : Str} {st : Stmt} {ps N : List Str} {k : Nat} {body : SS} {F : List D -> FO} {d : Int} (T : TMD K mg c m qual st ps d) (S : FnScope N ps (Zaj st)) (hn : ps.length <= N.length) (hF : ∀ ds, F ds = .bad \/ F ds = runF N.length body ds)
 (hbody : ∀ (f : Addr) (cdv : Value) (A : Around) (outer : List Env) (s : Shared) (H : Hp) (E : XK), Room k (A.deeper (envOfC qual (Zaj st) s.heap.objs.size f cdv)) ->
   ∃ t, PSs (cxOf (XC P w) P w K mg base N qual (Zaj st) f cdv A outer s H E) (Zbl st) t /\ ∀ fx, TSd K mg fx E t body) : CalMD P w K mg base c m (k + 1) ps F d := by
 obtain ⟨f, fd, t, hc, cl, mt, Fn, b1, b2⟩ := T.ex
 exact ⟨f, fd, t, hc, cl, mt, FunD.okX Fn S hn hF (hbody f), b1, b2⟩
end
section
variable {X : Cx} {K : PySem.W.Frag} {mg : Str -> Option Value} {E : XK} {c m : Str} {k : Nat} {ps : List Str} {F : List D -> FO} {d : Int} {pos apos : Pos} {o : Expr} {ta : TE}
theorem Znr {pl : Sem Bool} (h : CalMD X.prog X.w X.K X.mg X.base c m k ps F d) (hK : X.K = K) (hmg : X.mg = mg) (hx : ZcH (XC X.prog X.w) X E) (hr : Room k X.A) (ho : PE X o ta)
 (ht : eval (.Call (.Attribute o m apos) [] [] pos) X.env = (do
   let ov <- eval o X.env
   standAt apos.atName
   let (f, first) <- holding [ov] (getMethod ov m pl)
   callWith pos f first (backTo pos (starEach [] X.env)) (backToKw pos (keywordEach [] X.env))) := by rfl) :
 PE X (.Call (.Attribute o m apos) [] [] pos) (Zh3 (clsA mg c) m (spF K mg ps.length F) [.int d] E ta tNil) := by
 subst hK hmg
 obtain ⟨f, fd, t, hc, cl, mt, G, b1, b2⟩ := h.ex
 exact Ziy ho cl mt G hr b2 (.cons ⟨t, rfl⟩ .nil) hx ht
end
variable {K : PySem.W.Frag} {mg : Str -> Option Value} {fx : Nat -> Option V} {E : XK}
theorem ZlA {i : Nat} {c m : Str} {C : Addr} {n : Nat} {F : List D -> FO} {d : Int} (hC : mg c = some (.ref C)) : TEd K mg fx E (Zh3 C m (spF K mg n F) [.int d] E (tVar i) tNil) (Zbi i c m n F [none] (Zad (eC (.int d)) aNil)) := by
 intro P H gs σ ν Q S post
 exact ZaF (n := n) (F := F) hC (Zab Zal Zag) P H gs σ ν Q S post
theorem Zns {K : PySem.W.Frag} {fd : FuncData} {ps : List Str} {ds : List Value} (h : ∀ us : List Value, (us ++ ds).length = ps.length -> ∀ S, PySem.W.peek K S (bindArgs fd ⟨us, []⟩) = some (ps.zip (us ++ ds))) : Binds K fd ps ds := fun s us X hl => PySem.W.kp_binds X (h us hl)
def Zgp (b : SB) (p : SP) : SE := fun σ => match b σ, p σ with
 | some d, some (.int i) => (match Zim d with
  | some ts => .ok (.lst ((cutT ts none (some i)).map .t)) σ
  | none => .bad)
 | _, _ => .bad
theorem Zin {t u : TE} {b : SB} {p : SP} (h : TBd K mg fx t b) (h' : TPd K mg fx u p) : TEd K mg fx E (tSl (rSlL K) t ZjU (Zn0 u)) (Zgp b p) := by
 intro P H gs σ ν Q S post
 unfold Zgp at post
 refine h P H gs σ ν _ S ?_
 split at post
 rotate_left
 · exact post.elim
 rename_i d i e1 e2
 rw [e1]
 intro g v o _
 refine h' P H gs σ ν _ S ?_
 rw [e2]
 intro w hw
 cases hw
 split at post
 rotate_left
 · exact post.elim
 rename_i ts el
 obtain ⟨a, vs, rfl, ha, hl, hd⟩ := ZhH S.sub o el
 refine ⟨i, rfl, a, vs, rfl, .of ha, ?_⟩
 refine Zni S.sub hl hd fun P' H' g' u' s1 sb o' => ?_
 exact post P' H' gs g' u' s1.alloc (S.go s1 sb fun _ _ z => z) o' (s1.frees fun b h => (S.here h).1)
def eD1 (k : Str) (f : SE) : SE := fun σ => (f σ).bnd fun d σ1 => .ok (.dct [(k, frz d)]) σ1
theorem ZlB {k : Str} {t : TE} {f : SE} (h : TEd K mg fx E t f) : TEd K mg fx E (Zob [(tC (.str k), t)]) (eD1 k f) := by
 intro P H gs σ ν Q S post p hp
 unfold eD1 at post
 have hP := S.sub.fresh hp
 have sb : Sub P (upd H p (.dK [])) := fun b o e => by rw [Zap (Zak e hP)]; exact S.sub b o e
 have ng : ¬ tot gs p := fun z => by
  obtain ⟨⟨o, e⟩, _⟩ := S.here z
  rw [hp] at e; cases e
 have s1 : Go P H (fun _ => False) P (upd H p (.dK [])) (fun b => b = p) := ⟨.refl _, fun b o _ e => by rw [Zap (Zak e hp)]; exact e, fun b z => .inr (by rw [show b = p from z]; exact hp), fun _ _ e => .inl e⟩
 have S1 := S.go s1 sb fun _ _ z => z
 have g1 : Go P H (tot gs) P (upd H p (.dK [])) (tot gs) := ⟨.refl _, fun b o _ e => by rw [Zap (Zak e hp)]; exact e, fun _ z => .inl z, fun _ _ e => .inl e⟩
 refine h.run S1 (fun c σ' e => by rw [e] at post; exact PostX.from post g1) (fun e => by rw [e] at post; exact post) fun d σ1 e P2 H2 gs2 v s2 S2 dn => ?_
 rw [e] at post
 dsimp only [Out.bnd] at post
 have h2p : H2 p = some (.dK []) := s2.frame p _ ng ZaG
 have hP2 : P2 p = none := by
  cases q : P2 p with
  | none => rfl
  | some o =>
   rcases s2.pnew p o q with z | z | z
   · rw [hP] at z; cases z
   · exact absurd z ng
   · rw [ZaG] at z; cases z
 refine ⟨h2p, [(Sum.inr k, v)], rfl, show 1 <= 15 by decide, ?_⟩
 have ng2 : ¬ tot gs2 p := fun z => by
  rcases s2.new p z with y | y
  · exact ng y
  · rw [ZaG] at y; cases y
 have fr : ∀ b o, b ≠ p -> H2 b = some o -> upd H2 p (.dK (ZeS [] [(Sum.inr k, v)])) b = some o := fun b o n z => by rw [Zap n]; exact z
 have sb3 : Sub P2 (upd H2 p (.dK (ZeS [] [(Sum.inr k, v)]))) := fun b o z => fr b o (Zak z hP2) (S2.sub b o z)
 have go3 : Go P2 H2 (fun b => tot gs2 b \/ b = p) P2 (upd H2 p (.dK (ZeS [] [(Sum.inr k, v)]))) (fun b => tot gs2 b \/ b = p) := ⟨.refl _, fun b o n z => fr b o (fun q => n (.inr q)) z, fun b z => .inl z, fun _ _ z => .inl z⟩
 have go2 : Go P (upd H p (.dK [])) (fun b => tot gs b \/ b = p) P2 H2 (fun b => tot gs2 b \/ b = p) := ⟨s2.mono, fun b o n z => s2.frame b o (fun q => n (.inl q)) z, fun b z => z.elim (fun y => (s2.new b y).imp .inl id) fun y => .inl (.inr y), fun b o z => (s2.pnew b o z).imp id fun y => y.imp .inl id⟩
 have go1 : Go P H (tot gs) P (upd H p (.dK [])) (fun b => tot gs b \/ b = p) := ⟨.refl _, fun b o _ e => by rw [Zap (Zak e hp)]; exact e, fun b z => z.elim .inl fun y => .inr (by rw [y]; exact hp), fun _ _ e => .inl e⟩
 refine post P2 _ gs2 (fun b => b = p) (.ref p) ((go1.trans go2).trans go3) ⟨sb3, S2.len, fun i d0 e0 => ?_, S2.emp, S2.dis, S2.fix, S2.fixed⟩ ?_ fun b z y => ng2 (by rw [<- show b = p from y]; exact z)
 · obtain ⟨w, h1, h2⟩ := S2.slot i d0 e0
   exact ⟨w, h1, h2.frame (.refl _) (fun b o hb z => fr b o (fun q => ng2 ⟨i, by rw [<- q]; exact hb⟩) z) fun b hb => (h2.at b hb).2⟩
 · refine .dct ZaG hP2 rfl (fun i k' t' w' a b => ?_) fun b => Iff.rfl
   cases i with
   | zero =>
    cases a
    have : ZeS [] [((Sum.inr k : Key), v)] = [(Sum.inr k, v)] := rfl
    rw [this] at b
    cases b
    exact dn
   | succ i => simp at a
end DL
set_option autoImplicit false
namespace DL
open PySem PySem.W
def goT (p : Program) (w : World) : Nat -> SharedT -> Thread -> Option SharedT
 | 0, _, _ => none
 | n + 1, s, t => match through t with
  | true => some s
  | false => match stepOk 11 (some (.ref 6)) t with
   | false => none
   | true => match stepT (denote treeTable) p w s t with
    | some r => goT p w n r.1 r.2
    | none => none
theorem ZkA {p : Program} {w : World} : ∀ (n : Nat) (s r : SharedT) (t : Thread), goT p w n s t = some r -> topRun treeTable p w 11 (some (.ref 6)) n s.abs t = some r.abs
 | 0, s, r, t, h => by cases h
 | n + 1, s, r, t, h => by
  unfold goT at h
  unfold topRun
  generalize through t = b1 at h ⊢
  cases b1 with
  | true => cases h; rfl
  | false =>
   generalize stepOk 11 (some (.ref 6)) t = b2 at h ⊢
   cases b2 with
   | false => cases h
   | true =>
    dsimp only at h ⊢
    cases q : stepT (denote treeTable) p w s t with
    | none => rw [q] at h; cases h
    | some x =>
     rw [q] at h
     rw [stepT_spec (s' := x.1) (t' := x.2) q]
     exact ZkA n x.1 r x.2 h
noncomputable def Znt (P : Params) : BT := .node (boot_o_0 P) (.node (boot_o_1 P) (.node (boot_o_3 P) (.node (boot_o_7 P) .nil .nil) .nil) (.node (boot_o_5 P) (.node (boot_o_9 P) .nil .nil) .nil)) (.node (boot_o_2 P) (.node (boot_o_4 P) (.node (boot_o_8 P) .nil .nil) .nil) (.node (boot_o_6 P) (.node (boot_o_10 P) .nil .nil) .nil))
theorem ZkB (P : Params) : absHeap (Znt P) 11 {} = boot_heap P := by kernel_rfl
def Znu (q : Program) (s : Shared) : Bool := xlAt q [] s && recOk [] s
noncomputable def ZoL (p q : Program) (ka : List Addr) (P : Params) (s : Shared) := ((staticsOk (importedModules p.main.body) (boot_heap P) s.heap && namesBound p s.heap && gensDone s && laidKept (boot_heap P) s.heap), openSeen q [] (importedModules p.main.body) (Znu q) true s, ka.map s.heap.get?)
noncomputable def runS (p q : Program) (ka : List Addr) (n : Nat) (w : World) (os : OsState) := (goT p w n ⟨Znt w.params, 11, {}, Array.mk [], boot_drawn, boot_toks, os⟩ (topStub p)).map fun r => ZoL p q ka w.params r.abs
noncomputable def ZoM (q : Program) (K : Params -> Frag) (w : World) (_ : OsState) := some (true, openGood q [], (K w.params).map fun x => some x.2)
theorem ZkC (w : World) : ((boot_heap w.params).isNs mainGlobals && (Array.mk ([] : List GenState)).size == 0, (boot_heap w.params).objs.size, (boot_heap w.params).nsMap mainGlobals "__annotations__") = (true, 11, some (.ref 6)) := by kernel_rfl
theorem Znv {p q : Program} {ka : List Addr} {K : Params -> Frag} {n : Nat} {ek : ∀ P, ka = (K P).map (·.1)} (e : opening p = plainProg p.main.scope.names) (hn : Nat.ble 600 n = true) (f : ∀ s, fenceModules? p s = some s)
 (run : ∀ w, runS p q ka n w = ZoM q K w) : LeftO p q [] (Znu q) (kHook K ka ek).obs (kHook K ka ek).val n true := by
 intro w
 obtain ⟨s0, e0, e1⟩ := Option.map_eq_some_iff.mp (boot_open e hn f w)
 obtain ⟨h, gs, d, k, os⟩ := s0
 simp only [Prod.mk.injEq] at e1
 obtain ⟨rfl, rfl, rfl, rfl⟩ := e1
 obtain ⟨r, hr, hl⟩ := Option.map_eq_some_iff.mp (congrFun (run w) os)
 have hr' := ZkA _ _ _ _ hr
 unfold ZoL at hl
 simp only [Prod.mk.injEq] at hl
 obtain ⟨l1, l2, l3⟩ := hl
 have z := ZkC w
 simp only [Prod.mk.injEq] at z
 obtain ⟨z1, z2, z3⟩ := z
 have hs : (SharedT.abs ⟨Znt w.params, 11, {}, Array.mk [], boot_drawn, boot_toks, os⟩) = ⟨boot_heap w.params, Array.mk [], boot_drawn, boot_toks, os⟩ := by
  unfold SharedT.abs
  rw [ZkB]
 rw [hs] at hr'
 have ht : topFrom treeTable p w n ⟨boot_heap w.params, Array.mk [], boot_drawn, boot_toks, os⟩ = some r.abs := by
  unfold topFrom
  simp only []
  rw [z1, z2, z3]
  simp only [hr', Option.bind_some, l1]
 show (Option.bind _ _).map _ = _
 rw [e0]
 simp only [Option.bind_some, ht, Option.map_some]
 rw [l2]
 exact congrArg some (Prod.ext rfl l3)
end DL
set_option autoImplicit false
namespace DL
open PySem L2 PySem.Spec PyProof.Rows
section
variable {K : PySem.W.Frag} {h : Heap} {mg : Str -> Option Value}
structure FF (K : PySem.W.Frag) (x qual : Str) (st : Stmt) (ps : List Str) (f : Addr) : Prop where
 ex : ∃ fd, Fun K x qual st f fd /\ Binds K fd ps []
theorem ff {x qual : Str} {st : Stmt} {ps : List Str} {f : Addr} {oc : Value} {od an : Option Addr} {sl : Array (Option Value)} {kV dc pm cd ct : Value} (l : K.lookup f = some ⟨oc, od, .func (PySem.W.fnOf x qual (Zcz st) (Zbl st) (Zaj st) .none kV dc pm an cd ct), sl⟩) (c : PySem.W.codeIn K cd qual = true) (k : PySem.W.keepIn K (.ref f) = true)
 (b : ∀ (kV doc pm : Value) (an : Option Addr) (cdv ct : Value) (us : List Value), us.length = ps.length -> bindArgs (PySem.W.fnOf x qual (Zcz st) (Zbl st) (Zaj st) .none kV doc pm an cdv ct) ⟨us, []⟩ = pure (ps.zip us)) : FF K x qual st ps f :=
 ⟨_, ZlX l c k, (ZlX l c k).binds b⟩
theorem tfx {x : Str} {st : Stmt} {ps : List Str} {f : Addr} (X : K.In h) (G : h.Ns mainGlobals mg) (m : PySem.W.nsIn K mainGlobals x = some (some (.ref f))) (F : FF K x x st ps f) : TFX K mg x st ps := by
 obtain ⟨fd, a, b⟩ := F.ex
 exact ⟨f, fd, a, PySem.W.mg_of X G m, b⟩
theorem tmx {c n qual : Str} {st : Stmt} {ps : List Str} {C f : Addr} (A : mg c = some (.ref C)) (Q : Cls K C) (m : PySem.W.findIn K (.ref C) n = some (some (.ref f))) (i : PySem.W.isFn K (.ref f) = true) (F : FF K n qual st ps f) : TMX K mg c n qual st ps := by
 obtain ⟨fd, a, b⟩ := F.ex
 have e := clsE A
 exact ⟨f, fd, clsC A, by rw [e]; exact Q, by rw [e]; exact ⟨m, i, a.kp⟩, a, b⟩
theorem bind_n {fd : FuncData} {ps : List Str} {ds : List Value} (n : Nat) (hn : n + ds.length = ps.length) (h : ∀ us : List Value, us.length = n -> ∀ S, PySem.W.peek K S (bindArgs fd ⟨us, []⟩) = some (ps.zip (us ++ ds))) : Binds K fd ps ds := Zns fun us hl => h us (by rw [List.length_append] at hl; omega)
theorem tmd {c n qual : Str} {st : Stmt} {ps : List Str} {C f : Addr} {oc : Value} {od an : Option Addr} {sl : Array (Option Value)} {dV kV dc pm cd ct : Value} {d : Int} {t : Tok} (A : mg c = some (.ref C)) (Q : Cls K C) (m : PySem.W.findIn K (.ref C) n = some (some (.ref f))) (i : PySem.W.isFn K (.ref f) = true)
 (l : K.lookup f = some ⟨oc, od, .func (PySem.W.fnOf n qual (Zcz st) (Zbl st) (Zaj st) dV kV dc pm an cd ct), sl⟩) (cc : PySem.W.codeIn K cd qual = true) (k : PySem.W.keepIn K (.ref f) = true)
 (b1 : Binds K (PySem.W.fnOf n qual (Zcz st) (Zbl st) (Zaj st) dV kV dc pm an cd ct) ps []) (b2 : Binds K (PySem.W.fnOf n qual (Zcz st) (Zbl st) (Zaj st) dV kV dc pm an cd ct) ps [.int d t]) : TMD K mg c n qual st ps d := by
 have e := clsE A
 exact ⟨f, _, t, clsC A, by rw [e]; exact Q, by rw [e]; exact ⟨m, i, k⟩, ⟨⟨_, _, _, _, _, _, _, _, _, _, rfl, l, cc⟩, k⟩, b1, b2⟩
theorem tix {c qual : Str} {st : Stmt} {ps : List Str} {C f : Addr} (A : mg c = some (.ref C)) (k : PySem.W.makesIn K C = true) (m : PySem.W.findIn K (.ref C) "__init__" = some (some (.ref f))) (i : PySem.W.isFn K (.ref f) = true) (j : PySem.W.keepIn K (.ref C) = true) (F : FF K "__init__" qual st ps f) : TIX K mg c qual st ps := by
 obtain ⟨fd, a, b⟩ := F.ex
 have e := clsE A
 exact ⟨f, fd, clsC A, by rw [e]; exact ⟨k, m, i, j⟩, a, b⟩
theorem fokx {c f : Str} {C0 : Addr} (A : mg c = some (.ref C0)) (Q : Cls K C0) (e : PySem.W.findIn K (.ref C0) f = some none) : FOk K mg c f := fun C hC => by
 cases A.symm.trans hC
 exact ⟨Q, e⟩
theorem excx {c : Str} {C : Addr} (A : mg c = some (.ref C)) (e : PySem.W.excIn K C bmV "ValueError.__new__" = true) : ExcC K (clsA mg c) := by
 rw [clsE A]
 exact ⟨e⟩
def mgAll (mg : Str -> Option Value) : List (Str × Addr) -> Prop
 | [] => True
 | p :: r => mg p.1 = some (.ref p.2) /\ mgAll mg r
theorem mgAll.mem {x : Str} {C : Addr} (hC : mg x = some (.ref C)) : ∀ {al : List (Str × Addr)}, mgAll mg al -> x ∈ al.map (·.1) -> (x, C) ∈ al
 | [], _, h => by cases h
 | (y, D) :: r, a, h => by
  rw [List.map_cons] at h
  rcases List.mem_cons.mp h with e | e
  · subst e
    cases hC.symm.trans a.1
    exact .head _
  · exact .tail _ (mgAll.mem hC a.2 e)
theorem ZiX {α β : Type} {f g : α -> β} {a : α} : ∀ {l : List α}, l.map f = l.map g -> a ∈ l -> f a = g a
 | [], _, h => by cases h
 | b :: r, e, h => by
  simp only [List.map_cons, List.cons.injEq] at e
  rcases List.mem_cons.mp h with q | q
  · subst q; exact e.1
  · exact ZiX e.2 q
def excLB (K : PySem.W.Frag) (C : Addr) : Bool := (PySem.W.clsIn K C).isSome && (PySem.W.findIn K (.ref C) "__getattribute__" == some (some (.builtin "BaseException.__getattribute__")) && (PySem.W.findIn K (.ref C) "__getattr__" == some none && (PySem.W.findIn K (.ref C) "__class__" == some (some (.builtin "object.__class__")) && (PySem.W.mroIn K C (.type "object") == some true && PySem.W.mroIn K C (.type "BaseException") == some true))))
def desB (K : PySem.W.Frag) : Bool := PySem.W.specialIn K (.builtin "object.__class__") "__get__" == some (some (.builtin "getset_descriptor.__get__")) && PySem.W.takesIn K (.builtin "object.__class__") == some true
theorem ZkD {C : Addr} (d : desB K = true) (e : excLB K C = true) : ExcL K C := by
 unfold excLB at e
 unfold desB at d
 simp only [Bool.and_eq_true, beq_iff_eq] at e d
 exact ⟨e.1, e.2.1, e.2.2.1, e.2.2.2.1, d.1, d.2, e.2.2.2.2.1, e.2.2.2.2.2⟩
variable {al : List (Str × Addr)} {subs : List Str}
theorem isxr {y : Str} {Y : Addr} {cd : ClassData} (A : mgAll mg al) (d : desB K = true) (L : (al.all fun p => excLB K p.2) = true) (AY : mg y = some (.ref Y)) (q1 : PySem.W.clsIn K Y = some cd) (q2 : PySem.W.typeIn K (.ref Y) = some (.type "type")) (q3 : PySem.W.mroIn K Y (.ref Y) = some true)
 (hm : (al.map fun p => PySem.W.mroIn K p.2 (.ref Y)) = al.map fun p => some (subs.contains p.1)) : ∀ x ∈ al.map (·.1), ∀ C, mg x = some (.ref C) -> ExcL K C /\ PySem.W.kitOne K (.ref C) (.ref (clsA mg y)) = some (subs.contains x) := fun x hx C hC => by
 have hi := A.mem hC hx
 rw [clsE AY]
 exact ⟨ZkD d (List.all_eq_true.mp L _ hi), PySem.W.kit_ref q1 q2 q3 (ZiX hm hi)⟩
theorem isxv (A : mgAll mg al) (d : desB K = true) (L : (al.all fun p => excLB K p.2) = true) (hm : (al.map fun p => (PySem.W.mroIn K p.2 (.type "ValueError"), subs.contains p.1)) = al.map fun _ => (some true, true)) : ∀ x ∈ al.map (·.1), ∀ C, mg x = some (.ref C) -> ExcL K C /\ PySem.W.kitOne K (.ref C) (.type "ValueError") = some (subs.contains x) := fun x hx C hC => by
 have hi := A.mem hC hx
 have e := ZiX hm hi
 simp only [Prod.mk.injEq] at e
 exact ⟨ZkD d (List.all_eq_true.mp L _ hi), by rw [e.2]; exact PySem.W.kit_val e.1⟩
theorem tryx {y : Str} {Y : Addr} {cd : ClassData} (A : mgAll mg al) (AY : mg y = some (.ref Y)) (q1 : PySem.W.clsIn K Y = some cd) (q2 : PySem.W.typeIn K (.ref Y) = some (.type "type")) (q3 : PySem.W.mroIn K Y (.type "BaseException") = some true)
 (hm : (al.map fun p => PySem.W.mroIn K p.2 (.ref Y)) = al.map fun _ => some true) : ∀ x ∈ al.map (·.1), ∀ C, mg x = some (.ref C) -> PySem.W.exmOne K (.ref C) (.ref (clsA mg y)) = some true := fun x hx C hC => by
 rw [clsE AY]
 exact PySem.W.exm_ref q1 q2 q3 (ZiX hm (A.mem hC hx))
end
end DL
/-
--ALL BadName Taken NoDeed NoWare Forbidden NotForbidden BadNumber NotDone NoRoom
--OBJ _law_office Office
--STR has_form name
--LISTN _law_one _law_two _law_three
--REC _law_same 4
--LEND Office.put_deed numbers
--LEND with_new_deed numbers
--LEND _law_played _law_past
--LEND _law_more _law_past
--LEND law _law_past
--FORL _law_more
--EXPL _law_more _law_played law
-/
namespace My
open PySem PySem.Spec PyProof.Rows L2 DL
def top (i : Nat) : Stmt := PySem.Challenge.pw_leanmodes_k19_two_hundred.main.body.getD i (.Pass ⟨0, 0, 0, 0⟩)
abbrev Zg3 : Stmt := top 43
abbrev Zf6 : Stmt := top 44
abbrev ZeI : Stmt := top 45
abbrev ZcX : Stmt := ZbU (top 28) 0
abbrev ZcE : Stmt := top 29
abbrev ZdN : Stmt := ZbU (top 41) 0
abbrev Zf7 : Stmt := top 54
abbrev Zec : Stmt := ZbU (top 41) 1
abbrev Zfd : Stmt := top 16
abbrev ZcF : Stmt := top 19
abbrev Zed : Stmt := top 26
abbrev ZcY : Stmt := ZbU (top 41) 10
abbrev ZdO : Stmt := ZbU (top 41) 3
abbrev ZcZ : Stmt := top 30
abbrev Zcn : Stmt := ZbU (top 41) 4
abbrev ZdP : Stmt := top 21
abbrev Zc0 : Stmt := top 24
abbrev Zc1 : Stmt := top 31
abbrev Zco : Stmt := ZbU (top 41) 5
abbrev ZdQ : Stmt := top 20
abbrev ZeJ : Stmt := top 22
abbrev ZdR : Stmt := top 32
abbrev Zc2 : Stmt := ZbU (top 41) 6
abbrev ZcG : Stmt := top 33
abbrev Zc3 : Stmt := ZbU (top 41) 7
abbrev Zcp : Stmt := top 23
abbrev Zfe : Stmt := top 34
abbrev Zee : Stmt := ZbU (top 41) 8
abbrev Zef : Stmt := top 25
abbrev Zbb : Stmt := ZbU (top 41) 9
abbrev Zff : Stmt := top 46
abbrev Zg4 : Stmt := top 47
abbrev Zfg : Stmt := top 48
abbrev ZdS : Stmt := top 49
abbrev Zfh : Stmt := top 50
abbrev ZeK : Stmt := top 51
abbrev Zdt : Stmt := ZbU (top 41) 12
abbrev Zdu : Stmt := ZbU (top 41) 11
abbrev Zcq : Stmt := top 36
abbrev Zb3 : Stmt := ZbU (top 41) 13
abbrev ZeL : Stmt := top 35
abbrev Zc4 : Stmt := ZbU (top 41) 14
abbrev Zc5 : Stmt := top 52
abbrev Zfi : Stmt := top 55
abbrev Zeg : Stmt := top 53
abbrev ZkE : Stmt := top 56
def ALLX : List Str := ["BadName", "Taken", "NoDeed", "NoWare", "Forbidden", "NotForbidden", "BadNumber", "NotDone", "NoRoom"]
theorem ZkF : FnScope ["_law_script", "_law_k"] ["_law_script", "_law_k"] (Zaj Zg3) := ⟨rfl, rfl, rfl, by decide +kernel, rfl, by decide +kernel, by decide +kernel⟩
theorem sc_law_mix : FnScope ["_law_cell", "_law_k", "_law_once"] ["_law_cell", "_law_k"] (Zaj Zf6) := ⟨rfl, rfl, rfl, by decide +kernel, rfl, by decide +kernel, by decide +kernel⟩
theorem sc_law_draws : FnScope ["_law_cell", "_law_many", "_law_size", "_law_mixed", "_law_told", "_law_k"] ["_law_cell", "_law_many", "_law_size", "_law_mixed"] (Zaj ZeI) := ⟨rfl, rfl, rfl, by decide +kernel, rfl, by decide +kernel, by decide +kernel⟩
theorem ZfA : FnScope ["self", "ware_names", "deed_names", "rows", "stopped"] ["self", "ware_names", "deed_names", "rows", "stopped"] (Zaj ZcX) := ⟨rfl, rfl, rfl, by decide +kernel, rfl, by decide +kernel, by decide +kernel⟩
theorem Zfj : FnScope [] [] (Zaj ZcE) := ⟨rfl, rfl, rfl, by decide +kernel, rfl, by decide +kernel, by decide +kernel⟩
theorem Zgq : FnScope ["self"] ["self"] (Zaj ZdN) := ⟨rfl, rfl, rfl, by decide +kernel, rfl, by decide +kernel, by decide +kernel⟩
theorem sc_law_due : FnScope ["_law_state", "_law_kept", "_law_kind", "_law_a", "_law_wares", "_law_deeds", "_law_rows", "_law_shut"] ["_law_state", "_law_kept", "_law_kind", "_law_a"] (Zaj Zf7) := ⟨rfl, rfl, rfl, by decide +kernel, rfl, by decide +kernel, by decide +kernel⟩
theorem Zg5 : FnScope ["self"] ["self"] (Zaj Zec) := ⟨rfl, rfl, rfl, by decide +kernel, rfl, by decide +kernel, by decide +kernel⟩
theorem Zio : FnScope ["name"] ["name"] (Zaj Zfd) := ⟨rfl, rfl, rfl, by decide +kernel, rfl, by decide +kernel, by decide +kernel⟩
theorem Zfk : FnScope ["name", "names"] ["name", "names"] (Zaj ZcF) := ⟨rfl, rfl, rfl, by decide +kernel, rfl, by decide +kernel, by decide +kernel⟩
theorem Zg6 : FnScope ["many", "most"] ["many", "most"] (Zaj Zed) := ⟨rfl, rfl, rfl, by decide +kernel, rfl, by decide +kernel, by decide +kernel⟩
theorem ZfB : FnScope ["self"] ["self"] (Zaj ZcY) := ⟨rfl, rfl, rfl, by decide +kernel, rfl, by decide +kernel, by decide +kernel⟩
theorem Zgr : FnScope ["self", "standing"] ["self", "standing"] (Zaj ZdO) := ⟨rfl, rfl, rfl, by decide +kernel, rfl, by decide +kernel, by decide +kernel⟩
theorem sc_with_new_ware : FnScope ["standing", "name", "rows"] ["standing", "name"] (Zaj ZcZ) := ⟨rfl, rfl, rfl, by decide +kernel, rfl, by decide +kernel, by decide +kernel⟩
theorem sc_Office_put_ware : FnScope ["self", "name", "now"] ["self", "name"] (Zaj Zcn) := ⟨rfl, rfl, rfl, by decide +kernel, rfl, by decide +kernel, by decide +kernel⟩
theorem sc_check_wares : FnScope ["standing", "asked", "name"] ["standing", "asked"] (Zaj ZdP) := ⟨rfl, rfl, rfl, by decide +kernel, rfl, by decide +kernel, by decide +kernel⟩
theorem sc_check_numbers : FnScope ["numbers", "number"] ["numbers"] (Zaj Zc0) := ⟨rfl, rfl, rfl, by decide +kernel, rfl, by decide +kernel, by decide +kernel⟩
theorem sc_with_new_deed : FnScope ["standing", "name", "numbers", "row"] ["standing", "name", "numbers"] (Zaj Zc1) := ⟨rfl, rfl, rfl, by decide +kernel, rfl, by decide +kernel, by decide +kernel⟩
theorem sc_Office_put_deed : FnScope ["self", "name", "numbers", "now"] ["self", "name", "numbers"] (Zaj Zco) := ⟨rfl, rfl, rfl, by decide +kernel, rfl, by decide +kernel, by decide +kernel⟩
theorem sc_check_deeds : FnScope ["standing", "asked", "name"] ["standing", "asked"] (Zaj ZdQ) := ⟨rfl, rfl, rfl, by decide +kernel, rfl, by decide +kernel, by decide +kernel⟩
theorem sc_check_let : FnScope ["standing", "asked", "name"] ["standing", "asked"] (Zaj ZeJ) := ⟨rfl, rfl, rfl, by decide +kernel, rfl, by decide +kernel, by decide +kernel⟩
theorem sc_with_number : FnScope ["standing", "deed", "ware", "number", "rows"] ["standing", "deed", "ware", "number"] (Zaj ZdR) := ⟨rfl, rfl, rfl, by decide +kernel, rfl, by decide +kernel, by decide +kernel⟩
theorem sc_Office_change : FnScope ["self", "deed", "ware", "number", "now"] ["self", "deed", "ware", "number"] (Zaj Zc2) := ⟨rfl, rfl, rfl, by decide +kernel, rfl, by decide +kernel, by decide +kernel⟩
theorem Zfl : FnScope ["standing", "deed"] ["standing", "deed"] (Zaj ZcG) := ⟨rfl, rfl, rfl, by decide +kernel, rfl, by decide +kernel, by decide +kernel⟩
theorem sc_Office_forbid : FnScope ["self", "deed", "now"] ["self", "deed"] (Zaj Zc3) := ⟨rfl, rfl, rfl, by decide +kernel, rfl, by decide +kernel, by decide +kernel⟩
theorem Ze1 : FnScope ["standing", "deed"] ["standing", "deed"] (Zaj Zcp) := ⟨rfl, rfl, rfl, by decide +kernel, rfl, by decide +kernel, by decide +kernel⟩
theorem sc_with_let : FnScope ["standing", "deed", "stopped"] ["standing", "deed"] (Zaj Zfe) := ⟨rfl, rfl, rfl, by decide +kernel, rfl, by decide +kernel, by decide +kernel⟩
theorem sc_Office_let : FnScope ["self", "deed", "now"] ["self", "deed"] (Zaj Zee) := ⟨rfl, rfl, rfl, by decide +kernel, rfl, by decide +kernel, by decide +kernel⟩
theorem Zg7 : FnScope ["many", "kept"] ["many", "kept"] (Zaj Zef) := ⟨rfl, rfl, rfl, by decide +kernel, rfl, by decide +kernel, by decide +kernel⟩
theorem ZeM : FnScope ["self", "many"] ["self", "many"] (Zaj Zbb) := ⟨rfl, rfl, rfl, by decide +kernel, rfl, by decide +kernel, by decide +kernel⟩
theorem Zip : FnScope ["_law_office", "_law_kind", "_law_a", "_law_b", "_law_c"] ["_law_office", "_law_kind", "_law_a", "_law_b", "_law_c"] (Zaj Zff) := ⟨rfl, rfl, rfl, by decide +kernel, rfl, by decide +kernel, by decide +kernel⟩
theorem sc_law_do : FnScope ["_law_office", "_law_kind", "_law_a", "_law_b", "_law_c", "_law_told", "e", "_law_one", "_law_two", "_law_three"] ["_law_office", "_law_kind", "_law_a", "_law_b", "_law_c"] (Zaj Zg4) := ⟨rfl, rfl, rfl, by decide +kernel, rfl, by decide +kernel, by decide +kernel⟩
theorem sc_law_same : FnScope ["_law_found", "_law_due_here", "_law_one", "_law_other"] ["_law_found", "_law_due_here"] (Zaj Zfg) := ⟨rfl, rfl, rfl, by decide +kernel, rfl, by decide +kernel, by decide +kernel⟩
theorem Zgs : FnScope ["_law_found", "_law_due_here"] ["_law_found", "_law_due_here"] (Zaj ZdS) := ⟨rfl, rfl, rfl, by decide +kernel, rfl, by decide +kernel, by decide +kernel⟩
theorem sc_law_twin : FnScope ["_law_state", "_law_wares", "_law_deeds", "_law_rows", "_law_shut"] ["_law_state"] (Zaj Zfh) := ⟨rfl, rfl, rfl, by decide +kernel, rfl, by decide +kernel, by decide +kernel⟩
theorem sc_law_apply : FnScope ["_law_state", "_law_kind", "_law_a", "_law_b", "_law_c", "_law_wares", "_law_deeds", "_law_rows", "_law_shut"] ["_law_state", "_law_kind", "_law_a", "_law_b", "_law_c"] (Zaj ZeK) := ⟨rfl, rfl, rfl, by decide +kernel, rfl, by decide +kernel, by decide +kernel⟩
theorem Zf8 : FnScope ["self"] ["self"] (Zaj Zdt) := ⟨rfl, rfl, rfl, by decide +kernel, rfl, by decide +kernel, by decide +kernel⟩
theorem Zf9 : FnScope ["self"] ["self"] (Zaj Zdu) := ⟨rfl, rfl, rfl, by decide +kernel, rfl, by decide +kernel, by decide +kernel⟩
theorem Ze2 : FnScope ["standing"] ["standing"] (Zaj Zcq) := ⟨rfl, rfl, rfl, by decide +kernel, rfl, by decide +kernel, by decide +kernel⟩
theorem ZeN : FnScope ["self"] ["self"] (Zaj Zb3) := ⟨rfl, rfl, rfl, by decide +kernel, rfl, by decide +kernel, by decide +kernel⟩
theorem ZhJ : FnScope ["standing", "deed", "ware"] ["standing", "deed", "ware"] (Zaj ZeL) := ⟨rfl, rfl, rfl, by decide +kernel, rfl, by decide +kernel, by decide +kernel⟩
theorem ZfC : FnScope ["self", "deed", "ware"] ["self", "deed", "ware"] (Zaj Zc4) := ⟨rfl, rfl, rfl, by decide +kernel, rfl, by decide +kernel, by decide +kernel⟩
theorem sc_law_stands_so : FnScope ["_law_office", "_law_state", "_law_kept", "_law_wares", "_law_deeds", "_law_rows", "_law_shut", "_law_k", "_law_j"] ["_law_office", "_law_state", "_law_kept"] (Zaj Zc5) := ⟨rfl, rfl, rfl, by decide +kernel, rfl, by decide +kernel, by decide +kernel⟩
theorem sc_law_more : FnScope ["_law_office", "_law_past", "_law_rows", "_law_kind", "_law_a", "_law_b", "_law_c", "_law_due_here", "_law_found"] ["_law_office", "_law_past"] (Zaj Zfi) := ⟨rfl, rfl, rfl, by decide +kernel, rfl, by decide +kernel, by decide +kernel⟩
theorem sc_law_played : FnScope ["_law_office", "_law_past", "_law_many", "_law_values", "_law_k", "_law_row", "_law_found"] ["_law_office", "_law_past", "_law_many", "_law_values"] (Zaj Zeg) := ⟨rfl, rfl, rfl, by decide +kernel, rfl, by decide +kernel, by decide +kernel⟩
theorem sc_law : FnScope ["_law_script", "_law_shape", "_law_many", "_law_values", "_law_office", "_law_past", "_law_back", "_law_turn", "_law_found"] ["_law_script"] (Zaj ZkE) := ⟨rfl, rfl, rfl, by decide +kernel, rfl, by decide +kernel, by decide +kernel⟩
structure Bi (mg : Str -> Option Value) : Prop where
 ValueError : mg "ValueError" = none
 abs : mg "abs" = none
 all : mg "all" = none
 bool : mg "bool" = none
 int : mg "int" = none
 isinstance : mg "isinstance" = none
 len : mg "len" = none
 list : mg "list" = none
 min : mg "min" = none
 range : mg "range" = none
 str : mg "str" = none
 tuple : mg "tuple" = none
 zip : mg "zip" = none
structure Txt (K : PySem.W.Frag) (mg : Str -> Option Value) : Prop where
 B : Bi mg
 f_law_at : TFX K mg "_law_at" Zg3 ["_law_script", "_law_k"]
 f_law_mix : TFX K mg "_law_mix" Zf6 ["_law_cell", "_law_k"]
 f_law_draws : TFX K mg "_law_draws" ZeI ["_law_cell", "_law_many", "_law_size", "_law_mixed"]
 f_Standing_init : TIX K mg "Standing" "Standing.__init__" ZcX ["self", "ware_names", "deed_names", "rows", "stopped"]
 f_nothing_put_in : TFX K mg "nothing_put_in" ZcE []
 f_Office_init : TIX K mg "Office" "Office.__init__" ZdN ["self"]
 f_law_due : TFX K mg "_law_due" Zf7 ["_law_state", "_law_kept", "_law_kind", "_law_a"]
 f_Office_now : TMX K mg "Office" "now" "Office.now" Zec ["self"]
 f_has_form : TFX K mg "has_form" Zfd ["name"]
 f_check_new_name : TFX K mg "check_new_name" ZcF ["name", "names"]
 f_check_room : TFX K mg "check_room" Zed ["many", "most"]
 f_Office_doings : TMX K mg "Office" "doings" "Office.doings" ZcY ["self"]
 f_Office_keep : TMX K mg "Office" "keep" "Office.keep" ZdO ["self", "standing"]
 f_with_new_ware : TFX K mg "with_new_ware" ZcZ ["standing", "name"]
 f_Office_put_ware : TMX K mg "Office" "put_ware" "Office.put_ware" Zcn ["self", "name"]
 f_check_wares : TFX K mg "check_wares" ZdP ["standing", "asked"]
 f_check_numbers : TFX K mg "check_numbers" Zc0 ["numbers"]
 f_with_new_deed : TFX K mg "with_new_deed" Zc1 ["standing", "name", "numbers"]
 f_Office_put_deed : TMX K mg "Office" "put_deed" "Office.put_deed" Zco ["self", "name", "numbers"]
 f_check_deeds : TFX K mg "check_deeds" ZdQ ["standing", "asked"]
 f_check_let : TFX K mg "check_let" ZeJ ["standing", "asked"]
 f_with_number : TFX K mg "with_number" ZdR ["standing", "deed", "ware", "number"]
 f_Office_change : TMX K mg "Office" "change" "Office.change" Zc2 ["self", "deed", "ware", "number"]
 f_with_forbidden : TFX K mg "with_forbidden" ZcG ["standing", "deed"]
 f_Office_forbid : TMX K mg "Office" "forbid" "Office.forbid" Zc3 ["self", "deed"]
 f_check_forbidden : TFX K mg "check_forbidden" Zcp ["standing", "deed"]
 f_with_let : TFX K mg "with_let" Zfe ["standing", "deed"]
 f_Office_let : TMX K mg "Office" "let" "Office.let" Zee ["self", "deed"]
 f_check_kept : TFX K mg "check_kept" Zef ["many", "kept"]
 f_Office_take_back : TMD K mg "Office" "take_back" "Office.take_back" Zbb ["self", "many"] 1
 f_law_call : TFX K mg "_law_call" Zff ["_law_office", "_law_kind", "_law_a", "_law_b", "_law_c"]
 f_law_do : TFX K mg "_law_do" Zg4 ["_law_office", "_law_kind", "_law_a", "_law_b", "_law_c"]
 f_law_same : TFX K mg "_law_same" Zfg ["_law_found", "_law_due_here"]
 f_law_refused : TFX K mg "_law_refused" ZdS ["_law_found", "_law_due_here"]
 f_law_twin : TFX K mg "_law_twin" Zfh ["_law_state"]
 f_law_apply : TFX K mg "_law_apply" ZeK ["_law_state", "_law_kind", "_law_a", "_law_b", "_law_c"]
 f_Office_deeds : TMX K mg "Office" "deeds" "Office.deeds" Zdt ["self"]
 f_Office_wares : TMX K mg "Office" "wares" "Office.wares" Zdu ["self"]
 f_forbidden_names : TFX K mg "forbidden_names" Zcq ["standing"]
 f_Office_forbidden : TMX K mg "Office" "forbidden" "Office.forbidden" Zb3 ["self"]
 f_number_of : TFX K mg "number_of" ZeL ["standing", "deed", "ware"]
 f_Office_number : TMX K mg "Office" "number" "Office.number" Zc4 ["self", "deed", "ware"]
 f_law_stands_so : TFX K mg "_law_stands_so" Zc5 ["_law_office", "_law_state", "_law_kept"]
 f_law_more : TFX K mg "_law_more" Zfi ["_law_office", "_law_past"]
 f_law_played : TFX K mg "_law_played" Zeg ["_law_office", "_law_past", "_law_many", "_law_values"]
 f_law : TFX K mg "law" ZkE ["_law_script"]
 fok_Office_stages : FOk K mg "Office" "stages"
 fok_Standing_ware_names : FOk K mg "Standing" "ware_names"
 fok_Standing_deed_names : FOk K mg "Standing" "deed_names"
 fok_Standing_rows : FOk K mg "Standing" "rows"
 fok_Standing_stopped : FOk K mg "Standing" "stopped"
 c_Standing : mg "Standing" = some (.ref (clsA mg "Standing"))
 c_Office : mg "Office" = some (.ref (clsA mg "Office"))
 c_WorksError : mg "WorksError" = some (.ref (clsA mg "WorksError"))
 g_LETTERS : ∃ t, mg "LETTERS" = some (.str "abcdefghijklmnopqrstuvwxyz" t)
 g_LONGEST : ∃ t, mg "LONGEST" = some (.int 6 t)
 c_BadName : mg "BadName" = some (.ref (clsA mg "BadName"))
 x_BadName : ExcC K (clsA mg "BadName")
 c_Taken : mg "Taken" = some (.ref (clsA mg "Taken"))
 x_Taken : ExcC K (clsA mg "Taken")
 c_NoRoom : mg "NoRoom" = some (.ref (clsA mg "NoRoom"))
 x_NoRoom : ExcC K (clsA mg "NoRoom")
 g_MOST_WARES : ∃ t, mg "MOST_WARES" = some (.int 6 t)
 g_MOST_DOINGS : ∃ t, mg "MOST_DOINGS" = some (.int 200 t)
 c_NoWare : mg "NoWare" = some (.ref (clsA mg "NoWare"))
 x_NoWare : ExcC K (clsA mg "NoWare")
 g_HIGHEST_NUMBER : ∃ t, mg "HIGHEST_NUMBER" = some (.int 9 t)
 c_BadNumber : mg "BadNumber" = some (.ref (clsA mg "BadNumber"))
 x_BadNumber : ExcC K (clsA mg "BadNumber")
 g_MOST_DEEDS : ∃ t, mg "MOST_DEEDS" = some (.int 10 t)
 c_NoDeed : mg "NoDeed" = some (.ref (clsA mg "NoDeed"))
 x_NoDeed : ExcC K (clsA mg "NoDeed")
 c_Forbidden : mg "Forbidden" = some (.ref (clsA mg "Forbidden"))
 x_Forbidden : ExcC K (clsA mg "Forbidden")
 c_NotForbidden : mg "NotForbidden" = some (.ref (clsA mg "NotForbidden"))
 x_NotForbidden : ExcC K (clsA mg "NotForbidden")
 c_NotDone : mg "NotDone" = some (.ref (clsA mg "NotDone"))
 x_NotDone : ExcC K (clsA mg "NotDone")
 isx_BadName : ∀ x ∈ ALLX, ∀ C, mg x = some (.ref C) -> ExcL K C /\ PySem.W.kitOne K (.ref C) (.ref (clsA mg "BadName")) = some ((["BadName"] : List Str).contains x)
 isx_Taken : ∀ x ∈ ALLX, ∀ C, mg x = some (.ref C) -> ExcL K C /\ PySem.W.kitOne K (.ref C) (.ref (clsA mg "Taken")) = some ((["Taken"] : List Str).contains x)
 isx_NoDeed : ∀ x ∈ ALLX, ∀ C, mg x = some (.ref C) -> ExcL K C /\ PySem.W.kitOne K (.ref C) (.ref (clsA mg "NoDeed")) = some ((["NoDeed"] : List Str).contains x)
 isx_NoWare : ∀ x ∈ ALLX, ∀ C, mg x = some (.ref C) -> ExcL K C /\ PySem.W.kitOne K (.ref C) (.ref (clsA mg "NoWare")) = some ((["NoWare"] : List Str).contains x)
 isx_Forbidden : ∀ x ∈ ALLX, ∀ C, mg x = some (.ref C) -> ExcL K C /\ PySem.W.kitOne K (.ref C) (.ref (clsA mg "Forbidden")) = some ((["Forbidden"] : List Str).contains x)
 isx_NotForbidden : ∀ x ∈ ALLX, ∀ C, mg x = some (.ref C) -> ExcL K C /\ PySem.W.kitOne K (.ref C) (.ref (clsA mg "NotForbidden")) = some ((["NotForbidden"] : List Str).contains x)
 isx_BadNumber : ∀ x ∈ ALLX, ∀ C, mg x = some (.ref C) -> ExcL K C /\ PySem.W.kitOne K (.ref C) (.ref (clsA mg "BadNumber")) = some ((["BadNumber"] : List Str).contains x)
 isx_NoRound : ∀ x ∈ ALLX, ∀ C, mg x = some (.ref C) -> ExcL K C /\ PySem.W.kitOne K (.ref C) (.ref (clsA mg "NoRound")) = some (([] : List Str).contains x)
 c_NoRound : mg "NoRound" = some (.ref (clsA mg "NoRound"))
 isx_NotDone : ∀ x ∈ ALLX, ∀ C, mg x = some (.ref C) -> ExcL K C /\ PySem.W.kitOne K (.ref C) (.ref (clsA mg "NotDone")) = some ((["NotDone"] : List Str).contains x)
 isx_NoRoom : ∀ x ∈ ALLX, ∀ C, mg x = some (.ref C) -> ExcL K C /\ PySem.W.kitOne K (.ref C) (.ref (clsA mg "NoRoom")) = some ((["NoRoom"] : List Str).contains x)
 isx_ValueError : ∀ x ∈ ALLX, ∀ C, mg x = some (.ref C) -> ExcL K C /\ PySem.W.kitOne K (.ref C) (.type "ValueError") = some ((["BadName", "Taken", "NoDeed", "NoWare", "Forbidden", "NotForbidden", "BadNumber", "NotDone", "NoRoom"] : List Str).contains x)
 try_WorksError : ∀ x ∈ ALLX, ∀ C, mg x = some (.ref C) -> PySem.W.exmOne K (.ref C) (.ref (clsA mg "WorksError")) = some true
def Ze3 : SS :=
 (sSeq (sIf (sT (eB oLt (eVar 1) (e1 oLen (eVar 0)))) (sRet (e2 oIx (eVar 0) (eVar 1))) ZaH)
 (sRet (eC (.int 0))))
def Zbv : List D -> FO := runF 2 Ze3
def Ze4 : SS :=
 (sSeq (sAsg (e2 oMod (e2 oAdd (e2 oAdd (e2 oMul (eVar 0) (eC (.int 48271))) (e2 oMul (eVar 1) (eC (.int 7368787)))) (eC (.int 1))) (eC (.int 2147483647))) (Zaq 2))
 (sRet (e2 oMod (e2 oMul (e2 oMod (e2 oMul (eVar 2) (eVar 2)) (eC (.int 2147483647))) (eC (.int 69621))) (eC (.int 2147483647)))))
def Zeh : List D -> FO := runF 3 Ze4
def ZdT : SS :=
 (sSeq (sAsg (eLst aNil) (Zaq 4))
 (sSeq (sFor (ZeG (eVar 1)) (Zaq 5) (sIf (sT (eVar 3)) (sApp 4 (e2 oMod (e2 oDiv (ZaB 2 Zeh [none, none] (Zad (eVar 0) (Zad (eVar 5) aNil))) (eC (.int 7))) (eVar 2))) (sSeq (sApp 4 (e2 oMod (eVar 0) (eVar 2)))
 (sAsg (e2 oDiv (eVar 0) (eVar 2)) (Zaq 0)))))
 (sRet (eVar 4))))
def ZdU : List D -> FO := runF 6 ZdT
def Zbz : SS :=
 (sSeq (ZgZ 0 "Standing" "ware_names" (eVar 1))
 (sSeq (ZgZ 0 "Standing" "deed_names" (eVar 2))
 (sSeq (ZgZ 0 "Standing" "rows" (eVar 3))
 (ZgZ 0 "Standing" "stopped" (eVar 4)))))
def ZaN : List D -> FO := runF 5 Zbz
def ZbO : SS :=
 (sRet (Zgm "Standing" 5 ZaN (Zad (eFrz (eLst aNil)) (Zad (eFrz (eLst aNil)) (Zad (eFrz (eLst aNil)) (Zad (eFrz (eLst aNil)) aNil))))))
def ZbP : List D -> FO := runF 0 ZbO
def ZcM : SS :=
 (ZgZ 0 "Office" "stages" (eLst (Zad (eFrz (ZaB 0 ZbP [] aNil)) aNil)))
def ZcN : List D -> FO := runF 1 ZcM
def Ze5 : SS :=
 (sSeq (sAsg (eVar 0) (kTup Zez 4 (ZaL (Zaq 4) (ZaL (Zaq 5) (ZaL (Zaq 6) (ZaL (Zaq 7) Zd3))))))
 (sSeq (sIf (sAnd (sT (eB oLt (eVar 2) (eC (.int 2)))) (sT (eB oIn (eVar 3) (e2 oIx (eLst (Zad (eVar 4) (Zad (eVar 5) aNil))) (eVar 2))))) (sRet (eC (.int 1))) ZaH)
 (sSeq (sIf (sAnd (sT (eB oGt (eVar 2) (eC (.int 1)))) (sT (eB ZeA (eVar 3) (eVar 5)))) (sRet (eC (.int 2))) ZaH)
 (sSeq (sIf (sAnd (sT (eB oIn (eVar 2) (eTup (Zad (eC (.int 2)) (Zad (eC (.int 3)) aNil))))) (sT (e2 oIx (eVar 7) (eIdx (eVar 5) (eVar 3))))) (sRet (eC (.int 4))) ZaH)
 (sSeq (sIf (sAnd (sT (eB oEq (eVar 2) (eC (.int 4)))) (sNot (sT (e2 oIx (eVar 7) (eIdx (eVar 5) (eVar 3)))))) (sRet (eC (.int 5))) ZaH)
 (sSeq (sIf (sT (eB oEq (eVar 2) (eC (.int 2)))) (sRet (eC (.int 6))) ZaH)
 (sSeq (sIf (sT (eB oGt (eVar 1) (eC (.int 199)))) (sRet (eC (.int 9))) ZaH)
 (sRet (e1 oNeg (eC (.int 1)))))))))))
def Zei : List D -> FO := runF 8 Ze5
def Zdg : SS :=
 (sRet (eP (pIx (bFld "Office" "stages" (bVar 0)) (pNeg (pC (.int 1))))))
def ZaJ : List D -> FO := runF 1 Zdg
def Zeo : SS :=
 (sRet (eAnd (ZiI oLe oLe (eC (.int 1)) (e1 oLen (eVar 0)) (eC (.int 6))) (e1 oAll (Zcl (Zls (eVar 0)) [none] (Zaq 0) Zds (eB oInS (eVar 0) (eC (.str "abcdefghijklmnopqrstuvwxyz")))))))
def Zep : List D -> FO := runF 1 Zeo
def ZbQ : SS :=
 (sSeq (sIf (sNot (sT (ZaB 1 Zep [none] (Zad (eVar 0) aNil)))) (ZcI "BadName" (uSeq (Zfy (eVar 0)) (uSeq uC (uSeq (Zgn (eC (.int 6))) (uSeq uC uC))))) ZaH)
 (sIf (sT (eB oIn (eVar 0) (eVar 1))) (ZcI "Taken" (uSeq uC (uSeq (Zfy (eVar 0)) (uSeq uC uC)))) ZaH))
def Zbt : List D -> FO := runF 2 ZbQ
def Zdh : SS :=
 (sIf (sT (eB oGe (eVar 0) (eVar 1))) (ZcI "NoRoom" (uSeq uC (uSeq (Zgn (eVar 1)) (uSeq uC uC)))) ZaH)
def ZaX : List D -> FO := runF 2 Zdh
def Zb4 : SS :=
 (sRet (e2 oSub (eP (pLen (bFld "Office" "stages" (bVar 0)))) (eC (.int 1))))
def ZaC : List D -> FO := runF 1 Zb4
def ZcO : SS :=
 (sSeq (Zln 0 "Office" "stages" (pB (bVar 1)))
 (sRet (Zbi 0 "Office" "doings" 1 ZaC [] aNil)))
def Zbc : List D -> FO := runF 2 ZcO
def Zb5 : SS :=
 (sSeq (sAsg (Zcl (iLst (e1 (oFld "Standing" "rows") (eVar 0))) [none] (Zaq 0) Zds (e2 oCat (eVar 0) (Zik [0]))) (Zaq 2))
 (sRet (Zgm "Standing" 5 ZaN (Zad (eFrz (e2 oCat (e1 (oFld "Standing" "ware_names") (eVar 0)) (eLst (Zad (eVar 1) aNil)))) (Zad (eFrz (e1 (oFld "Standing" "deed_names") (eVar 0))) (Zad (eVar 2) (Zad (eFrz (e1 (oFld "Standing" "stopped") (eVar 0))) aNil)))))))
def Zb6 : List D -> FO := runF 3 Zb5
def ZbE : SS :=
 (sSeq (sAsg (Zbi 0 "Office" "now" 1 ZaJ [] aNil) (Zaq 2))
 (sSeq (ZcB (ZaB 2 Zbt [none, none] (Zad (eVar 1) (Zad (eFrz (e1 (oFld "Standing" "ware_names") (eVar 2))) aNil))))
 (sSeq (ZcB (ZaB 2 ZaX [none, none] (Zad (eFrz (e1 oLen (e1 (oFld "Standing" "ware_names") (eVar 2)))) (Zad (eC (.int 6)) aNil))))
 (sSeq (ZcB (ZaB 2 ZaX [none, none] (Zad (eFrz (Zbi 0 "Office" "doings" 1 ZaC [] aNil)) (Zad (eC (.int 200)) aNil))))
 (sRet (Zbi 0 "Office" "keep" 2 Zbc [none] (Zad (eFrz (ZaB 2 Zb6 [none, none] (Zad (eVar 2) (Zad (eVar 1) aNil)))) aNil)))))))
def ZbF : List D -> FO := runF 3 ZbE
def ZcP : SS :=
 (sFor (iLst (eVar 1)) (Zaq 2) (sIf (sT (eB ZeA (eVar 2) (e1 (oFld "Standing" "ware_names") (eVar 0)))) (ZcI "NoWare" (uSeq uC (uSeq (Zfy (eVar 2)) uC))) ZaH))
def Zbp : List D -> FO := runF 3 ZcP
def Zb7 : SS :=
 (sFor (iLst (eVar 0)) (Zaq 1) (sIf (sT (eB oGt (e1 oAbs (eVar 1)) (eC (.int 9)))) (ZcI "BadNumber" (uSeq uC (uSeq (Zgn (eC (.int 9))) (uSeq uC (uSeq (Zgn (eC (.int 9))) uC))))) ZaH))
def Zbm : List D -> FO := runF 2 Zb7
def Zb8 : SS :=
 (sSeq (sAsg (Zbg (Zcl (iLst (e1 (oFld "Standing" "ware_names") (eVar 0))) [none, some 2] (Zaq 0) Zds (Zf1 (eVar 1) (eVar 0) (eC (.int 0))))) (Zaq 3))
 (sRet (Zgm "Standing" 5 ZaN (Zad (eFrz (e1 (oFld "Standing" "ware_names") (eVar 0))) (Zad (eFrz (e2 oCat (e1 (oFld "Standing" "deed_names") (eVar 0)) (eLst (Zad (eVar 1) aNil)))) (Zad (eFrz (e2 oCat (e1 (oFld "Standing" "rows") (eVar 0)) (eLst (Zad (eVar 3) aNil)))) (Zad (eFrz (e1 (oFld "Standing" "stopped") (eVar 0))) aNil)))))))
def Zb9 : List D -> FO := runF 4 Zb8
def ZbG : SS :=
 (sSeq (sAsg (Zbi 0 "Office" "now" 1 ZaJ [] aNil) (Zaq 3))
 (sSeq (ZcB (ZaB 2 Zbt [none, none] (Zad (eVar 1) (Zad (eFrz (e1 (oFld "Standing" "deed_names") (eVar 3))) aNil))))
 (sSeq (ZcB (ZaB 2 Zbp [none, none] (Zad (eVar 3) (Zad (eFrz (Zbg (e1 ZcW (eVar 2)))) aNil))))
 (sSeq (ZcB (ZaB 1 Zbm [none] (Zad (eFrz (Zbg (e1 Zkq (eVar 2)))) aNil)))
 (sSeq (ZcB (ZaB 2 ZaX [none, none] (Zad (eFrz (e1 oLen (e1 (oFld "Standing" "deed_names") (eVar 3)))) (Zad (eC (.int 10)) aNil))))
 (sSeq (ZcB (ZaB 2 ZaX [none, none] (Zad (eFrz (Zbi 0 "Office" "doings" 1 ZaC [] aNil)) (Zad (eC (.int 200)) aNil))))
 (sRet (Zbi 0 "Office" "keep" 2 Zbc [none] (Zad (eFrz (ZaB 3 Zb9 [none, none, some 2] (Zad (eVar 3) (Zad (eVar 1) (aIo 2 aNil))))) aNil)))))))))
def ZbH : List D -> FO := runF 4 ZbG
def ZcQ : SS :=
 (sFor (iLst (eVar 1)) (Zaq 2) (sIf (sT (eB ZeA (eVar 2) (e1 (oFld "Standing" "deed_names") (eVar 0)))) (ZcI "NoDeed" (uSeq uC (uSeq (Zfy (eVar 2)) uC))) ZaH))
def Zbq : List D -> FO := runF 3 ZcQ
def ZdV : SS :=
 (sFor (iLst (eVar 1)) (Zaq 2) (sIf (sT (eB oIn (eVar 2) (e1 (oFld "Standing" "stopped") (eVar 0)))) (ZcI "Forbidden" (uSeq uC (uSeq (Zfy (eVar 2)) (uSeq uC uC)))) ZaH))
def Zc6 : List D -> FO := runF 3 ZdV
def ZcR : SS :=
 (sSeq (sAsg (Zcl (iLst (e1 (oFld "Standing" "rows") (eVar 0))) [none] (Zaq 0) Zds (e1 ZcW (eVar 0))) (Zaq 4))
 (sSeq (Zig 4 (eVar 3) (pIdx (bFld "Standing" "deed_names" (bVar 0)) (pB (bVar 1))) (pIdx (bFld "Standing" "ware_names" (bVar 0)) (pB (bVar 2))))
 (sRet (Zgm "Standing" 5 ZaN (Zad (eFrz (e1 (oFld "Standing" "ware_names") (eVar 0))) (Zad (eFrz (e1 (oFld "Standing" "deed_names") (eVar 0))) (Zad (eVar 4) (Zad (eFrz (e1 (oFld "Standing" "stopped") (eVar 0))) aNil))))))))
def ZcS : List D -> FO := runF 5 ZcR
def Zca : SS :=
 (sSeq (sAsg (Zbi 0 "Office" "now" 1 ZaJ [] aNil) (Zaq 4))
 (sSeq (ZcB (ZaB 2 Zbq [none, none] (Zad (eVar 4) (Zad (eFrz (eLst (Zad (eVar 1) aNil))) aNil))))
 (sSeq (ZcB (ZaB 2 Zbp [none, none] (Zad (eVar 4) (Zad (eFrz (eLst (Zad (eVar 2) aNil))) aNil))))
 (sSeq (ZcB (ZaB 2 Zc6 [none, none] (Zad (eVar 4) (Zad (eFrz (eLst (Zad (eVar 1) aNil))) aNil))))
 (sSeq (ZcB (ZaB 1 Zbm [none] (Zad (eFrz (eLst (Zad (eVar 3) aNil))) aNil)))
 (sSeq (ZcB (ZaB 2 ZaX [none, none] (Zad (eFrz (Zbi 0 "Office" "doings" 1 ZaC [] aNil)) (Zad (eC (.int 200)) aNil))))
 (sRet (Zbi 0 "Office" "keep" 2 Zbc [none] (Zad (eFrz (ZaB 4 ZcS [none, none, none, none] (Zad (eVar 4) (Zad (eVar 1) (Zad (eVar 2) (Zad (eVar 3) aNil)))))) aNil)))))))))
def Zcb : List D -> FO := runF 5 Zca
def ZbR : SS :=
 (sRet (Zgm "Standing" 5 ZaN (Zad (eFrz (e1 (oFld "Standing" "ware_names") (eVar 0))) (Zad (eFrz (e1 (oFld "Standing" "deed_names") (eVar 0))) (Zad (eFrz (e1 (oFld "Standing" "rows") (eVar 0))) (Zad (eFrz (e2 oCat (e1 (oFld "Standing" "stopped") (eVar 0)) (eLst (Zad (eVar 1) aNil)))) aNil))))))
def ZbS : List D -> FO := runF 2 ZbR
def Zcc : SS :=
 (sSeq (sAsg (Zbi 0 "Office" "now" 1 ZaJ [] aNil) (Zaq 2))
 (sSeq (ZcB (ZaB 2 Zbq [none, none] (Zad (eVar 2) (Zad (eFrz (eLst (Zad (eVar 1) aNil))) aNil))))
 (sSeq (ZcB (ZaB 2 Zc6 [none, none] (Zad (eVar 2) (Zad (eFrz (eLst (Zad (eVar 1) aNil))) aNil))))
 (sSeq (ZcB (ZaB 2 ZaX [none, none] (Zad (eFrz (Zbi 0 "Office" "doings" 1 ZaC [] aNil)) (Zad (eC (.int 200)) aNil))))
 (sRet (Zbi 0 "Office" "keep" 2 Zbc [none] (Zad (eFrz (ZaB 2 ZbS [none, none] (Zad (eVar 2) (Zad (eVar 1) aNil)))) aNil)))))))
def Zcd : List D -> FO := runF 3 Zcc
def ZbI : SS :=
 (sIf (sT (eB ZeA (eVar 1) (e1 (oFld "Standing" "stopped") (eVar 0)))) (ZcI "NotForbidden" (uSeq uC (uSeq (Zfy (eVar 1)) (uSeq uC uC)))) ZaH)
def ZbJ : List D -> FO := runF 2 ZbI
def Zeq : SS :=
 (sSeq (sAsg (Zcl (iLst (e1 (oFld "Standing" "stopped") (eVar 0))) [none, some 1] (Zaq 0) (sT (eB oNe (eVar 0) (eVar 1))) (eVar 0)) (Zaq 2))
 (sRet (Zgm "Standing" 5 ZaN (Zad (eFrz (e1 (oFld "Standing" "ware_names") (eVar 0))) (Zad (eFrz (e1 (oFld "Standing" "deed_names") (eVar 0))) (Zad (eFrz (e1 (oFld "Standing" "rows") (eVar 0))) (Zad (eVar 2) aNil)))))))
def Zer : List D -> FO := runF 3 Zeq
def Zdi : SS :=
 (sSeq (sAsg (Zbi 0 "Office" "now" 1 ZaJ [] aNil) (Zaq 2))
 (sSeq (ZcB (ZaB 2 Zbq [none, none] (Zad (eVar 2) (Zad (eFrz (eLst (Zad (eVar 1) aNil))) aNil))))
 (sSeq (ZcB (ZaB 2 ZbJ [none, none] (Zad (eVar 2) (Zad (eVar 1) aNil))))
 (sSeq (ZcB (ZaB 2 ZaX [none, none] (Zad (eFrz (Zbi 0 "Office" "doings" 1 ZaC [] aNil)) (Zad (eC (.int 200)) aNil))))
 (sRet (Zbi 0 "Office" "keep" 2 Zbc [none] (Zad (eFrz (ZaB 2 Zer [none, none] (Zad (eVar 2) (Zad (eVar 1) aNil)))) aNil)))))))
def Zdj : List D -> FO := runF 3 Zdi
def Zdk : SS :=
 (sIf (sT (eB oGt (eVar 0) (eVar 1))) (ZcI "NotDone" (uSeq uC (uSeq (Zgn (eVar 1)) (uSeq uC uC)))) ZaH)
def Zdl : List D -> FO := runF 2 Zdk
def Zbw : SS :=
 (sSeq (ZcB (ZaB 2 Zdl [none, none] (Zad (eVar 1) (Zad (eFrz (Zbi 0 "Office" "doings" 1 ZaC [] aNil)) aNil))))
 (sSeq (ZgZ 0 "Office" "stages" (Zgp (bFld "Office" "stages" (bVar 0)) (p2 oSub (pLen (bFld "Office" "stages" (bVar 0))) (pB (bVar 1)))))
 (sRet (Zbi 0 "Office" "doings" 1 ZaC [] aNil))))
def Za0 : List D -> FO := runF 2 Zbw
def ZdD : SS :=
 (sSeq (sIf (sT (eB oEq (eVar 1) (eC (.int 0)))) (sRet (Zbi 0 "Office" "put_ware" 2 ZbF [none] (Zad (eVar 2) aNil))) ZaH)
 (sSeq (sIf (sT (eB oEq (eVar 1) (eC (.int 1)))) (sRet (Zbi 0 "Office" "put_deed" 3 ZbH [none, none] (Zad (eVar 2) (Zad (eVar 3) aNil)))) ZaH)
 (sSeq (sIf (sT (eB oEq (eVar 1) (eC (.int 2)))) (sRet (Zbi 0 "Office" "change" 4 Zcb [none, none, none] (Zad (eVar 2) (Zad (eVar 3) (Zad (eVar 4) aNil))))) ZaH)
 (sSeq (sIf (sT (eB oEq (eVar 1) (eC (.int 3)))) (sRet (Zbi 0 "Office" "forbid" 2 Zcd [none] (Zad (eVar 2) aNil))) ZaH)
 (sSeq (sIf (sT (eB oEq (eVar 1) (eC (.int 4)))) (sRet (Zbi 0 "Office" "let" 2 Zdj [none] (Zad (eVar 2) aNil))) ZaH)
 (sSeq (sIf (sT (eB oEq (eVar 1) (eC (.int 5)))) (sRet (Zbi 0 "Office" "take_back" 2 Za0 [none] (Zad (eVar 2) aNil))) ZaH)
 (sRet (eC .non))))))))
def ZbY : List D -> FO := runF 5 ZdD
def Ze6 : SS :=
 (sSeq (sAsg (eC .non) (Zaq 5))
 (sSeq (sTry 6 ALLX (sAsg (eTup (Zad (eC (.str "told")) (Zad (eFrz (ZaB 5 ZbY [some 0, none, none, none, none] (aIo 0 (Zad (eVar 1) (Zad (eVar 2) (Zad (eVar 3) (Zad (eVar 4) aNil))))))) aNil))) (Zaq 5)) (sSeq (sAsg (eLst (Zad (e1 (oIsX ALLX ["BadName"]) (eVar 6)) (Zad (e1 (oIsX ALLX ["Taken"]) (eVar 6)) (Zad (e1 (oIsX ALLX ["NoDeed"]) (eVar 6)) (Zad (e1 (oIsX ALLX ["NoWare"]) (eVar 6)) aNil))))) (Zaq 7))
 (sSeq (sAsg (eLst (Zad (e1 (oIsX ALLX ["Forbidden"]) (eVar 6)) (Zad (e1 (oIsX ALLX ["NotForbidden"]) (eVar 6)) (Zad (e1 (oIsX ALLX ["BadNumber"]) (eVar 6)) aNil)))) (Zaq 8))
 (sSeq (sAsg (eLst (Zad (e1 (oIsX ALLX []) (eVar 6)) (Zad (e1 (oIsX ALLX ["NotDone"]) (eVar 6)) (Zad (e1 (oIsX ALLX ["NoRoom"]) (eVar 6)) aNil)))) (Zaq 9))
 (sAsg (eTup (Zad (eC (.str "refused")) (Zad (e2 oCat (e2 oCat (eVar 7) (eVar 8)) (eVar 9)) (Zad (e1 (oIsX ALLX ["BadName", "Taken", "NoDeed", "NoWare", "Forbidden", "NotForbidden", "BadNumber", "NotDone", "NoRoom"]) (eVar 6)) aNil)))) (Zaq 5))))))
 (sRet (eVar 5))))
def ZbK : List D -> FO := runF 10 Ze6
def ZbZ (R : List D -> FO) : SS :=
 (sSeq (sIf (sT (e1 (oIs2 "list" "tuple") (eVar 1))) (sSeq (sIf (sOr (sNot (sT (e1 (oIs2 "list" "tuple") (eVar 0)))) (sT (eB oNe (e1 (oIs "list") (eVar 0)) (e1 (oIs "list") (eVar 1))))) (sRet (eC (.bl false))) ZaH)
 (sSeq (sIf (sT (eB oNe (e1 oLen (eVar 0)) (e1 oLen (eVar 1)))) (sRet (eC (.bl false))) ZaH)
 (sSeq (sFor (Zg2 (eVar 0) (eVar 1)) (kTup Zd0 2 (ZaL (Zaq 2) (ZaL (Zaq 3) Zd3))) (sIf (sNot (sT (ZaB 2 R [none, none] (Zad (eVar 2) (Zad (eVar 3) aNil))))) (sRet (eC (.bl false))) ZaH))
 (sRet (eC (.bl true)))))) ZaH)
 (sSeq (sIf (sOr (sT (eB oIsN (eVar 1) (eC .non))) (sT (e1 (oIs "str") (eVar 1)))) (sRet (eAnd (eOr (eB oIsN (eVar 0) (eC .non)) (e1 (oIs "str") (eVar 0))) (eB oEq (eVar 0) (eVar 1)))) ZaH)
 (sSeq (sIf (sOr (sNot (sT (e1 (oIs "int") (eVar 0)))) (sT (eB oNe (e1 (oIs "bool") (eVar 0)) (e1 (oIs "bool") (eVar 1))))) (sRet (eC (.bl false))) ZaH)
 (sRet (eB oEq (eVar 0) (eVar 1))))))
def Zax : Nat -> List D -> FO
 | 0 => fun _ => .bad
 | j + 1 => runF 4 (ZbZ (Zax j))
def ZcT : SS :=
 (sRet (ZaB 2 (Zax 4) [none, none] (Zad (eVar 0) (Zad (eFrz (eTup (Zad (eC (.str "refused")) (Zad (Zcl (ZeG (eC (.int 10))) [none, some 1] (Zaq 0) Zds (eB oEq (eVar 0) (eVar 1))) (Zad (eC (.bl true)) aNil))))) aNil))))
def Za5 : List D -> FO := runF 2 ZcT
def Zes : SS :=
 (sSeq (sAsg (eVar 0) (kTup Zez 4 (ZaL (Zaq 1) (ZaL (Zaq 2) (ZaL (Zaq 3) (ZaL (Zaq 4) Zd3))))))
 (sRet (eLst (Zad (e1 ZcW (eVar 1)) (Zad (e1 ZcW (eVar 2)) (Zad (Zcl (iLst (eVar 3)) [none] (Zaq 0) Zds (e1 ZcW (eVar 0))) (Zad (e1 ZcW (eVar 4)) aNil)))))))
def Zet : List D -> FO := runF 5 Zes
def ZdW : SS :=
 (sSeq (sAsg (ZaB 1 Zet [none] (Zad (eVar 0) aNil)) (kTup Zez 4 (ZaL (Zaq 5) (ZaL (Zaq 6) (ZaL (Zaq 7) (ZaL (Zaq 8) Zd3))))))
 (sSeq (sIf (sT (eB oEq (eVar 1) (eC (.int 0)))) (sSeq (sApp 5 (eVar 2))
 (sAsg (Zcl (iLst (eVar 7)) [none] (Zaq 0) Zds (e2 oCat (eVar 0) (Zik [0]))) (Zaq 7))) ZaH)
 (sSeq (sIf (sT (eB oEq (eVar 1) (eC (.int 1)))) (sSeq (sApp 6 (eVar 2))
 (sSeq (sApp 7 (Zcl (iLst (eVar 5)) [none, some 3] (Zaq 0) Zds (Zf1 (eVar 1) (eVar 0) (eC (.int 0)))))
 (sApp 8 (eC (.bl false))))) ZaH)
 (sSeq (sIf (sT (eB oEq (eVar 1) (eC (.int 2)))) (Zig 7 (eVar 4) (pIdx (bVar 6) (pB (bVar 2))) (pIdx (bVar 5) (pB (bVar 3)))) ZaH)
 (sSeq (sIf (sT (eB oIn (eVar 1) (eTup (Zad (eC (.int 3)) (Zad (eC (.int 4)) aNil))))) (Zlo 8 (eB oEq (eVar 1) (eC (.int 3))) (pIdx (bVar 6) (pB (bVar 2)))) ZaH)
 (sRet (eLst (Zad (eVar 5) (Zad (eVar 6) (Zad (eVar 7) (Zad (eVar 8) aNil)))))))))))
def ZbA : List D -> FO := runF 9 ZdW
def Zcs : SS :=
 (sRet (e1 ZcW (e1 (oFld "Standing" "deed_names") (Zbi 0 "Office" "now" 1 ZaJ [] aNil))))
def Zct : List D -> FO := runF 1 Zcs
def Zcu : SS :=
 (sRet (e1 ZcW (e1 (oFld "Standing" "ware_names") (Zbi 0 "Office" "now" 1 ZaJ [] aNil))))
def Zcv : List D -> FO := runF 1 Zcu
def ZbL : SS :=
 (sRet (Zcl (iLst (e1 (oFld "Standing" "deed_names") (eVar 0))) [none, some 0] (Zaq 0) (sT (eB oIn (eVar 0) (e1 (oFld "Standing" "stopped") (eVar 1)))) (eVar 0)))
def Zcr : List D -> FO := runF 1 ZbL
def Zbx : SS :=
 (sRet (ZaB 1 Zcr [none] (Zad (eFrz (Zbi 0 "Office" "now" 1 ZaJ [] aNil)) aNil)))
def Zby : List D -> FO := runF 1 Zbx
def ZdX : SS :=
 (sRet (e2 oIx (e2 oIx (e1 (oFld "Standing" "rows") (eVar 0)) (eIdx (e1 (oFld "Standing" "deed_names") (eVar 0)) (eVar 1))) (eIdx (e1 (oFld "Standing" "ware_names") (eVar 0)) (eVar 2))))
def ZeO : List D -> FO := runF 3 ZdX
def Zce : SS :=
 (sSeq (ZcB (ZaB 2 Zbq [none, none] (Zad (eFrz (Zbi 0 "Office" "now" 1 ZaJ [] aNil)) (Zad (eFrz (eLst (Zad (eVar 1) aNil))) aNil))))
 (sSeq (ZcB (ZaB 2 Zbp [none, none] (Zad (eFrz (Zbi 0 "Office" "now" 1 ZaJ [] aNil)) (Zad (eFrz (eLst (Zad (eVar 2) aNil))) aNil))))
 (sRet (ZaB 3 ZeO [none, none, none] (Zad (eFrz (Zbi 0 "Office" "now" 1 ZaJ [] aNil)) (Zad (eVar 1) (Zad (eVar 2) aNil)))))))
def ZbB : List D -> FO := runF 3 Zce
def Zcf : SS :=
 (sSeq (sAsg (eVar 1) (kTup Zez 4 (ZaL (Zaq 3) (ZaL (Zaq 4) (ZaL (Zaq 5) (ZaL (Zaq 6) Zd3))))))
 (sSeq (sIf (sOr (sNot (sT (ZaB 2 (Zax 4) [none, none] (Zad (eFrz (Zbi 0 "Office" "wares" 1 Zcv [] aNil)) (Zad (eVar 3) aNil))))) (sNot (sT (ZaB 2 (Zax 4) [none, none] (Zad (eFrz (Zbi 0 "Office" "deeds" 1 Zct [] aNil)) (Zad (eVar 4) aNil)))))) (sRet (eC (.bl false))) ZaH)
 (sSeq (sIf (sNot (sT (ZaB 2 (Zax 4) [none, none] (Zad (eFrz (Zbi 0 "Office" "forbidden" 1 Zby [] aNil)) (Zad (eFrz (Zcl (Zg2 (eVar 4) (eVar 6)) [none, none] (kTup Zd0 2 (ZaL (Zaq 0) (ZaL (Zaq 1) Zd3))) (sT (eVar 1)) (eVar 0))) aNil))))) (sRet (eC (.bl false))) ZaH)
 (sSeq (sIf (sNot (sT (ZaB 2 (Zax 4) [none, none] (Zad (eFrz (Zbi 0 "Office" "doings" 1 ZaC [] aNil)) (Zad (eVar 2) aNil))))) (sRet (eC (.bl false))) ZaH)
 (sSeq (sFor (ZeG (e1 oLen (eVar 4))) (Zaq 7) (sFor (ZeG (e1 oLen (eVar 3))) (Zaq 8) (sIf (sNot (sT (ZaB 2 (Zax 4) [none, none] (Zad (eFrz (Zbi 0 "Office" "number" 3 ZbB [none, none] (Zad (eFrz (e2 oIx (eVar 4) (eVar 7))) (Zad (eFrz (e2 oIx (eVar 3) (eVar 8))) aNil)))) (Zad (eFrz (e2 oIx (e2 oIx (eVar 5) (eVar 7)) (eVar 8))) aNil))))) (sRet (eC (.bl false))) ZaH)))
 (sRet (eC (.bl true))))))))
def Za8 : List D -> FO := runF 9 Zcf
def Zeu : SS :=
 (sSeq (sAsg (eLst (Zad (eLst (Zad (eC (.int 0)) (Zad (eC (.str "other")) (Zad (eC (.int 0)) (Zad (eC (.int 0)) aNil))))) (Zad (eLst (Zad (eC (.int 1)) (Zad (eC (.str "other")) (Zad Znf (Zad (eC (.int 0)) aNil))))) (Zad (eLst (Zad (eC (.int 3)) (Zad (eC (.str "deed")) (Zad (eC (.int 0)) (Zad (eC (.int 0)) aNil))))) (Zad (eLst (Zad (eC (.int 4)) (Zad (eC (.str "deed")) (Zad (eC (.int 0)) (Zad (eC (.int 0)) aNil))))) (Zad (eLst (Zad (eC (.int 2)) (Zad (eC (.str "deed")) (Zad (eC (.str "ware")) (Zad (eC (.int 10)) aNil))))) aNil)))))) (Zaq 2))
 (sSeq (sFor (iLst (eVar 2)) (kTup Zez 4 (ZaL (Zaq 3) (ZaL (Zaq 4) (ZaL (Zaq 5) (ZaL (Zaq 6) Zd3))))) (sSeq (sAsg (ZaB 4 Zei [none, none, none, none] (Zad (eFrz (eP (pIx (bVar 1) (pNeg (pC (.int 1)))))) (Zad (eFrz (e2 oSub (Zbg (e1 oLen (eVar 1))) (eC (.int 1)))) (Zad (eVar 3) (Zad (eVar 4) aNil))))) (Zaq 7))
 (sSeq (sAsg (ZaB 5 ZbK [some 0, none, none, none, none] (aIo 0 (Zad (eVar 3) (Zad (eVar 4) (Zad (eVar 5) (Zad (eVar 6) aNil)))))) (Zaq 8))
 (sIf (sT (eB oGe (eVar 7) (eC (.int 0)))) (sIf (sNot (sT (ZaB 2 Za5 [none, none] (Zad (eVar 8) (Zad (eVar 7) aNil))))) (sRet (eC (.bl false))) ZaH) (sSeq (sApp 1 (eFrz (ZaB 5 ZbA [none, none, none, none, none] (Zad (eFrz (eP (pIx (bVar 1) (pNeg (pC (.int 1)))))) (Zad (eVar 3) (Zad (eVar 4) (Zad (eVar 5) (Zad (eVar 6) aNil))))))))
 (sIf (sNot (sT (ZaB 2 (Zax 4) [none, none] (Zad (eVar 8) (Zad (eFrz (eTup (Zad (eC (.str "told")) (Zad (e2 oSub (Zbg (e1 oLen (eVar 1))) (eC (.int 1))) aNil)))) aNil))))) (sRet (eC (.bl false))) ZaH))))))
 (sRet (ZaB 3 Za8 [some 0, none, none] (aIo 0 (Zad (eFrz (eP (pIx (bVar 1) (pNeg (pC (.int 1)))))) (Zad (eFrz (e2 oSub (Zbg (e1 oLen (eVar 1))) (eC (.int 1)))) aNil)))))))
def ZdE : List D -> FO := runF 9 Zeu
def Zdm : SS :=
 (sSeq (sFor (ZeG (eVar 2)) (Zaq 4) (sSeq (sAsg (e2 oIx (eLst (Zad (eLst (Zad (eC (.int 0)) (Zad (eC (.str "ware")) (Zad (eC (.int 0)) (Zad (eC (.int 0)) aNil))))) (Zad (eLst (Zad (eC (.int 1)) (Zad (eC (.str "deed")) (Zad (eD1 "ware" (eC (.int 3))) (Zad (eC (.int 0)) aNil))))) (Zad (eLst (Zad (eC (.int 2)) (Zad (eC (.str "deed")) (Zad (eC (.str "ware")) (Zad (e2 oIx (eVar 3) (e2 oMod (eVar 4) (e1 oLen (eVar 3)))) aNil))))) aNil)))) (e2 oMin (eVar 4) (eC (.int 2)))) (Zaq 5))
 (sSeq (sAsg (ZaB 5 ZbK [some 0, none, none, none, none] (aIo 0 (Zad (eFrz (e2 oIx (eVar 5) (eC (.int 0)))) (Zad (eFrz (e2 oIx (eVar 5) (eC (.int 1)))) (Zad (eFrz (e2 oIx (eVar 5) (eC (.int 2)))) (Zad (eFrz (e2 oIx (eVar 5) (eC (.int 3)))) aNil)))))) (Zaq 6))
 (sIf (sT (eB oGt (Zbg (e1 oLen (eVar 1))) (eC (.int 200)))) (sIf (sNot (sT (ZaB 2 Za5 [none, none] (Zad (eVar 6) (Zad (eC (.int 9)) aNil))))) (sRet (eC (.bl false))) ZaH) (sSeq (sApp 1 (eFrz (ZaB 5 ZbA [none, none, none, none, none] (Zad (eFrz (eP (pIx (bVar 1) (pNeg (pC (.int 1)))))) (Zad (eFrz (e2 oIx (eVar 5) (eC (.int 0)))) (Zad (eFrz (e2 oIx (eVar 5) (eC (.int 1)))) (Zad (eFrz (e2 oIx (eVar 5) (eC (.int 2)))) (Zad (eFrz (e2 oIx (eVar 5) (eC (.int 3)))) aNil))))))))
 (sIf (sNot (sT (ZaB 2 (Zax 4) [none, none] (Zad (eVar 6) (Zad (eFrz (eTup (Zad (eC (.str "told")) (Zad (e2 oSub (Zbg (e1 oLen (eVar 1))) (eC (.int 1))) aNil)))) aNil))))) (sRet (eC (.bl false))) ZaH))))))
 (sRet (eC (.bl true))))
def Zdn : List D -> FO := runF 7 Zdm
def ZkG : SS :=
 (sSeq (sAsg (ZaB 2 Zbv [none, none] (Zad (eVar 0) (Zad (eC (.int 0)) aNil))) (Zaq 1))
 (sSeq (sAsg (e2 oIx (eLst (Zad (e2 oMod (ZaB 2 Zbv [none, none] (Zad (eVar 0) (Zad (eC (.int 1)) aNil))) (eC (.int 206))) (Zad (e2 oAdd (eC (.int 198)) (e2 oMod (ZaB 2 Zbv [none, none] (Zad (eVar 0) (Zad (eC (.int 1)) aNil))) (eC (.int 5)))) aNil))) (e1 oInt (eB oEq (e2 oMod (eVar 1) (eC (.int 3))) (eC (.int 2))))) (Zaq 2))
 (sSeq (sAsg (Zcl (iLst (ZaB 4 ZdU [none, none, none, none] (Zad (eFrz (ZaB 2 Zbv [none, none] (Zad (eVar 0) (Zad (eC (.int 2)) aNil)))) (Zad (eC (.int 60)) (Zad (eC (.int 19)) (Zad (eFrz (eB oEq (e2 oMod (e2 oDiv (eVar 1) (eC (.int 3))) (eC (.int 2))) (eC (.int 1)))) aNil)))))) [none] (Zaq 0) Zds (e2 oSub (eVar 0) (eC (.int 9)))) (Zaq 3))
 (sSeq (sAsg (Zgm "Office" 1 ZcN aNil) (Zaq 4))
 (sSeq (sAsg (eLst (Zad (eFrz (eLst (Zad (eLst aNil) (Zad (eLst aNil) (Zad (eLst aNil) (Zad (eLst aNil) aNil)))))) aNil)) (Zaq 5))
 (sSeq (sIf (sOr (sNot (sT (ZaB 4 Zdn [some 4, some 5, none, none] (aIo 4 (aIo 5 (Zad (eVar 2) (Zad (eVar 3) aNil))))))) (sNot (sT (ZaB 2 ZdE [some 4, some 5] (aIo 4 (aIo 5 aNil)))))) (sRet (eC (.bl false))) ZaH)
 (sSeq (sAsg (e2 oIx (eLst (Zad (e2 oMod (ZaB 2 Zbv [none, none] (Zad (eVar 0) (Zad (eC (.int 3)) aNil))) (eC (.int 206))) (Zad (e2 oMod (ZaB 2 Zbv [none, none] (Zad (eVar 0) (Zad (eC (.int 3)) aNil))) (eC (.int 4))) aNil))) (e2 oMod (e2 oDiv (eVar 1) (eC (.int 6))) (eC (.int 2)))) (Zaq 6))
 (sSeq (sFor (ZeG (eC (.int 2))) (Zaq 7) (sSeq (sAsg (ZaB 5 ZbK [some 4, none, none, none, none] (aIo 4 (Zad (eC (.int 5)) (Zad (eVar 6) (Zad (eC (.int 0)) (Zad (eC (.int 0)) aNil)))))) (Zaq 8))
 (sSeq (sIf (sT (eB oGe (eVar 6) (Zbg (e1 oLen (eVar 5))))) (sIf (sNot (sT (ZaB 2 Za5 [none, none] (Zad (eVar 8) (Zad (eC (.int 8)) aNil))))) (sRet (eC (.bl false))) ZaH) (sSeq (sAsg (Zgp (bVar 5) (p2 oSub (pLen (bVar 5)) (pB (bVar 6)))) (Zaq 5))
 (sIf (sNot (sT (ZaB 2 (Zax 4) [none, none] (Zad (eVar 8) (Zad (eFrz (eTup (Zad (eC (.str "told")) (Zad (e2 oSub (Zbg (e1 oLen (eVar 5))) (eC (.int 1))) aNil)))) aNil))))) (sRet (eC (.bl false))) ZaH)))
 (sIf (sNot (sT (ZaB 3 Za8 [some 4, none, none] (aIo 4 (Zad (eFrz (eP (pIx (bVar 5) (pNeg (pC (.int 1)))))) (Zad (eFrz (e2 oSub (Zbg (e1 oLen (eVar 5))) (eC (.int 1)))) aNil)))))) (sRet (eC (.bl false))) ZaH))))
 (sSeq (sIf (sT (eB oGt (Zbg (e1 oLen (eVar 5))) (eC (.int 1)))) (sSeq (sAsg (Zgp (bVar 5) (pNeg (pC (.int 1)))) (Zaq 5))
 (sIf (sNot (sT (ZaB 2 (Zax 4) [none, none] (Zad (eFrz (Zbi 4 "Office" "take_back" 2 Za0 [none] (Zad (eC (.int 1)) aNil))) (Zad (eFrz (e2 oSub (Zbg (e1 oLen (eVar 5))) (eC (.int 1)))) aNil))))) (sRet (eC (.bl false))) ZaH)) ZaH)
 (sRet (ZaB 2 ZdE [some 4, some 5] (aIo 4 (aIo 5 aNil)))))))))))))
def ZlC : List D -> FO := runF 9 ZkG
section
variable {P : Program} {w : World} {K : PySem.W.Frag} {mg : Str -> Option Value} {base : Heap} (T : Txt K mg)
include T
theorem Zev : CalX P w K mg base "_law_at" 1 ["_law_script", "_law_k"] Zbv := by
 refine T.f_law_at.ok (body := Ze3) ZkF (by decide) (fun _ => .inr rfl) fun f cdv A outer s H E hr => ?_
 refine ⟨_, (Zaf (Za2 (ZaD ZnV (pvB 1) (Zat (Zda (K := K) rfl) rfl T.B.len PySem.boot_len (Zaa (pvB 0) Zae)) (ZaZ _)) (Zah (Zav (Zb0 (q_ix (K := K) rfl) (pvB 0) (pvB 1) (fun _ _ => rfl)))) Zaz)
 (Zah (Zav Zam))), fun fx => ?_⟩
 unfold Ze3
 exact (Zan (Za3 (ZaE (td_b Zoh Zac (Za9 Zb1 Zac))) (Zaw (ZaK Zc9 Zac Zac)) ZaA)
 (Zaw Zal))
theorem ZkH : CalX P w K mg base "_law_mix" 1 ["_law_cell", "_law_k"] Zeh := by
 refine T.f_law_mix.ok (body := Ze4) sc_law_mix (by decide) (fun _ => .inr rfl) fun f cdv A outer s H E hr => ?_
 refine ⟨_, (Zaf (ZaS (i := 2) sc_law_mix.nd (Zbe Zdx (Zbe ZjI (Zbe ZjI (Zbe ZgV (pvB 0) Zam) (Zbe ZgV (pvB 1) Zam)) Zam) Zam))
 (Zah (Zav (Zbe Zdx (Zbe ZgV (Zbe Zdx (Zbe ZgV (pvB 2) (pvB 2)) Zam) Zam) Zam)))), fun fx => ?_⟩
 unfold Ze4
 exact (Zan (ZaV (ZaK Zdy (ZaK Zkh (ZaK Zkh (ZaK ZiK Zac Zal) (ZaK ZiK Zac Zal)) Zal) Zal) Zao)
 (Zaw (ZaK Zdy (ZaK ZiK (ZaK Zdy (ZaK ZiK Zac Zac) Zal) Zal) Zal)))
theorem Ziq : CalX P w K mg base "_law_draws" 2 ["_law_cell", "_law_many", "_law_size", "_law_mixed"] ZdU := by
 refine T.f_law_draws.ok (body := ZdT) sc_law_draws (by decide) (fun _ => .inr rfl) fun f cdv A outer s H E hr => ?_
 refine ⟨_, (Zaf (ZaS (i := 4) sc_law_draws.nd (ZaI Zae))
 (Zaf (Zd5 PassesOwn.leaving rfl (Zdw rfl T.B.range (Zaa (pvB 1) Zae)) (Zau (i := 5) sc_law_draws.nd) (Zah (Za2 (Zbr (pvB 3)) (Zah (ZaO (ZcK (K := K) rfl (pvB 4) (Zaa (Zbe Zdx (Zbe ZgP (Zay (K := K) (mg := mg) (ZkH T) rfl rfl Zai (hr.mono (by decide)) (Zaa (pvB 0) (Zaa (pvB 5) Zae))) Zam) (pvB 2)) Zae)))) (Zaf (ZaO (ZcK (K := K) rfl (pvB 4) (Zaa (Zbe Zdx (pvB 0) (pvB 2)) Zae)))
 (Zah (ZaS (i := 0) sc_law_draws.nd (Zbe ZgP (pvB 0) (pvB 2))))))))
 (Zah (Zav (pvB 4))))), fun fx => ?_⟩
 unfold ZdT
 exact (Zan (ZaV (ZaM Zag) Zao)
 (Zan (Zd9 (ZdA Zac) Zao (Za3 (Zbh Zac) (Zfv (ZaK Zdy (ZaK ZiL (Zar (Zab Zac (Zab Zac Zag))) Zal) Zac)) (Zan (Zfv (ZaK Zdy Zac Zac))
 (ZaV (ZaK ZiL Zac Zac) Zao))))
 (Zaw Zac)))
theorem Zbn : CalI P w K mg base "Standing" 1 ["self", "ware_names", "deed_names", "rows", "stopped"] ZaN := by
 refine T.f_Standing_init.ok (body := Zbz) ZfA (by decide) (fun _ => .inr rfl) fun f cdv A outer s H E hr => ?_
 refine ⟨_, (Zaf (ZgD (K := K) rfl (pvB 0) (pvB 1))
 (Zaf (ZgD (K := K) rfl (pvB 0) (pvB 2))
 (Zaf (ZgD (K := K) rfl (pvB 0) (pvB 3))
 (Zah (ZgD (K := K) rfl (pvB 0) (pvB 4)))))), fun fx => ?_⟩
 unfold Zbz
 exact (Zan (Zfa T.fok_Standing_ware_names Zac)
 (Zan (Zfa T.fok_Standing_deed_names Zac)
 (Zan (Zfa T.fok_Standing_rows Zac)
 (Zfa T.fok_Standing_stopped Zac))))
theorem ZfD : CalX P w K mg base "nothing_put_in" 3 [] ZbP := by
 refine T.f_nothing_put_in.ok (body := ZbO) Zfj (by decide) (fun _ => .inr rfl) fun f cdv A outer s H E hr => ?_
 refine ⟨_, (Zah (Zav (ZgC (K := K) (mg := mg) (Zbn T) rfl rfl Zai (hr.mono (by decide)) (Zaa (ZaI Zae) (Zaa (ZaI Zae) (Zaa (ZaI Zae) (Zaa (ZaI Zae) Zae))))))), fun fx => ?_⟩
 unfold ZbO
 exact (Zaw (ZeH T.c_Standing (Zab (Zas (ZaM Zag)) (Zab (Zas (ZaM Zag)) (Zab (Zas (ZaM Zag)) (Zab (Zas (ZaM Zag)) Zag))))))
theorem Zg8 : CalI P w K mg base "Office" 4 ["self"] ZcN := by
 refine T.f_Office_init.ok (body := ZcM) Zgq (by decide) (fun _ => .inr rfl) fun f cdv A outer s H E hr => ?_
 refine ⟨_, (Zah (ZgD (K := K) rfl (pvB 0) (ZaI (Zaa (Znj (K := K) (mg := mg) (ZfD T) rfl rfl Zai (hr.mono (by decide))) Zae)))), fun fx => ?_⟩
 unfold ZcM
 exact (Zfa T.fok_Office_stages (ZaM (Zab (Zas (Zar Zag)) Zag)))
theorem ZkI : CalX P w K mg base "_law_due" 1 ["_law_state", "_law_kept", "_law_kind", "_law_a"] Zei := by
 refine T.f_law_due.ok (body := Ze5) sc_law_due (by decide) (fun _ => .inr rfl) fun f cdv A outer s H E hr => ?_
 refine ⟨_, (Zaf (ZfM (pvB 0) (ZhE (K := K) (n := 4) rfl rfl (ZaP (Zau (i := 4) sc_law_due.nd) (ZaP (Zau (i := 5) sc_law_due.nd) (ZaP (Zau (i := 6) sc_law_due.nd) (ZaP (Zau (i := 7) sc_law_due.nd) ZeC))))))
 (Zaf (Za2 (PW.pt (Ziw (ZaD ZnV (pvB 2) Zam (ZaZ _)) (ZgN (ZaD (q_in (K := K) rfl) (pvB 3) (Zb0 (q_ix (K := K) rfl) (ZaI (Zaa (pvB 4) (Zaa (pvB 5) Zae))) (pvB 2) (fun _ _ => rfl)) (by with_unfolding_all rfl))))) (Zah (Zav Zam)) Zaz)
 (Zaf (Za2 (PW.pt (Ziw (ZaD Zi8 (pvB 2) Zam (ZaZ _)) (ZgN (ZaD (Zg1 (K := K) rfl) (pvB 3) (pvB 5) (by with_unfolding_all rfl))))) (Zah (Zav Zam)) Zaz)
 (Zaf (Za2 (PW.pt (Ziw (ZaD (q_in (K := K) rfl) (pvB 2) (Zey (Zaa Zam (Zaa Zam Zae))) (by with_unfolding_all rfl)) (ZgN (Zbr (Zb0 (q_ix (K := K) rfl) (pvB 7) (ZdK (K := K) rfl (pvB 5) (Zaa (pvB 3) Zae)) (fun _ _ => rfl)))))) (Zah (Zav Zam)) Zaz)
 (Zaf (Za2 (PW.pt (Ziw (ZaD Zd7 (pvB 2) Zam (ZaZ _)) (ZgN (ZbV (Zbr (Zb0 (q_ix (K := K) rfl) (pvB 7) (ZdK (K := K) rfl (pvB 5) (Zaa (pvB 3) Zae)) (fun _ _ => rfl))))))) (Zah (Zav Zam)) Zaz)
 (Zaf (Za2 (ZaD Zd7 (pvB 2) Zam (ZaZ _)) (Zah (Zav Zam)) Zaz)
 (Zaf (Za2 (ZaD Zi8 (pvB 1) Zam (ZaZ _)) (Zah (Zav Zam)) Zaz)
 (Zah (Zav (ZgO ZeQ Zam)))))))))), fun fx => ?_⟩
 unfold Ze5
 exact (Zan (ZaV Zac (ZfV (ZaQ Zao (ZaQ Zao (ZaQ Zao (ZaQ Zao ZeF))))))
 (Zan (Za3 (ZiH (ZaE (td_b Zoh Zac Zal)) (ZaE (td_b Zjo Zac (ZaK Zc9 (ZaM (Zab Zac (Zab Zac Zag))) Zac)))) (Zaw Zal) ZaA)
 (Zan (Za3 (ZiH (ZaE (td_b Zjn Zac Zal)) (ZaE (td_b ZfJ Zac Zac))) (Zaw Zal) ZaA)
 (Zan (Za3 (ZiH (ZaE (td_b Zjo Zac (Zft (Zab Zal (Zab Zal Zag))))) (Zbh (ZaK Zc9 Zac (ZfL Zac Zac)))) (Zaw Zal) ZaA)
 (Zan (Za3 (ZiH (ZaE (td_b Zea Zac Zal)) (ZbW (Zbh (ZaK Zc9 Zac (ZfL Zac Zac))))) (Zaw Zal) ZaA)
 (Zan (Za3 (ZaE (td_b Zea Zac Zal)) (Zaw Zal) ZaA)
 (Zan (Za3 (ZaE (td_b Zjn Zac Zal)) (Zaw Zal) ZaA)
 (Zaw (Zpr Zog Zal)))))))))
theorem ZaY : CalM P w K mg base "Office" "now" 1 ["self"] ZaJ := by
 refine T.f_Office_now.ok (body := Zdg) Zg5 (by decide) (fun _ => .inr rfl) fun f cdv A outer s H E hr => ?_
 refine ⟨_, (Zah (Zav (Zb0 (q_ix (K := K) rfl) (Zbf (K := K) rfl (pvB 0)) (ZgO ZeQ Zam) (fun _ _ => rfl)))), fun fx => ?_⟩
 unfold Zdg
 exact (Zaw (td_p (Zjp (Zgz T.fok_Office_stages Zbs) (ZfY Zf3))))
theorem Zjt : CalX P w K mg base "has_form" 1 ["name"] Zep := by
 refine T.f_has_form.ok (body := Zeo) Zio (by decide) (fun _ => .inr rfl) fun f cdv A outer s H E hr => ?_
 refine ⟨_, (Zah (Zav (ZlR (ZkZ ZnW ZnW Zam (Zat (Zda (K := K) rfl) rfl T.B.len PySem.boot_len (Zaa (pvB 0) Zae)) (ZcD (mg := mg) rfl T.g_LONGEST)) (ZjE (Zat (Zpp (K := K) rfl rfl) rfl T.B.all boot_all (Zaa (Zjh (Zn7 (pvB 0)) .nil (.own (x := "sign") .nil) (fun _ _ _ _ => (Zau (i := 0) (show (["sign"] : List Str).Nodup from by decide +kernel))) (fun _ _ _ _ => ZdH) (fun _ _ _ _ => (Zd8 Zpq (pvB 0) (Zno (mg := mg) rfl T.g_LETTERS) (by with_unfolding_all rfl)))) Zae)))))), fun fx => ?_⟩
 unfold Zeo
 exact (Zaw (Zl2 (Zli Zoi Zoi Zal (Za9 Zb1 Zac) Zal) (Za9 ZoA (ZcC (Zoz Zac) Zao ZcL (td_b Zoy Zac Zcw)))))
theorem Zd2 : CalX P w K mg base "check_new_name" 2 ["name", "names"] Zbt := by
 refine T.f_check_new_name.ok (body := ZbQ) Zfk (by decide) (fun _ => .inr rfl) fun f cdv A outer s H E hr => ?_
 refine ⟨_, (Zaf (Za2 (ZbV (Zbr (Zay (K := K) (mg := mg) (Zjt T) rfl rfl Zai (hr.mono (by decide)) (Zaa (pvB 0) Zae)))) (Zah (ZdL (K := K) (mg := mg) rfl rfl (fun _ _ _ _ _ _ _ _ I h q => ZdI I h q) T.c_BadName T.x_BadName (ZdJ (ZaT (Zfb (pvB 0)) (ZaT Za1 (ZaT (ZfZ (ZcD (mg := mg) rfl T.g_LONGEST)) (ZaT Za1 ZeZ))))))) Zaz)
 (Zah (Za2 (ZaD (q_in (K := K) rfl) (pvB 0) (pvB 1) (by with_unfolding_all rfl)) (Zah (ZdL (K := K) (mg := mg) rfl rfl (fun _ _ _ _ _ _ _ _ I h q => ZdI I h q) T.c_Taken T.x_Taken (ZdJ (ZaT Za1 (ZaT (Zfb (pvB 0)) (ZaT Za1 ZeZ)))))) Zaz))), fun fx => ?_⟩
 unfold ZbQ
 exact (Zan (Za3 (ZbW (Zbh (Zar (Zab Zac Zag)))) (ZcJ (k := 4) T.c_BadName (ZaU (Zfc Zac) (ZaU (Zbj (by decide)) (ZaU (Zf0 Zal) (ZaU (Zbj (by decide)) Ze0)))) (by decide)) ZaA)
 (Za3 (ZaE (td_b Zjo Zac Zac)) (ZcJ (k := 3) T.c_Taken (ZaU (Zbj (by decide)) (ZaU (Zfc Zac) (ZaU (Zbj (by decide)) Ze0))) (by decide)) ZaA))
theorem ZbC : CalX P w K mg base "check_room" 1 ["many", "most"] ZaX := by
 refine T.f_check_room.ok (body := Zdh) Zg6 (by decide) (fun _ => .inr rfl) fun f cdv A outer s H E hr => ?_
 refine ⟨_, (Zah (Za2 (ZaD Zmx (pvB 0) (pvB 1) (ZaZ _)) (Zah (ZdL (K := K) (mg := mg) rfl rfl (fun _ _ _ _ _ _ _ _ I h q => ZdI I h q) T.c_NoRoom T.x_NoRoom (ZdJ (ZaT Za1 (ZaT (ZfZ (pvB 1)) (ZaT Za1 ZeZ)))))) Zaz)), fun fx => ?_⟩
 unfold Zdh
 exact (Za3 (ZaE (td_b Zm3 Zac Zac)) (ZcJ (k := 3) T.c_NoRoom (ZaU (Zbj (by decide)) (ZaU (Zf0 Zac) (ZaU (Zbj (by decide)) Ze0))) (by decide)) ZaA)
theorem ZaR : CalM P w K mg base "Office" "doings" 1 ["self"] ZaC := by
 refine T.f_Office_doings.ok (body := Zb4) ZfB (by decide) (fun _ => .inr rfl) fun f cdv A outer s H E hr => ?_
 refine ⟨_, (Zah (Zav (Zbe Zd6 (Zat (Zda (K := K) rfl) rfl T.B.len PySem.boot_len (Zaa (Zbf (K := K) rfl (pvB 0)) Zae)) Zam))), fun fx => ?_⟩
 unfold Zb4
 exact (Zaw (ZaK ZeY (td_p (Zkj (Zgz T.fok_Office_stages Zbs))) Zal))
theorem Zcg : CalM P w K mg base "Office" "keep" 2 ["self", "standing"] Zbc := by
 refine T.f_Office_keep.ok (body := ZcO) Zgr (by decide) (fun _ => .inr rfl) fun f cdv A outer s H E hr => ?_
 refine ⟨_, (Zaf (ZaO (ZcK (K := K) rfl (Zbf (K := K) rfl (pvB 0)) (Zaa (pvB 1) Zae)))
 (Zah (Zav (Za7 (K := K) (mg := mg) (ZaR T) rfl rfl Zai (hr.mono (by decide)) (pvB 0))))), fun fx => ?_⟩
 unfold ZcO
 exact (Zan (Zm7 T.fok_Office_stages (tp_b Zbs))
 (Zaw (ZaF T.c_Office Zag)))
theorem Zga : CalX P w K mg base "with_new_ware" 3 ["standing", "name"] Zb6 := by
 refine T.f_with_new_ware.ok (body := Zb5) sc_with_new_ware (by decide) (fun _ => .inr rfl) fun f cdv A outer s H E hr => ?_
 refine ⟨_, (Zaf (Zji (i := 2) sc_with_new_ware.nd rfl (Zbu (K := K) rfl (Zbf (K := K) rfl (pvB 0))) .nil (.own (x := "row") .nil) (fun _ _ _ _ => (Zau (i := 0) (show (["row"] : List Str).Nodup from by decide +kernel))) (fun _ _ _ _ => ZdH) (fun _ _ _ _ => (Zbe Zfs (pvB 0) (Zj5 (ns := [0]) rfl))))
 (Zah (Zav (ZgC (K := K) (mg := mg) (Zbn T) rfl rfl Zai (hr.mono (by decide)) (Zaa (Zbe Zfs (Zbf (K := K) rfl (pvB 0)) (ZaI (Zaa (pvB 1) Zae))) (Zaa (Zbf (K := K) rfl (pvB 0)) (Zaa (pvB 2) (Zaa (Zbf (K := K) rfl (pvB 0)) Zae)))))))), fun fx => ?_⟩
 unfold Zb5
 exact (Zan (ZaV (ZcC (Zb2 (ZaW T.fok_Standing_rows Zac)) Zao ZcL (ZaK Zfu Zac Zkt)) Zao)
 (Zaw (ZeH T.c_Standing (Zab (Zas (ZaK Zfu (ZaW T.fok_Standing_ware_names Zac) (ZaM (Zab Zac Zag)))) (Zab (Zas (ZaW T.fok_Standing_deed_names Zac)) (Zab Zac (Zab (Zas (ZaW T.fok_Standing_stopped Zac)) Zag)))))))
theorem Zfm : CalM P w K mg base "Office" "put_ware" 4 ["self", "name"] ZbF := by
 refine T.f_Office_put_ware.ok (body := ZbE) sc_Office_put_ware (by decide) (fun _ => .inr rfl) fun f cdv A outer s H E hr => ?_
 refine ⟨_, (Zaf (ZaS (i := 2) sc_Office_put_ware.nd (Za7 (K := K) (mg := mg) (ZaY T) rfl rfl Zai (hr.mono (by decide)) (pvB 0)))
 (Zaf (ZaO (Zay (K := K) (mg := mg) (Zd2 T) rfl rfl Zai (hr.mono (by decide)) (Zaa (pvB 1) (Zaa (Zbf (K := K) rfl (pvB 2)) Zae))))
 (Zaf (ZaO (Zay (K := K) (mg := mg) (ZbC T) rfl rfl Zai (hr.mono (by decide)) (Zaa (Zat (Zda (K := K) rfl) rfl T.B.len PySem.boot_len (Zaa (Zbf (K := K) rfl (pvB 2)) Zae)) (Zaa (ZcD (mg := mg) rfl T.g_MOST_WARES) Zae))))
 (Zaf (ZaO (Zay (K := K) (mg := mg) (ZbC T) rfl rfl Zai (hr.mono (by decide)) (Zaa (Za7 (K := K) (mg := mg) (ZaR T) rfl rfl Zai (hr.mono (by decide)) (pvB 0)) (Zaa (ZcD (mg := mg) rfl T.g_MOST_DOINGS) Zae))))
 (Zah (Zav (Zd1 (K := K) (mg := mg) (Zcg T) rfl rfl Zai (hr.mono (by decide)) (pvB 0) (Zaa (Zay (K := K) (mg := mg) (Zga T) rfl rfl Zai (hr.mono (by decide)) (Zaa (pvB 2) (Zaa (pvB 1) Zae))) Zae)))))))), fun fx => ?_⟩
 unfold ZbE
 exact (Zan (ZaV (ZaF T.c_Office Zag) Zao)
 (Zan (Zba (Zar (Zab Zac (Zab (Zas (ZaW T.fok_Standing_ware_names Zac)) Zag))))
 (Zan (Zba (Zar (Zab (Zas (Za9 Zb1 (ZaW T.fok_Standing_ware_names Zac))) (Zab Zal Zag))))
 (Zan (Zba (Zar (Zab (Zas (ZaF T.c_Office Zag)) (Zab Zal Zag))))
 (Zaw (ZaF T.c_Office (Zab (Zas (Zar (Zab Zac (Zab Zac Zag)))) Zag)))))))
theorem ZdY : CalX P w K mg base "check_wares" 1 ["standing", "asked"] Zbp := by
 refine T.f_check_wares.ok (body := ZcP) sc_check_wares (by decide) (fun _ => .inr rfl) fun f cdv A outer s H E hr => ?_
 refine ⟨_, (Zah (Zd5 PassesOwn.leaving rfl (Zbu (K := K) rfl (pvB 1)) (Zau (i := 2) sc_check_wares.nd) (Zah (Za2 (ZaD (Zg1 (K := K) rfl) (pvB 2) (Zbf (K := K) rfl (pvB 0)) (by with_unfolding_all rfl)) (Zah (ZdL (K := K) (mg := mg) rfl rfl (fun _ _ _ _ _ _ _ _ I h q => ZdI I h q) T.c_NoWare T.x_NoWare (ZdJ (ZaT Za1 (ZaT (Zfb (pvB 2)) ZeZ))))) Zaz)))), fun fx => ?_⟩
 unfold ZcP
 exact (Zd9 (Zb2 Zac) Zao (Za3 (ZaE (td_b ZfJ Zac (ZaW T.fok_Standing_ware_names Zac))) (ZcJ (k := 2) T.c_NoWare (ZaU (Zbj (by decide)) (ZaU (Zfc Zac) Ze0)) (by decide)) ZaA))
theorem Zej : CalX P w K mg base "check_numbers" 1 ["numbers"] Zbm := by
 refine T.f_check_numbers.ok (body := Zb7) sc_check_numbers (by decide) (fun _ => .inr rfl) fun f cdv A outer s H E hr => ?_
 refine ⟨_, (Zah (Zd5 PassesOwn.leaving rfl (Zbu (K := K) rfl (pvB 0)) (Zau (i := 1) sc_check_numbers.nd) (Zah (Za2 (ZaD Zi8 (Zat Zk0 rfl T.B.abs boot_abs (Zaa (pvB 1) Zae)) (ZcD (mg := mg) rfl T.g_HIGHEST_NUMBER) (ZaZ _)) (Zah (ZdL (K := K) (mg := mg) rfl rfl (fun _ _ _ _ _ _ _ _ I h q => ZdI I h q) T.c_BadNumber T.x_BadNumber (ZdJ (ZaT Za1 (ZaT (ZfZ (ZcD (mg := mg) rfl T.g_HIGHEST_NUMBER)) (ZaT Za1 (ZaT (ZfZ (ZcD (mg := mg) rfl T.g_HIGHEST_NUMBER)) ZeZ))))))) Zaz)))), fun fx => ?_⟩
 unfold Zb7
 exact (Zd9 (Zb2 Zac) Zao (Za3 (ZaE (td_b Zjn (Za9 Zon Zac) Zal)) (ZcJ (k := 4) T.c_BadNumber (ZaU (Zbj (by decide)) (ZaU (Zf0 Zal) (ZaU (Zbj (by decide)) (ZaU (Zf0 Zal) Ze0)))) (by decide)) ZaA))
theorem Zgb : CalX P w K mg base "with_new_deed" 3 ["standing", "name", "numbers"] Zb9 := by
 refine T.f_with_new_deed.ok (body := Zb8) sc_with_new_deed (by decide) (fun _ => .inr rfl) fun f cdv A outer s H E hr => ?_
 refine ⟨_, (Zaf (Zji (i := 3) sc_with_new_deed.nd rfl (Zbu (K := K) rfl (Zbf (K := K) rfl (pvB 0))) (.cons rfl .nil) (.own (x := "ware") (.cap (x := "numbers") (j := 2) rfl (Or.inl rfl) (Or.inl rfl) ⟨_, rfl⟩ .nil)) (fun _ _ _ _ => (Zau (i := 0) (show (["ware", "numbers"] : List Str).Nodup from by decide +kernel))) (fun _ _ _ _ => ZdH) (fun _ _ _ _ => (Zmd (Zn4 hr) (pvB 1) (pvB 0) Zam)))
 (Zah (Zav (ZgC (K := K) (mg := mg) (Zbn T) rfl rfl Zai (hr.mono (by decide)) (Zaa (Zbf (K := K) rfl (pvB 0)) (Zaa (Zbe Zfs (Zbf (K := K) rfl (pvB 0)) (ZaI (Zaa (pvB 1) Zae))) (Zaa (Zbe Zfs (Zbf (K := K) rfl (pvB 0)) (ZaI (Zaa (pvB 3) Zae))) (Zaa (Zbf (K := K) rfl (pvB 0)) Zae)))))))), fun fx => ?_⟩
 unfold Zb8
 exact (Zan (ZaV (Zcm (fun _ => (ZcC (Zb2 (ZaW T.fok_Standing_ware_names Zac)) Zao ZcL (ZiQ Zac Zac Zal)))) Zao)
 (Zaw (ZeH T.c_Standing (Zab (Zas (ZaW T.fok_Standing_ware_names Zac)) (Zab (Zas (ZaK Zfu (ZaW T.fok_Standing_deed_names Zac) (ZaM (Zab Zac Zag)))) (Zab (Zas (ZaK Zfu (ZaW T.fok_Standing_rows Zac) (ZaM (Zab Zac Zag)))) (Zab (Zas (ZaW T.fok_Standing_stopped Zac)) Zag)))))))
theorem Zfn : CalM P w K mg base "Office" "put_deed" 4 ["self", "name", "numbers"] ZbH := by
 refine T.f_Office_put_deed.ok (body := ZbG) sc_Office_put_deed (by decide) (fun _ => .inr rfl) fun f cdv A outer s H E hr => ?_
 refine ⟨_, (Zaf (ZaS (i := 3) sc_Office_put_deed.nd (Za7 (K := K) (mg := mg) (ZaY T) rfl rfl Zai (hr.mono (by decide)) (pvB 0)))
 (Zaf (ZaO (Zay (K := K) (mg := mg) (Zd2 T) rfl rfl Zai (hr.mono (by decide)) (Zaa (pvB 1) (Zaa (Zbf (K := K) rfl (pvB 3)) Zae))))
 (Zaf (ZaO (Zay (K := K) (mg := mg) (ZdY T) rfl rfl Zai (hr.mono (by decide)) (Zaa (pvB 3) (Zaa (ZbM (ZbX (K := K) rfl rfl) rfl T.B.list boot_list (Zaa (pvB 2) Zae)) Zae))))
 (Zaf (ZaO (Zay (K := K) (mg := mg) (Zej T) rfl rfl Zai (hr.mono (by decide)) (Zaa (ZbM (Znl rfl) rfl T.B.list boot_list (Zaa (Zlu (K := K) rfl (pvB 2)) Zae)) Zae)))
 (Zaf (ZaO (Zay (K := K) (mg := mg) (ZbC T) rfl rfl Zai (hr.mono (by decide)) (Zaa (Zat (Zda (K := K) rfl) rfl T.B.len PySem.boot_len (Zaa (Zbf (K := K) rfl (pvB 3)) Zae)) (Zaa (ZcD (mg := mg) rfl T.g_MOST_DEEDS) Zae))))
 (Zaf (ZaO (Zay (K := K) (mg := mg) (ZbC T) rfl rfl Zai (hr.mono (by decide)) (Zaa (Za7 (K := K) (mg := mg) (ZaR T) rfl rfl Zai (hr.mono (by decide)) (pvB 0)) (Zaa (ZcD (mg := mg) rfl T.g_MOST_DOINGS) Zae))))
 (Zah (Zav (Zd1 (K := K) (mg := mg) (Zcg T) rfl rfl Zai (hr.mono (by decide)) (pvB 0) (Zaa (Zay (K := K) (mg := mg) (Zgb T) rfl rfl Zai (hr.mono (by decide)) (Zaa (pvB 3) (Zaa (pvB 1) (Zaa (pvB 2) Zae)))) Zae)))))))))), fun fx => ?_⟩
 unfold ZbG
 exact (Zan (ZaV (ZaF T.c_Office Zag) Zao)
 (Zan (Zba (Zar (Zab Zac (Zab (Zas (ZaW T.fok_Standing_deed_names Zac)) Zag))))
 (Zan (Zba (Zar (Zab Zac (Zab (Zas (Zcm (fun _ => (Za9 Zde Zac)))) Zag))))
 (Zan (Zba (Zar (Zab (Zas (Zcm (fun _ => (Znh Zac)))) Zag)))
 (Zan (Zba (Zar (Zab (Zas (Za9 Zb1 (ZaW T.fok_Standing_deed_names Zac))) (Zab Zal Zag))))
 (Zan (Zba (Zar (Zab (Zas (ZaF T.c_Office Zag)) (Zab Zal Zag))))
 (Zaw (ZaF T.c_Office (Zab (Zas (Zar (Zab Zac (Zab Zac (ZeX Zag))))) Zag)))))))))
theorem ZcU : CalX P w K mg base "check_deeds" 1 ["standing", "asked"] Zbq := by
 refine T.f_check_deeds.ok (body := ZcQ) sc_check_deeds (by decide) (fun _ => .inr rfl) fun f cdv A outer s H E hr => ?_
 refine ⟨_, (Zah (Zd5 PassesOwn.leaving rfl (Zbu (K := K) rfl (pvB 1)) (Zau (i := 2) sc_check_deeds.nd) (Zah (Za2 (ZaD (Zg1 (K := K) rfl) (pvB 2) (Zbf (K := K) rfl (pvB 0)) (by with_unfolding_all rfl)) (Zah (ZdL (K := K) (mg := mg) rfl rfl (fun _ _ _ _ _ _ _ _ I h q => ZdI I h q) T.c_NoDeed T.x_NoDeed (ZdJ (ZaT Za1 (ZaT (Zfb (pvB 2)) ZeZ))))) Zaz)))), fun fx => ?_⟩
 unfold ZcQ
 exact (Zd9 (Zb2 Zac) Zao (Za3 (ZaE (td_b ZfJ Zac (ZaW T.fok_Standing_deed_names Zac))) (ZcJ (k := 2) T.c_NoDeed (ZaU (Zbj (by decide)) (ZaU (Zfc Zac) Ze0)) (by decide)) ZaA))
theorem Zgc : CalX P w K mg base "check_let" 1 ["standing", "asked"] Zc6 := by
 refine T.f_check_let.ok (body := ZdV) sc_check_let (by decide) (fun _ => .inr rfl) fun f cdv A outer s H E hr => ?_
 refine ⟨_, (Zah (Zd5 PassesOwn.leaving rfl (Zbu (K := K) rfl (pvB 1)) (Zau (i := 2) sc_check_let.nd) (Zah (Za2 (ZaD (q_in (K := K) rfl) (pvB 2) (Zbf (K := K) rfl (pvB 0)) (by with_unfolding_all rfl)) (Zah (ZdL (K := K) (mg := mg) rfl rfl (fun _ _ _ _ _ _ _ _ I h q => ZdI I h q) T.c_Forbidden T.x_Forbidden (ZdJ (ZaT Za1 (ZaT (Zfb (pvB 2)) (ZaT Za1 ZeZ)))))) Zaz)))), fun fx => ?_⟩
 unfold ZdV
 exact (Zd9 (Zb2 Zac) Zao (Za3 (ZaE (td_b Zjo Zac (ZaW T.fok_Standing_stopped Zac))) (ZcJ (k := 3) T.c_Forbidden (ZaU (Zbj (by decide)) (ZaU (Zfc Zac) (ZaU (Zbj (by decide)) Ze0))) (by decide)) ZaA))
theorem Zg9 : CalX P w K mg base "with_number" 3 ["standing", "deed", "ware", "number"] ZcS := by
 refine T.f_with_number.ok (body := ZcR) sc_with_number (by decide) (fun _ => .inr rfl) fun f cdv A outer s H E hr => ?_
 refine ⟨_, (Zaf (Zji (i := 4) sc_with_number.nd rfl (Zbu (K := K) rfl (Zbf (K := K) rfl (pvB 0))) .nil (.own (x := "row") .nil) (fun _ _ _ _ => (Zau (i := 0) (show (["row"] : List Str).Nodup from by decide +kernel))) (fun _ _ _ _ => ZdH) (fun _ _ _ _ => (ZbM (ZbX (K := K) rfl rfl) rfl T.B.list boot_list (Zaa (pvB 0) Zae))))
 (Zaf (ZfM (pvB 3) (ZjF (Zb0 (q_ix (K := K) rfl) (pvB 4) (ZdK (K := K) rfl (Zbf (K := K) rfl (pvB 0)) (Zaa (pvB 1) Zae)) (fun _ _ => rfl)) (ZdK (K := K) rfl (Zbf (K := K) rfl (pvB 0)) (Zaa (pvB 2) Zae)) ZgS))
 (Zah (Zav (ZgC (K := K) (mg := mg) (Zbn T) rfl rfl Zai (hr.mono (by decide)) (Zaa (Zbf (K := K) rfl (pvB 0)) (Zaa (Zbf (K := K) rfl (pvB 0)) (Zaa (pvB 4) (Zaa (Zbf (K := K) rfl (pvB 0)) Zae))))))))), fun fx => ?_⟩
 unfold ZcR
 exact (Zan (ZaV (ZcC (Zb2 (ZaW T.fok_Standing_rows Zac)) Zao ZcL (Za9 Zde Zac)) Zao)
 (Zan (Zkk Zac (ZhI (Zgz T.fok_Standing_deed_names Zbs) (tp_b Zbs)) (ZhI (Zgz T.fok_Standing_ware_names Zbs) (tp_b Zbs)))
 (Zaw (ZeH T.c_Standing (Zab (Zas (ZaW T.fok_Standing_ware_names Zac)) (Zab (Zas (ZaW T.fok_Standing_deed_names Zac)) (Zab Zac (Zab (Zas (ZaW T.fok_Standing_stopped Zac)) Zag))))))))
theorem Zgd : CalM P w K mg base "Office" "change" 4 ["self", "deed", "ware", "number"] Zcb := by
 refine T.f_Office_change.ok (body := Zca) sc_Office_change (by decide) (fun _ => .inr rfl) fun f cdv A outer s H E hr => ?_
 refine ⟨_, (Zaf (ZaS (i := 4) sc_Office_change.nd (Za7 (K := K) (mg := mg) (ZaY T) rfl rfl Zai (hr.mono (by decide)) (pvB 0)))
 (Zaf (ZaO (Zay (K := K) (mg := mg) (ZcU T) rfl rfl Zai (hr.mono (by decide)) (Zaa (pvB 4) (Zaa (ZaI (Zaa (pvB 1) Zae)) Zae))))
 (Zaf (ZaO (Zay (K := K) (mg := mg) (ZdY T) rfl rfl Zai (hr.mono (by decide)) (Zaa (pvB 4) (Zaa (ZaI (Zaa (pvB 2) Zae)) Zae))))
 (Zaf (ZaO (Zay (K := K) (mg := mg) (Zgc T) rfl rfl Zai (hr.mono (by decide)) (Zaa (pvB 4) (Zaa (ZaI (Zaa (pvB 1) Zae)) Zae))))
 (Zaf (ZaO (Zay (K := K) (mg := mg) (Zej T) rfl rfl Zai (hr.mono (by decide)) (Zaa (ZaI (Zaa (pvB 3) Zae)) Zae)))
 (Zaf (ZaO (Zay (K := K) (mg := mg) (ZbC T) rfl rfl Zai (hr.mono (by decide)) (Zaa (Za7 (K := K) (mg := mg) (ZaR T) rfl rfl Zai (hr.mono (by decide)) (pvB 0)) (Zaa (ZcD (mg := mg) rfl T.g_MOST_DOINGS) Zae))))
 (Zah (Zav (Zd1 (K := K) (mg := mg) (Zcg T) rfl rfl Zai (hr.mono (by decide)) (pvB 0) (Zaa (Zay (K := K) (mg := mg) (Zg9 T) rfl rfl Zai (hr.mono (by decide)) (Zaa (pvB 4) (Zaa (pvB 1) (Zaa (pvB 2) (Zaa (pvB 3) Zae))))) Zae)))))))))), fun fx => ?_⟩
 unfold Zca
 exact (Zan (ZaV (ZaF T.c_Office Zag) Zao)
 (Zan (Zba (Zar (Zab Zac (Zab (Zas (ZaM (Zab Zac Zag))) Zag))))
 (Zan (Zba (Zar (Zab Zac (Zab (Zas (ZaM (Zab Zac Zag))) Zag))))
 (Zan (Zba (Zar (Zab Zac (Zab (Zas (ZaM (Zab Zac Zag))) Zag))))
 (Zan (Zba (Zar (Zab (Zas (ZaM (Zab Zac Zag))) Zag)))
 (Zan (Zba (Zar (Zab (Zas (ZaF T.c_Office Zag)) (Zab Zal Zag))))
 (Zaw (ZaF T.c_Office (Zab (Zas (Zar (Zab Zac (Zab Zac (Zab Zac (Zab Zac Zag)))))) Zag)))))))))
theorem ZfE : CalX P w K mg base "with_forbidden" 3 ["standing", "deed"] ZbS := by
 refine T.f_with_forbidden.ok (body := ZbR) Zfl (by decide) (fun _ => .inr rfl) fun f cdv A outer s H E hr => ?_
 refine ⟨_, (Zah (Zav (ZgC (K := K) (mg := mg) (Zbn T) rfl rfl Zai (hr.mono (by decide)) (Zaa (Zbf (K := K) rfl (pvB 0)) (Zaa (Zbf (K := K) rfl (pvB 0)) (Zaa (Zbf (K := K) rfl (pvB 0)) (Zaa (Zbe Zfs (Zbf (K := K) rfl (pvB 0)) (ZaI (Zaa (pvB 1) Zae))) Zae))))))), fun fx => ?_⟩
 unfold ZbR
 exact (Zaw (ZeH T.c_Standing (Zab (Zas (ZaW T.fok_Standing_ware_names Zac)) (Zab (Zas (ZaW T.fok_Standing_deed_names Zac)) (Zab (Zas (ZaW T.fok_Standing_rows Zac)) (Zab (Zas (ZaK Zfu (ZaW T.fok_Standing_stopped Zac) (ZaM (Zab Zac Zag)))) Zag))))))
theorem Zge : CalM P w K mg base "Office" "forbid" 4 ["self", "deed"] Zcd := by
 refine T.f_Office_forbid.ok (body := Zcc) sc_Office_forbid (by decide) (fun _ => .inr rfl) fun f cdv A outer s H E hr => ?_
 refine ⟨_, (Zaf (ZaS (i := 2) sc_Office_forbid.nd (Za7 (K := K) (mg := mg) (ZaY T) rfl rfl Zai (hr.mono (by decide)) (pvB 0)))
 (Zaf (ZaO (Zay (K := K) (mg := mg) (ZcU T) rfl rfl Zai (hr.mono (by decide)) (Zaa (pvB 2) (Zaa (ZaI (Zaa (pvB 1) Zae)) Zae))))
 (Zaf (ZaO (Zay (K := K) (mg := mg) (Zgc T) rfl rfl Zai (hr.mono (by decide)) (Zaa (pvB 2) (Zaa (ZaI (Zaa (pvB 1) Zae)) Zae))))
 (Zaf (ZaO (Zay (K := K) (mg := mg) (ZbC T) rfl rfl Zai (hr.mono (by decide)) (Zaa (Za7 (K := K) (mg := mg) (ZaR T) rfl rfl Zai (hr.mono (by decide)) (pvB 0)) (Zaa (ZcD (mg := mg) rfl T.g_MOST_DOINGS) Zae))))
 (Zah (Zav (Zd1 (K := K) (mg := mg) (Zcg T) rfl rfl Zai (hr.mono (by decide)) (pvB 0) (Zaa (Zay (K := K) (mg := mg) (ZfE T) rfl rfl Zai (hr.mono (by decide)) (Zaa (pvB 2) (Zaa (pvB 1) Zae))) Zae)))))))), fun fx => ?_⟩
 unfold Zcc
 exact (Zan (ZaV (ZaF T.c_Office Zag) Zao)
 (Zan (Zba (Zar (Zab Zac (Zab (Zas (ZaM (Zab Zac Zag))) Zag))))
 (Zan (Zba (Zar (Zab Zac (Zab (Zas (ZaM (Zab Zac Zag))) Zag))))
 (Zan (Zba (Zar (Zab (Zas (ZaF T.c_Office Zag)) (Zab Zal Zag))))
 (Zaw (ZaF T.c_Office (Zab (Zas (Zar (Zab Zac (Zab Zac Zag)))) Zag)))))))
theorem Zfo : CalX P w K mg base "check_forbidden" 1 ["standing", "deed"] ZbJ := by
 refine T.f_check_forbidden.ok (body := ZbI) Ze1 (by decide) (fun _ => .inr rfl) fun f cdv A outer s H E hr => ?_
 refine ⟨_, (Zah (Za2 (ZaD (Zg1 (K := K) rfl) (pvB 1) (Zbf (K := K) rfl (pvB 0)) (by with_unfolding_all rfl)) (Zah (ZdL (K := K) (mg := mg) rfl rfl (fun _ _ _ _ _ _ _ _ I h q => ZdI I h q) T.c_NotForbidden T.x_NotForbidden (ZdJ (ZaT Za1 (ZaT (Zfb (pvB 1)) (ZaT Za1 ZeZ)))))) Zaz)), fun fx => ?_⟩
 unfold ZbI
 exact (Za3 (ZaE (td_b ZfJ Zac (ZaW T.fok_Standing_stopped Zac))) (ZcJ (k := 3) T.c_NotForbidden (ZaU (Zbj (by decide)) (ZaU (Zfc Zac) (ZaU (Zbj (by decide)) Ze0))) (by decide)) ZaA)
theorem Zju : CalX P w K mg base "with_let" 3 ["standing", "deed"] Zer := by
 refine T.f_with_let.ok (body := Zeq) sc_with_let (by decide) (fun _ => .inr rfl) fun f cdv A outer s H E hr => ?_
 refine ⟨_, (Zaf (Zji (i := 2) sc_with_let.nd rfl (Zbu (K := K) rfl (Zbf (K := K) rfl (pvB 0))) (.cons rfl .nil) (.own (x := "name") (.cap (x := "deed") (j := 1) rfl (Or.inl rfl) (Or.inl rfl) ⟨_, rfl⟩ .nil)) (fun _ _ _ _ => (Zau (i := 0) (show (["name", "deed"] : List Str).Nodup from by decide +kernel))) (fun _ _ _ _ => (Zh8 (ZaD ZkY (pvB 0) (pvB 1) (ZaZ _)))) (fun _ _ _ _ => (pvB 0)))
 (Zah (Zav (ZgC (K := K) (mg := mg) (Zbn T) rfl rfl Zai (hr.mono (by decide)) (Zaa (Zbf (K := K) rfl (pvB 0)) (Zaa (Zbf (K := K) rfl (pvB 0)) (Zaa (Zbf (K := K) rfl (pvB 0)) (Zaa (pvB 2) Zae)))))))), fun fx => ?_⟩
 unfold Zeq
 exact (Zan (ZaV (ZcC (Zb2 (ZaW T.fok_Standing_stopped Zac)) Zao (ZaE (td_b Zlk Zac Zac)) Zac) Zao)
 (Zaw (ZeH T.c_Standing (Zab (Zas (ZaW T.fok_Standing_ware_names Zac)) (Zab (Zas (ZaW T.fok_Standing_deed_names Zac)) (Zab (Zas (ZaW T.fok_Standing_rows Zac)) (Zab Zac Zag)))))))
theorem ZhK : CalM P w K mg base "Office" "let" 4 ["self", "deed"] Zdj := by
 refine T.f_Office_let.ok (body := Zdi) sc_Office_let (by decide) (fun _ => .inr rfl) fun f cdv A outer s H E hr => ?_
 refine ⟨_, (Zaf (ZaS (i := 2) sc_Office_let.nd (Za7 (K := K) (mg := mg) (ZaY T) rfl rfl Zai (hr.mono (by decide)) (pvB 0)))
 (Zaf (ZaO (Zay (K := K) (mg := mg) (ZcU T) rfl rfl Zai (hr.mono (by decide)) (Zaa (pvB 2) (Zaa (ZaI (Zaa (pvB 1) Zae)) Zae))))
 (Zaf (ZaO (Zay (K := K) (mg := mg) (Zfo T) rfl rfl Zai (hr.mono (by decide)) (Zaa (pvB 2) (Zaa (pvB 1) Zae))))
 (Zaf (ZaO (Zay (K := K) (mg := mg) (ZbC T) rfl rfl Zai (hr.mono (by decide)) (Zaa (Za7 (K := K) (mg := mg) (ZaR T) rfl rfl Zai (hr.mono (by decide)) (pvB 0)) (Zaa (ZcD (mg := mg) rfl T.g_MOST_DOINGS) Zae))))
 (Zah (Zav (Zd1 (K := K) (mg := mg) (Zcg T) rfl rfl Zai (hr.mono (by decide)) (pvB 0) (Zaa (Zay (K := K) (mg := mg) (Zju T) rfl rfl Zai (hr.mono (by decide)) (Zaa (pvB 2) (Zaa (pvB 1) Zae))) Zae)))))))), fun fx => ?_⟩
 unfold Zdi
 exact (Zan (ZaV (ZaF T.c_Office Zag) Zao)
 (Zan (Zba (Zar (Zab Zac (Zab (Zas (ZaM (Zab Zac Zag))) Zag))))
 (Zan (Zba (Zar (Zab Zac (Zab Zac Zag))))
 (Zan (Zba (Zar (Zab (Zas (ZaF T.c_Office Zag)) (Zab Zal Zag))))
 (Zaw (ZaF T.c_Office (Zab (Zas (Zar (Zab Zac (Zab Zac Zag)))) Zag)))))))
theorem ZhL : CalX P w K mg base "check_kept" 1 ["many", "kept"] Zdl := by
 refine T.f_check_kept.ok (body := Zdk) Zg7 (by decide) (fun _ => .inr rfl) fun f cdv A outer s H E hr => ?_
 refine ⟨_, (Zah (Za2 (ZaD Zi8 (pvB 0) (pvB 1) (ZaZ _)) (Zah (ZdL (K := K) (mg := mg) rfl rfl (fun _ _ _ _ _ _ _ _ I h q => ZdI I h q) T.c_NotDone T.x_NotDone (ZdJ (ZaT Za1 (ZaT (ZfZ (pvB 1)) (ZaT Za1 ZeZ)))))) Zaz)), fun fx => ?_⟩
 unfold Zdk
 exact (Za3 (ZaE (td_b Zjn Zac Zac)) (ZcJ (k := 3) T.c_NotDone (ZaU (Zbj (by decide)) (ZaU (Zf0 Zac) (ZaU (Zbj (by decide)) Ze0))) (by decide)) ZaA)
theorem Zdo : CalMD P w K mg base "Office" "take_back" 2 ["self", "many"] Za0 1 := by
 refine T.f_Office_take_back.ok (body := Zbw) ZeM (by decide) (fun _ => .inr rfl) fun f cdv A outer s H E hr => ?_
 refine ⟨_, (Zaf (ZaO (Zay (K := K) (mg := mg) (ZhL T) rfl rfl Zai (hr.mono (by decide)) (Zaa (pvB 1) (Zaa (Za7 (K := K) (mg := mg) (ZaR T) rfl rfl Zai (hr.mono (by decide)) (pvB 0)) Zae))))
 (Zaf (ZgD (K := K) rfl (pvB 0) (ZgR (ZgW (K := K) rfl) (Zbf (K := K) rfl (pvB 0)) Zh4 (Zh5 (Zbe Zd6 (Zat (Zda (K := K) rfl) rfl T.B.len PySem.boot_len (Zaa (Zbf (K := K) rfl (pvB 0)) Zae)) (pvB 1)))))
 (Zah (Zav (Za7 (K := K) (mg := mg) (ZaR T) rfl rfl Zai (hr.mono (by decide)) (pvB 0)))))), fun fx => ?_⟩
 unfold Zbw
 exact (Zan (Zba (Zar (Zab Zac (Zab (Zas (ZaF T.c_Office Zag)) Zag))))
 (Zan (Zfa T.fok_Office_stages (Zin (Zgz T.fok_Office_stages Zbs) (Zl9 (Zkj (Zgz T.fok_Office_stages Zbs)) (tp_b Zbs))))
 (Zaw (ZaF T.c_Office Zag))))
theorem Zjv : CalX P w K mg base "_law_call" 5 ["_law_office", "_law_kind", "_law_a", "_law_b", "_law_c"] ZbY := by
 refine T.f_law_call.ok (body := ZdD) Zip (by decide) (fun _ => .inr rfl) fun f cdv A outer s H E hr => ?_
 refine ⟨_, (Zaf (Za2 (ZaD Zd7 (pvB 1) Zam (ZaZ _)) (Zah (Zav (Zd1 (K := K) (mg := mg) (Zfm T) rfl rfl Zai (hr.mono (by decide)) (pvB 0) (Zaa (pvB 2) Zae)))) Zaz)
 (Zaf (Za2 (ZaD Zd7 (pvB 1) Zam (ZaZ _)) (Zah (Zav (Zd1 (K := K) (mg := mg) (Zfn T) rfl rfl Zai (hr.mono (by decide)) (pvB 0) (Zaa (pvB 2) (Zaa (pvB 3) Zae))))) Zaz)
 (Zaf (Za2 (ZaD Zd7 (pvB 1) Zam (ZaZ _)) (Zah (Zav (Zd1 (K := K) (mg := mg) (Zgd T) rfl rfl Zai (hr.mono (by decide)) (pvB 0) (Zaa (pvB 2) (Zaa (pvB 3) (Zaa (pvB 4) Zae)))))) Zaz)
 (Zaf (Za2 (ZaD Zd7 (pvB 1) Zam (ZaZ _)) (Zah (Zav (Zd1 (K := K) (mg := mg) (Zge T) rfl rfl Zai (hr.mono (by decide)) (pvB 0) (Zaa (pvB 2) Zae)))) Zaz)
 (Zaf (Za2 (ZaD Zd7 (pvB 1) Zam (ZaZ _)) (Zah (Zav (Zd1 (K := K) (mg := mg) (ZhK T) rfl rfl Zai (hr.mono (by decide)) (pvB 0) (Zaa (pvB 2) Zae)))) Zaz)
 (Zaf (Za2 (ZaD Zd7 (pvB 1) Zam (ZaZ _)) (Zah (Zav (Zd1 (K := K) (mg := mg) (Zdo T).m rfl rfl Zai (hr.mono (by decide)) (pvB 0) (Zaa (pvB 2) Zae)))) Zaz)
 (Zah (Zav Ziv)))))))), fun fx => ?_⟩
 unfold ZdD
 exact (Zan (Za3 (ZaE (td_b Zea Zac Zal)) (Zaw (ZaF T.c_Office (Zab Zac Zag))) ZaA)
 (Zan (Za3 (ZaE (td_b Zea Zac Zal)) (Zaw (ZaF T.c_Office (Zab Zac (Zab Zac Zag)))) ZaA)
 (Zan (Za3 (ZaE (td_b Zea Zac Zal)) (Zaw (ZaF T.c_Office (Zab Zac (Zab Zac (Zab Zac Zag))))) ZaA)
 (Zan (Za3 (ZaE (td_b Zea Zac Zal)) (Zaw (ZaF T.c_Office (Zab Zac Zag))) ZaA)
 (Zan (Za3 (ZaE (td_b Zea Zac Zal)) (Zaw (ZaF T.c_Office (Zab Zac Zag))) ZaA)
 (Zan (Za3 (ZaE (td_b Zea Zac Zal)) (Zaw (ZaF T.c_Office (Zab Zac Zag))) ZaA)
 (Zaw ZiR)))))))
theorem Zha : CalX P w K mg base "_law_do" 6 ["_law_office", "_law_kind", "_law_a", "_law_b", "_law_c"] ZbK := by
 refine T.f_law_do.ok (body := Ze6) sc_law_do (by decide) (fun _ => .inr rfl) fun f cdv A outer s H E hr => ?_
 refine ⟨_, (Zaf (ZaS (i := 5) sc_law_do.nd Ziv)
 (Zaf (Zov (i := 6) rfl rfl (fun xe pn σ0 E0 hp => ZaS (i := 5) sc_law_do.nd (Zey (Zaa Za1 (Zaa (Zlt (K := K) (mg := mg) (Zjv T) rfl rfl hp (hr.mono (by decide)) (Zaa (pvB 0) (Zaa (pvB 1) (Zaa (pvB 2) (Zaa (pvB 3) (Zaa (pvB 4) Zae)))))) Zae)))) (fun _ => (Zaf (ZaS (i := 7) sc_law_do.nd (ZaI (Zaa (Zat (Zf2 (K := K) rfl) rfl T.B.isinstance boot_isinstance (Zaa (pvB 6) (Zaa (Zgo (mg := mg) rfl T.c_BadName) Zae))) (Zaa (Zat (Zf2 (K := K) rfl) rfl T.B.isinstance boot_isinstance (Zaa (pvB 6) (Zaa (Zgo (mg := mg) rfl T.c_Taken) Zae))) (Zaa (Zat (Zf2 (K := K) rfl) rfl T.B.isinstance boot_isinstance (Zaa (pvB 6) (Zaa (Zgo (mg := mg) rfl T.c_NoDeed) Zae))) (Zaa (Zat (Zf2 (K := K) rfl) rfl T.B.isinstance boot_isinstance (Zaa (pvB 6) (Zaa (Zgo (mg := mg) rfl T.c_NoWare) Zae))) Zae))))))
 (Zaf (ZaS (i := 8) sc_law_do.nd (ZaI (Zaa (Zat (Zf2 (K := K) rfl) rfl T.B.isinstance boot_isinstance (Zaa (pvB 6) (Zaa (Zgo (mg := mg) rfl T.c_Forbidden) Zae))) (Zaa (Zat (Zf2 (K := K) rfl) rfl T.B.isinstance boot_isinstance (Zaa (pvB 6) (Zaa (Zgo (mg := mg) rfl T.c_NotForbidden) Zae))) (Zaa (Zat (Zf2 (K := K) rfl) rfl T.B.isinstance boot_isinstance (Zaa (pvB 6) (Zaa (Zgo (mg := mg) rfl T.c_BadNumber) Zae))) Zae)))))
 (Zaf (ZaS (i := 9) sc_law_do.nd (ZaI (Zaa (Zat (Zf2 (K := K) rfl) rfl T.B.isinstance boot_isinstance (Zaa (pvB 6) (Zaa (Zgo (mg := mg) rfl T.c_NoRound) Zae))) (Zaa (Zat (Zf2 (K := K) rfl) rfl T.B.isinstance boot_isinstance (Zaa (pvB 6) (Zaa (Zgo (mg := mg) rfl T.c_NotDone) Zae))) (Zaa (Zat (Zf2 (K := K) rfl) rfl T.B.isinstance boot_isinstance (Zaa (pvB 6) (Zaa (Zgo (mg := mg) rfl T.c_NoRoom) Zae))) Zae)))))
 (Zah (ZaS (i := 5) sc_law_do.nd (Zey (Zaa Za1 (Zaa (Zbe Zfs (Zbe Zfs (pvB 7) (pvB 8)) (pvB 9)) (Zaa (Zat (Zf2 (K := K) rfl) rfl T.B.isinstance boot_isinstance (Zaa (pvB 6) (Zaa (Zcx (v := .ty "ValueError") rfl T.B.ValueError Zf4 rfl) Zae))) Zae)))))))))) rfl T.c_WorksError sc_law_do.nd rfl rfl)
 (Zah (Zav (pvB 5))))), fun fx => ?_⟩
 unfold Ze6
 exact (Zan (ZaV ZiR Zao)
 (Zan (Zox T.try_WorksError (fun _ _ _ _ h => ⟨rfl, h⟩) (fun E1 => Znc (Zft (Zab Zcw (Zab (Zas (Zar (ZeX (Zab Zac (Zab Zac (Zab Zac (Zab Zac Zag))))))) Zag))) Zao) (Zan (ZaV (ZaM (Zab (Zeb (all := ALLX) (subs := ["BadName"]) rfl (fun _ h => h) T.isx_BadName Zac) (Zab (Zeb (all := ALLX) (subs := ["Taken"]) rfl (fun _ h => h) T.isx_Taken Zac) (Zab (Zeb (all := ALLX) (subs := ["NoDeed"]) rfl (fun _ h => h) T.isx_NoDeed Zac) (Zab (Zeb (all := ALLX) (subs := ["NoWare"]) rfl (fun _ h => h) T.isx_NoWare Zac) Zag))))) Zao)
 (Zan (ZaV (ZaM (Zab (Zeb (all := ALLX) (subs := ["Forbidden"]) rfl (fun _ h => h) T.isx_Forbidden Zac) (Zab (Zeb (all := ALLX) (subs := ["NotForbidden"]) rfl (fun _ h => h) T.isx_NotForbidden Zac) (Zab (Zeb (all := ALLX) (subs := ["BadNumber"]) rfl (fun _ h => h) T.isx_BadNumber Zac) Zag)))) Zao)
 (Zan (ZaV (ZaM (Zab (Zeb (all := ALLX) (subs := []) rfl (fun _ h => h) T.isx_NoRound Zac) (Zab (Zeb (all := ALLX) (subs := ["NotDone"]) rfl (fun _ h => h) T.isx_NotDone Zac) (Zab (Zeb (all := ALLX) (subs := ["NoRoom"]) rfl (fun _ h => h) T.isx_NoRoom Zac) Zag)))) Zao)
 (ZaV (Zft (Zab Zcw (Zab (ZaK Zfu (ZaK Zfu Zac Zac) Zac) (Zab (Zeb (all := ALLX) (subs := ["BadName", "Taken", "NoDeed", "NoWare", "Forbidden", "NotForbidden", "BadNumber", "NotDone", "NoRoom"]) rfl (fun _ h => h) T.isx_ValueError Zac) Zag)))) Zao)))))
 (Zaw Zac)))
theorem Zbo : ∀ j, CalX P w K mg base "_law_same" (j + 1) ["_law_found", "_law_due_here"] (Zax j)
 | 0 => T.f_law_same.never
 | j + 1 => by
  have hR := Zbo j
  refine T.f_law_same.ok (body := ZbZ (Zax j)) sc_law_same (by decide) (fun _ => .inr rfl) fun f cdv A outer s H E hr => ?_
  refine ⟨_, (Zaf (Za2 (Zbr (Zat (ZoB (K := K) rfl) rfl T.B.isinstance boot_isinstance (Zaa (pvB 1) (Zaa (Zey (Zaa (Zcx (v := .ty "list") rfl T.B.list boot_list rfl) (Zaa (Zcx (v := .ty "tuple") rfl T.B.tuple boot_tuple rfl) Zae))) Zae)))) (Zaf (Za2 (PW.pt (ZjD (ZbV (Zbr (Zat (ZoB (K := K) rfl) rfl T.B.isinstance boot_isinstance (Zaa (pvB 0) (Zaa (Zey (Zaa (Zcx (v := .ty "list") rfl T.B.list boot_list rfl) (Zaa (Zcx (v := .ty "tuple") rfl T.B.tuple boot_tuple rfl) Zae))) Zae))))) (Zhi (ZaD ZkY (Zat (Zij (K := K) rfl) rfl T.B.isinstance boot_isinstance (Zaa (pvB 0) (Zaa (Zcx (v := .ty "list") rfl T.B.list boot_list rfl) Zae))) (Zat (Zij (K := K) rfl) rfl T.B.isinstance boot_isinstance (Zaa (pvB 1) (Zaa (Zcx (v := .ty "list") rfl T.B.list boot_list rfl) Zae))) (ZaZ _))))) (Zah (Zav Zc7)) Zaz)
 (Zaf (Za2 (ZaD ZkY (Zat (Zda (K := K) rfl) rfl T.B.len PySem.boot_len (Zaa (pvB 0) Zae)) (Zat (Zda (K := K) rfl) rfl T.B.len PySem.boot_len (Zaa (pvB 1) Zae)) (ZaZ _)) (Zah (Zav Zc7)) Zaz)
 (Zaf (Zd5 PassesOwn.leaving rfl (Zku (K := K) rfl rfl T.B.zip (Zaa (pvB 0) (Zaa (pvB 1) Zae))) (Zj3 (K := K) (n := 2) rfl rfl (ZaP (Zau (i := 2) sc_law_same.nd) (ZaP (Zau (i := 3) sc_law_same.nd) ZeC))) (Zah (Za2 (ZbV (Zbr (Zay (K := K) (mg := mg) hR rfl rfl Zai hr (Zaa (pvB 2) (Zaa (pvB 3) Zae))))) (Zah (Zav Zc7)) Zaz)))
 (Zah (Zav Zc7))))) Zaz)
 (Zaf (Za2 (PW.pt (ZjD (ZaD ZlT (pvB 1) Ziv (ZaZ _)) (Zhi (Zbr (Zat (Zij (K := K) rfl) rfl T.B.isinstance boot_isinstance (Zaa (pvB 1) (Zaa (Zcx (v := .ty "str") rfl T.B.str boot_str rfl) Zae))))))) (Zah (Zav (ZlR (Zpe (Zd8 ZlT (pvB 0) Ziv (ZaZ _)) (ZjE (Zat (Zij (K := K) rfl) rfl T.B.isinstance boot_isinstance (Zaa (pvB 0) (Zaa (Zcx (v := .ty "str") rfl T.B.str boot_str rfl) Zae))))) (ZjE (Zd8 Zd7 (pvB 0) (pvB 1) (ZaZ _)))))) Zaz)
 (Zaf (Za2 (PW.pt (ZjD (ZbV (Zbr (Zat (Zij (K := K) rfl) rfl T.B.isinstance boot_isinstance (Zaa (pvB 0) (Zaa (Zcx (v := .ty "int") rfl T.B.int boot_int rfl) Zae))))) (Zhi (ZaD ZkY (Zat (Zij (K := K) rfl) rfl T.B.isinstance boot_isinstance (Zaa (pvB 0) (Zaa (Zcx (v := .ty "bool") rfl T.B.bool boot_bool rfl) Zae))) (Zat (Zij (K := K) rfl) rfl T.B.isinstance boot_isinstance (Zaa (pvB 1) (Zaa (Zcx (v := .ty "bool") rfl T.B.bool boot_bool rfl) Zae))) (ZaZ _))))) (Zah (Zav Zc7)) Zaz)
 (Zah (Zav (Zd8 Zd7 (pvB 0) (pvB 1) (ZaZ _))))))), fun fx => ?_⟩
  unfold ZbZ
  exact (Zan (Za3 (Zbh (Zmb Zac)) (Zan (Za3 (Zke (ZbW (Zbh (Zmb Zac))) (ZaE (td_b Zlk (Zii Zac) (Zii Zac)))) (Zaw Zdb) ZaA)
 (Zan (Za3 (ZaE (td_b Zlk (Za9 Zb1 Zac) (Za9 Zb1 Zac))) (Zaw Zdb) ZaA)
 (Zan (Zd9 (Zkv Zac Zac) (Zl3 (ZaQ Zao (ZaQ Zao ZeF))) (Za3 (ZbW (Zbh (Zar (Zab Zac (Zab Zac Zag))))) (Zaw Zdb) ZaA))
 (Zaw Zdb)))) ZaA)
 (Zan (Za3 (Zke (ZaE (td_b Zl7 Zac ZiR)) (Zbh (Zii Zac))) (Zaw (Zl2 (Zpg (td_b Zl7 Zac ZiR) (Zii Zac)) (td_b Zea Zac Zac))) ZaA)
 (Zan (Za3 (Zke (ZbW (Zbh (Zii Zac))) (ZaE (td_b Zlk (Zii Zac) (Zii Zac)))) (Zaw Zdb) ZaA)
 (Zaw (td_b Zea Zac Zac)))))
theorem ZdZ : CalX P w K mg base "_law_refused" 6 ["_law_found", "_law_due_here"] Za5 := by
 refine T.f_law_refused.ok (body := ZcT) Zgs (by decide) (fun _ => .inr rfl) fun f cdv A outer s H E hr => ?_
 refine ⟨_, (Zah (Zav (Zay (K := K) (mg := mg) (Zbo T 4) rfl rfl Zai (hr.mono (by decide)) (Zaa (pvB 0) (Zaa (Zey (Zaa Za1 (Zaa (Zjh (Zdw rfl T.B.range (Zaa Zam Zae)) (.cons rfl .nil) (.own (x := "_law_k") (.cap (x := "_law_due_here") (j := 1) rfl (Or.inl rfl) (Or.inl rfl) ⟨_, rfl⟩ .nil)) (fun _ _ _ _ => (Zau (i := 0) (show (["_law_k", "_law_due_here"] : List Str).Nodup from by decide +kernel))) (fun _ _ _ _ => ZdH) (fun _ _ _ _ => (Zd8 Zd7 (pvB 0) (pvB 1) (ZaZ _)))) (Zaa Zc7 Zae)))) Zae))))), fun fx => ?_⟩
 unfold ZcT
 exact (Zaw (Zar (Zab Zac (Zab (Zas (Zft (Zab Zcw (Zab (ZcC (ZdA Zal) Zao ZcL (td_b Zea Zac Zac)) (Zab Zdb Zag))))) Zag))))
theorem Zjw : CalX P w K mg base "_law_twin" 1 ["_law_state"] Zet := by
 refine T.f_law_twin.ok (body := Zes) sc_law_twin (by decide) (fun _ => .inr rfl) fun f cdv A outer s H E hr => ?_
 refine ⟨_, (Zaf (ZfM (pvB 0) (ZhE (K := K) (n := 4) rfl rfl (ZaP (Zau (i := 1) sc_law_twin.nd) (ZaP (Zau (i := 2) sc_law_twin.nd) (ZaP (Zau (i := 3) sc_law_twin.nd) (ZaP (Zau (i := 4) sc_law_twin.nd) ZeC))))))
 (Zah (Zav (ZaI (Zaa (ZbM (ZbX (K := K) rfl rfl) rfl T.B.list boot_list (Zaa (pvB 1) Zae)) (Zaa (ZbM (ZbX (K := K) rfl rfl) rfl T.B.list boot_list (Zaa (pvB 2) Zae)) (Zaa (Zjh (Zbu (K := K) rfl (pvB 3)) .nil (.own (x := "_law_row") .nil) (fun _ _ _ _ => (Zau (i := 0) (show (["_law_row"] : List Str).Nodup from by decide +kernel))) (fun _ _ _ _ => ZdH) (fun _ _ _ _ => (ZbM (ZbX (K := K) rfl rfl) rfl T.B.list boot_list (Zaa (pvB 0) Zae)))) (Zaa (ZbM (ZbX (K := K) rfl rfl) rfl T.B.list boot_list (Zaa (pvB 4) Zae)) Zae)))))))), fun fx => ?_⟩
 unfold Zes
 exact (Zan (ZaV Zac (ZfV (ZaQ Zao (ZaQ Zao (ZaQ Zao (ZaQ Zao ZeF))))))
 (Zaw (ZaM (Zab (Za9 Zde Zac) (Zab (Za9 Zde Zac) (Zab (ZcC (Zb2 Zac) Zao ZcL (Za9 Zde Zac)) (Zab (Za9 Zde Zac) Zag)))))))
theorem Zgf : CalX P w K mg base "_law_apply" 2 ["_law_state", "_law_kind", "_law_a", "_law_b", "_law_c"] ZbA := by
 refine T.f_law_apply.ok (body := ZdW) sc_law_apply (by decide) (fun _ => .inr rfl) fun f cdv A outer s H E hr => ?_
 refine ⟨_, (Zaf (ZfM (Zay (K := K) (mg := mg) (Zjw T) rfl rfl Zai (hr.mono (by decide)) (Zaa (pvB 0) Zae)) (ZhE (K := K) (n := 4) rfl rfl (ZaP (Zau (i := 5) sc_law_apply.nd) (ZaP (Zau (i := 6) sc_law_apply.nd) (ZaP (Zau (i := 7) sc_law_apply.nd) (ZaP (Zau (i := 8) sc_law_apply.nd) ZeC))))))
 (Zaf (Za2 (ZaD Zd7 (pvB 1) Zam (ZaZ _)) (Zaf (ZaO (ZcK (K := K) rfl (pvB 5) (Zaa (pvB 2) Zae)))
 (Zah (Zji (i := 7) sc_law_apply.nd rfl (Zbu (K := K) rfl (pvB 7)) .nil (.own (x := "_law_row") .nil) (fun _ _ _ _ => (Zau (i := 0) (show (["_law_row"] : List Str).Nodup from by decide +kernel))) (fun _ _ _ _ => ZdH) (fun _ _ _ _ => (Zbe Zfs (pvB 0) (Zj5 (ns := [0]) rfl)))))) Zaz)
 (Zaf (Za2 (ZaD Zd7 (pvB 1) Zam (ZaZ _)) (Zaf (ZaO (ZcK (K := K) rfl (pvB 6) (Zaa (pvB 2) Zae)))
 (Zaf (ZaO (ZcK (K := K) rfl (pvB 7) (Zaa (Zjh (Zbu (K := K) rfl (pvB 5)) (.cons rfl .nil) (.own (x := "_law_x") (.cap (x := "_law_b") (j := 3) rfl (Or.inl rfl) (Or.inl rfl) ⟨_, rfl⟩ .nil)) (fun _ _ _ _ => (Zau (i := 0) (show (["_law_x", "_law_b"] : List Str).Nodup from by decide +kernel))) (fun _ _ _ _ => ZdH) (fun _ _ _ _ => (Zmd (Zn4 hr) (pvB 1) (pvB 0) Zam))) Zae)))
 (Zah (ZaO (ZcK (K := K) rfl (pvB 8) (Zaa Zc7 Zae)))))) Zaz)
 (Zaf (Za2 (ZaD Zd7 (pvB 1) Zam (ZaZ _)) (Zah (ZfM (pvB 4) (ZjF (Zb0 (q_ix (K := K) rfl) (pvB 7) (ZdK (K := K) rfl (pvB 6) (Zaa (pvB 2) Zae)) (fun _ _ => rfl)) (ZdK (K := K) rfl (pvB 5) (Zaa (pvB 3) Zae)) ZgS))) Zaz)
 (Zaf (Za2 (ZaD (q_in (K := K) rfl) (pvB 1) (Zey (Zaa Zam (Zaa Zam Zae))) (by with_unfolding_all rfl)) (Zah (ZfM (Zd8 Zd7 (pvB 1) Zam (ZaZ _)) (ZjF (pvB 8) (ZdK (K := K) rfl (pvB 6) (Zaa (pvB 2) Zae)) ZgS))) Zaz)
 (Zah (Zav (ZaI (Zaa (pvB 5) (Zaa (pvB 6) (Zaa (pvB 7) (Zaa (pvB 8) Zae)))))))))))), fun fx => ?_⟩
 unfold ZdW
 exact (Zan (ZaV (Zar (Zab Zac Zag)) (ZfV (ZaQ Zao (ZaQ Zao (ZaQ Zao (ZaQ Zao ZeF))))))
 (Zan (Za3 (ZaE (td_b Zea Zac Zal)) (Zan (Zfv Zac)
 (ZaV (ZcC (Zb2 Zac) Zao ZcL (ZaK Zfu Zac Zkt)) Zao)) ZaA)
 (Zan (Za3 (ZaE (td_b Zea Zac Zal)) (Zan (Zfv Zac)
 (Zan (Zfv (ZcC (Zb2 Zac) Zao ZcL (ZiQ Zac Zac Zal)))
 (Zfv Zdb))) ZaA)
 (Zan (Za3 (ZaE (td_b Zea Zac Zal)) (Zkk Zac (ZhI Zbs (tp_b Zbs)) (ZhI Zbs (tp_b Zbs))) ZaA)
 (Zan (Za3 (ZaE (td_b Zjo Zac (Zft (Zab Zal (Zab Zal Zag))))) (Zm8 (td_b Zea Zac Zal) (ZhI Zbs (tp_b Zbs))) ZaA)
 (Zaw (ZaM (Zab Zac (Zab Zac (Zab Zac (Zab Zac Zag)))))))))))
theorem Zgt : CalM P w K mg base "Office" "deeds" 2 ["self"] Zct := by
 refine T.f_Office_deeds.ok (body := Zcs) Zf8 (by decide) (fun _ => .inr rfl) fun f cdv A outer s H E hr => ?_
 refine ⟨_, (Zah (Zav (ZbM (ZbX (K := K) rfl rfl) rfl T.B.list boot_list (Zaa (Zbf (K := K) rfl (Za7 (K := K) (mg := mg) (ZaY T) rfl rfl Zai (hr.mono (by decide)) (pvB 0))) Zae)))), fun fx => ?_⟩
 unfold Zcs
 exact (Zaw (Za9 Zde (ZaW T.fok_Standing_deed_names (ZaF T.c_Office Zag))))
theorem Zgu : CalM P w K mg base "Office" "wares" 2 ["self"] Zcv := by
 refine T.f_Office_wares.ok (body := Zcu) Zf9 (by decide) (fun _ => .inr rfl) fun f cdv A outer s H E hr => ?_
 refine ⟨_, (Zah (Zav (ZbM (ZbX (K := K) rfl rfl) rfl T.B.list boot_list (Zaa (Zbf (K := K) rfl (Za7 (K := K) (mg := mg) (ZaY T) rfl rfl Zai (hr.mono (by decide)) (pvB 0))) Zae)))), fun fx => ?_⟩
 unfold Zcu
 exact (Zaw (Za9 Zde (ZaW T.fok_Standing_ware_names (ZaF T.c_Office Zag))))
theorem Zfp : CalX P w K mg base "forbidden_names" 1 ["standing"] Zcr := by
 refine T.f_forbidden_names.ok (body := ZbL) Ze2 (by decide) (fun _ => .inr rfl) fun f cdv A outer s H E hr => ?_
 refine ⟨_, (Zah (Zav (Zjh (Zbu (K := K) rfl (Zbf (K := K) rfl (pvB 0))) (.cons rfl .nil) (.own (x := "name") (.cap (x := "standing") (j := 0) rfl (Or.inl rfl) (Or.inl rfl) ⟨_, rfl⟩ .nil)) (fun _ _ _ _ => (Zau (i := 0) (show (["name", "standing"] : List Str).Nodup from by decide +kernel))) (fun _ _ _ _ => (Zh8 (ZaD (q_in (K := K) rfl) (pvB 0) (Zbf (K := K) rfl (pvB 1)) (by with_unfolding_all rfl)))) (fun _ _ _ _ => (pvB 0))))), fun fx => ?_⟩
 unfold ZbL
 exact (Zaw (ZcC (Zb2 (ZaW T.fok_Standing_deed_names Zac)) Zao (ZaE (td_b Zjo Zac (ZaW T.fok_Standing_stopped Zac))) Zac))
theorem Ze7 : CalM P w K mg base "Office" "forbidden" 2 ["self"] Zby := by
 refine T.f_Office_forbidden.ok (body := Zbx) ZeN (by decide) (fun _ => .inr rfl) fun f cdv A outer s H E hr => ?_
 refine ⟨_, (Zah (Zav (Zay (K := K) (mg := mg) (Zfp T) rfl rfl Zai (hr.mono (by decide)) (Zaa (Za7 (K := K) (mg := mg) (ZaY T) rfl rfl Zai (hr.mono (by decide)) (pvB 0)) Zae)))), fun fx => ?_⟩
 unfold Zbx
 exact (Zaw (Zar (Zab (Zas (ZaF T.c_Office Zag)) Zag)))
theorem Zir : CalX P w K mg base "number_of" 1 ["standing", "deed", "ware"] ZeO := by
 refine T.f_number_of.ok (body := ZdX) ZhJ (by decide) (fun _ => .inr rfl) fun f cdv A outer s H E hr => ?_
 refine ⟨_, (Zah (Zav (Zb0 (q_ix (K := K) rfl) (Zb0 (q_ix (K := K) rfl) (Zbf (K := K) rfl (pvB 0)) (ZdK (K := K) rfl (Zbf (K := K) rfl (pvB 0)) (Zaa (pvB 1) Zae)) (fun _ _ => rfl)) (ZdK (K := K) rfl (Zbf (K := K) rfl (pvB 0)) (Zaa (pvB 2) Zae)) (fun _ _ => rfl)))), fun fx => ?_⟩
 unfold ZdX
 exact (Zaw (ZaK Zc9 (ZaK Zc9 (ZaW T.fok_Standing_rows Zac) (ZfL (ZaW T.fok_Standing_deed_names Zac) Zac)) (ZfL (ZaW T.fok_Standing_ware_names Zac) Zac)))
theorem Zgg : CalM P w K mg base "Office" "number" 2 ["self", "deed", "ware"] ZbB := by
 refine T.f_Office_number.ok (body := Zce) ZfC (by decide) (fun _ => .inr rfl) fun f cdv A outer s H E hr => ?_
 refine ⟨_, (Zaf (ZaO (Zay (K := K) (mg := mg) (ZcU T) rfl rfl Zai (hr.mono (by decide)) (Zaa (Za7 (K := K) (mg := mg) (ZaY T) rfl rfl Zai (hr.mono (by decide)) (pvB 0)) (Zaa (ZaI (Zaa (pvB 1) Zae)) Zae))))
 (Zaf (ZaO (Zay (K := K) (mg := mg) (ZdY T) rfl rfl Zai (hr.mono (by decide)) (Zaa (Za7 (K := K) (mg := mg) (ZaY T) rfl rfl Zai (hr.mono (by decide)) (pvB 0)) (Zaa (ZaI (Zaa (pvB 2) Zae)) Zae))))
 (Zah (Zav (Zay (K := K) (mg := mg) (Zir T) rfl rfl Zai (hr.mono (by decide)) (Zaa (Za7 (K := K) (mg := mg) (ZaY T) rfl rfl Zai (hr.mono (by decide)) (pvB 0)) (Zaa (pvB 1) (Zaa (pvB 2) Zae)))))))), fun fx => ?_⟩
 unfold Zce
 exact (Zan (Zba (Zar (Zab (Zas (ZaF T.c_Office Zag)) (Zab (Zas (ZaM (Zab Zac Zag))) Zag))))
 (Zan (Zba (Zar (Zab (Zas (ZaF T.c_Office Zag)) (Zab (Zas (ZaM (Zab Zac Zag))) Zag))))
 (Zaw (Zar (Zab (Zas (ZaF T.c_Office Zag)) (Zab Zac (Zab Zac Zag)))))))
theorem Zek : CalX P w K mg base "_law_stands_so" 6 ["_law_office", "_law_state", "_law_kept"] Za8 := by
 refine T.f_law_stands_so.ok (body := Zcf) sc_law_stands_so (by decide) (fun _ => .inr rfl) fun f cdv A outer s H E hr => ?_
 refine ⟨_, (Zaf (ZfM (pvB 1) (ZhE (K := K) (n := 4) rfl rfl (ZaP (Zau (i := 3) sc_law_stands_so.nd) (ZaP (Zau (i := 4) sc_law_stands_so.nd) (ZaP (Zau (i := 5) sc_law_stands_so.nd) (ZaP (Zau (i := 6) sc_law_stands_so.nd) ZeC))))))
 (Zaf (Za2 (PW.pt (ZjD (ZbV (Zbr (Zay (K := K) (mg := mg) (Zbo T 4) rfl rfl Zai (hr.mono (by decide)) (Zaa (Za7 (K := K) (mg := mg) (Zgu T) rfl rfl Zai (hr.mono (by decide)) (pvB 0)) (Zaa (pvB 3) Zae))))) (Zhi (ZbV (Zbr (Zay (K := K) (mg := mg) (Zbo T 4) rfl rfl Zai (hr.mono (by decide)) (Zaa (Za7 (K := K) (mg := mg) (Zgt T) rfl rfl Zai (hr.mono (by decide)) (pvB 0)) (Zaa (pvB 4) Zae)))))))) (Zah (Zav Zc7)) Zaz)
 (Zaf (Za2 (ZbV (Zbr (Zay (K := K) (mg := mg) (Zbo T 4) rfl rfl Zai (hr.mono (by decide)) (Zaa (Za7 (K := K) (mg := mg) (Ze7 T) rfl rfl Zai (hr.mono (by decide)) (pvB 0)) (Zaa (Zjh (Zku (K := K) rfl rfl T.B.zip (Zaa (pvB 4) (Zaa (pvB 6) Zae))) .nil (.own (x := "_law_x") (.own (x := "_law_y") .nil)) (fun _ _ _ _ => (Zj3 (K := K) (n := 2) rfl rfl (ZaP (Zau (i := 0) (show (["_law_x", "_law_y"] : List Str).Nodup from by decide +kernel)) (ZaP (Zau (i := 1) (show (["_law_x", "_law_y"] : List Str).Nodup from by decide +kernel)) ZeC)))) (fun _ _ _ _ => (Zh8 (Zbr (pvB 1)))) (fun _ _ _ _ => (pvB 0))) Zae))))) (Zah (Zav Zc7)) Zaz)
 (Zaf (Za2 (ZbV (Zbr (Zay (K := K) (mg := mg) (Zbo T 4) rfl rfl Zai (hr.mono (by decide)) (Zaa (Za7 (K := K) (mg := mg) (ZaR T) rfl rfl Zai (hr.mono (by decide)) (pvB 0)) (Zaa (pvB 2) Zae))))) (Zah (Zav Zc7)) Zaz)
 (Zaf (Zd5 PassesOwn.leaving rfl (Zdw rfl T.B.range (Zaa (Zat (Zda (K := K) rfl) rfl T.B.len PySem.boot_len (Zaa (pvB 4) Zae)) Zae)) (Zau (i := 7) sc_law_stands_so.nd) (Zah (Zd5 PassesOwn.leaving rfl (Zdw rfl T.B.range (Zaa (Zat (Zda (K := K) rfl) rfl T.B.len PySem.boot_len (Zaa (pvB 3) Zae)) Zae)) (Zau (i := 8) sc_law_stands_so.nd) (Zah (Za2 (ZbV (Zbr (Zay (K := K) (mg := mg) (Zbo T 4) rfl rfl Zai (hr.mono (by decide)) (Zaa (Zd1 (K := K) (mg := mg) (Zgg T) rfl rfl Zai (hr.mono (by decide)) (pvB 0) (Zaa (Zb0 (q_ix (K := K) rfl) (pvB 4) (pvB 7) (fun _ _ => rfl)) (Zaa (Zb0 (q_ix (K := K) rfl) (pvB 3) (pvB 8) (fun _ _ => rfl)) Zae))) (Zaa (Zb0 (q_ix (K := K) rfl) (Zb0 (q_ix (K := K) rfl) (pvB 5) (pvB 7) (fun _ _ => rfl)) (pvB 8) (fun _ _ => rfl)) Zae))))) (Zah (Zav Zc7)) Zaz)))))
 (Zah (Zav Zc7))))))), fun fx => ?_⟩
 unfold Zcf
 exact (Zan (ZaV Zac (ZfV (ZaQ Zao (ZaQ Zao (ZaQ Zao (ZaQ Zao ZeF))))))
 (Zan (Za3 (Zke (ZbW (Zbh (Zar (Zab (Zas (ZaF T.c_Office Zag)) (Zab Zac Zag))))) (ZbW (Zbh (Zar (Zab (Zas (ZaF T.c_Office Zag)) (Zab Zac Zag)))))) (Zaw Zdb) ZaA)
 (Zan (Za3 (ZbW (Zbh (Zar (Zab (Zas (ZaF T.c_Office Zag)) (Zab (Zas (ZcC (Zkv Zac Zac) (Zl3 (ZaQ Zao (ZaQ Zao ZeF))) (Zbh Zac) Zac)) Zag))))) (Zaw Zdb) ZaA)
 (Zan (Za3 (ZbW (Zbh (Zar (Zab (Zas (ZaF T.c_Office Zag)) (Zab Zac Zag))))) (Zaw Zdb) ZaA)
 (Zan (Zd9 (ZdA (Za9 Zb1 Zac)) Zao (Zd9 (ZdA (Za9 Zb1 Zac)) Zao (Za3 (ZbW (Zbh (Zar (Zab (Zas (ZaF T.c_Office (Zab (Zas (ZaK Zc9 Zac Zac)) (Zab (Zas (ZaK Zc9 Zac Zac)) Zag)))) (Zab (Zas (ZaK Zc9 (ZaK Zc9 Zac Zac) Zac)) Zag))))) (Zaw Zdb) ZaA)))
 (Zaw Zdb))))))
theorem ZgF : CalX P w K mg base "_law_more" 7 ["_law_office", "_law_past"] ZdE := by
 refine T.f_law_more.ok (body := Zeu) sc_law_more (by decide) (fun _ => .inr rfl) fun f cdv A outer s H E hr => ?_
 refine ⟨_, (@Zaf _ _ _ _ _ (@ZaS _ _ (2) _ _ _ _ sc_law_more.nd (@ZaI _ _ _ _ (@Zaa _ _ _ _ _ (@ZaI _ _ _ _ (@Zaa _ _ _ _ _ (@Zam _ _ _ _) (@Zaa _ _ _ _ _ (@Za1 _ _ _ _) (@Zaa _ _ _ _ _ (@Zam _ _ _ _) (@Zaa _ _ _ _ _ (@Zam _ _ _ _) (@Zae _) (by rfl)) (by rfl)) (by rfl)) (by rfl))) (@Zaa _ _ _ _ _ (@ZaI _ _ _ _ (@Zaa _ _ _ _ _ (@Zam _ _ _ _) (@Zaa _ _ _ _ _ (@Za1 _ _ _ _) (@Zaa _ _ _ _ _ Zlb (@Zaa _ _ _ _ _ (@Zam _ _ _ _) (@Zae _) (by rfl)) (by rfl)) (by rfl)) (by rfl))) (@Zaa _ _ _ _ _ (@ZaI _ _ _ _ (@Zaa _ _ _ _ _ (@Zam _ _ _ _) (@Zaa _ _ _ _ _ (@Za1 _ _ _ _) (@Zaa _ _ _ _ _ (@Zam _ _ _ _) (@Zaa _ _ _ _ _ (@Zam _ _ _ _) (@Zae _) (by rfl)) (by rfl)) (by rfl)) (by rfl))) (@Zaa _ _ _ _ _ (@ZaI _ _ _ _ (@Zaa _ _ _ _ _ (@Zam _ _ _ _) (@Zaa _ _ _ _ _ (@Za1 _ _ _ _) (@Zaa _ _ _ _ _ (@Zam _ _ _ _) (@Zaa _ _ _ _ _ (@Zam _ _ _ _) (@Zae _) (by rfl)) (by rfl)) (by rfl)) (by rfl))) (@Zaa _ _ _ _ _ (@ZaI _ _ _ _ (@Zaa _ _ _ _ _ (@Zam _ _ _ _) (@Zaa _ _ _ _ _ (@Za1 _ _ _ _) (@Zaa _ _ _ _ _ (@Za1 _ _ _ _) (@Zaa _ _ _ _ _ (@Zam _ _ _ _) (@Zae _) (by rfl)) (by rfl)) (by rfl)) (by rfl))) (@Zae _) (by rfl)) (by rfl)) (by rfl)) (by rfl)) (by rfl))) (by rfl) (by rfl)) (@Zaf _ _ _ _ _ (@Zd5 _ _ _ _ _ _ _ _ PassesOwn.leaving rfl (@Zbu _ (K) _ _ _ rfl (@pvB _ _ 2 _ (by rfl))) (ZhE (K := K) (n := 4) rfl rfl (ZaP (Zau (i := 3) sc_law_more.nd) (ZaP (Zau (i := 4) sc_law_more.nd) (ZaP (Zau (i := 5) sc_law_more.nd) (ZaP (Zau (i := 6) sc_law_more.nd) ZeC))))) (@Zaf _ _ _ _ _ (@ZaS _ _ (7) _ _ _ _ sc_law_more.nd (Zay (K := K) (mg := mg) (ZkI T) rfl rfl Zai (hr.mono (by decide)) (Zaa (Zb0 (q_ix (K := K) rfl) (pvB 1) (ZgO ZeQ Zam) (fun _ _ => rfl)) (Zaa (Zbe Zd6 (Zat (Zda (K := K) rfl) rfl T.B.len PySem.boot_len (Zaa (pvB 1) Zae)) Zam) (Zaa (pvB 3) (Zaa (pvB 4) Zae))))) (by rfl) (by rfl)) (@Zaf _ _ _ _ _ (@ZaS _ _ (8) _ _ _ _ sc_law_more.nd (Zay (K := K) (mg := mg) (Zha T) rfl rfl Zai (hr.mono (by decide)) (Zaa (pvB 0) (Zaa (pvB 3) (Zaa (pvB 4) (Zaa (pvB 5) (Zaa (pvB 6) Zae)))))) (by rfl) (by rfl)) (@Zah _ _ _ (@Za2 _ _ _ _ _ _ _ _ (@ZaD _ _ _ _ _ _ _ _ Zmx (@pvB _ _ 7 _ (by rfl)) (@Zam _ _ _ _) (ZaZ _)) (@Zah _ _ _ (@Za2 _ _ _ _ _ _ _ _ (@ZbV _ _ _ _ (@Zbr _ _ _ (Zay (K := K) (mg := mg) (ZdZ T) rfl rfl Zai (hr.mono (by decide)) (Zaa (pvB 8) (Zaa (pvB 7) Zae))) (by intro _; rfl))) (@Zah _ _ _ (@Zav _ _ _ _ (@Zc7 _ _ _ _))) (@Zaz _))) (@Zaf _ _ _ _ _ (@ZaO _ _ _ _ (ZcK (K := K) rfl (pvB 1) (Zaa (Zay (K := K) (mg := mg) (Zgf T) rfl rfl Zai (hr.mono (by decide)) (Zaa (Zb0 (q_ix (K := K) rfl) (pvB 1) (ZgO ZeQ Zam) (fun _ _ => rfl)) (Zaa (pvB 3) (Zaa (pvB 4) (Zaa (pvB 5) (Zaa (pvB 6) Zae)))))) Zae)) (by rfl)) (@Zah _ _ _ (@Za2 _ _ _ _ _ _ _ _ (@ZbV _ _ _ _ (@Zbr _ _ _ (Zay (K := K) (mg := mg) (Zbo T 4) rfl rfl Zai (hr.mono (by decide)) (Zaa (pvB 8) (Zaa (Zey (Zaa Za1 (Zaa (Zbe Zd6 (Zat (Zda (K := K) rfl) rfl T.B.len PySem.boot_len (Zaa (pvB 1) Zae)) Zam) Zae))) Zae))) (by intro _; rfl))) (@Zah _ _ _ (@Zav _ _ _ _ (@Zc7 _ _ _ _))) (@Zaz _)))))))) (by intro _; rfl)) (@Zah _ _ _ (@Zav _ _ _ _ (Zay (K := K) (mg := mg) (Zek T) rfl rfl Zai (hr.mono (by decide)) (Zaa (pvB 0) (Zaa (Zb0 (q_ix (K := K) rfl) (pvB 1) (ZgO ZeQ Zam) (fun _ _ => rfl)) (Zaa (Zbe Zd6 (Zat (Zda (K := K) rfl) rfl T.B.len PySem.boot_len (Zaa (pvB 1) Zae)) Zam) Zae)))))))), fun fx => ?_⟩
 unfold Zeu
 exact (Zan (ZaV (ZaM (Zab (ZaM (Zab Zal (Zab Zcw (Zab Zal (Zab Zal Zag))))) (Zab (ZaM (Zab Zal (Zab Zcw (Zab Zng (Zab Zal Zag))))) (Zab (ZaM (Zab Zal (Zab Zcw (Zab Zal (Zab Zal Zag))))) (Zab (ZaM (Zab Zal (Zab Zcw (Zab Zal (Zab Zal Zag))))) (Zab (ZaM (Zab Zal (Zab Zcw (Zab Zcw (Zab Zal Zag))))) Zag)))))) Zao)
 (Zan (Zd9 (Zb2 Zac) (ZfV (ZaQ Zao (ZaQ Zao (ZaQ Zao (ZaQ Zao ZeF))))) (Zan (ZaV (Zar (Zab (Zas (td_p (Zjp Zbs (ZfY Zf3)))) (Zab (Zas (ZaK ZeY (Zcm (fun _ => (Za9 Zb1 Zac))) Zal)) (Zab Zac (Zab Zac Zag))))) Zao)
 (Zan (ZaV (Zar (ZeX (Zab Zac (Zab Zac (Zab Zac (Zab Zac Zag)))))) Zao)
 (Za3 (ZaE (td_b Zm3 Zac Zal)) (Za3 (ZbW (Zbh (Zar (Zab Zac (Zab Zac Zag))))) (Zaw Zdb) ZaA) (Zan (Zfv (Zas (Zar (Zab (Zas (td_p (Zjp Zbs (ZfY Zf3)))) (Zab Zac (Zab Zac (Zab Zac (Zab Zac Zag))))))))
 (Za3 (ZbW (Zbh (Zar (Zab Zac (Zab (Zas (Zft (Zab Zcw (Zab (ZaK ZeY (Zcm (fun _ => (Za9 Zb1 Zac))) Zal) Zag)))) Zag))))) (Zaw Zdb) ZaA))))))
 (Zaw (Zar (ZeX (Zab (Zas (td_p (Zjp Zbs (ZfY Zf3)))) (Zab (Zas (ZaK ZeY (Zcm (fun _ => (Za9 Zb1 Zac))) Zal)) Zag)))))))
theorem ZhM : CalX P w K mg base "_law_played" 7 ["_law_office", "_law_past", "_law_many", "_law_values"] Zdn := by
 refine T.f_law_played.ok (body := Zdm) sc_law_played (by decide) (fun _ => .inr rfl) fun f cdv A outer s H E hr => ?_
 refine ⟨_, (@Zaf _ _ _ _ _ (@Zd5 _ _ _ _ _ _ _ _ PassesOwn.leaving rfl (@Zdw _ _ _ _ _ _ rfl T.B.range (@Zaa _ _ _ _ _ (@pvB _ _ 2 _ (by rfl)) (@Zae _) (by rfl)) (by rfl)) (@Zau _ _ (4) _ sc_law_played.nd (by rfl)) (@Zaf _ _ _ _ _ (@ZaS _ _ (5) _ _ _ _ sc_law_played.nd (@Zb0 _ _ _ _ _ _ _ (q_ix (K := K) rfl) (@ZaI _ _ _ _ (@Zaa _ _ _ _ _ (@ZaI _ _ _ _ (@Zaa _ _ _ _ _ (@Zam _ _ _ _) (@Zaa _ _ _ _ _ (@Za1 _ _ _ _) (@Zaa _ _ _ _ _ (@Zam _ _ _ _) (@Zaa _ _ _ _ _ (@Zam _ _ _ _) (@Zae _) (by rfl)) (by rfl)) (by rfl)) (by rfl))) (@Zaa _ _ _ _ _ (@ZaI _ _ _ _ (@Zaa _ _ _ _ _ (@Zam _ _ _ _) (@Zaa _ _ _ _ _ (@Za1 _ _ _ _) (@Zaa _ _ _ _ _ (ZmV (Zlc Za1 Zam ZmU) rfl rfl (by simp) (by decide)) (@Zaa _ _ _ _ _ (@Zam _ _ _ _) (@Zae _) (by rfl)) (by rfl)) (by rfl)) (by rfl))) (@Zaa _ _ _ _ _ (@ZaI _ _ _ _ (@Zaa _ _ _ _ _ (@Zam _ _ _ _) (@Zaa _ _ _ _ _ (@Za1 _ _ _ _) (@Zaa _ _ _ _ _ (@Za1 _ _ _ _) (@Zaa _ _ _ _ _ (@Zb0 _ _ _ _ _ _ _ (q_ix (K := K) rfl) (@pvB _ _ 3 _ (by rfl)) (@Zbe _ _ _ _ _ _ _ _ Zdx (@pvB _ _ 4 _ (by rfl)) (@Zat _ _ _ _ _ _ _ _ _ (Zda (K := K) rfl) rfl T.B.len PySem.boot_len (@Zaa _ _ _ _ _ (@pvB _ _ 3 _ (by rfl)) (@Zae _) (by rfl)) (by decide) (by decide) (by rfl) (by rfl))) (fun _ _ => rfl)) (@Zae _) (by rfl)) (by rfl)) (by rfl)) (by rfl))) (@Zae _) (by rfl)) (by rfl)) (by rfl))) (@Zat _ _ _ _ _ _ _ _ _ (ZjN rfl) rfl T.B.min boot_min (@Zaa _ _ _ _ _ (@pvB _ _ 4 _ (by rfl)) (@Zaa _ _ _ _ _ (@Zam _ _ _ _) (@Zae _) (by rfl)) (by rfl)) (by decide) (by decide) (by rfl) (by rfl)) (fun _ _ => rfl)) (by rfl) (by rfl)) (@Zaf _ _ _ _ _ (@ZaS _ _ (6) _ _ _ _ sc_law_played.nd (Zay (K := K) (mg := mg) (Zha T) rfl rfl Zai (hr.mono (by decide)) (Zaa (pvB 0) (Zaa (Zb0 (q_ix (K := K) rfl) (pvB 5) Zam (fun _ _ => rfl)) (Zaa (Zb0 (q_ix (K := K) rfl) (pvB 5) Zam (fun _ _ => rfl)) (Zaa (Zb0 (q_ix (K := K) rfl) (pvB 5) Zam (fun _ _ => rfl)) (Zaa (Zb0 (q_ix (K := K) rfl) (pvB 5) Zam (fun _ _ => rfl)) Zae)))))) (by rfl) (by rfl)) (@Zah _ _ _ (@Za2 _ _ _ _ _ _ _ _ (@ZaD _ _ _ _ _ _ _ _ Zi8 (@Zat _ _ _ _ _ _ _ _ _ (Zda (K := K) rfl) rfl T.B.len PySem.boot_len (@Zaa _ _ _ _ _ (@pvB _ _ 1 _ (by rfl)) (@Zae _) (by rfl)) (by decide) (by decide) (by rfl) (by rfl)) (@Zam _ _ _ _) (ZaZ _)) (@Zah _ _ _ (@Za2 _ _ _ _ _ _ _ _ (@ZbV _ _ _ _ (@Zbr _ _ _ (Zay (K := K) (mg := mg) (ZdZ T) rfl rfl Zai (hr.mono (by decide)) (Zaa (pvB 6) (Zaa Zam Zae))) (by intro _; rfl))) (@Zah _ _ _ (@Zav _ _ _ _ (@Zc7 _ _ _ _))) (@Zaz _))) (@Zaf _ _ _ _ _ (@ZaO _ _ _ _ (ZcK (K := K) rfl (pvB 1) (Zaa (Zay (K := K) (mg := mg) (Zgf T) rfl rfl Zai (hr.mono (by decide)) (Zaa (Zb0 (q_ix (K := K) rfl) (pvB 1) (ZgO ZeQ Zam) (fun _ _ => rfl)) (Zaa (Zb0 (q_ix (K := K) rfl) (pvB 5) Zam (fun _ _ => rfl)) (Zaa (Zb0 (q_ix (K := K) rfl) (pvB 5) Zam (fun _ _ => rfl)) (Zaa (Zb0 (q_ix (K := K) rfl) (pvB 5) Zam (fun _ _ => rfl)) (Zaa (Zb0 (q_ix (K := K) rfl) (pvB 5) Zam (fun _ _ => rfl)) Zae)))))) Zae)) (by rfl)) (@Zah _ _ _ (@Za2 _ _ _ _ _ _ _ _ (@ZbV _ _ _ _ (@Zbr _ _ _ (Zay (K := K) (mg := mg) (Zbo T 4) rfl rfl Zai (hr.mono (by decide)) (Zaa (pvB 6) (Zaa (Zey (Zaa Za1 (Zaa (Zbe Zd6 (Zat (Zda (K := K) rfl) rfl T.B.len PySem.boot_len (Zaa (pvB 1) Zae)) Zam) Zae))) Zae))) (by intro _; rfl))) (@Zah _ _ _ (@Zav _ _ _ _ (@Zc7 _ _ _ _))) (@Zaz _)))))))) (by intro _; rfl)) (@Zah _ _ _ (@Zav _ _ _ _ (@Zc7 _ _ _ _)))), fun fx => ?_⟩
 unfold Zdm
 exact (Zan (Zd9 (ZdA Zac) Zao (Zan (ZaV (ZaK Zc9 (ZaM (Zab (ZaM (Zab Zal (Zab Zcw (Zab Zal (Zab Zal Zag))))) (Zab (ZaM (Zab Zal (Zab Zcw (Zab (ZlB Zal) (Zab Zal Zag))))) (Zab (ZaM (Zab Zal (Zab Zcw (Zab Zcw (Zab (ZaK Zc9 Zac (ZaK Zdy Zac (Za9 Zb1 Zac))) Zag))))) Zag)))) (Zom ZoK Zac Zal)) Zao)
 (Zan (ZaV (Zar (ZeX (Zab (Zas (ZaK Zc9 Zac Zal)) (Zab (Zas (ZaK Zc9 Zac Zal)) (Zab (Zas (ZaK Zc9 Zac Zal)) (Zab (Zas (ZaK Zc9 Zac Zal)) Zag)))))) Zao)
 (Za3 (ZaE (td_b Zjn (Zcm (fun _ => (Za9 Zb1 Zac))) Zal)) (Za3 (ZbW (Zbh (Zar (Zab Zac (Zab Zal Zag))))) (Zaw Zdb) ZaA) (Zan (Zfv (Zas (Zar (Zab (Zas (td_p (Zjp Zbs (ZfY Zf3)))) (Zab (Zas (ZaK Zc9 Zac Zal)) (Zab (Zas (ZaK Zc9 Zac Zal)) (Zab (Zas (ZaK Zc9 Zac Zal)) (Zab (Zas (ZaK Zc9 Zac Zal)) Zag))))))))
 (Za3 (ZbW (Zbh (Zar (Zab Zac (Zab (Zas (Zft (Zab Zcw (Zab (ZaK ZeY (Zcm (fun _ => (Za9 Zb1 Zac))) Zal) Zag)))) Zag))))) (Zaw Zdb) ZaA))))))
 (Zaw Zdb))
theorem ZoN {f : Addr} {fd : FuncData} (Fn : Fun K "law" "law" ZkE f fd) : FnOk P w K mg base (XC P w) 8 f fd ["_law_script"] (spF K mg 1 ZlC) := by
 refine Fun.okX Fn (body := ZkG) sc_law (by decide) (fun _ => .inr rfl) fun cdv A outer s H E hr => ?_
 refine ⟨_, (@Zaf _ _ _ _ _ (@ZaS _ _ (1) _ _ _ _ sc_law.nd (Zay (K := K) (mg := mg) (Zev T) rfl rfl Zai (hr.mono (by decide)) (Zaa (pvB 0) (Zaa Zam Zae))) (by rfl) (by rfl)) (@Zaf _ _ _ _ _ (@ZaS _ _ (2) _ _ _ _ sc_law.nd (@Zb0 _ _ _ _ _ _ _ (q_ix (K := K) rfl) (@ZaI _ _ _ _ (@Zaa _ _ _ _ _ (@Zbe _ _ _ _ _ _ _ _ Zdx (Zay (K := K) (mg := mg) (Zev T) rfl rfl Zai (hr.mono (by decide)) (Zaa (pvB 0) (Zaa Zam Zae))) (@Zam _ _ _ _)) (@Zaa _ _ _ _ _ (@Zbe _ _ _ _ _ _ _ _ ZjI (@Zam _ _ _ _) (@Zbe _ _ _ _ _ _ _ _ Zdx (Zay (K := K) (mg := mg) (Zev T) rfl rfl Zai (hr.mono (by decide)) (Zaa (pvB 0) (Zaa Zam Zae))) (@Zam _ _ _ _))) (@Zae _) (by rfl)) (by rfl))) (@ZbM _ _ _ _ _ _ _ _ _ ZjO rfl T.B.int boot_int (@Zaa _ _ _ _ _ (@Zd8 _ _ _ _ _ _ _ _ Zd7 (@Zbe _ _ _ _ _ _ _ _ Zdx (@pvB _ _ 1 _ (by rfl)) (@Zam _ _ _ _)) (@Zam _ _ _ _) (ZaZ _)) (@Zae _) (by rfl)) (by decide) (by decide) (by rfl) (by rfl)) (fun _ _ => rfl)) (by rfl) (by rfl)) (@Zaf _ _ _ _ _ (@Zji _ _ _ _ _ _ _ _ _ _ _ _ _ _ (3) _ _ _ sc_law.nd rfl (@Zbu _ (K) _ _ _ rfl (Zay (K := K) (mg := mg) (Ziq T) rfl rfl Zai (hr.mono (by decide)) (Zaa (Zay (K := K) (mg := mg) (Zev T) rfl rfl Zai (hr.mono (by decide)) (Zaa (pvB 0) (Zaa Zam Zae))) (Zaa Zam (Zaa Zam (Zaa (Zd8 Zd7 (Zbe Zdx (Zbe ZgP (pvB 1) Zam) Zam) Zam (ZaZ _)) Zae)))))) .nil (.own (x := "_law_x") .nil) (fun _ _ _ _ => (@Zau _ _ (0) _ (show (["_law_x"] : List Str).Nodup from by decide +kernel) (by rfl))) (fun _ _ _ _ => (@ZdH _)) (fun _ _ _ _ => (@Zbe _ _ _ _ _ _ _ _ Zd6 (@pvB _ _ 0 _ (by rfl)) (@Zam _ _ _ _))) (by rfl) (by rfl) (by rfl) (by rfl) (by rfl) (by rfl) (by rfl) (by rfl) (by intro _; rfl)) (@Zaf _ _ _ _ _ (@ZaS _ _ (4) _ _ _ _ sc_law.nd (Znk (K := K) (mg := mg) (Zg8 T) rfl rfl Zai (hr.mono (by decide))) (by rfl) (by rfl)) (@Zaf _ _ _ _ _ (@ZaS _ _ (5) _ _ _ _ sc_law.nd (@ZaI _ _ _ _ (@Zaa _ _ _ _ _ (@ZaI _ _ _ _ (@Zaa _ _ _ _ _ (@ZaI _ _ _ _ (@Zae _)) (@Zaa _ _ _ _ _ (@ZaI _ _ _ _ (@Zae _)) (@Zaa _ _ _ _ _ (@ZaI _ _ _ _ (@Zae _)) (@Zaa _ _ _ _ _ (@ZaI _ _ _ _ (@Zae _)) (@Zae _) (by rfl)) (by rfl)) (by rfl)) (by rfl))) (@Zae _) (by rfl))) (by rfl) (by rfl)) (@Zaf _ _ _ _ _ (@Za2 _ _ _ _ _ _ _ _ (@PW.pt _ _ _ (@ZjD _ _ _ _ _ _ _ (@ZbV _ _ _ _ (@Zbr _ _ _ (Zay (K := K) (mg := mg) (ZhM T) rfl rfl Zai (hr.mono (by decide)) (Zaa (pvB 4) (Zaa (pvB 5) (Zaa (pvB 2) (Zaa (pvB 3) Zae))))) (by intro _; rfl))) (@Zhi _ _ _ _ (@ZbV _ _ _ _ (@Zbr _ _ _ (Zay (K := K) (mg := mg) (ZgF T) rfl rfl Zai (hr.mono (by decide)) (Zaa (pvB 4) (Zaa (pvB 5) Zae))) (by intro _; rfl)))))) (@Zah _ _ _ (@Zav _ _ _ _ (@Zc7 _ _ _ _))) (@Zaz _)) (@Zaf _ _ _ _ _ (@ZaS _ _ (6) _ _ _ _ sc_law.nd (@Zb0 _ _ _ _ _ _ _ (q_ix (K := K) rfl) (@ZaI _ _ _ _ (@Zaa _ _ _ _ _ (@Zbe _ _ _ _ _ _ _ _ Zdx (Zay (K := K) (mg := mg) (Zev T) rfl rfl Zai (hr.mono (by decide)) (Zaa (pvB 0) (Zaa Zam Zae))) (@Zam _ _ _ _)) (@Zaa _ _ _ _ _ (@Zbe _ _ _ _ _ _ _ _ Zdx (Zay (K := K) (mg := mg) (Zev T) rfl rfl Zai (hr.mono (by decide)) (Zaa (pvB 0) (Zaa Zam Zae))) (@Zam _ _ _ _)) (@Zae _) (by rfl)) (by rfl))) (@Zbe _ _ _ _ _ _ _ _ Zdx (@Zbe _ _ _ _ _ _ _ _ ZgP (@pvB _ _ 1 _ (by rfl)) (@Zam _ _ _ _)) (@Zam _ _ _ _)) (fun _ _ => rfl)) (by rfl) (by rfl)) (@Zaf _ _ _ _ _ (@Zd5 _ _ _ _ _ _ _ _ PassesOwn.leaving rfl (@Zdw _ _ _ _ _ _ rfl T.B.range (@Zaa _ _ _ _ _ (@Zam _ _ _ _) (@Zae _) (by rfl)) (by rfl)) (@Zau _ _ (7) _ sc_law.nd (by rfl)) (@Zaf _ _ _ _ _ (@ZaS _ _ (8) _ _ _ _ sc_law.nd (Zay (K := K) (mg := mg) (Zha T) rfl rfl Zai (hr.mono (by decide)) (Zaa (pvB 4) (Zaa Zam (Zaa (pvB 6) (Zaa Zam (Zaa Zam Zae)))))) (by rfl) (by rfl)) (@Zaf _ _ _ _ _ (@Za2 _ _ _ _ _ _ _ _ (@ZaD _ _ _ _ _ _ _ _ Zmx (@pvB _ _ 6 _ (by rfl)) (@Zat _ _ _ _ _ _ _ _ _ (Zda (K := K) rfl) rfl T.B.len PySem.boot_len (@Zaa _ _ _ _ _ (@pvB _ _ 5 _ (by rfl)) (@Zae _) (by rfl)) (by decide) (by decide) (by rfl) (by rfl)) (ZaZ _)) (@Zah _ _ _ (@Za2 _ _ _ _ _ _ _ _ (@ZbV _ _ _ _ (@Zbr _ _ _ (Zay (K := K) (mg := mg) (ZdZ T) rfl rfl Zai (hr.mono (by decide)) (Zaa (pvB 8) (Zaa Zam Zae))) (by intro _; rfl))) (@Zah _ _ _ (@Zav _ _ _ _ (@Zc7 _ _ _ _))) (@Zaz _))) (@Zaf _ _ _ _ _ (@ZaS _ _ (5) _ _ _ _ sc_law.nd (@ZgR _ _ _ _ _ _ _ _ _ _ (ZgW (K := K) rfl) (@pvB _ _ 5 _ (by rfl)) (@Zh4 _) (@Zh5 _ _ _ (@Zbe _ _ _ _ _ _ _ _ Zd6 (@Zat _ _ _ _ _ _ _ _ _ (Zda (K := K) rfl) rfl T.B.len PySem.boot_len (@Zaa _ _ _ _ _ (@pvB _ _ 5 _ (by rfl)) (@Zae _) (by rfl)) (by decide) (by decide) (by rfl) (by rfl)) (@pvB _ _ 6 _ (by rfl))))) (by rfl) (by rfl)) (@Zah _ _ _ (@Za2 _ _ _ _ _ _ _ _ (@ZbV _ _ _ _ (@Zbr _ _ _ (Zay (K := K) (mg := mg) (Zbo T 4) rfl rfl Zai (hr.mono (by decide)) (Zaa (pvB 8) (Zaa (Zey (Zaa Za1 (Zaa (Zbe Zd6 (Zat (Zda (K := K) rfl) rfl T.B.len PySem.boot_len (Zaa (pvB 5) Zae)) Zam) Zae))) Zae))) (by intro _; rfl))) (@Zah _ _ _ (@Zav _ _ _ _ (@Zc7 _ _ _ _))) (@Zaz _))))) (@Zah _ _ _ (@Za2 _ _ _ _ _ _ _ _ (@ZbV _ _ _ _ (@Zbr _ _ _ (Zay (K := K) (mg := mg) (Zek T) rfl rfl Zai (hr.mono (by decide)) (Zaa (pvB 4) (Zaa (Zb0 (q_ix (K := K) rfl) (pvB 5) (ZgO ZeQ Zam) (fun _ _ => rfl)) (Zaa (Zbe Zd6 (Zat (Zda (K := K) rfl) rfl T.B.len PySem.boot_len (Zaa (pvB 5) Zae)) Zam) Zae)))) (by intro _; rfl))) (@Zah _ _ _ (@Zav _ _ _ _ (@Zc7 _ _ _ _))) (@Zaz _))))) (by intro _; rfl)) (@Zaf _ _ _ _ _ (@Za2 _ _ _ _ _ _ _ _ (@ZaD _ _ _ _ _ _ _ _ Zi8 (@Zat _ _ _ _ _ _ _ _ _ (Zda (K := K) rfl) rfl T.B.len PySem.boot_len (@Zaa _ _ _ _ _ (@pvB _ _ 5 _ (by rfl)) (@Zae _) (by rfl)) (by decide) (by decide) (by rfl) (by rfl)) (@Zam _ _ _ _) (ZaZ _)) (@Zaf _ _ _ _ _ (@ZaS _ _ (5) _ _ _ _ sc_law.nd (@ZgR _ _ _ _ _ _ _ _ _ _ (ZgW (K := K) rfl) (@pvB _ _ 5 _ (by rfl)) (@Zh4 _) (@Zh5 _ _ _ (@ZgO _ _ _ _ _ _ ZeQ (@Zam _ _ _ _)))) (by rfl) (by rfl)) (@Zah _ _ _ (@Za2 _ _ _ _ _ _ _ _ (@ZbV _ _ _ _ (@Zbr _ _ _ (Zay (K := K) (mg := mg) (Zbo T 4) rfl rfl Zai (hr.mono (by decide)) (Zaa (Znr (K := K) (mg := mg) (Zdo T) rfl rfl Zai (hr.mono (by decide)) (pvB 4)) (Zaa (Zbe Zd6 (Zat (Zda (K := K) rfl) rfl T.B.len PySem.boot_len (Zaa (pvB 5) Zae)) Zam) Zae))) (by intro _; rfl))) (@Zah _ _ _ (@Zav _ _ _ _ (@Zc7 _ _ _ _))) (@Zaz _)))) (@Zaz _)) (@Zah _ _ _ (@Zav _ _ _ _ (Zay (K := K) (mg := mg) (ZgF T) rfl rfl Zai (hr.mono (by decide)) (Zaa (pvB 4) (Zaa (pvB 5) Zae)))))))))))))), fun fx => ?_⟩
 unfold ZkG
 exact (Zan (ZaV (Zar (Zab Zac (Zab Zal Zag))) Zao)
 (Zan (ZaV (ZaK Zc9 (ZaM (Zab (ZaK Zdy (Zar (Zab Zac (Zab Zal Zag))) Zal) (Zab (ZaK Zkh Zal (ZaK Zdy (Zar (Zab Zac (Zab Zal Zag))) Zal)) Zag))) (Za9 Zoo (td_b Zea (ZaK Zdy Zac Zal) Zal))) Zao)
 (Zan (ZaV (ZcC (Zb2 (Zar (Zab (Zas (Zar (Zab Zac (Zab Zal Zag)))) (Zab Zal (Zab Zal (Zab (Zas (td_b Zea (ZaK Zdy (ZaK ZiL Zac Zal) Zal) Zal)) Zag)))))) Zao ZcL (ZaK ZeY Zac Zal)) Zao)
 (Zan (ZaV (ZeH T.c_Office Zag) Zao)
 (Zan (ZaV (ZaM (Zab (Zas (ZaM (Zab (ZaM Zag) (Zab (ZaM Zag) (Zab (ZaM Zag) (Zab (ZaM Zag) Zag)))))) Zag)) Zao)
 (Zan (Za3 (Zke (ZbW (Zbh (Zar (ZeX (ZeX (Zab Zac (Zab Zac Zag))))))) (ZbW (Zbh (Zar (ZeX (ZeX Zag)))))) (Zaw Zdb) ZaA)
 (Zan (ZaV (ZaK Zc9 (ZaM (Zab (ZaK Zdy (Zar (Zab Zac (Zab Zal Zag))) Zal) (Zab (ZaK Zdy (Zar (Zab Zac (Zab Zal Zag))) Zal) Zag))) (ZaK Zdy (ZaK ZiL Zac Zal) Zal)) Zao)
 (Zan (Zd9 (ZdA Zal) Zao (Zan (ZaV (Zar (ZeX (Zab Zal (Zab Zac (Zab Zal (Zab Zal Zag)))))) Zao)
 (Zan (Za3 (ZaE (td_b Zm3 Zac (Zcm (fun _ => (Za9 Zb1 Zac))))) (Za3 (ZbW (Zbh (Zar (Zab Zac (Zab Zal Zag))))) (Zaw Zdb) ZaA) (Zan (ZaV (Zin Zbs (Zl9 (Zkj Zbs) (tp_b Zbs))) Zao)
 (Za3 (ZbW (Zbh (Zar (Zab Zac (Zab (Zas (Zft (Zab Zcw (Zab (ZaK ZeY (Zcm (fun _ => (Za9 Zb1 Zac))) Zal) Zag)))) Zag))))) (Zaw Zdb) ZaA)))
 (Za3 (ZbW (Zbh (Zar (ZeX (Zab (Zas (td_p (Zjp Zbs (ZfY Zf3)))) (Zab (Zas (ZaK ZeY (Zcm (fun _ => (Za9 Zb1 Zac))) Zal)) Zag)))))) (Zaw Zdb) ZaA))))
 (Zan (Za3 (ZaE (td_b Zjn (Zcm (fun _ => (Za9 Zb1 Zac))) Zal)) (Zan (ZaV (Zin Zbs (ZfY Zf3)) Zao)
 (Za3 (ZbW (Zbh (Zar (Zab (Zas (ZlA T.c_Office)) (Zab (Zas (ZaK ZeY (Zcm (fun _ => (Za9 Zb1 Zac))) Zal)) Zag))))) (Zaw Zdb) ZaA)) ZaA)
 (Zaw (Zar (ZeX (ZeX Zag)))))))))))))
end
end My
namespace My
open PySem PySem.Spec PyProof.Rows L2 DL PySem.W
def eD (P : Params) (x : Str) (t : Nat) (v : Value) : DictEntry := ⟨PyData.keyHash P x, .str x t, v⟩
def fO (n q : Str) (st : Stmt) (m : Str) (t c : Nat) : Obj := ⟨.type "function", none, .func (PySem.W.fnOf n q (Zcz st) (Zbl st) (Zaj st) .none .none .none (.str m t) none (.ref c) .none), Array.mk []⟩
def kO (n q : Str) (t : Nat) (l a g : Int) (r1 : Nat) (m : Int) (r2 r3 r4 r5 : Nat) (t4 : Int) (t5 : Nat) : Obj := ⟨.type "code", none, .fields (Array.mk [.str n t, .str q (t + 1), .str "/claim/cut.py" (t + 2), .int l 0, .int a 0, .int 0 0, .int 0 0, .int g 0, .ref r1, .bool true, .int m 0, .ref r2, .none, .ref r3, .ref r4, .ref r5, .int t4 0, .int l 0, .str "/claim/cut.py" t5]), Array.mk []⟩
noncomputable def KK : Params -> Frag := fun P =>
 (nat_lit 3, ⟨(.type "dict"), none, (.dict (Array.mk [eD P "__name__" 165 (.str "law_leanmodes_k19_two_hundred" 762), eD P "__doc__" 166 .none, eD P "__package__" 167 .none, eD P "__loader__" 168 (.builtin "__main__.__loader__#opaque"), eD P "__spec__" 169 .none, eD P "__annotations__" 170 (.ref 6), eD P "__builtins__" 171 (.ref 4), eD P "__file__" 173 (.str "/claim/cut.py" 172), eD P "__cached__" 174 .none, eD P "_wall" 193 (.ref 21), eD P "WorksError" 213 (.ref 31), eD P "BadName" 229 (.ref 44), eD P "Taken" 245 (.ref 56), eD P "NoDeed" 261 (.ref 68), eD P "NoWare" 277 (.ref 80), eD P "Forbidden" 293 (.ref 92), eD P "NotForbidden" 309 (.ref 104), eD P "BadNumber" 325 (.ref 116), eD P "NoRound" 341 (.ref 128), eD P "NotDone" 357 (.ref 140), eD P "NoRoom" 373 (.ref 152), eD P "LETTERS" 377 (.str "abcdefghijklmnopqrstuvwxyz" 376), eD P "LONGEST" 379 (.int 6 378), eD P "has_form" 385 (.ref 159), eD P "HIGHEST_NUMBER" 389 (.int 9 388), eD P "check_new_name" 397 (.ref 166), eD P "check_deeds" 406 (.ref 173), eD P "check_wares" 415 (.ref 180), eD P "check_let" 424 (.ref 187), eD P "check_forbidden" 432 (.ref 194), eD P "check_numbers" 440 (.ref 201), eD P "check_kept" 448 (.ref 208), eD P "check_room" 456 (.ref 215), eD P "Standing" 493 (.ref 232), eD P "nothing_put_in" 499 (.ref 243), eD P "with_new_ware" 505 (.ref 248), eD P "with_new_deed" 511 (.ref 253), eD P "with_number" 517 (.ref 258), eD P "with_forbidden" 525 (.ref 265), eD P "with_let" 531 (.ref 270), eD P "number_of" 540 (.ref 277), eD P "forbidden_names" 546 (.ref 282), eD P "MOST_WARES" 550 (.int 6 549), eD P "MOST_DEEDS" 552 (.int 10 551), eD P "MOST_DOINGS" 554 (.int 200 553), eD P "Office" 761 (.ref 454), eD P "_law_at" 771 (.ref 465), eD P "_law_mix" 780 (.ref 472), eD P "_law_draws" 792 (.ref 479), eD P "_law_call" 803 (.ref 486), eD P "_law_do" 819 (.ref 493), eD P "_law_same" 829 (.ref 500), eD P "_law_refused" 835 (.ref 505), eD P "_law_twin" 841 (.ref 510), eD P "_law_apply" 847 (.ref 515), eD P "_law_stands_so" 853 (.ref 520), eD P "_law_played" 866 (.ref 527), eD P "_law_due" 880 (.ref 534), eD P "_law_more" 895 (.ref 541), eD P "law" 901 (.ref 546)]) 60), Array.mk []⟩) ::
 (nat_lit 30, ⟨(.type "dict"), none, (.dict (Array.mk [eD P "__module__" 203 (.str "leanmodes.errors" 194), eD P "__firstlineno__" 207 (.int 5 206), eD P "__static_attributes__" 208 (.ref 29), eD P "__weakref__" 210 (.ref 32), eD P "__doc__" 211 .none]) 3), Array.mk []⟩) ::
 (nat_lit 31, ⟨(.type "type"), none, (.cls ⟨"WorksError", [(.type "ValueError")], [(.ref 31), (.type "ValueError"), (.type "Exception"), (.type "BaseException"), (.type "object")], 30, "WorksError", true, [], [(.ref 44), (.ref 56), (.ref 68), (.ref 80), (.ref 92), (.ref 104), (.ref 116), (.ref 128), (.ref 140), (.ref 152)], false, none, false⟩), Array.mk [some (.ref 22), none, some (.str "WorksError" 196), some (.str "WorksError" 204), some (.builtin "ValueError.__new__"), some (.bool true)]⟩) ::
 (nat_lit 43, ⟨(.type "dict"), none, (.dict (Array.mk [eD P "__module__" 221 (.str "leanmodes.errors" 194), eD P "__firstlineno__" 225 (.int 7 224), eD P "__static_attributes__" 226 (.ref 42), eD P "__doc__" 227 .none]) 2), Array.mk []⟩) ::
 (nat_lit 44, ⟨(.type "type"), none, (.cls ⟨"BadName", [(.ref 31)], [(.ref 44), (.ref 31), (.type "ValueError"), (.type "Exception"), (.type "BaseException"), (.type "object")], 43, "BadName", true, [], [], false, none, false⟩), Array.mk [some (.ref 35), none, some (.str "BadName" 214), some (.str "BadName" 222), some (.builtin "ValueError.__new__"), some (.bool true)]⟩) ::
 (nat_lit 55, ⟨(.type "dict"), none, (.dict (Array.mk [eD P "__module__" 237 (.str "leanmodes.errors" 194), eD P "__firstlineno__" 241 (.int 9 240), eD P "__static_attributes__" 242 (.ref 54), eD P "__doc__" 243 .none]) 2), Array.mk []⟩) ::
 (nat_lit 56, ⟨(.type "type"), none, (.cls ⟨"Taken", [(.ref 31)], [(.ref 56), (.ref 31), (.type "ValueError"), (.type "Exception"), (.type "BaseException"), (.type "object")], 55, "Taken", true, [], [], false, none, false⟩), Array.mk [some (.ref 47), none, some (.str "Taken" 230), some (.str "Taken" 238), some (.builtin "ValueError.__new__"), some (.bool true)]⟩) ::
 (nat_lit 67, ⟨(.type "dict"), none, (.dict (Array.mk [eD P "__module__" 253 (.str "leanmodes.errors" 194), eD P "__firstlineno__" 257 (.int 11 256), eD P "__static_attributes__" 258 (.ref 66), eD P "__doc__" 259 .none]) 2), Array.mk []⟩) ::
 (nat_lit 68, ⟨(.type "type"), none, (.cls ⟨"NoDeed", [(.ref 31)], [(.ref 68), (.ref 31), (.type "ValueError"), (.type "Exception"), (.type "BaseException"), (.type "object")], 67, "NoDeed", true, [], [], false, none, false⟩), Array.mk [some (.ref 59), none, some (.str "NoDeed" 246), some (.str "NoDeed" 254), some (.builtin "ValueError.__new__"), some (.bool true)]⟩) ::
 (nat_lit 79, ⟨(.type "dict"), none, (.dict (Array.mk [eD P "__module__" 269 (.str "leanmodes.errors" 194), eD P "__firstlineno__" 273 (.int 13 272), eD P "__static_attributes__" 274 (.ref 78), eD P "__doc__" 275 .none]) 2), Array.mk []⟩) ::
 (nat_lit 80, ⟨(.type "type"), none, (.cls ⟨"NoWare", [(.ref 31)], [(.ref 80), (.ref 31), (.type "ValueError"), (.type "Exception"), (.type "BaseException"), (.type "object")], 79, "NoWare", true, [], [], false, none, false⟩), Array.mk [some (.ref 71), none, some (.str "NoWare" 262), some (.str "NoWare" 270), some (.builtin "ValueError.__new__"), some (.bool true)]⟩) ::
 (nat_lit 91, ⟨(.type "dict"), none, (.dict (Array.mk [eD P "__module__" 285 (.str "leanmodes.errors" 194), eD P "__firstlineno__" 289 (.int 15 288), eD P "__static_attributes__" 290 (.ref 90), eD P "__doc__" 291 .none]) 2), Array.mk []⟩) ::
 (nat_lit 92, ⟨(.type "type"), none, (.cls ⟨"Forbidden", [(.ref 31)], [(.ref 92), (.ref 31), (.type "ValueError"), (.type "Exception"), (.type "BaseException"), (.type "object")], 91, "Forbidden", true, [], [], false, none, false⟩), Array.mk [some (.ref 83), none, some (.str "Forbidden" 278), some (.str "Forbidden" 286), some (.builtin "ValueError.__new__"), some (.bool true)]⟩) ::
 (nat_lit 103, ⟨(.type "dict"), none, (.dict (Array.mk [eD P "__module__" 301 (.str "leanmodes.errors" 194), eD P "__firstlineno__" 305 (.int 17 304), eD P "__static_attributes__" 306 (.ref 102), eD P "__doc__" 307 .none]) 2), Array.mk []⟩) ::
 (nat_lit 104, ⟨(.type "type"), none, (.cls ⟨"NotForbidden", [(.ref 31)], [(.ref 104), (.ref 31), (.type "ValueError"), (.type "Exception"), (.type "BaseException"), (.type "object")], 103, "NotForbidden", true, [], [], false, none, false⟩), Array.mk [some (.ref 95), none, some (.str "NotForbidden" 294), some (.str "NotForbidden" 302), some (.builtin "ValueError.__new__"), some (.bool true)]⟩) ::
 (nat_lit 115, ⟨(.type "dict"), none, (.dict (Array.mk [eD P "__module__" 317 (.str "leanmodes.errors" 194), eD P "__firstlineno__" 321 (.int 19 320), eD P "__static_attributes__" 322 (.ref 114), eD P "__doc__" 323 .none]) 2), Array.mk []⟩) ::
 (nat_lit 116, ⟨(.type "type"), none, (.cls ⟨"BadNumber", [(.ref 31)], [(.ref 116), (.ref 31), (.type "ValueError"), (.type "Exception"), (.type "BaseException"), (.type "object")], 115, "BadNumber", true, [], [], false, none, false⟩), Array.mk [some (.ref 107), none, some (.str "BadNumber" 310), some (.str "BadNumber" 318), some (.builtin "ValueError.__new__"), some (.bool true)]⟩) ::
 (nat_lit 127, ⟨(.type "dict"), none, (.dict (Array.mk [eD P "__module__" 333 (.str "leanmodes.errors" 194), eD P "__firstlineno__" 337 (.int 21 336), eD P "__static_attributes__" 338 (.ref 126), eD P "__doc__" 339 .none]) 2), Array.mk []⟩) ::
 (nat_lit 128, ⟨(.type "type"), none, (.cls ⟨"NoRound", [(.ref 31)], [(.ref 128), (.ref 31), (.type "ValueError"), (.type "Exception"), (.type "BaseException"), (.type "object")], 127, "NoRound", true, [], [], false, none, false⟩), Array.mk [some (.ref 119), none, some (.str "NoRound" 326), some (.str "NoRound" 334), some (.builtin "ValueError.__new__"), some (.bool true)]⟩) ::
 (nat_lit 139, ⟨(.type "dict"), none, (.dict (Array.mk [eD P "__module__" 349 (.str "leanmodes.errors" 194), eD P "__firstlineno__" 353 (.int 23 352), eD P "__static_attributes__" 354 (.ref 138), eD P "__doc__" 355 .none]) 2), Array.mk []⟩) ::
 (nat_lit 140, ⟨(.type "type"), none, (.cls ⟨"NotDone", [(.ref 31)], [(.ref 140), (.ref 31), (.type "ValueError"), (.type "Exception"), (.type "BaseException"), (.type "object")], 139, "NotDone", true, [], [], false, none, false⟩), Array.mk [some (.ref 131), none, some (.str "NotDone" 342), some (.str "NotDone" 350), some (.builtin "ValueError.__new__"), some (.bool true)]⟩) ::
 (nat_lit 151, ⟨(.type "dict"), none, (.dict (Array.mk [eD P "__module__" 365 (.str "leanmodes.errors" 194), eD P "__firstlineno__" 369 (.int 25 368), eD P "__static_attributes__" 370 (.ref 150), eD P "__doc__" 371 .none]) 2), Array.mk []⟩) ::
 (nat_lit 152, ⟨(.type "type"), none, (.cls ⟨"NoRoom", [(.ref 31)], [(.ref 152), (.ref 31), (.type "ValueError"), (.type "Exception"), (.type "BaseException"), (.type "object")], 151, "NoRoom", true, [], [], false, none, false⟩), Array.mk [some (.ref 143), none, some (.str "NoRoom" 358), some (.str "NoRoom" 366), some (.builtin "ValueError.__new__"), some (.bool true)]⟩) ::
 (nat_lit 158, ⟨(.type "code"), none, (.fields (Array.mk [(.str "has_form" 380), (.str "has_form" 381), (.str "/claim/cut.py" 382), (.int 30 0), (.int 1 0), (.int 0 0), (.int 0 0), (.int 3 0), (.ref 155), (.bool true), (.int 181 0), (.ref 156), .none, .none, .none, (.ref 157), (.int 383 0), (.int 30 0), (.str "/claim/cut.py" 384)])), Array.mk []⟩) ::
 (nat_lit 159, fO "has_form" "has_form" Zfd "leanmodes.names" 374 158) ::
 (nat_lit 165, kO "check_new_name" "check_new_name" 390 34 2 3 160 181 161 162 163 164 395 396) ::
 (nat_lit 166, fO "check_new_name" "check_new_name" ZcF "leanmodes.refusals" 386 165) ::
 (nat_lit 172, kO "check_deeds" "check_deeds" 398 39 2 3 167 181 168 169 170 171 404 405) ::
 (nat_lit 173, fO "check_deeds" "check_deeds" ZdQ "leanmodes.refusals" 386 172) ::
 (nat_lit 179, kO "check_wares" "check_wares" 407 43 2 3 174 181 175 176 177 178 413 414) ::
 (nat_lit 180, fO "check_wares" "check_wares" ZdP "leanmodes.refusals" 386 179) ::
 (nat_lit 186, kO "check_let" "check_let" 416 47 2 3 181 181 182 183 184 185 422 423) ::
 (nat_lit 187, fO "check_let" "check_let" ZeJ "leanmodes.refusals" 386 186) ::
 (nat_lit 193, kO "check_forbidden" "check_forbidden" 425 51 2 3 188 181 189 190 191 192 430 431) ::
 (nat_lit 194, fO "check_forbidden" "check_forbidden" Zcp "leanmodes.refusals" 386 193) ::
 (nat_lit 200, kO "check_numbers" "check_numbers" 433 54 1 3 195 181 196 197 198 199 438 439) ::
 (nat_lit 201, fO "check_numbers" "check_numbers" Zc0 "leanmodes.refusals" 386 200) ::
 (nat_lit 207, kO "check_kept" "check_kept" 441 58 2 3 202 181 203 204 205 206 446 447) ::
 (nat_lit 208, fO "check_kept" "check_kept" Zef "leanmodes.refusals" 386 207) ::
 (nat_lit 214, kO "check_room" "check_room" 449 61 2 3 209 181 210 211 212 213 454 455) ::
 (nat_lit 215, fO "check_room" "check_room" Zed "leanmodes.refusals" 386 214) ::
 (nat_lit 228, kO "__init__" "Standing.__init__" 471 67 5 3 223 181 224 225 226 227 479 480) ::
 (nat_lit 229, fO "__init__" "Standing.__init__" ZcX "leanmodes.standing" 457 228) ::
 (nat_lit 231, ⟨(.type "dict"), none, (.dict (Array.mk [eD P "__module__" 466 (.str "leanmodes.standing" 457), eD P "__firstlineno__" 470 (.int 65 469), eD P "__init__" 481 (.ref 229), eD P "__static_attributes__" 486 (.ref 230), eD P "__dict__" 488 (.ref 233), eD P "__weakref__" 490 (.ref 234), eD P "__doc__" 491 .none]) 4), Array.mk []⟩) ::
 (nat_lit 232, ⟨(.type "type"), none, (.cls ⟨"Standing", [(.type "object")], [(.ref 232), (.type "object")], 231, "Standing", true, [], [], false, none, false⟩), Array.mk [none, none, some (.str "Standing" 459), some (.str "Standing" 467), some (.builtin "object.__new__"), some (.bool true)]⟩) ::
 (nat_lit 242, kO "nothing_put_in" "nothing_put_in" 494 72 0 3 237 181 238 239 240 241 497 498) ::
 (nat_lit 243, fO "nothing_put_in" "nothing_put_in" ZcE "leanmodes.standing" 457 242) ::
 (nat_lit 247, ⟨(.type "code"), none, (.fields (Array.mk [(.str "with_new_ware" 500), (.str "with_new_ware" 501), (.str "/claim/cut.py" 502), (.int 74 0), (.int 2 0), (.int 0 0), (.int 0 0), (.int 3 0), (.ref 244), (.bool true), (.int 181 0), (.ref 245), .none, .none, .none, (.ref 246), (.int 503 0), (.int 74 0), (.str "/claim/cut.py" 504)])), Array.mk []⟩) ::
 (nat_lit 248, fO "with_new_ware" "with_new_ware" ZcZ "leanmodes.standing" 457 247) ::
 (nat_lit 252, ⟨(.type "code"), none, (.fields (Array.mk [(.str "with_new_deed" 506), (.str "with_new_deed" 507), (.str "/claim/cut.py" 508), (.int 77 0), (.int 3 0), (.int 0 0), (.int 0 0), (.int 3 0), (.ref 249), (.bool true), (.int 181 0), (.ref 250), .none, .none, .none, (.ref 251), (.int 509 0), (.int 77 0), (.str "/claim/cut.py" 510)])), Array.mk []⟩) ::
 (nat_lit 253, fO "with_new_deed" "with_new_deed" Zc1 "leanmodes.standing" 457 252) ::
 (nat_lit 257, ⟨(.type "code"), none, (.fields (Array.mk [(.str "with_number" 512), (.str "with_number" 513), (.str "/claim/cut.py" 514), (.int 80 0), (.int 4 0), (.int 0 0), (.int 0 0), (.int 3 0), (.ref 254), (.bool true), (.int 181 0), (.ref 255), .none, .none, .none, (.ref 256), (.int 515 0), (.int 80 0), (.str "/claim/cut.py" 516)])), Array.mk []⟩) ::
 (nat_lit 258, fO "with_number" "with_number" ZdR "leanmodes.standing" 457 257) ::
 (nat_lit 264, kO "with_forbidden" "with_forbidden" 518 84 2 3 259 181 260 261 262 263 523 524) ::
 (nat_lit 265, fO "with_forbidden" "with_forbidden" ZcG "leanmodes.standing" 457 264) ::
 (nat_lit 269, ⟨(.type "code"), none, (.fields (Array.mk [(.str "with_let" 526), (.str "with_let" 527), (.str "/claim/cut.py" 528), (.int 86 0), (.int 2 0), (.int 0 0), (.int 0 0), (.int 3 0), (.ref 266), (.bool true), (.int 181 0), (.ref 267), .none, .none, .none, (.ref 268), (.int 529 0), (.int 86 0), (.str "/claim/cut.py" 530)])), Array.mk []⟩) ::
 (nat_lit 270, fO "with_let" "with_let" Zfe "leanmodes.standing" 457 269) ::
 (nat_lit 276, kO "number_of" "number_of" 532 89 3 3 271 181 272 273 274 275 538 539) ::
 (nat_lit 277, fO "number_of" "number_of" ZeL "leanmodes.standing" 457 276) ::
 (nat_lit 281, ⟨(.type "code"), none, (.fields (Array.mk [(.str "forbidden_names" 541), (.str "forbidden_names" 542), (.str "/claim/cut.py" 543), (.int 91 0), (.int 1 0), (.int 0 0), (.int 0 0), (.int 3 0), (.ref 278), (.bool true), (.int 181 0), (.ref 279), .none, .none, .none, (.ref 280), (.int 544 0), (.int 91 0), (.str "/claim/cut.py" 545)])), Array.mk []⟩) ::
 (nat_lit 282, fO "forbidden_names" "forbidden_names" Zcq "leanmodes.standing" 457 281) ::
 (nat_lit 295, kO "__init__" "Office.__init__" 567 99 1 3 290 181 291 292 293 294 571 572) ::
 (nat_lit 296, fO "__init__" "Office.__init__" ZdN "leanmodes.office" 547 295) ::
 (nat_lit 302, kO "now" "Office.now" 574 102 1 3 297 181 298 299 300 301 578 579) ::
 (nat_lit 303, fO "now" "Office.now" Zec "leanmodes.office" 547 302) ::
 (nat_lit 316, kO "keep" "Office.keep" 588 108 2 3 311 181 312 313 314 315 593 594) ::
 (nat_lit 317, fO "keep" "Office.keep" ZdO "leanmodes.office" 547 316) ::
 (nat_lit 323, kO "put_ware" "Office.put_ware" 596 112 2 3 318 181 319 320 321 322 602 603) ::
 (nat_lit 324, fO "put_ware" "Office.put_ware" Zcn "leanmodes.office" 547 323) ::
 (nat_lit 330, kO "put_deed" "Office.put_deed" 605 119 3 3 325 181 326 327 328 329 612 613) ::
 (nat_lit 331, fO "put_deed" "Office.put_deed" Zco "leanmodes.office" 547 330) ::
 (nat_lit 337, kO "change" "Office.change" 615 128 4 3 332 181 333 334 335 336 623 624) ::
 (nat_lit 338, fO "change" "Office.change" Zc2 "leanmodes.office" 547 337) ::
 (nat_lit 344, kO "forbid" "Office.forbid" 626 137 2 3 339 181 340 341 342 343 632 633) ::
 (nat_lit 345, fO "forbid" "Office.forbid" Zc3 "leanmodes.office" 547 344) ::
 (nat_lit 351, kO "let" "Office.let" 635 144 2 3 346 181 347 348 349 350 641 642) ::
 (nat_lit 352, fO "let" "Office.let" Zee "leanmodes.office" 547 351) ::
 (nat_lit 353, ⟨(.type "tuple"), none, (.seq (Array.mk [(.int 1 644)]) 0), Array.mk []⟩) ::
 (nat_lit 359, kO "take_back" "Office.take_back" 645 151 2 3 354 181 355 356 357 358 650 651) ::
 (nat_lit 360, ⟨(.type "function"), none, (.func (PySem.W.fnOf "take_back" "Office.take_back" (Zcz Zbb) (Zbl Zbb) (Zaj Zbb) (.ref 353) .none .none (.str "leanmodes.office" 547) none (.ref 359) .none)), Array.mk []⟩) ::
 (nat_lit 366, kO "doings" "Office.doings" 653 156 1 3 361 181 362 363 364 365 657 658) ::
 (nat_lit 367, fO "doings" "Office.doings" ZcY "leanmodes.office" 547 366) ::
 (nat_lit 373, kO "wares" "Office.wares" 660 159 1 3 368 181 369 370 371 372 664 665) ::
 (nat_lit 374, fO "wares" "Office.wares" Zdu "leanmodes.office" 547 373) ::
 (nat_lit 380, kO "deeds" "Office.deeds" 667 162 1 3 375 181 376 377 378 379 671 672) ::
 (nat_lit 381, fO "deeds" "Office.deeds" Zdt "leanmodes.office" 547 380) ::
 (nat_lit 387, kO "forbidden" "Office.forbidden" 674 165 1 3 382 181 383 384 385 386 678 679) ::
 (nat_lit 388, fO "forbidden" "Office.forbidden" Zb3 "leanmodes.office" 547 387) ::
 (nat_lit 394, kO "number" "Office.number" 681 168 3 3 389 181 390 391 392 393 687 688) ::
 (nat_lit 395, fO "number" "Office.number" Zc4 "leanmodes.office" 547 394) ::
 (nat_lit 453, ⟨(.type "dict"), none, (.dict (Array.mk [eD P "__module__" 562 (.str "leanmodes.office" 547), eD P "__firstlineno__" 566 (.int 97 565), eD P "__init__" 573 (.ref 296), eD P "now" 580 (.ref 303), eD P "let_now" 587 (.ref 310), eD P "keep" 595 (.ref 317), eD P "put_ware" 604 (.ref 324), eD P "put_deed" 614 (.ref 331), eD P "change" 625 (.ref 338), eD P "forbid" 634 (.ref 345), eD P "let" 643 (.ref 352), eD P "take_back" 652 (.ref 360), eD P "doings" 659 (.ref 367), eD P "wares" 666 (.ref 374), eD P "deeds" 673 (.ref 381), eD P "forbidden" 680 (.ref 388), eD P "number" 689 (.ref 395), eD P "lean" 696 (.ref 402), eD P "with_without" 705 (.ref 409), eD P "stands" 713 (.ref 416), eD P "idle" 720 (.ref 423), eD P "sums" 727 (.ref 430), eD P "fewest_to_forbid" 735 (.ref 437), eD P "settle" 743 (.ref 444), eD P "ends_at" 752 (.ref 451), eD P "__static_attributes__" 754 (.ref 452), eD P "__dict__" 756 (.ref 455), eD P "__weakref__" 758 (.ref 456), eD P "__doc__" 759 .none]) 4), Array.mk []⟩) ::
 (nat_lit 454, ⟨(.type "type"), none, (.cls ⟨"Office", [(.type "object")], [(.ref 454), (.type "object")], 453, "Office", true, [], [], false, none, false⟩), Array.mk [none, none, some (.str "Office" 555), some (.str "Office" 563), some (.builtin "object.__new__"), some (.bool true)]⟩) ::
 (nat_lit 464, kO "_law_at" "_law_at" 764 197 2 3 459 181 460 461 462 463 769 770) ::
 (nat_lit 465, fO "_law_at" "_law_at" Zg3 "law_leanmodes_k19_two_hundred" 762 464) ::
 (nat_lit 471, kO "_law_mix" "_law_mix" 772 201 2 3 466 181 467 468 469 470 778 779) ::
 (nat_lit 472, fO "_law_mix" "_law_mix" Zf6 "law_leanmodes_k19_two_hundred" 762 471) ::
 (nat_lit 478, kO "_law_draws" "_law_draws" 781 204 4 3 473 181 474 475 476 477 790 791) ::
 (nat_lit 479, fO "_law_draws" "_law_draws" ZeI "law_leanmodes_k19_two_hundred" 762 478) ::
 (nat_lit 485, kO "_law_call" "_law_call" 793 213 5 3 480 181 481 482 483 484 801 802) ::
 (nat_lit 486, fO "_law_call" "_law_call" Zff "law_leanmodes_k19_two_hundred" 762 485) ::
 (nat_lit 492, kO "_law_do" "_law_do" 804 227 5 3 487 181 488 489 490 491 817 818) ::
 (nat_lit 493, fO "_law_do" "_law_do" Zg4 "law_leanmodes_k19_two_hundred" 762 492) ::
 (nat_lit 499, kO "_law_same" "_law_same" 820 237 2 3 494 181 495 496 497 498 827 828) ::
 (nat_lit 500, fO "_law_same" "_law_same" Zfg "law_leanmodes_k19_two_hundred" 762 499) ::
 (nat_lit 504, ⟨(.type "code"), none, (.fields (Array.mk [(.str "_law_refused" 830), (.str "_law_refused" 831), (.str "/claim/cut.py" 832), (.int 252 0), (.int 2 0), (.int 0 0), (.int 0 0), (.int 3 0), (.ref 501), (.bool true), (.int 181 0), (.ref 502), .none, .none, .none, (.ref 503), (.int 833 0), (.int 252 0), (.str "/claim/cut.py" 834)])), Array.mk []⟩) ::
 (nat_lit 505, fO "_law_refused" "_law_refused" ZdS "law_leanmodes_k19_two_hundred" 762 504) ::
 (nat_lit 509, ⟨(.type "code"), none, (.fields (Array.mk [(.str "_law_twin" 836), (.str "_law_twin" 837), (.str "/claim/cut.py" 838), (.int 254 0), (.int 1 0), (.int 0 0), (.int 0 0), (.int 3 0), (.ref 506), (.bool true), (.int 181 0), (.ref 507), .none, .none, .none, (.ref 508), (.int 839 0), (.int 254 0), (.str "/claim/cut.py" 840)])), Array.mk []⟩) ::
 (nat_lit 510, fO "_law_twin" "_law_twin" Zfh "law_leanmodes_k19_two_hundred" 762 509) ::
 (nat_lit 514, ⟨(.type "code"), none, (.fields (Array.mk [(.str "_law_apply" 842), (.str "_law_apply" 843), (.str "/claim/cut.py" 844), (.int 257 0), (.int 5 0), (.int 0 0), (.int 0 0), (.int 3 0), (.ref 511), (.bool true), (.int 181 0), (.ref 512), .none, .none, .none, (.ref 513), (.int 845 0), (.int 257 0), (.str "/claim/cut.py" 846)])), Array.mk []⟩) ::
 (nat_lit 515, fO "_law_apply" "_law_apply" ZeK "law_leanmodes_k19_two_hundred" 762 514) ::
 (nat_lit 519, ⟨(.type "code"), none, (.fields (Array.mk [(.str "_law_stands_so" 848), (.str "_law_stands_so" 849), (.str "/claim/cut.py" 850), (.int 271 0), (.int 3 0), (.int 0 0), (.int 0 0), (.int 3 0), (.ref 516), (.bool true), (.int 181 0), (.ref 517), .none, .none, .none, (.ref 518), (.int 851 0), (.int 271 0), (.str "/claim/cut.py" 852)])), Array.mk []⟩) ::
 (nat_lit 520, fO "_law_stands_so" "_law_stands_so" Zc5 "law_leanmodes_k19_two_hundred" 762 519) ::
 (nat_lit 526, kO "_law_played" "_law_played" 854 284 4 3 521 181 522 523 524 525 864 865) ::
 (nat_lit 527, fO "_law_played" "_law_played" Zeg "law_leanmodes_k19_two_hundred" 762 526) ::
 (nat_lit 533, kO "_law_due" "_law_due" 867 296 4 3 528 181 529 530 531 532 878 879) ::
 (nat_lit 534, fO "_law_due" "_law_due" Zf7 "law_leanmodes_k19_two_hundred" 762 533) ::
 (nat_lit 540, kO "_law_more" "_law_more" 881 311 2 3 535 181 536 537 538 539 893 894) ::
 (nat_lit 541, fO "_law_more" "_law_more" Zfi "law_leanmodes_k19_two_hundred" 762 540) ::
 (nat_lit 545, ⟨(.type "code"), none, (.fields (Array.mk [(.str "law" 896), (.str "law" 897), (.str "/claim/cut.py" 898), (.int 324 0), (.int 1 0), (.int 0 0), (.int 0 0), (.int 3 0), (.ref 542), (.bool true), (.int 181 0), (.ref 543), .none, .none, .none, (.ref 544), (.int 899 0), (.int 324 0), (.str "/claim/cut.py" 900)])), Array.mk []⟩) ::
 (nat_lit 546, fO "law" "law" ZkE "law_leanmodes_k19_two_hundred" 762 545) :: []
def KA : List Addr := [3, 30, 31, 43, 44, 55, 56, 67, 68, 79, 80, 91, 92, 103, 104, 115, 116, 127, 128, 139, 140, 151, 152, 158, 159, 165, 166, 172, 173, 179, 180, 186, 187, 193, 194, 200, 201, 207, 208, 214, 215, 228, 229, 231, 232, 242, 243, 247, 248, 252, 253, 257, 258, 264, 265, 269, 270, 276, 277, 281, 282, 295, 296, 302, 303, 316, 317, 323, 324, 330, 331, 337, 338, 344, 345, 351, 352, 353, 359, 360, 366, 367, 373, 374, 380, 381, 387, 388, 394, 395, 453, 454, 464, 465, 471, 472, 478, 479, 485, 486, 492, 493, 499, 500, 504, 505, 509, 510, 514, 515, 519, 520, 526, 527, 533, 534, 540, 541, 545, 546]
def KP : List Nat := [0, 2, 3, 4, 5, 6, 7, 8, 9, 10, 11, 12, 14, 15, 16, 18, 19, 20, 21, 22, 23, 24, 25, 26, 28, 29, 30, 31, 32, 33, 34, 35, 36, 38, 39, 40, 41, 43, 44, 45, 46, 47, 48, 49, 50, 51, 52, 53, 54, 55, 56]
abbrev pwK : Program := PySem.Challenge.pw_leanmodes_k19_two_hundred
def qK : Program := PySem.W.view pwK KP
theorem ekK : ∀ P, KA = (KK P).map (·.1) := fun _ => by kernel_rfl
noncomputable def runK := runS pwK qK KA 20000
noncomputable def goodK := ZoM qK KK
theorem twK : (Function.const _ true (runK, goodK) : Bool) = true := by k_qdec
theorem eqK (w : World) : runK w = goodK w := by
 have _ := twK
 rw [PySem.W.Fast.te10250739832206929840, PySem.W.Fast.te5222347185251412909]
 kernel_rfl
theorem leftK : LeftO pwK qK [] (Znu qK) (kHook KK KA ekK).obs (kHook KK KA ekK).val 20000 true :=
 Znv (by kernel_rfl) (by decide) (fun _ => by kernel_rfl) eqK
end My
namespace My
open PySem L2 DL
section
def okS : Nat -> T -> Bool
 | _, .non => true
 | _, .bl _ => true
 | _, .int _ => true
 | _, .str _ => true
 | n + 1, .lst ts => ts.all (okS n)
 | n + 1, .tup ts => ts.all (okS n)
 | _, _ => false
theorem ZiY {R : List D -> FO} (ts : List T) (a b : Sl) : (∀ t ∈ ts, R [.t t, .t t] = .ret (.t (.bl true)) [.t t, .t t]) -> ∀ x y : Sl, (x = .e \/ ∃ d, x = .v d) -> (y = .e \/ ∃ d, y = .v d) -> ∃ x' y',
 forS (kTup Zd0 2 (ZaL (Zaq 2) (ZaL (Zaq 3) Zd3))) (sIf (sNot (sT (ZaB 2 R [none, none] (Zad (eVar 2) (Zad (eVar 3) aNil))))) (sRet (eC (.bl false))) ZaH) (ts.map fun a => .tup [a, a]) [a, b, x, y] = .next [a, b, x', y'] := by
 induction ts with
 | nil => intro _ x y _ _; exact ⟨x, y, rfl⟩
 | cons t ts ih =>
  intro h x y hx hy
  obtain ⟨x', y', e⟩ := ih (fun t q => h t (.tail _ q)) (.v (.t t)) (.v (.t t)) (.inr ⟨_, rfl⟩) (.inr ⟨_, rfl⟩)
  refine ⟨x', y', ?_⟩
  have ht := h t (.head _)
  rw [List.map_cons, forS]
  have k1 : kTup Zd0 2 (ZaL (Zaq 2) (ZaL (Zaq 3) Zd3)) (.t (.tup [t, t])) [a, b, x, y] = some [a, b, .v (.t t), .v (.t t)] := by
   rcases hx with rfl | ⟨d, rfl⟩ <;> rcases hy with rfl | ⟨d', rfl⟩ <;> simp [kTup, Zd0, ZaL, Zd3, Zaq]
  rw [k1]
  simp [Out.bnd, Out.th, FO.of, sIf, sNot, sT, ZaB, Zad, aNil, eVar, frz, ht, ZeW, wb, ZaH]
  exact e
theorem ZdF : ∀ (n : Nat) (x : T), okS n x = true -> Zax (n + 1) [.t x, .t x] = .ret (.t (.bl true)) [.t x, .t x] := by
 intro n
 induction n with
 | zero =>
  intro x h
  cases x <;> first | (simp [okS] at h; done) | simp [Out.bnd, Out.th, FO.of, Zax, runF, ZbZ, ZbN, Zif, outA, sSeq, sIf, sOr, sNot, sT, e1, eVar, oIs2, oIs, tyN, Zfz, eB, e2, eC, frz, ZeW, oIsN, isN, ZaH, sRet, eAnd, eOr, oEq, oNe]
 | succ n ih =>
  intro x h
  show runF 4 (ZbZ (Zax (n + 1))) _ = _
  generalize Zax (n + 1) = R at ih ⊢
  cases x with
  | lst ts =>
   simp only [okS, List.all_eq_true] at h
   obtain ⟨x', y', e⟩ := ZiY ts (.v (.t (.lst ts))) (.v (.t (.lst ts))) (fun t q => ih t (h t q)) .e .e (.inl rfl) (.inl rfl)
   simp [Out.bnd, Out.th, FO.of, runF, ZbZ, ZbN, Zif, outA, sSeq, sIf, sOr, sNot, sT, e1, eVar, oIs2, oIs, tyN, Zfz, eB, e2, eC, frz, ZeW, oNe, oEq, oLen, items, ZaH, sFor, Zg2, zipD, ZfW, sRet]
   rw [e]
   simp [Out.bnd, Out.th, FO.of, outA]
  | tup ts =>
   simp only [okS, List.all_eq_true] at h
   obtain ⟨x', y', e⟩ := ZiY ts (.v (.t (.tup ts))) (.v (.t (.tup ts))) (fun t q => ih t (h t q)) .e .e (.inl rfl) (.inl rfl)
   simp [Out.bnd, Out.th, FO.of, runF, ZbZ, ZbN, Zif, outA, sSeq, sIf, sOr, sNot, sT, e1, eVar, oIs2, oIs, tyN, Zfz, eB, e2, eC, frz, ZeW, oNe, oEq, oLen, items, ZaH, sFor, Zg2, zipD, ZfW, sRet]
   rw [e]
   simp [Out.bnd, Out.th, FO.of, outA]
  | _ => first | (simp [okS] at h; done) | simp [Out.bnd, Out.th, FO.of, runF, ZbZ, ZbN, Zif, outA, sSeq, sIf, sOr, sNot, sT, e1, eVar, oIs2, oIs, tyN, Zfz, eB, e2, eC, frz, ZeW, oIsN, isN, ZaH, sRet, eAnd, eOr, oEq, oNe]
end
local macro_rules | `(tactic| simp_arith [$as,*]) => `(tactic| simp (decide := true) [-List.map_append, -List.map_map, runF, ZbN, Zif, outA, FO.of, Out.bnd, Out.th, sSeq, sAsg, sIf, sFor, sRet, Zpi, ZcB, ZaH, sApp, Zln, ZgZ, Zlo, ZcI, sTry, sT, sNot, sAnd, sOr, eVar, eC, e1, e2, Zjr, Znp, eAnd, eOr, eIf, ZiI, ZaB, Zbi, Zgm, eLst, eTup, Zik, ZoE, eFrz, eP, eIdx, Zf1, Znf, aNil, Zad, aIo, lend, put, wb, Zaq, ZaL, Zd3, kTup, Zez, Zd0, upSl, ZdC, Zdf, Zlz, ZoI, ZoJ, ZdM, bVar, bFld, fldD, pB, pC, p2, pLen, lenD, pNeg, pIx, ixD, Sl.get, uSeq, uC, Zfy, Zgn, putD, ZoF, Zmf, ZoG, Zpt, Zpu, Zpv, Zpw, Zpx, Zpy, Zpz, ZpA, ZpB, Zmg, Zkw, Zlw, Zlx, ZiT, ZoH, Zly, ZiU, Zky, Zkz, iLst, Zls, ZeG, clr, OutS.clr, List.lookup, beqS, Zil, $as,*])
abbrev LT : Str := "abcdefghijklmnopqrstuvwxyz"
def inL (c : Nat) : Bool := !(Builtin.Str.occurrences LT ⟨#[c]⟩ 0 LT.length 1).isEmpty
def Zfq (z : Str) : Bool := decide (1 <= z.length) && (decide (z.length <= 6) && z.cps.toList.all inL)
structure W (z : Str) : Prop where
 a : Zj6 z = true
 l : z.length <= 7
 s : ZgA z = true
theorem ZkJ {a b : Int} (h0 : 0 <= b) (h1 : b < 1000000) : ZaX [.t (.int a), .t (.int b)] = if b <= a then .exc "NoRoom" [.t (.int a), .t (.int b)] else .ret (.t .non) [.t (.int a), .t (.int b)] := by
 unfold ZaX Zdh
 by_cases h : b <= a
 · simp_arith [h, h0, h1]
 · simp_arith [h]
abbrev off (ss : List T) : D := .obj "Office" [("stages", .lst (ss.map .t))]
abbrev rowT (r : List Int) : T := .lst (r.map .int)
abbrev stT (ws ds : List Str) (rs : List (List Int)) (sh : List Str) : T := .ins "Standing" [("ware_names", .lst (ws.map .str)), ("deed_names", .lst (ds.map .str)), ("rows", .lst (rs.map rowT)), ("stopped", .lst (sh.map .str))]
theorem Zhb {ss : List T} {x : T} : ZaJ [off (ss ++ [x])] = .ret (.t x) [off (ss ++ [x])] := by
 unfold ZaJ Zdg
 have e : atI ((ss ++ [x]).map D.t) (-1) = some (.t x) := by rw [List.map_append]; exact ZiV
 simp_arith [e]
theorem ZcV {ss : List T} : ZaC [off ss] = .ret (.t (.int (ss.length - 1))) [off ss] := by
 unfold ZaC Zb4
 simp_arith []
theorem ZhN {ss : List T} {x : T} (h : ss.length < 1000000) : Zbc [off ss, .t x] = .ret (.t (.int ss.length)) [off (ss ++ [x]), .t x] := by
 unfold Zbc ZcO
 have e := ZcV (ss := ss ++ [x])
 rw [List.length_append, List.length_singleton] at e
 have e2 : ss.map D.t ++ [.t x] = (ss ++ [x]).map D.t := by rw [List.map_append]; rfl
 simp_arith [h, e2, e]
theorem Znw : ZbP [] = .ret (.obj "Standing" [("ware_names", .t (.lst [])), ("deed_names", .t (.lst [])), ("rows", .t (.lst [])), ("stopped", .t (.lst []))]) [] := by
 unfold ZbP ZbO ZaN Zbz
 simp_arith []
theorem ZoO : ZcN [.obj "Office" []] = .ret (.t .non) [off [stT [] [] [] []]] := by
 unfold ZcN ZcM
 simp_arith [Znw]
theorem ZiZ : ∀ (cs : List Nat) (x : Sl), (x = .e \/ ∃ d, x = .v d) -> Zck (Zaq 0) Zds (eB oInS (eVar 0) (eC (.str LT))) (cs.map fun c => .str ⟨#[c]⟩) [x] = some (cs.map fun c => .t (.bl (inL c)))
 | [], _, _ => rfl
 | c :: cs, x, hx => by
  have ih := ZiZ cs (.v (.t (.str ⟨#[c]⟩))) (.inr ⟨_, rfl⟩)
  have hc : inL c = !(Builtin.Str.occurrences LT ⟨#[c]⟩ 0 LT.length 1).isEmpty := rfl
  rcases hx with rfl | ⟨d, rfl⟩ <;> simp [Zck, Zaq, Zds, Zjr, eVar, eC, Out.bnd, ZdC, Zmg, ih, hc]
theorem ZkK (cs : List Nat) : ZeB (cs.map fun c => .bl (inL c)) = some (cs.map inL) := by
 induction cs with
 | nil => rfl
 | cons c cs ih => simp [ZeB, ih]
theorem Zjx (cs : List Nat) : ZeB (List.map (frz ∘ fun c => D.t (T.bl (inL c))) cs) = some (cs.map inL) := by
 rw [show (frz ∘ fun c => D.t (T.bl (inL c))) = fun c => T.bl (inL c) from funext fun c => ZdC]
 exact ZkK cs
theorem Zis (cs : List Nat) : ZeB (List.map frz (cs.map fun c => D.t (T.bl (inL c)))) = some (cs.map inL) := by
 rw [List.map_map]
 exact Zjx cs
theorem ZoP {z : Str} (h : W z) : Zep [.t (.str z)] = .ret (.t (.bl (Zfq z))) [.t (.str z)] := by
 unfold Zep Zeo Zfq
 have hl := h.l
 have e := ZiZ z.cps.toList .e (.inl rfl)
 have n1 : z.length <= 1000000 := by omega
 have n2 : z.cps.size < sizeLine := by
  have : z.cps.size = z.length := rfl
  have : sizeLine = 2 ^ 24 := rfl
  omega
 by_cases h1 : 1 <= z.length
 · have h1' : (1 : Int) <= (z.length : Int) := by omega
   by_cases h2 : z.length <= 6
   · have h2' : (z.length : Int) <= 6 := by omega
     simp_arith [h.a, h1, h2, h1', h2', n1, n2, Zcl, Zkx n1, Zko, Za4, capE, e, oAll, Zis, List.all_map]
   · have h2' : ¬ (z.length : Int) <= 6 := by omega
     simp_arith [h.a, h1, h2, h1', h2', Zkx n1]
 · have h1' : ¬ (1 : Int) <= (z.length : Int) := by omega
   simp_arith [h.a, h1, h1', Zkx n1]
theorem ZoQ {z : Str} {ns : List Str} (h : W z) : Zbt [.t (.str z), .t (.lst (ns.map .str))] =
 if Zfq z = false then .exc "BadName" [.t (.str z), .t (.lst (ns.map .str))] else if z ∈ ns then .exc "Taken" [.t (.str z), .t (.lst (ns.map .str))] else .ret (.t .non) [.t (.str z), .t (.lst (ns.map .str))] := by
 unfold Zbt ZbQ
 have e := ZoP h
 cases q : Zfq z with
 | false => simp_arith [e, q, h.s]
 | true =>
  by_cases hz : z ∈ ns
  · simp_arith [e, q, h.s, hz]
  · simp_arith [e, q, h.s, hz]
theorem Zgh {a b c d : T} : ZaN [.obj "Standing" [], .t a, .t b, .t c, .t d] = .ret (.t .non) [.obj "Standing" [("ware_names", .t a), ("deed_names", .t b), ("rows", .t c), ("stopped", .t d)], .t a, .t b, .t c, .t d] := by
 unfold ZaN Zbz
 simp_arith []
abbrev stD (ws ds : List Str) (rs : List (List Int)) (sh : List Str) : D := .obj "Standing" [("ware_names", .t (.lst (ws.map .str))), ("deed_names", .t (.lst (ds.map .str))), ("rows", .t (.lst (rs.map rowT))), ("stopped", .t (.lst (sh.map .str)))]
theorem ZhO {ws ds sh : List Str} {rs : List (List Int)} : frz (stD ws ds rs sh) = stT ws ds rs sh := by
 rw [ZoJ]
 simp only [List.map_cons, List.map_nil, ZdC]
def rowD (r : List Int) : D := .lst ((r.map T.int).map D.t)
theorem Znx {r : List Int} : frz (rowD r) = rowT r := by
 unfold rowD
 rw [Zdf]
theorem Zew {rs : List (List Int)} : (rs.map rowD).map frz = rs.map rowT := by
 rw [List.map_map]
 exact List.map_congr_left fun _ _ => Znx
theorem Zdv {n : Nat} (h : n <= 100000) : n < sizeLine := by
 have : sizeLine = 2 ^ 24 := rfl
 omega
theorem Zhc : ∀ (rs : List (List Int)) (x : Sl), (x = .e \/ ∃ d, x = .v d) -> (∀ r ∈ rs, r.length <= 1000) -> Zck (Zaq 0) Zds (e2 oCat (eVar 0) (Zik [0])) (rs.map rowT) [x] = some ((rs.map (· ++ [0])).map rowD)
 | [], _, _, _ => rfl
 | r :: rs, x, hx, h => by
  have ih := Zhc rs (.v (.t (rowT r))) (.inr ⟨_, rfl⟩) fun r hr => h r (.tail _ hr)
  have hr := h r (.head _)
  have e : oCat (.lst (r.map .int)) (.lst [.int 0]) = some (rowD (r ++ [0])) := by
   rw [ZgE (by simp; omega)]
   simp [rowD]
  rcases hx with rfl | ⟨q, rfl⟩ <;> simp [Zck, Zaq, Zds, e2, eVar, Zik, Out.bnd, ZdC, Zlz, e] <;> (simp only [List.map_map] at ih; exact ih)
theorem ZoR {z : Str} {ws ds sh : List Str} {rs : List (List Int)} (hw : ws.length <= 1000) (hr : rs.length <= 1000) (hrs : ∀ r ∈ rs, r.length <= 1000) : Zb6 [.t (stT ws ds rs sh), .t (.str z)] = .ret (stD (ws ++ [z]) ds (rs.map (· ++ [0])) sh) [.t (stT ws ds rs sh), .t (.str z)] := by
 unfold Zb6 Zb5
 have e := Zhc rs .e (.inl rfl) hrs
 have n2 : rs.length < sizeLine := Zdv (by omega)
 have e2 : oCat (.lst (ws.map .str)) (.lst [.str z]) = some (.lst (((ws ++ [z]).map T.str).map .t)) := by
  rw [ZgE (by simp; omega)]
  simp
 have e3 := Zew (rs := rs.map (· ++ [0]))
 simp_arith [Zcl, Za4, capE, e, n2, e2, Zgh, e3]
abbrev dctT (kvs : List (Str × Int)) : List (Str × T) := kvs.map fun p => (p.1, T.int p.2)
def ZeP (kvs : List (Str × Int)) (ws : List Str) : List Int := ws.map fun w => (kvs.lookup w).getD 0
theorem ZgG {w : Str} : ∀ {kvs : List (Str × Int)}, ((dctT kvs).lookup w).getD (.int 0) = T.int ((kvs.lookup w).getD 0)
 | [] => rfl
 | (k, v) :: kvs => by
  have ih := ZgG (w := w) (kvs := kvs)
  by_cases h : w = k
  · subst h; simp [List.lookup_cons]
  · have h' : (w == k) = false := by simp [h]
    show (((k, T.int v) :: dctT kvs).lookup w).getD (.int 0) = _
    rw [List.lookup_cons, List.lookup_cons, h']
    exact ih
theorem Zhd {kvs : List (Str × Int)} : ∀ (ws : List Str) (x : Sl), (x = .e \/ ∃ d, x = .v d) -> Zck (Zaq 0) Zds (Zf1 (eVar 1) (eVar 0) (eC (.int 0))) (ws.map .str) [x, .v (.t (.dct (dctT kvs)))] = some (((ZeP kvs ws).map T.int).map D.t)
 | [], _, _ => rfl
 | w :: ws, x, hx => by
  have ih := Zhd (kvs := kvs) ws (.v (.t (.str w))) (.inr ⟨_, rfl⟩)
  have l := ZgG (w := w) (kvs := kvs)
  rcases hx with rfl | ⟨d, rfl⟩ <;> simp [Zck, Zaq, Zds, Zf1, eVar, eC, Out.bnd, ZdC, l, -List.map_map] <;> exact ⟨_, ih, rfl⟩
theorem ZgH {ns : List Int} : Znq (.lst ((ns.map T.int).map D.t)) = true := by
 show List.all _ Zjs = true
 simp [Zjs, ZhG]
theorem Zjy {ns : List Str} : Znq (.lst ((ns.map T.str).map D.t)) = true := by
 show List.all _ Zjs = true
 simp [Zjs, ZhG]
theorem ZoS {z : Str} {ws ds sh : List Str} {rs : List (List Int)} {kvs : List (Str × Int)} {b : D} (hb : b = .dct (dctT kvs) \/ b = .t (.dct (dctT kvs))) (hw : ws.length <= 1000) (hd : ds.length <= 1000) (hr : rs.length <= 1000) :
 Zb9 [.t (stT ws ds rs sh), .t (.str z), b] = .ret (stD ws (ds ++ [z]) (rs ++ [ZeP kvs ws]) sh) [.t (stT ws ds rs sh), .t (.str z), b] := by
 unfold Zb9 Zb8
 have e := Zhd (kvs := kvs) ws .e (.inl rfl)
 have n2 : ws.length < sizeLine := Zdv (by omega)
 have e2 : oCat (.lst (ds.map .str)) (.lst [.str z]) = some (.lst (((ds ++ [z]).map T.str).map .t)) := by
  rw [ZgE (by simp; omega)]
  simp
 have e3 : oCat (.lst (rs.map rowT)) (.lst [.lst ((ZeP kvs ws).map .int)]) = some (.lst (((rs ++ [ZeP kvs ws]).map rowT).map .t)) := by
  rw [ZgE (by simp; omega)]
  simp
 have e4 := ZgH (ns := ZeP kvs ws)
 rcases hb with rfl | rfl <;> simp_arith [Zbg, seen, Zcl, Za4, capE, e, n2, e2, e3, e4, Zgh]
def okX (x : Sl) : Prop := x = .e \/ ∃ d, x = .v d
section
variable {ws ds sh : List Str} {rs : List (List Int)}
theorem Zhe {bd : SS} {c : Str} {g : Str -> Prop} [DecidablePred g] {a b : Sl} : ∀ (zs : List Str) (x : Sl), okX x -> (∀ z ∈ zs, bd [a, b, .v (.t (.str z))] = if g z then .next [a, b, .v (.t (.str z))] else .exc c [a, b, .v (.t (.str z))]) ->
 ∃ x', okX x' /\ forS (Zaq 2) bd (zs.map .str) [a, b, x] = if ∀ z ∈ zs, g z then .next [a, b, x'] else .exc c [a, b, x']
 | [], x, hx, _ => ⟨x, hx, by simp [forS]⟩
 | z :: zs, x, hx, h => by
  have k1 : Zaq 2 (.t (.str z)) [a, b, x] = some [a, b, .v (.t (.str z))] := by rcases hx with rfl | ⟨d, rfl⟩ <;> rfl
  have b1 := h z (.head _)
  by_cases hg : g z
  · obtain ⟨x', hx', ih⟩ := Zhe (bd := bd) (c := c) (g := g) (a := a) (b := b) zs (.v (.t (.str z))) (.inr ⟨_, rfl⟩) fun z hz => h z (.tail _ hz)
    refine ⟨x', hx', ?_⟩
    rw [if_pos hg] at b1
    rw [List.map_cons, forS, k1]
    dsimp only
    rw [b1]
    dsimp only
    rw [ih]
    simp [hg]
  · refine ⟨.v (.t (.str z)), .inr ⟨_, rfl⟩, ?_⟩
    rw [if_neg hg] at b1
    rw [List.map_cons, forS, k1]
    dsimp only
    rw [b1]
    simp [hg]
theorem ZkL {zs : List Str} (hz : ∀ z ∈ zs, W z) : Zbp [.t (stT ws ds rs sh), .t (.lst (zs.map .str))] = if ∀ z ∈ zs, z ∈ ws then .ret (.t .non) [.t (stT ws ds rs sh), .t (.lst (zs.map .str))] else .exc "NoWare" [.t (stT ws ds rs sh), .t (.lst (zs.map .str))] := by
 unfold Zbp ZcP
 obtain ⟨x', hx', e⟩ := Zhe (bd := sIf (sT (eB ZeA (eVar 2) (e1 (oFld "Standing" "ware_names") (eVar 0)))) (ZcI "NoWare" (uSeq uC (uSeq (Zfy (eVar 2)) uC))) ZaH) (c := "NoWare") (g := fun z => z ∈ ws) (a := .v (.t (stT ws ds rs sh))) (b := .v (.t (.lst (zs.map .str)))) zs .e (.inl rfl) (fun z hz' => by
  by_cases hg : z ∈ ws
  · simp_arith [hg]
  · simp_arith [hg, (hz z hz').s])
 by_cases h : ∀ z ∈ zs, z ∈ ws
 · rw [if_pos h] at e ⊢
   simp_arith [e]
 · rw [if_neg h] at e ⊢
   simp_arith [e]
theorem Zi0 {zs : List Str} (hz : ∀ z ∈ zs, W z) : Zbq [.t (stT ws ds rs sh), .t (.lst (zs.map .str))] = if ∀ z ∈ zs, z ∈ ds then .ret (.t .non) [.t (stT ws ds rs sh), .t (.lst (zs.map .str))] else .exc "NoDeed" [.t (stT ws ds rs sh), .t (.lst (zs.map .str))] := by
 unfold Zbq ZcQ
 obtain ⟨x', hx', e⟩ := Zhe (bd := sIf (sT (eB ZeA (eVar 2) (e1 (oFld "Standing" "deed_names") (eVar 0)))) (ZcI "NoDeed" (uSeq uC (uSeq (Zfy (eVar 2)) uC))) ZaH) (c := "NoDeed") (g := fun z => z ∈ ds) (a := .v (.t (stT ws ds rs sh))) (b := .v (.t (.lst (zs.map .str)))) zs .e (.inl rfl) (fun z hz' => by
  by_cases hg : z ∈ ds
  · simp_arith [hg]
  · simp_arith [hg, (hz z hz').s])
 by_cases h : ∀ z ∈ zs, z ∈ ds
 · rw [if_pos h] at e ⊢
   simp_arith [e]
 · rw [if_neg h] at e ⊢
   simp_arith [e]
theorem Zmh {zs : List Str} (hz : ∀ z ∈ zs, W z) : Zc6 [.t (stT ws ds rs sh), .t (.lst (zs.map .str))] = if ∀ z ∈ zs, ¬ z ∈ sh then .ret (.t .non) [.t (stT ws ds rs sh), .t (.lst (zs.map .str))] else .exc "Forbidden" [.t (stT ws ds rs sh), .t (.lst (zs.map .str))] := by
 unfold Zc6 ZdV
 obtain ⟨x', hx', e⟩ := Zhe (bd := sIf (sT (eB oIn (eVar 2) (e1 (oFld "Standing" "stopped") (eVar 0)))) (ZcI "Forbidden" (uSeq uC (uSeq (Zfy (eVar 2)) (uSeq uC uC)))) ZaH) (c := "Forbidden") (g := fun z => ¬ z ∈ sh) (a := .v (.t (stT ws ds rs sh))) (b := .v (.t (.lst (zs.map .str)))) zs .e (.inl rfl) (fun z hz' => by
  by_cases hg : z ∈ sh
  · simp_arith [hg, (hz z hz').s]
  · simp_arith [hg])
 by_cases h : ∀ z ∈ zs, ¬ z ∈ sh
 · rw [if_pos h] at e ⊢
   simp_arith [e]
 · rw [if_neg h] at e ⊢
   simp_arith [e]
end
def big (v : Int) : Bool := decide (9 < (if v < 0 then -v else v))
theorem Zmi {v : Int} : oAbs (.int v) = some (.t (.int (if v < 0 then -v else v))) := rfl
abbrev numB : SS := sIf (sT (eB oGt (e1 oAbs (eVar 1)) (eC (.int 9)))) (ZcI "BadNumber" (uSeq uC (uSeq (Zgn (eC (.int 9))) (uSeq uC (uSeq (Zgn (eC (.int 9))) uC))))) ZaH
theorem ZkM {a : Sl} : ∀ (vs : List Int) (x : Sl), okX x -> ∃ x', okX x' /\ forS (Zaq 1) numB (vs.map .int) [a, x] = if ∀ v ∈ vs, big v = false then .next [a, x'] else .exc "BadNumber" [a, x']
 | [], x, hx => ⟨x, hx, by simp [forS]⟩
 | v :: vs, x, hx => by
  have k1 : Zaq 1 (.t (.int v)) [a, x] = some [a, .v (.t (.int v))] := by rcases hx with rfl | ⟨d, rfl⟩ <;> rfl
  have b1 : numB [a, .v (.t (.int v))] = if big v = false then .next [a, .v (.t (.int v))] else .exc "BadNumber" [a, .v (.t (.int v))] := by
   have hb : big v = decide (9 < (if v < 0 then -v else v)) := rfl
   unfold numB
   cases q : big v with
   | true => rw [q] at hb; simp_arith [Zmi, <- hb]
   | false => rw [q] at hb; simp_arith [Zmi, <- hb]
  by_cases hg : big v = false
  · obtain ⟨x', hx', ih⟩ := ZkM (a := a) vs (.v (.t (.int v))) (.inr ⟨_, rfl⟩)
    refine ⟨x', hx', ?_⟩
    rw [if_pos hg] at b1
    rw [List.map_cons, forS, k1]
    dsimp only
    rw [b1]
    dsimp only
    rw [ih]
    simp [hg]
  · refine ⟨.v (.t (.int v)), .inr ⟨_, rfl⟩, ?_⟩
    rw [if_neg hg] at b1
    rw [List.map_cons, forS, k1]
    dsimp only
    rw [b1]
    simp [hg]
theorem Zmj {vs : List Int} : Zbm [.t (.lst (vs.map .int))] = if ∀ v ∈ vs, big v = false then .ret (.t .non) [.t (.lst (vs.map .int))] else .exc "BadNumber" [.t (.lst (vs.map .int))] := by
 unfold Zbm Zb7
 obtain ⟨x', hx', e⟩ := ZkM (a := .v (.t (.lst (vs.map .int)))) vs .e (.inl rfl)
 by_cases h : ∀ v ∈ vs, big v = false
 · rw [if_pos h] at e ⊢
   simp_arith [e]
 · rw [if_neg h] at e ⊢
   simp_arith [e]
theorem Zcj {f g : SS} {σ σ1 : Env'} (h : f σ = .next σ1) : sSeq f g σ = g σ1 := by
 unfold sSeq
 rw [h]
def ixOf (zs : List Str) (x : Str) : Nat := ((zs.map T.str).findIdx? fun z => eqT z (.str x)).getD 0
theorem ZfF {zs : List Str} {x : Str} (h : x ∈ zs) : ((zs.map T.str).findIdx? fun z => eqT z (.str x)) = some (ixOf zs x) /\ ixOf zs x < zs.length := by
 unfold ixOf
 cases q : (zs.map T.str).findIdx? fun z => eqT z (.str x) with
 | none =>
  rw [List.findIdx?_eq_none_iff] at q
  have := q (.str x) (List.mem_map.mpr ⟨x, h, rfl⟩)
  simp [eqT] at this
 | some k =>
  obtain ⟨h1, _⟩ := List.findIdx?_eq_some_iff_getElem.mp q
  exact ⟨rfl, by simpa using h1⟩
theorem Zny {zs : List Str} (hn : zs.Nodup) {k : Nat} (hk : k < zs.length) : ixOf zs zs[k] = k := by
 obtain ⟨e, hl⟩ := ZfF (List.getElem_mem hk)
 obtain ⟨h1, h2, _⟩ := List.findIdx?_eq_some_iff_getElem.mp e
 have h3 : zs[ixOf zs zs[k]] = zs[k] := by
  simp only [List.getElem_map, eqT] at h2
  simpa using h2
 have hp := List.pairwise_iff_getElem.mp hn
 rcases Nat.lt_trichotomy (ixOf zs zs[k]) k with z | z | z
 · exact absurd h3 (hp _ _ hl hk z)
 · exact z
 · exact absurd h3.symm (hp _ _ hk hl z)
theorem ZhP {zs : List Str} {x : Str} (h : x ∈ zs) : Zkp (.lst (zs.map .str)) (.str x) = some (.t (.int (ixOf zs x))) := by
 show (if (Zc8 (.str x) && (zs.map T.str).all Zc8) = true then _ else _) = _
 rw [Zf5, (ZfF h).1]
 rfl
theorem ZgI {b : SB} {f : SP} {σ : Env'} {d : D} {zs : List Str} {x : Str} (hb : b σ = some d) (hl : Zim d = some (zs.map .str)) (hf : f σ = some (.str x)) (h : x ∈ zs) : pIdx b f σ = some (.int (ixOf zs x)) := by
 unfold pIdx
 rw [hb]
 dsimp only [Option.bind]
 rw [hf]
 dsimp only
 rw [hl]
 dsimp only
 rw [Zf5, (ZfF h).1]
 rfl
theorem Zex {zs : List Str} : Zim (.lst ((zs.map T.str).map D.t)) = some (zs.map .str) := by
 show (if _ then _ else _) = _
 rw [if_pos (by simp [tOf]), Zil]
def Ze8 (rs : List (List Int)) (k j : Nat) (v : Int) : List (List Int) := rs.set k ((rs.getD k []).set j v)
theorem Zmk {rs : List (List Int)} {k j : Nat} {v : Int} {i : Nat} {fa : SE} {p q : SP} {σ σ' : Env'} {n : Nat} (hk : k < rs.length) (hr : ∀ r ∈ rs, r.length = n) (hj : j < n) (ea : fa σ = .ok (.t (.int v)) σ) (es : (σ[i]?).bind Sl.get = some (.lst (rs.map rowD)))
 (ep : p σ = some (.int k)) (eq : q σ = some (.int j)) (eu : upSl i (.lst ((Ze8 rs k j v).map rowD)) σ = some σ') : Zig i fa p q σ = .next σ' := by
 unfold Zig
 rw [ea]
 dsimp only [Out.th]
 rw [es, ep, eq]
 dsimp only
 have hrk : rs[k].length = n := hr _ (List.getElem_mem hk)
 have e1 : ixN (rs.map rowD).length (k : Int) = some k := by
  unfold ixN
  rw [List.length_map, if_pos (by omega), if_pos (by omega)]
  rfl
 have e2 : (rs.map rowD)[k]? = some (rowD rs[k]) := by simp [hk]
 have e3 : ixN ((rs[k].map T.int).map D.t).length (j : Int) = some j := by
  unfold ixN
  rw [List.length_map, List.length_map, if_pos (by omega), if_pos (by omega)]
  rfl
 rw [e1]
 dsimp only
 rw [e2]
 dsimp only [rowD]
 rw [e3]
 dsimp only
 have e4 : (rs.map rowD).set k (.lst (((rs[k].map T.int).map D.t).set j (.t (.int v)))) = (Ze8 rs k j v).map rowD := by
  unfold Ze8
  rw [List.map_set]
  congr 1
  unfold rowD
  rw [List.map_set, List.map_set]
  simp [hk]
 rw [e4, eu]
section
variable {ws ds sh : List Str} {rs : List (List Int)}
theorem Zgi : ∀ (rs : List (List Int)) (x : Sl), okX x -> Zck (Zaq 0) Zds (e1 ZcW (eVar 0)) (rs.map rowT) [x] = some (rs.map rowD)
 | [], _, _ => rfl
 | r :: rs, x, hx => by
  have ih := Zgi rs (.v (.t (rowT r))) (.inr ⟨_, rfl⟩)
  have e : ZcW (.lst (r.map .int)) = some (rowD r) := rfl
  rcases hx with rfl | ⟨q, rfl⟩ <;> simp [Zck, Zaq, Zds, e1, eVar, Out.bnd, ZdC, e] <;> exact ih
theorem ZoT {d w : Str} {v : Int} (hd : d ∈ ds) (hw : w ∈ ws) (hl : rs.length = ds.length) (hr : ∀ r ∈ rs, r.length = ws.length) (hn : rs.length <= 1000) :
 ZcS [.t (stT ws ds rs sh), .t (.str d), .t (.str w), .t (.int v)] = .ret (stD ws ds (Ze8 rs (ixOf ds d) (ixOf ws w) v) sh) [.t (stT ws ds rs sh), .t (.str d), .t (.str w), .t (.int v)] := by
 unfold ZcS runF ZcR
 have n2 : rs.length < sizeLine := Zdv (by omega)
 have e := Zgi rs .e (.inl rfl)
 rw [show ZbN 5 [.t (stT ws ds rs sh), .t (.str d), .t (.str w), .t (.int v)] = [.v (.t (stT ws ds rs sh)), .v (.t (.str d)), .v (.t (.str w)), .v (.t (.int v)), .e] from rfl]
 rw [Zcj (σ1 := [.v (.t (stT ws ds rs sh)), .v (.t (.str d)), .v (.t (.str w)), .v (.t (.int v)), .v (.lst (rs.map rowD))]) (by simp_arith [Zcl, Za4, capE, e, n2])]
 rw [Zcj (σ1 := [.v (.t (stT ws ds rs sh)), .v (.t (.str d)), .v (.t (.str w)), .v (.t (.int v)), .v (.lst ((Ze8 rs (ixOf ds d) (ixOf ws w) v).map rowD))])
  (Zmk (n := ws.length) (hl ▸ (ZfF hd).2) hr (ZfF hw).2 (by simp_arith []) rfl (ZgI (d := .t (.lst (ds.map .str))) rfl rfl rfl hd) (ZgI (d := .t (.lst (ws.map .str))) rfl rfl rfl hw) rfl)]
 have e3 := Zew (rs := Ze8 rs (ixOf ds d) (ixOf ws w) v)
 simp_arith [Zgh, e3]
end
structure Ok (ws ds : List Str) (rs : List (List Int)) (sh : List Str) : Prop where
 lr : rs.length = ds.length
 lw : ∀ r ∈ rs, r.length = ws.length
 nw : ws.Nodup
 nd : ds.Nodup
 w6 : ws.length <= 6
 d10 : ds.length <= 10
 sub : ∀ z ∈ sh, z ∈ ds
def ZhQ (zs ws : List Str) : Bool := zs.all fun z => decide (z ∈ ws)
def Zdp (vs : List Int) : Bool := vs.all fun v => !big v
def dueW (z : Str) (ws : List Str) (n : Nat) : Option Str := if Zfq z = false then some "BadName" else if z ∈ ws then some "Taken" else if 6 <= ws.length then some "NoRoom" else if 200 <= n then some "NoRoom" else none
def dueD (z : Str) (kvs : List (Str × Int)) (ws ds : List Str) (n : Nat) : Option Str := if Zfq z = false then some "BadName" else if z ∈ ds then some "Taken" else if ZhQ (kvs.map Prod.fst) ws = false then some "NoWare" else if Zdp (kvs.map Prod.snd) = false then some "BadNumber" else if 10 <= ds.length then some "NoRoom" else if 200 <= n then some "NoRoom" else none
def dueC (d w : Str) (v : Int) (ws ds sh : List Str) (n : Nat) : Option Str := if ¬ d ∈ ds then some "NoDeed" else if ¬ w ∈ ws then some "NoWare" else if d ∈ sh then some "Forbidden" else if big v = true then some "BadNumber" else if 200 <= n then some "NoRoom" else none
section
variable {ws ds sh : List Str} {rs : List (List Int)} {ss : List T}
theorem ZhR {n : Nat} : ZaX [.t (.int n), .t (.int 200)] = if 200 <= n then .exc "NoRoom" [.t (.int n), .t (.int 200)] else .ret (.t .non) [.t (.int n), .t (.int 200)] := by
 have e := ZkJ (a := (n : Int)) (b := 200) (by decide) (by decide)
 rw [e]
 by_cases h : 200 <= n
 · rw [if_pos h, if_pos (by omega)]
 · rw [if_neg h, if_neg (by omega)]
theorem ZoU {z : Str} (h : W z) (O : Ok ws ds rs sh) (hs : ss.length <= 1000) : ZbF [off (ss ++ [stT ws ds rs sh]), .t (.str z)] =
 match dueW z ws ss.length with
 | some c => .exc c [off (ss ++ [stT ws ds rs sh]), .t (.str z)]
 | none => .ret (.t (.int (ss.length + 1))) [off (ss ++ [stT ws ds rs sh] ++ [stT (ws ++ [z]) ds (rs.map (· ++ [0])) sh]), .t (.str z)] := by
 unfold ZbF ZbE
 have h6 := O.w6
 have h10 := O.d10
 have hlr := O.lr
 have e1 := Zhb (ss := ss) (x := stT ws ds rs sh)
 have e2 := ZoQ (ns := ws) h
 have e3 := ZkJ (a := (ws.length : Int)) (b := 6) (by decide) (by decide)
 have e4 := ZcV (ss := ss ++ [stT ws ds rs sh])
 have e5 := ZhR (n := ss.length)
 have e6 := ZoR (z := z) (ws := ws) (ds := ds) (rs := rs) (sh := sh) (by omega) (by omega) (fun r hr => by rw [O.lw r hr]; omega)
 have e7 := ZhN (ss := ss ++ [stT ws ds rs sh]) (x := stT (ws ++ [z]) ds (rs.map (· ++ [0])) sh) (by simp; omega)
 have f6 := ZhO (ws := ws ++ [z]) (ds := ds) (rs := rs.map (· ++ [0])) (sh := sh)
 rw [List.length_append, List.length_singleton] at e4 e7
 unfold dueW
 cases q : Zfq z with
 | false => simp_arith [e1, e2, q]
 | true =>
  by_cases hz : z ∈ ws
  · simp_arith [e1, e2, q, hz]
  · by_cases hl : 6 <= ws.length
    · have hl' : (6 : Int) <= (ws.length : Int) := by omega
      simp_arith [e1, e2, e3, q, hz, hl, hl']
    · have hl' : ¬ (6 : Int) <= (ws.length : Int) := by omega
      by_cases hn : 200 <= ss.length
      · simp_arith [e1, e2, e3, e4, e5, q, hz, hl, hl', hn]
      · simp_arith [e1, e2, e3, e4, e5, e6, e7, f6, q, hz, hl, hl', hn]
theorem ZoV {zs : List Str} (hz : ∀ z ∈ zs, W z) : Zbp [.t (stT ws ds rs sh), .t (.lst (zs.map .str))] = if ZhQ zs ws = true then .ret (.t .non) [.t (stT ws ds rs sh), .t (.lst (zs.map .str))] else .exc "NoWare" [.t (stT ws ds rs sh), .t (.lst (zs.map .str))] := by
 rw [ZkL hz]
 have : (∀ z ∈ zs, z ∈ ws) ↔ ZhQ zs ws = true := by unfold ZhQ; simp
 by_cases h : ∀ z ∈ zs, z ∈ ws
 · rw [if_pos h, if_pos (this.mp h)]
 · rw [if_neg h, if_neg fun q => h (this.mpr q)]
theorem ZoW {vs : List Int} : Zbm [.t (.lst (vs.map .int))] = if Zdp vs = true then .ret (.t .non) [.t (.lst (vs.map .int))] else .exc "BadNumber" [.t (.lst (vs.map .int))] := by
 rw [Zmj]
 have : (∀ v ∈ vs, big v = false) ↔ Zdp vs = true := by unfold Zdp; simp
 by_cases h : ∀ v ∈ vs, big v = false
 · rw [if_pos h, if_pos (this.mp h)]
 · rw [if_neg h, if_neg fun q => h (this.mpr q)]
theorem ZoX {kvs : List (Str × Int)} : (dctT kvs).map (fun p => D.t (.str p.1)) = ((kvs.map Prod.fst).map T.str).map D.t := by simp
theorem ZoY {kvs : List (Str × Int)} : (dctT kvs).map (fun p => D.t p.2) = ((kvs.map Prod.snd).map T.int).map D.t := by simp
theorem ZlD {kvs : List (Str × Int)} : ZcW (.dct (dctT kvs)) = some (.lst (((kvs.map Prod.fst).map T.str).map D.t)) := by rw [ZiU, ZoX]
theorem Znz {kvs : List (Str × Int)} : Zkq (.dct (dctT kvs)) = some (.lst (((kvs.map Prod.snd).map T.int).map D.t)) := by rw [Zky, ZoY]
theorem ZoZ {z : Str} {kvs : List (Str × Int)} {b : D} (hb : b = .dct (dctT kvs) \/ b = .t (.dct (dctT kvs))) (h : W z) (hk : ∀ k ∈ kvs.map Prod.fst, W k) (O : Ok ws ds rs sh) (hs : ss.length <= 1000) : ZbH [off (ss ++ [stT ws ds rs sh]), .t (.str z), b] =
 match dueD z kvs ws ds ss.length with
 | some c => .exc c [off (ss ++ [stT ws ds rs sh]), .t (.str z), b]
 | none => .ret (.t (.int (ss.length + 1))) [off (ss ++ [stT ws ds rs sh] ++ [stT ws (ds ++ [z]) (rs ++ [ZeP kvs ws]) sh]), .t (.str z), b] := by
 unfold ZbH ZbG
 have h6 := O.w6
 have h10 := O.d10
 have hlr := O.lr
 have e1 := Zhb (ss := ss) (x := stT ws ds rs sh)
 have e2 := ZoQ (ns := ds) h
 have e3 := ZkJ (a := (ds.length : Int)) (b := 10) (by decide) (by decide)
 have e4 := ZcV (ss := ss ++ [stT ws ds rs sh])
 have e5 := ZhR (n := ss.length)
 have e6 := ZoS (z := z) (ws := ws) (ds := ds) (rs := rs) (sh := sh) (kvs := kvs) hb (by omega) (by omega) (by omega)
 have e7 := ZhN (ss := ss ++ [stT ws ds rs sh]) (x := stT ws (ds ++ [z]) (rs ++ [ZeP kvs ws]) sh) (by simp; omega)
 have f6 := ZhO (ws := ws) (ds := ds ++ [z]) (rs := rs ++ [ZeP kvs ws]) (sh := sh)
 have e8 := ZoV (ws := ws) (ds := ds) (rs := rs) (sh := sh) hk
 have e9 := ZoW (vs := kvs.map Prod.snd)
 have g1 := ZlD (kvs := kvs)
 have g2 := Znz (kvs := kvs)
 have g3 := Zjy (ns := kvs.map Prod.fst)
 have g4 := ZgH (ns := kvs.map Prod.snd)
 rw [List.length_append, List.length_singleton] at e4 e7
 unfold dueD
 cases q : Zfq z with
 | false => rcases hb with rfl | rfl <;> simp_arith [e1, e2, q]
 | true =>
  by_cases hz : z ∈ ds
  · rcases hb with rfl | rfl <;> simp_arith [e1, e2, q, hz]
  · cases hA : ZhQ (kvs.map Prod.fst) ws with
    | false => rcases hb with rfl | rfl <;> simp_arith [e1, e2, q, hz, Zbg, seen, g1, g3, e8, hA]
    | true =>
     cases hB : Zdp (kvs.map Prod.snd) with
     | false => rcases hb with rfl | rfl <;> simp_arith [e1, e2, q, hz, Zbg, seen, g1, g2, g3, g4, e8, e9, hA, hB]
     | true =>
      by_cases hl : 10 <= ds.length
      · have hl' : (10 : Int) <= (ds.length : Int) := by omega
        rcases hb with rfl | rfl <;> simp_arith [e1, e2, e3, q, hz, Zbg, seen, g1, g2, g3, g4, e8, e9, hA, hB, hl, hl']
      · have hl' : ¬ (10 : Int) <= (ds.length : Int) := by omega
        by_cases hn : 200 <= ss.length
        · rcases hb with rfl | rfl <;> simp_arith [e1, e2, e3, e4, e5, q, hz, Zbg, seen, g1, g2, g3, g4, e8, e9, hA, hB, hl, hl', hn]
        · rcases hb with rfl | rfl <;> simp_arith [e1, e2, e3, e4, e5, e6, e7, f6, q, hz, Zbg, seen, g1, g2, g3, g4, e8, e9, hA, hB, hl, hl', hn]
theorem ZlE {d w : Str} {v : Int} (hd : W d) (hw : W w) (O : Ok ws ds rs sh) (hs : ss.length <= 1000) : Zcb [off (ss ++ [stT ws ds rs sh]), .t (.str d), .t (.str w), .t (.int v)] =
 match dueC d w v ws ds sh ss.length with
 | some c => .exc c [off (ss ++ [stT ws ds rs sh]), .t (.str d), .t (.str w), .t (.int v)]
 | none => .ret (.t (.int (ss.length + 1))) [off (ss ++ [stT ws ds rs sh] ++ [stT ws ds (Ze8 rs (ixOf ds d) (ixOf ws w) v) sh]), .t (.str d), .t (.str w), .t (.int v)] := by
 unfold Zcb Zca
 have h6 := O.w6
 have h10 := O.d10
 have hlr := O.lr
 have e1 := Zhb (ss := ss) (x := stT ws ds rs sh)
 have e4 := ZcV (ss := ss ++ [stT ws ds rs sh])
 have e5 := ZhR (n := ss.length)
 have e7 := ZhN (ss := ss ++ [stT ws ds rs sh]) (x := stT ws ds (Ze8 rs (ixOf ds d) (ixOf ws w) v) sh) (by simp; omega)
 have f6 := ZhO (ws := ws) (ds := ds) (rs := Ze8 rs (ixOf ds d) (ixOf ws w) v) (sh := sh)
 have c1 := Zi0 (ws := ws) (ds := ds) (rs := rs) (sh := sh) (zs := [d]) (by simpa using hd)
 have c2 := ZkL (ws := ws) (ds := ds) (rs := rs) (sh := sh) (zs := [w]) (by simpa using hw)
 have c3 := Zmh (ws := ws) (ds := ds) (rs := rs) (sh := sh) (zs := [d]) (by simpa using hd)
 have c4 := Zmj (vs := [v])
 simp only [List.mem_singleton, forall_eq, List.map_cons, List.map_nil] at c1 c2 c3 c4
 rw [List.length_append, List.length_singleton] at e4 e7
 unfold dueC
 by_cases h1 : d ∈ ds
 rotate_left
 · simp_arith [e1, c1, h1]
 by_cases h2 : w ∈ ws
 rotate_left
 · simp_arith [e1, c1, c2, h1, h2]
 by_cases h3 : d ∈ sh
 · simp_arith [e1, c1, c2, c3, h1, h2, h3]
 cases h4 : big v with
 | true => simp_arith [e1, c1, c2, c3, c4, h1, h2, h3, h4]
 | false =>
  by_cases hn : 200 <= ss.length
  · simp_arith [e1, c1, c2, c3, c4, e4, e5, h1, h2, h3, h4, hn]
  · have e6 := ZoT (v := v) (sh := sh) h1 h2 hlr O.lw (by omega)
    simp_arith [e1, c1, c2, c3, c4, e4, e5, e6, e7, f6, h1, h2, h3, h4, hn]
end
theorem ZhS {s : T} {sh : List Str} (hs : ∃ fs, s = .ins "Standing" fs /\ fs.lookup ("stopped" : Str) = some (T.lst (sh.map .str))) : ∀ (ds : List Str) (x : Sl), okX x -> Zck (Zaq 0) (sT (eB oIn (eVar 0) (e1 (oFld "Standing" "stopped") (eVar 1)))) (eVar 0) (ds.map .str) [x, .v (.t s)] = some (((ds.filter fun d => decide (d ∈ sh)).map T.str).map D.t)
 | [], _, _ => rfl
 | d :: ds, x, hx => by
  have ih := ZhS hs ds (.v (.t (.str d))) (.inr ⟨_, rfl⟩)
  obtain ⟨fs, rfl, hf⟩ := hs
  by_cases hd : d ∈ sh
  · rcases hx with rfl | ⟨q, rfl⟩ <;> simp [Zck, Zaq, sT, Zjr, e1, eVar, Out.bnd, ZdC, Zkz, hf, Zlw, ZdM, hd, -List.map_map] <;> rw [ih]
  · rcases hx with rfl | ⟨q, rfl⟩ <;> simp [Zck, Zaq, sT, Zjr, e1, eVar, Out.bnd, ZdC, Zkz, hf, Zlw, ZdM, hd, -List.map_map] <;> exact ih
section
variable {ss : List T} {ws ds sh : List Str} {rs : List (List Int)}
theorem ZnA : Zcv [off (ss ++ [stT ws ds rs sh])] = .ret (.lst ((ws.map .str).map .t)) [off (ss ++ [stT ws ds rs sh])] := by
 unfold Zcv Zcu
 have e1 := Zhb (ss := ss) (x := stT ws ds rs sh)
 simp_arith [e1]
theorem ZnB : Zct [off (ss ++ [stT ws ds rs sh])] = .ret (.lst ((ds.map .str).map .t)) [off (ss ++ [stT ws ds rs sh])] := by
 unfold Zct Zcs
 have e1 := Zhb (ss := ss) (x := stT ws ds rs sh)
 simp_arith [e1]
abbrev Zhf (ds sh : List Str) : List Str := ds.filter fun d => decide (d ∈ sh)
theorem Zo0 (hd : ds.length <= 1000) : Zby [off (ss ++ [stT ws ds rs sh])] = .ret (.lst (((Zhf ds sh).map T.str).map D.t)) [off (ss ++ [stT ws ds rs sh])] := by
 unfold Zby Zbx Zcr ZbL
 have e1 := Zhb (ss := ss) (x := stT ws ds rs sh)
 have e := ZhS (s := stT ws ds rs sh) (sh := sh) ⟨_, rfl, rfl⟩ ds .e (.inl rfl)
 have n2 : ds.length < sizeLine := Zdv (by omega)
 simp_arith [e1, Zcl, Za4, capE, e, n2]
theorem ZpC {d w : Str} {v : Int} {r : List Int} (wd : W d) (ww : W w) (hd : d ∈ ds) (hw : w ∈ ws) (hr : rs[ixOf ds d]? = some r) (hv : r[ixOf ws w]? = some v) : ZbB [off (ss ++ [stT ws ds rs sh]), .t (.str d), .t (.str w)] = .ret (.t (.int v)) [off (ss ++ [stT ws ds rs sh]), .t (.str d), .t (.str w)] := by
 unfold ZbB Zce ZeO ZdX
 have e1 := Zhb (ss := ss) (x := stT ws ds rs sh)
 have c1 := Zi0 (ws := ws) (ds := ds) (rs := rs) (sh := sh) (zs := [d]) (by simpa using wd)
 have c2 := ZkL (ws := ws) (ds := ds) (rs := rs) (sh := sh) (zs := [w]) (by simpa using ww)
 simp only [List.mem_singleton, forall_eq, List.map_cons, List.map_nil] at c1 c2
 have e4 := ZhP hd
 have e5 := ZhP hw
 have e6 : oIx (.lst (rs.map rowT)) (.int (ixOf ds d)) = some (.t (rowT r)) := by
  rw [ZhF, DL.atI_nat, List.getElem?_map, hr]
  rfl
 have e7 : oIx (.lst (r.map .int)) (.int (ixOf ws w)) = some (.t (.int v)) := by
  rw [ZhF, DL.atI_nat, List.getElem?_map, hv]
  rfl
 simp_arith [e1, c1, c2, hd, hw, e4, e5, e6, e7]
end
abbrev Zch (ds sh : List Str) : List T := ds.map fun d => .bl (decide (d ∈ sh))
theorem ZhT {sh : List Str} : ∀ (ds : List Str) (x y : Sl), okX x -> okX y -> Zck (kTup Zd0 2 (ZaL (Zaq 0) (ZaL (Zaq 1) Zd3))) (sT (eVar 1)) (eVar 0) (List.zipWith (fun x y => .tup [x, y]) (ds.map .str) (Zch ds sh)) [x, y] = some (((Zhf ds sh).map T.str).map D.t)
 | [], _, _, _, _ => rfl
 | d :: ds, x, y, hx, hy => by
  have ih := ZhT (sh := sh) ds (.v (.t (.str d))) (.v (.t (.bl (decide (d ∈ sh))))) (.inr ⟨_, rfl⟩) (.inr ⟨_, rfl⟩)
  have k1 : kTup Zd0 2 (ZaL (Zaq 0) (ZaL (Zaq 1) Zd3)) (.t (.tup [.str d, .bl (decide (d ∈ sh))])) [x, y] = some [.v (.t (.str d)), .v (.t (.bl (decide (d ∈ sh))))] := by
   rcases hx with rfl | ⟨d, rfl⟩ <;> rcases hy with rfl | ⟨d', rfl⟩ <;> simp [kTup, Zd0, ZaL, Zd3, Zaq]
  rw [Zch, List.map_cons, List.map_cons, List.zipWith_cons_cons, Zck, k1]
  by_cases hd : d ∈ sh
  · have hL : Zhf (d :: ds) sh = d :: Zhf ds sh := by simp [Zhf, hd]
    rw [hL]
    simp only [hd, decide_true] at ih ⊢
    simp only [sT, eVar, Out.bnd, ZdC, ZdM, List.getElem?_cons_zero, List.getElem?_cons_succ, List.set_cons_succ, List.set_cons_zero]
    exact congrArg (Option.map (fun x => D.t (.str d) :: x)) ih
  · have hL : Zhf (d :: ds) sh = Zhf ds sh := by simp [Zhf, hd]
    rw [hL]
    simp only [hd, decide_false] at ih ⊢
    simp only [sT, eVar, Out.bnd, ZdC, ZdM, List.getElem?_cons_zero, List.getElem?_cons_succ, List.set_cons_succ, List.set_cons_zero]
    exact ih
theorem Zi1 (n : Nat) : rngT 0 n = (List.range n).map fun (i : Nat) => T.int (i : Int) := by
 unfold rngT
 exact List.map_congr_left fun i _ => by simp
abbrev lawS (ws ds : List Str) (rs : List (List Int)) (sh : List Str) : T := .lst [.lst (ws.map .str), .lst (ds.map .str), .lst (rs.map rowT), .lst (Zch ds sh)]
section
variable {ss : List T} {ws ds sh : List Str} {rs : List (List Int)} {n : Int}
abbrev soE (ss : List T) (ws ds : List Str) (rs : List (List Int)) (sh : List Str) (n : Int) (x y : Sl) : Env' := [.x (off (ss ++ [stT ws ds rs sh])), .v (.t (lawS ws ds rs sh)), .v (.t (.int n)), .v (.t (.lst (ws.map .str))), .v (.t (.lst (ds.map .str))), .v (.t (.lst (rs.map rowT))), .v (.t (.lst (Zch ds sh))), x, y]
abbrev soB : SS := (sIf (sNot (sT (ZaB 2 (Zax 4) [none, none] (Zad (eFrz (Zbi 0 "Office" "number" 3 ZbB [none, none] (Zad (eFrz (e2 oIx (eVar 4) (eVar 7))) (Zad (eFrz (e2 oIx (eVar 3) (eVar 8))) aNil)))) (Zad (eFrz (e2 oIx (e2 oIx (eVar 5) (eVar 7)) (eVar 8))) aNil))))) (sRet (eC (.bl false))) ZaH)
theorem ZnC {k j : Nat} (O : Ok ws ds rs sh) (hw : ∀ z ∈ ws, W z) (hd : ∀ z ∈ ds, W z) (hk : k < ds.length) (hj : j < ws.length) : soB (soE ss ws ds rs sh n (.v (.t (.int k))) (.v (.t (.int j)))) = .next (soE ss ws ds rs sh n (.v (.t (.int k))) (.v (.t (.int j)))) := by
 unfold soB soE
 have hk' : k < rs.length := by rw [O.lr]; exact hk
 have hj' : j < rs[k].length := by rw [O.lw _ (List.getElem_mem hk')]; exact hj
 have e1 : oIx (.lst (ds.map .str)) (.int k) = some (.t (.str ds[k])) := by rw [ZhF, DL.atI_nat]; simp [hk]
 have e2 : oIx (.lst (ws.map .str)) (.int j) = some (.t (.str ws[j])) := by rw [ZhF, DL.atI_nat]; simp [hj]
 have e3 := ZpC (ss := ss) (ws := ws) (ds := ds) (rs := rs) (sh := sh) (d := ds[k]) (w := ws[j]) (v := rs[k][j]) (r := rs[k]) (hd _ (List.getElem_mem _)) (hw _ (List.getElem_mem _)) (List.getElem_mem _) (List.getElem_mem _) (by rw [Zny O.nd hk]; simp [hk']) (by rw [Zny O.nw hj]; simp [hj'])
 have e4 : oIx (.lst (rs.map rowT)) (.int k) = some (.t (rowT rs[k])) := by rw [ZhF, DL.atI_nat]; simp [hk']
 have e5 : oIx (.lst (rs[k].map .int)) (.int j) = some (.t (.int rs[k][j])) := by rw [ZhF, DL.atI_nat]; simp [hj']
 have e6 : Zax 4 [.t (.int rs[k][j]), .t (.int rs[k][j])] = .ret (.t (.bl true)) [.t (.int rs[k][j]), .t (.int rs[k][j])] := ZdF 3 _ rfl
 simp_arith [e1, e2, e3, e4, e5, e6]
theorem Zo1 {k : Nat} (O : Ok ws ds rs sh) (hw : ∀ z ∈ ws, W z) (hd : ∀ z ∈ ds, W z) (hk : k < ds.length) : ∀ (js : List Nat) (y : Sl), okX y -> (∀ j ∈ js, j < ws.length) -> ∃ y', okX y' /\ forS (Zaq 8) soB (js.map fun (i : Nat) => T.int (i : Int)) (soE ss ws ds rs sh n (.v (.t (.int k))) y) = .next (soE ss ws ds rs sh n (.v (.t (.int k))) y')
 | [], y, hy, _ => ⟨y, hy, rfl⟩
 | j :: js, y, hy, h => by
  obtain ⟨y', hy', ih⟩ := Zo1 O hw hd hk js (.v (.t (.int j))) (.inr ⟨_, rfl⟩) fun i hi => h i (.tail _ hi)
  refine ⟨y', hy', ?_⟩
  have k1 : Zaq 8 (.t (.int j)) (soE ss ws ds rs sh n (.v (.t (.int k))) y) = some (soE ss ws ds rs sh n (.v (.t (.int k))) (.v (.t (.int j)))) := by rcases hy with rfl | ⟨d, rfl⟩ <;> rfl
  rw [List.map_cons, forS, k1]
  dsimp only
  rw [ZnC O hw hd hk (h j (.head _))]
  exact ih
theorem Zml (O : Ok ws ds rs sh) (hw : ∀ z ∈ ws, W z) (hd : ∀ z ∈ ds, W z) : ∀ (ks : List Nat) (x y : Sl), okX x -> okX y -> (∀ k ∈ ks, k < ds.length) -> ∃ x' y', forS (Zaq 7) (sFor (ZeG (e1 oLen (eVar 3))) (Zaq 8) soB) (ks.map fun (i : Nat) => T.int (i : Int)) (soE ss ws ds rs sh n x y) = .next (soE ss ws ds rs sh n x' y')
 | [], x, y, _, _, _ => ⟨x, y, rfl⟩
 | k :: ks, x, y, hx, hy, h => by
  obtain ⟨y1, hy1, f0⟩ := Zo1 (ss := ss) (n := n) O hw hd (h k (.head _)) (List.range ws.length) y hy (fun j hj => List.mem_range.mp hj)
  obtain ⟨x', y', ih⟩ := Zml O hw hd ks (.v (.t (.int k))) y1 (.inr ⟨_, rfl⟩) hy1 (fun i hi => h i (.tail _ hi))
  refine ⟨x', y', ?_⟩
  have k1 : Zaq 7 (.t (.int k)) (soE ss ws ds rs sh n x y) = some (soE ss ws ds rs sh n (.v (.t (.int k))) y) := by rcases hx with rfl | ⟨d, rfl⟩ <;> rfl
  rw [List.map_cons, forS, k1]
  dsimp only
  have b1 : sFor (ZeG (e1 oLen (eVar 3))) (Zaq 8) soB (soE ss ws ds rs sh n (.v (.t (.int k))) y) = .next (soE ss ws ds rs sh n (.v (.t (.int k))) y1) := by
   have r := Zi1 ws.length
   have n1 : ws.length < 1000000 := by have := O.w6; omega
   unfold soE at f0 ⊢
   simp (decide := true) [sFor, ZeG, e1, eVar, Out.bnd, Out.th, ZdC, ZiT, n1, r, -List.map_append, -List.map_map]
   exact f0
  rw [b1]
  exact ih
theorem r_so (O : Ok ws ds rs sh) (hw : ∀ z ∈ ws, W z) (hd : ∀ z ∈ ds, W z) : Za8 [off (ss ++ [stT ws ds rs sh]), .t (lawS ws ds rs sh), .t (.int ss.length)] = .ret (.t (.bl true)) [off (ss ++ [stT ws ds rs sh]), .t (lawS ws ds rs sh), .t (.int ss.length)] := by
 unfold Za8 Zcf
 have h10 := O.d10
 have w1 := ZnA (ss := ss) (ws := ws) (ds := ds) (rs := rs) (sh := sh)
 have w2 := ZnB (ss := ss) (ws := ws) (ds := ds) (rs := rs) (sh := sh)
 have w3 := Zo0 (ss := ss) (ws := ws) (ds := ds) (rs := rs) (sh := sh) (by omega)
 have w4 := ZcV (ss := ss ++ [stT ws ds rs sh])
 rw [List.length_append, List.length_singleton] at w4
 have s1 : ∀ zs : List Str, Zax 4 [.t (.lst (zs.map .str)), .t (.lst (zs.map .str))] = .ret (.t (.bl true)) [.t (.lst (zs.map .str)), .t (.lst (zs.map .str))] := fun zs => ZdF 3 _ (by simp [okS])
 have s4 : Zax 4 [.t (.int ss.length), .t (.int ss.length)] = .ret (.t (.bl true)) [.t (.int ss.length), .t (.int ss.length)] := ZdF 3 _ rfl
 have c1 := ZhT (sh := sh) ds .e .e (.inl rfl) (.inl rfl)
 have hz : (List.zipWith (fun x y => T.tup [x, y]) (ds.map .str) (Zch ds sh)).length = ds.length := by simp
 obtain ⟨x', y', f1⟩ := Zml (ss := ss) (n := (ss.length : Int)) O hw hd (List.range ds.length) .e .e (.inl rfl) (.inl rfl) (fun k hk => List.mem_range.mp hk)
 have r := Zi1 ds.length
 have n1 : ds.length < 1000000 := by omega
 have n2 : ds.length < sizeLine := Zdv (by omega)
 have z1 : Zg2 (eVar 4) (eVar 6) (soE ss ws ds rs sh (ss.length : Int) .e .e) = .ok (List.zipWith (fun x y => T.tup [x, y]) (ds.map .str) (Zch ds sh)) (soE ss ws ds rs sh (ss.length : Int) .e .e) := by
  unfold soE
  simp_arith [Zg2, zipD, ZfW]
 have z2 : Zcl (Zg2 (eVar 4) (eVar 6)) [none, none] (kTup Zd0 2 (ZaL (Zaq 0) (ZaL (Zaq 1) Zd3))) (sT (eVar 1)) (eVar 0) (soE ss ws ds rs sh (ss.length : Int) .e .e) = .ok (.lst (((Zhf ds sh).map T.str).map D.t)) (soE ss ws ds rs sh (ss.length : Int) .e .e) := by
  unfold Zcl
  rw [z1]
  dsimp only [Out.bnd]
  rw [hz, if_pos n2]
  unfold soE
  simp only [Za4, capE, Option.map_some, Option.bind_some, c1]
 unfold soE at f1 z2
 simp_arith [w1, w2, w3, w4, s1, s4, z2, n1, r, f1]
end
section
variable {ws ds sh : List Str} {rs : List (List Int)} {ss : List T}
def dueF (d : Str) (ds sh : List Str) (n : Nat) : Option Str := if ¬ d ∈ ds then some "NoDeed" else if d ∈ sh then some "Forbidden" else if 200 <= n then some "NoRoom" else none
def dueL (d : Str) (ds sh : List Str) (n : Nat) : Option Str := if ¬ d ∈ ds then some "NoDeed" else if ¬ d ∈ sh then some "NotForbidden" else if 200 <= n then some "NoRoom" else none
theorem ZnD {d : Str} (hs : sh.length <= 1000) : ZbS [.t (stT ws ds rs sh), .t (.str d)] = .ret (stD ws ds rs (sh ++ [d])) [.t (stT ws ds rs sh), .t (.str d)] := by
 unfold ZbS ZbR
 have e2 : oCat (.lst (sh.map .str)) (.lst [.str d]) = some (.lst (((sh ++ [d]).map T.str).map .t)) := by
  rw [ZgE (by simp; omega)]
  simp
 simp_arith [e2, Zgh]
abbrev Zel (sh : List Str) (d : Str) : List Str := sh.filter fun z => !decide (z = d)
theorem Zo2 {x y : Str} : oNe (.str x) (.str y) = some (!decide (x = y)) := rfl
theorem ZhU {d : Str} : ∀ (sh : List Str) (x : Sl), okX x -> Zck (Zaq 0) (sT (eB oNe (eVar 0) (eVar 1))) (eVar 0) (sh.map .str) [x, .v (.t (.str d))] = some (((Zel sh d).map T.str).map D.t)
 | [], _, _ => rfl
 | z :: zs, x, hx => by
  have ih := ZhU (d := d) zs (.v (.t (.str z))) (.inr ⟨_, rfl⟩)
  by_cases hz : z = d
  · have hL : Zel (z :: zs) d = Zel zs d := by simp [Zel, hz]
    rw [hL]
    rcases hx with rfl | ⟨q, rfl⟩ <;> simp [Zck, Zaq, sT, Zjr, eVar, Out.bnd, ZdC, Zo2, ZdM, hz, -List.map_map] <;> (rw [hz] at ih; exact ih)
  · have hL : Zel (z :: zs) d = z :: Zel zs d := by simp [Zel, hz]
    rw [hL]
    rcases hx with rfl | ⟨q, rfl⟩ <;> simp [Zck, Zaq, sT, Zjr, eVar, Out.bnd, ZdC, Zo2, ZdM, hz, -List.map_map] <;> rw [ih]
theorem Zo3 {d : Str} (hs : sh.length <= 1000) : Zer [.t (stT ws ds rs sh), .t (.str d)] = .ret (stD ws ds rs (Zel sh d)) [.t (stT ws ds rs sh), .t (.str d)] := by
 unfold Zer Zeq
 have e := ZhU (d := d) sh .e (.inl rfl)
 have n2 : sh.length < sizeLine := Zdv (by omega)
 simp_arith [Zcl, Za4, capE, e, n2, Zgh]
theorem ZnE {d : Str} (hd : W d) : ZbJ [.t (stT ws ds rs sh), .t (.str d)] = if d ∈ sh then .ret (.t .non) [.t (stT ws ds rs sh), .t (.str d)] else .exc "NotForbidden" [.t (stT ws ds rs sh), .t (.str d)] := by
 unfold ZbJ ZbI
 by_cases h : d ∈ sh
 · simp_arith [h]
 · simp_arith [h, hd.s]
theorem ZlF {d : Str} (hd : W d) (hsh : sh.length <= 1000) (hs : ss.length <= 1000) : Zcd [off (ss ++ [stT ws ds rs sh]), .t (.str d)] =
 match dueF d ds sh ss.length with
 | some c => .exc c [off (ss ++ [stT ws ds rs sh]), .t (.str d)]
 | none => .ret (.t (.int (ss.length + 1))) [off (ss ++ [stT ws ds rs sh] ++ [stT ws ds rs (sh ++ [d])]), .t (.str d)] := by
 unfold Zcd Zcc
 have e1 := Zhb (ss := ss) (x := stT ws ds rs sh)
 have e4 := ZcV (ss := ss ++ [stT ws ds rs sh])
 have e5 := ZhR (n := ss.length)
 have e6 := ZnD (ws := ws) (ds := ds) (rs := rs) (d := d) hsh
 have e7 := ZhN (ss := ss ++ [stT ws ds rs sh]) (x := stT ws ds rs (sh ++ [d])) (by simp; omega)
 have f6 := ZhO (ws := ws) (ds := ds) (rs := rs) (sh := sh ++ [d])
 have c1 := Zi0 (ws := ws) (ds := ds) (rs := rs) (sh := sh) (zs := [d]) (by simpa using hd)
 have c3 := Zmh (ws := ws) (ds := ds) (rs := rs) (sh := sh) (zs := [d]) (by simpa using hd)
 simp only [List.mem_singleton, forall_eq, List.map_cons, List.map_nil] at c1 c3
 rw [List.length_append, List.length_singleton] at e4 e7
 unfold dueF
 by_cases h1 : d ∈ ds
 rotate_left
 · simp_arith [e1, c1, h1]
 by_cases h3 : d ∈ sh
 · simp_arith [e1, c1, c3, h1, h3]
 by_cases hn : 200 <= ss.length
 · simp_arith [e1, c1, c3, e4, e5, h1, h3, hn]
 · simp_arith [e1, c1, c3, e4, e5, e6, e7, f6, h1, h3, hn]
theorem ZpD {d : Str} (hd : W d) (hsh : sh.length <= 1000) (hs : ss.length <= 1000) : Zdj [off (ss ++ [stT ws ds rs sh]), .t (.str d)] =
 match dueL d ds sh ss.length with
 | some c => .exc c [off (ss ++ [stT ws ds rs sh]), .t (.str d)]
 | none => .ret (.t (.int (ss.length + 1))) [off (ss ++ [stT ws ds rs sh] ++ [stT ws ds rs (Zel sh d)]), .t (.str d)] := by
 unfold Zdj Zdi
 have e1 := Zhb (ss := ss) (x := stT ws ds rs sh)
 have e4 := ZcV (ss := ss ++ [stT ws ds rs sh])
 have e5 := ZhR (n := ss.length)
 have e6 := Zo3 (ws := ws) (ds := ds) (rs := rs) (d := d) hsh
 have e7 := ZhN (ss := ss ++ [stT ws ds rs sh]) (x := stT ws ds rs (Zel sh d)) (by simp; omega)
 have f6 := ZhO (ws := ws) (ds := ds) (rs := rs) (sh := Zel sh d)
 have c1 := Zi0 (ws := ws) (ds := ds) (rs := rs) (sh := sh) (zs := [d]) (by simpa using hd)
 have c3 := ZnE (ws := ws) (ds := ds) (rs := rs) (sh := sh) hd
 simp only [List.mem_singleton, forall_eq, List.map_cons, List.map_nil] at c1
 rw [List.length_append, List.length_singleton] at e4 e7
 unfold dueL
 by_cases h1 : d ∈ ds
 rotate_left
 · simp_arith [e1, c1, h1]
 by_cases h3 : d ∈ sh
 rotate_left
 · simp_arith [e1, c1, c3, h1, h3]
 by_cases hn : 200 <= ss.length
 · simp_arith [e1, c1, c3, e4, e5, h1, h3, hn]
 · simp_arith [e1, c1, c3, e4, e5, e6, e7, f6, h1, h3, hn]
end
inductive Rw where
 | w (z : Str) | d (z : Str) (kvs : List (Str × Int)) | c (z y : Str) (v : Int) | f (z : Str) | l (z : Str)
def Rw.k : Rw -> Int
 | .w _ => 0
 | .d _ _ => 1
 | .c _ _ _ => 2
 | .f _ => 3
 | .l _ => 4
def Rw.a : Rw -> Str
 | .w z => z
 | .d z _ => z
 | .c z _ _ => z
 | .f z => z
 | .l z => z
def Rw.n : Rw -> Int
 | .c _ _ v => v
 | _ => 0
def Rw.bT : Rw -> T
 | .d _ kvs => .dct (dctT kvs)
 | .c _ y _ => .str y
 | _ => .int 0
def Rw.ok : Rw -> Prop
 | .w z => W z
 | .d z kvs => W z /\ ∀ k ∈ kvs.map Prod.fst, W k
 | .c z y _ => W z /\ W y
 | .f z => W z
 | .l z => W z
def Rw.due (ws ds sh : List Str) (n : Nat) : Rw -> Option Str
 | .w z => dueW z ws n
 | .d z kvs => dueD z kvs ws ds n
 | .c z y v => dueC z y v ws ds sh n
 | .f z => dueF z ds sh n
 | .l z => dueL z ds sh n
def Rw.ws (ws : List Str) : Rw -> List Str
 | .w z => ws ++ [z]
 | _ => ws
def Rw.ds (ds : List Str) : Rw -> List Str
 | .d z _ => ds ++ [z]
 | _ => ds
def Rw.rs (ws ds : List Str) (rs : List (List Int)) : Rw -> List (List Int)
 | .w _ => rs.map (· ++ [0])
 | .d _ kvs => rs ++ [ZeP kvs ws]
 | .c z y v => Ze8 rs (ixOf ds z) (ixOf ws y) v
 | _ => rs
def Rw.sh (sh : List Str) : Rw -> List Str
 | .f z => sh ++ [z]
 | .l z => Zel sh z
 | _ => sh
section
variable {ws ds sh : List Str} {rs : List (List Int)} {ss : List T} {r : Rw}
theorem Zo4 (hr : r.ok) (O : Ok ws ds rs sh) (hsh : sh.length <= 1000) (hs : ss.length <= 1000) : ZbY [off (ss ++ [stT ws ds rs sh]), .t (.int r.k), .t (.str r.a), .t r.bT, .t (.int r.n)] =
 match r.due ws ds sh ss.length with
 | some c => .exc c [off (ss ++ [stT ws ds rs sh]), .t (.int r.k), .t (.str r.a), .t r.bT, .t (.int r.n)]
 | none => .ret (.t (.int (ss.length + 1))) [off (ss ++ [stT ws ds rs sh] ++ [stT (r.ws ws) (r.ds ds) (r.rs ws ds rs) (r.sh sh)]), .t (.int r.k), .t (.str r.a), .t r.bT, .t (.int r.n)] := by
 unfold ZbY ZdD
 cases r with
 | w z =>
  have e := ZoU (ss := ss) (show W z from hr) O hs
  simp only [Rw.k, Rw.a, Rw.n, Rw.bT, Rw.due, Rw.ws, Rw.ds, Rw.rs, Rw.sh]
  cases q : dueW z ws ss.length with
  | none => rw [q] at e; simp_arith [e]
  | some c => rw [q] at e; simp_arith [e]
 | d z kvs =>
  have e := ZoZ (ss := ss) (b := .t (.dct (dctT kvs))) (kvs := kvs) (.inr rfl) hr.1 hr.2 O hs
  simp only [Rw.k, Rw.a, Rw.n, Rw.bT, Rw.due, Rw.ws, Rw.ds, Rw.rs, Rw.sh]
  cases q : dueD z kvs ws ds ss.length with
  | none => rw [q] at e; simp_arith [e]
  | some c => rw [q] at e; simp_arith [e]
 | c z y v =>
  have e := ZlE (ss := ss) (v := v) hr.1 hr.2 O hs
  simp only [Rw.k, Rw.a, Rw.n, Rw.bT, Rw.due, Rw.ws, Rw.ds, Rw.rs, Rw.sh]
  cases q : dueC z y v ws ds sh ss.length with
  | none => rw [q] at e; simp_arith [e]
  | some c => rw [q] at e; simp_arith [e]
 | f z =>
  have e := ZlF (ws := ws) (ds := ds) (rs := rs) (ss := ss) (show W z from hr) hsh hs
  simp only [Rw.k, Rw.a, Rw.n, Rw.bT, Rw.due, Rw.ws, Rw.ds, Rw.rs, Rw.sh]
  cases q : dueF z ds sh ss.length with
  | none => rw [q] at e; simp_arith [e]
  | some c => rw [q] at e; simp_arith [e]
 | l z =>
  have e := ZpD (ws := ws) (ds := ds) (rs := rs) (ss := ss) (show W z from hr) hsh hs
  simp only [Rw.k, Rw.a, Rw.n, Rw.bT, Rw.due, Rw.ws, Rw.ds, Rw.rs, Rw.sh]
  cases q : dueL z ds sh ss.length with
  | none => rw [q] at e; simp_arith [e]
  | some c => rw [q] at e; simp_arith [e]
def refT (c : Str) : T := .tup [.str "refused", .lst [.bl (c == "BadName"), .bl (c == "Taken"), .bl (c == "NoDeed"), .bl (c == "NoWare"), .bl (c == "Forbidden"), .bl (c == "NotForbidden"), .bl (c == "BadNumber"), .bl false, .bl (c == "NotDone"), .bl (c == "NoRoom")], .bl true]
theorem ZkN {n : Nat} {c : Str} (h : r.due ws ds sh n = some c) : c ∈ ALLX := by
 cases r <;> simp only [Rw.due, dueW, dueD, dueC, dueF, dueL] at h <;> (repeat' split at h) <;> first | (cases h; decide) | (cases h; done)
theorem Zmm {o : D} {k : Int} {a b c : T} {x : Str} (hx : x ∈ ALLX) (ho : ∃ qs, o = off qs) (e : ZbY [o, .t (.int k), .t a, .t b, .t c] = .exc x [o, .t (.int k), .t a, .t b, .t c]) : ZbK [o, .t (.int k), .t a, .t b, .t c] = .ret (.t (refT x)) [o, .t (.int k), .t a, .t b, .t c] := by
 obtain ⟨qs, rfl⟩ := ho
 unfold ZbK Ze6
 have cc : ∀ a b : List T, a.length + b.length <= 1000000 -> oCat (.lst a) (.lst b) = some (.lst ((a ++ b).map .t)) := fun a b h => ZgE h
 simp only [ALLX, List.mem_cons, List.not_mem_nil, or_false] at hx
 rcases hx with rfl | rfl | rfl | rfl | rfl | rfl | rfl | rfl | rfl <;> simp_arith [e, oIsX, ALLX, cc, refT]
theorem Zmn {qs qs' : List T} {k n : Int} {a b c : T} (e : ZbY [off qs, .t (.int k), .t a, .t b, .t c] = .ret (.t (.int n)) [off qs', .t (.int k), .t a, .t b, .t c]) : ZbK [off qs, .t (.int k), .t a, .t b, .t c] = .ret (.t (.tup [.str "told", .int n])) [off qs', .t (.int k), .t a, .t b, .t c] := by
 unfold ZbK Ze6
 simp_arith [e]
end
def numX (c : Str) : Int := if c = "BadName" then 0 else if c = "Taken" then 1 else if c = "NoDeed" then 2 else if c = "NoWare" then 3 else if c = "Forbidden" then 4 else if c = "NotForbidden" then 5 else if c = "BadNumber" then 6 else if c = "NotDone" then 8 else 9
theorem Zgj {c : Str} (h : c ∈ ALLX) : Za5 [.t (refT c), .t (.int (numX c))] = .ret (.t (.bl true)) [.t (refT c), .t (.int (numX c))] := by
 have e : Zax 4 [.t (refT c), .t (refT c)] = .ret (.t (.bl true)) [.t (refT c), .t (refT c)] := ZdF 3 _ (by simp [refT, okS])
 unfold Za5 ZcT
 have e2 : Zck (Zaq 0) Zds (eB oEq (eVar 0) (eVar 1)) (rngT 0 10) [.e, .v (.t (.int (numX c)))] = some [.t (.bl (c == "BadName")), .t (.bl (c == "Taken")), .t (.bl (c == "NoDeed")), .t (.bl (c == "NoWare")), .t (.bl (c == "Forbidden")), .t (.bl (c == "NotForbidden")), .t (.bl (c == "BadNumber")), .t (.bl false), .t (.bl (c == "NotDone")), .t (.bl (c == "NoRoom"))] := by
  simp only [ALLX, List.mem_cons, List.not_mem_nil, or_false] at h
  rcases h with rfl | rfl | rfl | rfl | rfl | rfl | rfl | rfl | rfl <;> rfl
 have n : (rngT 0 10).length < sizeLine := by decide
 unfold refT at e ⊢
 simp only [beqS] at e e2 ⊢
 simp_arith [Zcl, Za4, capE, e2, n, e]
section
variable {ws ds sh : List Str} {rs : List (List Int)} {r : Rw}
theorem Zo5 (hr : rs.length <= 1000) : Zet [.t (lawS ws ds rs sh)] = .ret (.lst [.lst ((ws.map .str).map .t), .lst ((ds.map .str).map .t), .lst (rs.map rowD), .lst ((Zch ds sh).map .t)]) [.t (lawS ws ds rs sh)] := by
 unfold Zet Zes
 have e := Zgi rs .e (.inl rfl)
 have n2 : rs.length < sizeLine := Zdv (by omega)
 simp_arith [Zcl, Za4, capE, e, n2]
theorem Zi2 {a : Str} {p : Bool} {sh' : List Str} (hn : ds.Nodup) (ha : a ∈ ds) (h1 : p = decide (a ∈ sh')) (h2 : ∀ z, z ≠ a -> (z ∈ sh' ↔ z ∈ sh)) : (Zch ds sh).set (ixOf ds a) (.bl p) = Zch ds sh' := by
 refine List.ext_getElem? fun i => ?_
 obtain ⟨e, hl⟩ := ZfF ha
 by_cases hi : i = ixOf ds a
 · subst hi
   rw [List.getElem?_set_self (by simpa using hl)]
   obtain ⟨q1, q2, _⟩ := List.findIdx?_eq_some_iff_getElem.mp e
   have h3 : ds[ixOf ds a] = a := by
    simp only [List.getElem_map, eqT] at q2
    simpa using q2
   simp [Zch, hl, h3, h1]
 · rw [List.getElem?_set_ne (Ne.symm hi)]
   simp only [Zch, List.getElem?_map]
   cases q : ds[i]? with
   | none => rfl
   | some z =>
    have hz : z ≠ a := fun hz => by
     obtain ⟨hil, hzi⟩ := List.getElem?_eq_some_iff.mp q
     have := Zny hn hil
     rw [hzi, hz] at this
     exact hi this.symm
    simp [h2 z hz]
theorem ZlG (ts : List T) (x : T) : ts.map D.t ++ [D.t x] = (ts ++ [x]).map D.t := by rw [List.map_append]; rfl
theorem Zo6 (zs : List Str) (x : Str) : zs.map T.str ++ [T.str x] = (zs ++ [x]).map .str := by rw [List.map_append]; rfl
theorem ZpE (rs : List (List Int)) (x : List Int) : rs.map rowD ++ [rowD x] = (rs ++ [x]).map rowD := by rw [List.map_append]; rfl
theorem ZnF (O : Ok ws ds rs sh) (n : Nat) (hq : r.due ws ds sh n = none) : ∃ d, ZbA [.t (lawS ws ds rs sh), .t (.int r.k), .t (.str r.a), .t r.bT, .t (.int r.n)] = .ret d [.t (lawS ws ds rs sh), .t (.int r.k), .t (.str r.a), .t r.bT, .t (.int r.n)] /\ frz d = lawS (r.ws ws) (r.ds ds) (r.rs ws ds rs) (r.sh sh) := by
 unfold ZbA ZdW
 have h6 := O.w6
 have h10 := O.d10
 have hlr := O.lr
 have e1 := Zo5 (ws := ws) (ds := ds) (rs := rs) (sh := sh) (by omega)
 have n1 : ws.length < 1000000 := by omega
 have n2 : ds.length < 1000000 := by omega
 have n3 : rs.length < sizeLine := Zdv (by omega)
 have n4 : ws.length < sizeLine := Zdv (by omega)
 have n5 : rs.length < 1000000 := by omega
 have r1 := Zew (rs := rs)
 have i0 : oIn (.int 0) (.tup [.int 3, .int 4]) = some false := rfl
 have i1 : oIn (.int 1) (.tup [.int 3, .int 4]) = some false := rfl
 have i2 : oIn (.int 2) (.tup [.int 3, .int 4]) = some false := rfl
 have i3 : oIn (.int 3) (.tup [.int 3, .int 4]) = some true := rfl
 have i4 : oIn (.int 4) (.tup [.int 3, .int 4]) = some true := rfl
 cases r with
 | w z =>
  simp only [Rw.k, Rw.a, Rw.n, Rw.bT, Rw.ws, Rw.ds, Rw.rs, Rw.sh]
  have e2 := Zhc rs .e (.inl rfl) (fun r hr => by rw [O.lw r hr]; omega)
  have r2 := Zew (rs := rs.map (· ++ [0]))
  refine ⟨.lst [.t (.lst ((ws ++ [z]).map .str)), .t (.lst (ds.map .str)), .t (.lst ((rs.map (· ++ [0])).map rowT)), .t (.lst (Zch ds sh))], ?_, ?_⟩
  · simp_arith [e1, n1, n3, ZlG, Zo6, r1, r2, Zcl, Za4, capE, e2, i0]
  · simp_arith []
 | d z kvs =>
  simp only [Rw.k, Rw.a, Rw.n, Rw.bT, Rw.ws, Rw.ds, Rw.rs, Rw.sh]
  have hz : z ∉ sh := fun hz => by
   have hz' := O.sub z hz
   simp only [Rw.due, dueD] at hq
   rw [if_pos hz'] at hq
   split at hq <;> cases hq
  have e2 := Zhd (kvs := kvs) ws .e (.inl rfl)
  have a5 : Zch ds sh ++ [.bl false] = Zch (ds ++ [z]) sh := by simp [Zch, hz]
  have a6 : (rs.map rowD) ++ [.lst (((ZeP kvs ws).map T.int).map D.t)] = (rs ++ [ZeP kvs ws]).map rowD := ZpE rs _
  have r3 := Zew (rs := rs ++ [ZeP kvs ws])
  refine ⟨.lst [.t (.lst (ws.map .str)), .t (.lst ((ds ++ [z]).map .str)), .t (.lst ((rs ++ [ZeP kvs ws]).map rowT)), .t (.lst (Zch (ds ++ [z]) sh))], ?_, ?_⟩
  · simp_arith [e1, n2, n4, n5, ZlG, Zo6, a5, a6, r3, Zcl, Za4, capE, e2, i1]
  · simp_arith []
 | c z y v =>
  simp only [Rw.k, Rw.a, Rw.n, Rw.bT, Rw.ws, Rw.ds, Rw.rs, Rw.sh]
  have hz : z ∈ ds /\ y ∈ ws := by
   simp only [Rw.due, dueC] at hq
   by_cases h1 : z ∈ ds
   · by_cases h2 : y ∈ ws
     · exact ⟨h1, h2⟩
     · simp [h1, h2] at hq
   · simp [h1] at hq
  have r3 := Zew (rs := Ze8 rs (ixOf ds z) (ixOf ws y) v)
  have set2 : Zig 7 (eVar 4) (pIdx (bVar 6) (pB (bVar 2))) (pIdx (bVar 5) (pB (bVar 3))) [.v (.t (lawS ws ds rs sh)), .v (.t (.int 2)), .v (.t (.str z)), .v (.t (.str y)), .v (.t (.int v)), .v (.lst ((ws.map T.str).map D.t)), .v (.lst ((ds.map T.str).map D.t)), .v (.lst (rs.map rowD)), .v (.lst ((Zch ds sh).map .t))] =
   .next [.v (.t (lawS ws ds rs sh)), .v (.t (.int 2)), .v (.t (.str z)), .v (.t (.str y)), .v (.t (.int v)), .v (.lst ((ws.map T.str).map D.t)), .v (.lst ((ds.map T.str).map D.t)), .v (.lst ((Ze8 rs (ixOf ds z) (ixOf ws y) v).map rowD)), .v (.lst ((Zch ds sh).map .t))] :=
   Zmk (n := ws.length) (hlr ▸ (ZfF hz.1).2) O.lw (ZfF hz.2).2 (by simp_arith []) rfl (ZgI (d := .lst ((ds.map T.str).map D.t)) rfl Zex rfl hz.1) (ZgI (d := .lst ((ws.map T.str).map D.t)) rfl Zex rfl hz.2) rfl
  refine ⟨.lst [.t (.lst (ws.map .str)), .t (.lst (ds.map .str)), .t (.lst ((Ze8 rs (ixOf ds z) (ixOf ws y) v).map rowT)), .t (.lst (Zch ds sh))], ?_, ?_⟩
  · simp_arith [e1, set2, r3, i2]
  · simp_arith []
 | f a =>
  simp only [Rw.k, Rw.a, Rw.n, Rw.bT, Rw.ws, Rw.ds, Rw.rs, Rw.sh]
  have hz : a ∈ ds := by
   simp only [Rw.due, dueF] at hq
   by_cases h1 : a ∈ ds
   · exact h1
   · simp [h1] at hq
  have hs := Zi2 (p := true) (sh := sh) (sh' := sh ++ [a]) O.nd hz (by simp) (fun z hz => by simp [hz])
  have ix : pIdx (bVar 6) (pB (bVar 2)) [.v (.t (lawS ws ds rs sh)), .v (.t (.int 3)), .v (.t (.str a)), .v (.t (.int 0)), .v (.t (.int 0)), .v (.lst ((ws.map T.str).map D.t)), .v (.lst ((ds.map T.str).map D.t)), .v (.lst (rs.map rowD)), .v (.lst ((Zch ds sh).map .t))] = some (.int (ixOf ds a)) := ZgI (d := .lst ((ds.map T.str).map D.t)) rfl Zex rfl hz
  have hx : ixN ds.length (ixOf ds a : Int) = some (ixOf ds a) := by
   unfold ixN
   have := (ZfF hz).2
   rw [if_pos (by omega), if_pos (by omega)]
   rfl
  have hs' : ((Zch ds sh).map D.t).set (ixOf ds a) (.t (.bl true)) = (Zch ds (sh ++ [a])).map D.t := by rw [<- hs, List.map_set]
  refine ⟨.lst [.t (.lst (ws.map .str)), .t (.lst (ds.map .str)), .t (.lst (rs.map rowT)), .t (.lst (Zch ds (sh ++ [a])))], ?_, ?_⟩
  · simp_arith [e1, r1, i3, ix, hx, hs']
  · simp_arith []
 | l a =>
  simp only [Rw.k, Rw.a, Rw.n, Rw.bT, Rw.ws, Rw.ds, Rw.rs, Rw.sh]
  have hz : a ∈ ds := by
   simp only [Rw.due, dueL] at hq
   by_cases h1 : a ∈ ds
   · exact h1
   · simp [h1] at hq
  have hs := Zi2 (p := false) (sh := sh) (sh' := Zel sh a) O.nd hz (by simp [Zel]) (fun z hz => by simp [Zel, hz])
  have ix : pIdx (bVar 6) (pB (bVar 2)) [.v (.t (lawS ws ds rs sh)), .v (.t (.int 4)), .v (.t (.str a)), .v (.t (.int 0)), .v (.t (.int 0)), .v (.lst ((ws.map T.str).map D.t)), .v (.lst ((ds.map T.str).map D.t)), .v (.lst (rs.map rowD)), .v (.lst ((Zch ds sh).map .t))] = some (.int (ixOf ds a)) := ZgI (d := .lst ((ds.map T.str).map D.t)) rfl Zex rfl hz
  have hx : ixN ds.length (ixOf ds a : Int) = some (ixOf ds a) := by
   unfold ixN
   have := (ZfF hz).2
   rw [if_pos (by omega), if_pos (by omega)]
   rfl
  have hs' : ((Zch ds sh).map D.t).set (ixOf ds a) (.t (.bl false)) = (Zch ds (Zel sh a)).map D.t := by rw [<- hs, List.map_set]
  refine ⟨.lst [.t (.lst (ws.map .str)), .t (.lst (ds.map .str)), .t (.lst (rs.map rowT)), .t (.lst (Zch ds (Zel sh a)))], ?_, ?_⟩
  · simp_arith [e1, r1, i4, ix, hx, hs']
  · simp_arith []
end
theorem Zi3 {ts : List T} {i : Nat} (h : i <= ts.length) : cutT ts none (some (i : Int)) = ts.take i := by
 unfold cutT
 rw [HT.sIx_none, HT.sIx_nat, List.drop_zero, Nat.sub_zero, Nat.min_eq_left h]
theorem ZlH {ts : List T} {x : T} : cutT (ts ++ [x]) none (some (-1)) = ts := by
 have h : HT.sIx (ts ++ [x]).length (ts ++ [x]).length (some (-1)) = ts.length := by
  have := HT.clip_eq (-1) (ts ++ [x]).length (ts ++ [x]).length
  rw [if_pos (by decide)] at this
  rw [List.length_append, List.length_singleton] at this ⊢
  omega
 unfold cutT
 rw [HT.sIx_none, h, List.drop_zero, Nat.sub_zero, List.take_left]
theorem Zo7 {a b : Int} (h0 : 0 <= b) (h1 : b < 1000000) : Zdl [.t (.int a), .t (.int b)] = if b < a then .exc "NotDone" [.t (.int a), .t (.int b)] else .ret (.t .non) [.t (.int a), .t (.int b)] := by
 unfold Zdl Zdk
 by_cases h : b < a
 · simp_arith [h, h0, h1]
 · simp_arith [h]
theorem Zit {ts : List T} : Zim (.lst (ts.map D.t)) = some ts := by
 show (if _ then _ else _) = _
 rw [if_pos (by simp [tOf]), Zil]
theorem r_tb {ss : List T} {b : Nat} (hs : ss.length <= 1000) (h0 : 0 < ss.length) : Za0 [off ss, .t (.int b)] = if ss.length <= b then .exc "NotDone" [off ss, .t (.int b)] else .ret (.t (.int ((ss.length - b : Nat) - 1))) [off (ss.take (ss.length - b)), .t (.int b)] := by
 unfold Za0 Zbw
 have e1 := ZcV (ss := ss)
 have e2 := Zo7 (a := b) (b := (ss.length : Int) - 1) (by omega) (by omega)
 by_cases h : ss.length <= b
 · rw [if_pos (by omega)] at e2
   rw [if_pos h]
   simp_arith [e1, e2]
 · rw [if_neg (by omega)] at e2
   rw [if_neg h]
   have e3 := ZcV (ss := ss.take (ss.length - b))
   have e4 := Zi3 (ts := ss) (i := ss.length - b) (by omega)
   rw [show (((ss.length - b : Nat) : Int)) = (ss.length : Int) - b by omega] at e4
   have e5 : (ss.take (ss.length - b)).length = ss.length - b := by rw [List.length_take]; omega
   rw [e5] at e3
   have e6 := Zit (ts := ss)
   generalize ss.take (ss.length - b) = s' at *
   simp_arith [e1, e2, Zgp, e4, e3, e6]
theorem ZnG {ss : List T} {b : Nat} (hs : ss.length <= 1000) (h0 : 0 < ss.length) : ZbY [off ss, .t (.int 5), .t (.int b), .t (.int 0), .t (.int 0)] = if ss.length <= b then .exc "NotDone" [off ss, .t (.int 5), .t (.int b), .t (.int 0), .t (.int 0)] else .ret (.t (.int ((ss.length - b : Nat) - 1))) [off (ss.take (ss.length - b)), .t (.int 5), .t (.int b), .t (.int 0), .t (.int 0)] := by
 unfold ZbY ZdD
 have e := r_tb (b := b) hs h0
 by_cases h : ss.length <= b
 · rw [if_pos h] at e ⊢
   simp_arith [e]
 · rw [if_neg h] at e ⊢
   simp_arith [e]
theorem ZpF {ss : List T} {b : Nat} (hs : ss.length <= 1000) (h0 : 0 < ss.length) : ZbK [off ss, .t (.int 5), .t (.int b), .t (.int 0), .t (.int 0)] = if ss.length <= b then .ret (.t (refT "NotDone")) [off ss, .t (.int 5), .t (.int b), .t (.int 0), .t (.int 0)] else .ret (.t (.tup [.str "told", .int ((ss.length - b : Nat) - 1)])) [off (ss.take (ss.length - b)), .t (.int 5), .t (.int b), .t (.int 0), .t (.int 0)] := by
 have e := ZnG (b := b) hs h0
 by_cases h : ss.length <= b
 · rw [if_pos h] at e ⊢
   exact Zmm (by decide) ⟨_, rfl⟩ e
 · rw [if_neg h] at e ⊢
   exact Zmn e
structure Q where
 ws : List Str
 ds : List Str
 rs : List (List Int)
 sh : List Str
def Q.st (q : Q) : T := stT q.ws q.ds q.rs q.sh
def Q.lw (q : Q) : T := lawS q.ws q.ds q.rs q.sh
def Q.go (q : Q) (r : Rw) : Q := ⟨r.ws q.ws, r.ds q.ds, r.rs q.ws q.ds q.rs, r.sh q.sh⟩
def Q.due (q : Q) (n : Nat) (r : Rw) : Option Str := r.due q.ws q.ds q.sh n
structure Good (q : Q) : Prop where
 ok : Ok q.ws q.ds q.rs q.sh
 hw : ∀ z ∈ q.ws, W z
 hd : ∀ z ∈ q.ds, W z
 ns : q.sh.length <= 1000
theorem q_do {q : Q} {r : Rw} {ss : List T} (hr : r.ok) (G : Good q) (hs : ss.length <= 1000) : ZbK [off (ss ++ [q.st]), .t (.int r.k), .t (.str r.a), .t r.bT, .t (.int r.n)] =
 match q.due ss.length r with
 | some c => .ret (.t (refT c)) [off (ss ++ [q.st]), .t (.int r.k), .t (.str r.a), .t r.bT, .t (.int r.n)]
 | none => .ret (.t (.tup [.str "told", .int (ss.length + 1)])) [off (ss ++ [q.st] ++ [(q.go r).st]), .t (.int r.k), .t (.str r.a), .t r.bT, .t (.int r.n)] := by
 have e := Zo4 (ss := ss) hr G.ok G.ns hs
 show _ = match r.due q.ws q.ds q.sh ss.length with | some c => _ | none => _
 cases p : r.due q.ws q.ds q.sh ss.length with
 | some c =>
  rw [p] at e
  exact Zmm (ZkN p) ⟨_, rfl⟩ e
 | none =>
  rw [p] at e
  exact Zmn e
theorem ZkO {q : Q} {r : Rw} {n : Nat} (G : Good q) (hq : q.due n r = none) : ∃ d, ZbA [.t q.lw, .t (.int r.k), .t (.str r.a), .t r.bT, .t (.int r.n)] = .ret d [.t q.lw, .t (.int r.k), .t (.str r.a), .t r.bT, .t (.int r.n)] /\ frz d = (q.go r).lw := ZnF G.ok n hq
theorem q_so {q : Q} {ss : List T} (G : Good q) : Za8 [off (ss ++ [q.st]), .t q.lw, .t (.int ss.length)] = .ret (.t (.bl true)) [off (ss ++ [q.st]), .t q.lw, .t (.int ss.length)] := r_so G.ok G.hw G.hd
theorem ZkP : ∀ {xs ys : List Str}, xs.Nodup -> (∀ x ∈ xs, x ∈ ys) -> xs.length <= ys.length
 | [], _, _, _ => Nat.zero_le _
 | x :: xs, ys, hn, h => by
  have hx := h x (.head _)
  rw [List.nodup_cons] at hn
  have := ZkP (xs := xs) (ys := ys.erase x) hn.2 fun z hz => (List.mem_erase_of_ne (fun e => by subst e; exact hn.1 hz)).mpr (h z (.tail _ hz))
  rw [List.length_erase_of_mem hx] at this
  have hp : 0 < ys.length := List.length_pos_of_mem hx
  simp only [List.length_cons]
  omega
theorem Zo8 {z y : Str} {v : Int} {ws ds sh : List Str} {n : Nat} (q : dueC z y v ws ds sh n = none) : z ∈ ds /\ y ∈ ws /\ z ∉ sh /\ big v = false /\ n < 200 := by
 simp only [dueC] at q
 by_cases h1 : z ∈ ds <;> by_cases h2 : y ∈ ws <;> by_cases h3 : z ∈ sh <;> by_cases h4 : big v = true <;> by_cases h5 : 200 <= n <;> simp [h1, h2, h3, h4, h5] at q
 exact ⟨h1, h2, h3, by simpa using h4, by omega⟩
theorem Zo9 {z : Str} {ds sh : List Str} {n : Nat} (q : dueF z ds sh n = none) : z ∈ ds /\ z ∉ sh /\ n < 200 := by
 simp only [dueF] at q
 by_cases h1 : z ∈ ds <;> by_cases h3 : z ∈ sh <;> by_cases h5 : 200 <= n <;> simp [h1, h3, h5] at q
 exact ⟨h1, h3, by omega⟩
theorem ZpG {z : Str} {ds sh : List Str} {n : Nat} (q : dueL z ds sh n = none) : z ∈ ds /\ z ∈ sh /\ n < 200 := by
 simp only [dueL] at q
 by_cases h1 : z ∈ ds <;> by_cases h3 : z ∈ sh <;> by_cases h5 : 200 <= n <;> simp [h1, h3, h5] at q
 exact ⟨h1, h3, by omega⟩
theorem ZnH {z : Str} {ws : List Str} {n : Nat} (q : dueW z ws n = none) : z ∉ ws /\ ws.length < 6 /\ n < 200 := by
 simp only [dueW] at q
 by_cases h1 : Zfq z = false <;> by_cases h2 : z ∈ ws <;> by_cases h3 : 6 <= ws.length <;> by_cases h5 : 200 <= n <;> simp [h1, h2, h3, h5] at q
 exact ⟨h2, by omega, by omega⟩
theorem ZnI {z : Str} {kvs : List (Str × Int)} {ws ds : List Str} {n : Nat} (q : dueD z kvs ws ds n = none) : z ∉ ds /\ ds.length < 10 /\ n < 200 := by
 simp only [dueD] at q
 by_cases h1 : Zfq z = false <;> by_cases h2 : z ∈ ds <;> by_cases h3 : 10 <= ds.length <;> by_cases h4 : ZhQ (kvs.map Prod.fst) ws = false <;> by_cases h6 : Zdp (kvs.map Prod.snd) = false <;> by_cases h5 : 200 <= n <;> simp [h1, h2, h3, h4, h5, h6] at q
 exact ⟨h2, by omega, by omega⟩
theorem ZpH {ws ds sh : List Str} {n : Nat} {r : Rw} (q : r.due ws ds sh n = none) : n < 200 := by
 cases r with
 | w z => exact (ZnH q).2.2
 | d z kvs => exact (ZnI q).2.2
 | c z y v => exact (Zo8 q).2.2.2.2
 | f z => exact (Zo9 q).2.2
 | l z => exact (ZpG q).2.2
structure Nice (q : Q) : Prop where
 ok : Ok q.ws q.ds q.rs q.sh
 hw : ∀ z ∈ q.ws, W z
 hd : ∀ z ∈ q.ds, W z
 ns : q.sh.Nodup
theorem Nice.good {q : Q} (N : Nice q) : Good q := ⟨N.ok, N.hw, N.hd, by
 have := ZkP N.ns N.ok.sub
 have := N.ok.d10
 omega⟩
theorem ZkQ {zs : List Str} {z : Str} (h : zs.Nodup) (hz : z ∉ zs) : (zs ++ [z]).Nodup := by
 rw [List.nodup_append]
 exact ⟨h, by simp, fun a ha b hb e => by simp at hb; subst hb; subst e; exact hz ha⟩
theorem Nice.next {q : Q} {r : Rw} {n : Nat} (N : Nice q) (hr : r.ok) (h : q.due n r = none) : Nice (q.go r) := by
 have O := N.ok
 cases r with
 | w z =>
  have e := ZnH h
  refine ⟨⟨by simpa [Q.go, Rw.rs, Rw.ds] using O.lr, fun r hr => ?_, ZkQ O.nw e.1, O.nd, by have := e.2.1; simp [Q.go, Rw.ws]; omega, O.d10, O.sub⟩, fun x hx => ?_, N.hd, N.ns⟩
  · obtain ⟨x, hx, rfl⟩ := List.mem_map.mp (show r ∈ q.rs.map (· ++ [0]) from hr)
    simp [Q.go, Rw.ws, O.lw x hx]
  · rcases List.mem_append.mp (show x ∈ q.ws ++ [z] from hx) with y | y
    · exact N.hw x y
    · simp at y; subst y; exact hr
 | d z kvs =>
  have e := ZnI h
  refine ⟨⟨by simpa [Q.go, Rw.rs, Rw.ds] using O.lr, fun r hr => ?_, O.nw, ZkQ O.nd e.1, O.w6, by have := e.2.1; simp [Q.go, Rw.ds]; omega, fun x hx => List.mem_append_left _ (O.sub x hx)⟩, N.hw, fun x hx => ?_, N.ns⟩
  · rcases List.mem_append.mp (show r ∈ q.rs ++ [ZeP kvs q.ws] from hr) with h | h
    · exact O.lw r h
    · simp at h
      subst h
      simp [ZeP, Q.go, Rw.ws]
  · rcases List.mem_append.mp (show x ∈ q.ds ++ [z] from hx) with y | y
    · exact N.hd x y
    · simp at y; subst y; exact hr.1
 | c z y v =>
  have e := Zo8 h
  refine ⟨⟨by simpa [Q.go, Rw.rs, Rw.ds, Ze8] using O.lr, fun r hr => ?_, O.nw, O.nd, O.w6, O.d10, O.sub⟩, N.hw, N.hd, N.ns⟩
  rcases List.mem_or_eq_of_mem_set (show r ∈ q.rs.set _ _ from hr) with h | h
  · exact O.lw r h
  · subst h
    rw [List.length_set]
    have hlt : ixOf q.ds z < q.rs.length := by rw [O.lr]; exact (ZfF e.1).2
    rw [show q.rs.getD (ixOf q.ds z) [] = q.rs[ixOf q.ds z] by simp [hlt]]
    exact O.lw _ (List.getElem_mem hlt)
 | f z =>
  have e := Zo9 h
  refine ⟨⟨O.lr, O.lw, O.nw, O.nd, O.w6, O.d10, fun x hx => ?_⟩, N.hw, N.hd, ZkQ N.ns e.2.1⟩
  rcases List.mem_append.mp (show x ∈ q.sh ++ [z] from hx) with y | y
  · exact O.sub x y
  · simp at y; subst y; exact e.1
 | l z =>
  exact ⟨⟨O.lr, O.lw, O.nw, O.nd, O.w6, O.d10, fun x hx => O.sub x (List.mem_filter.mp hx).1⟩, N.hw, N.hd, List.Nodup.sublist List.filter_sublist N.ns⟩
def dueI (o : Option Str) : Int := match o with | some c => numX c | none => -1
theorem ZlI {o : Option Str} : dueI o < 0 ↔ o = none := by
 cases o with
 | none => simp [dueI]
 | some c =>
  have hp : (0 : Int) <= numX c := by
   unfold numX
   repeat' split
   all_goals decide
  simp only [dueI, reduceCtorEq, iff_false]
  omega
theorem Ziu {ds sh : List Str} {a : Str} (ha : a ∈ ds) : oIx (.lst (Zch ds sh)) (.int (ixOf ds a)) = some (.t (.bl (decide (a ∈ sh)))) := by
 obtain ⟨q0, hl⟩ := ZfF ha
 obtain ⟨q1, q2, _⟩ := List.findIdx?_eq_some_iff_getElem.mp q0
 have h3 : ds[ixOf ds a] = a := by
  simp only [List.getElem_map, eqT] at q2
  simpa using q2
 rw [ZhF, DL.atI_nat]
 simp [Zch, hl, h3]
theorem g_o : Zfq "other" = true := by decide +kernel
theorem g_w : Zfq "ware" = true := by decide +kernel
theorem g_d : Zfq "deed" = true := by decide +kernel
theorem w_o : W "other" := ⟨by decide +kernel, by decide +kernel, by decide +kernel⟩
theorem w_w : W "ware" := ⟨by decide +kernel, by decide +kernel, by decide +kernel⟩
theorem w_d : W "deed" := ⟨by decide +kernel, by decide +kernel, by decide +kernel⟩
structure In3 (q : Q) : Prop where
 n : Nice q
 ws : q.ws = [] \/ q.ws = [("ware" : Str)] \/ q.ws = [("other" : Str)] \/ q.ws = [("ware" : Str), "other"]
 ds : q.ds = [] \/ q.ds = [("deed" : Str)] \/ q.ds = [("other" : Str)] \/ q.ds = [("deed" : Str), "other"]
 im : ("deed" : Str) ∈ q.ds -> ("ware" : Str) ∈ q.ws
def more5 : List Rw := [.w "other", .d "other" [], .f "deed", .l "deed", .c "deed" "ware" 10]
theorem ZkR {r : Rw} (h : r ∈ more5) : r.ok := by
 simp only [more5, List.mem_cons, List.not_mem_nil, or_false] at h
 rcases h with rfl | rfl | rfl | rfl | rfl
 · exact w_o
 · exact ⟨w_o, fun _ h => by cases h⟩
 · exact w_d
 · exact w_d
 · exact ⟨w_d, w_w⟩
theorem In3.next {q : Q} {r : Rw} {n : Nat} (I : In3 q) (h : r ∈ more5) (e : q.due n r = none) : In3 (q.go r) := by
 have N := I.n.next (ZkR h) e
 simp only [more5, List.mem_cons, List.not_mem_nil, or_false] at h
 rcases h with rfl | rfl | rfl | rfl | rfl
 · have z := (ZnH e).1
   refine ⟨N, ?_, I.ds, fun h => List.mem_append_left _ (I.im h)⟩
   show q.ws ++ [("other" : Str)] = [] \/ q.ws ++ [("other" : Str)] = [("ware" : Str)] \/ q.ws ++ [("other" : Str)] = [("other" : Str)] \/ q.ws ++ [("other" : Str)] = [("ware" : Str), "other"]
   rcases I.ws with w | w | w | w <;> rw [w] at z ⊢ <;> simp at z ⊢
 · have z := (ZnI e).1
   refine ⟨N, I.ws, ?_, fun h => ?_⟩
   · show q.ds ++ [("other" : Str)] = [] \/ q.ds ++ [("other" : Str)] = [("deed" : Str)] \/ q.ds ++ [("other" : Str)] = [("other" : Str)] \/ q.ds ++ [("other" : Str)] = [("deed" : Str), "other"]
     rcases I.ds with w | w | w | w <;> rw [w] at z ⊢ <;> simp at z ⊢
   · rcases List.mem_append.mp (show ("deed" : Str) ∈ q.ds ++ [("other" : Str)] from h) with y | y
     · exact I.im y
     · exact absurd (List.mem_singleton.mp y) (by decide +kernel)
 · exact ⟨N, I.ws, I.ds, I.im⟩
 · exact ⟨N, I.ws, I.ds, I.im⟩
 · exact ⟨N, I.ws, I.ds, I.im⟩
theorem nx1 : numX "Taken" = 1 := by decide +kernel
theorem nx2 : numX "NoDeed" = 2 := by decide +kernel
theorem nx4 : numX "Forbidden" = 4 := by decide +kernel
theorem nx5 : numX "NotForbidden" = 5 := by decide +kernel
theorem nx6 : numX "BadNumber" = 6 := by decide +kernel
theorem nx8 : numX "NotDone" = 8 := by decide +kernel
theorem nx9 : numX "NoRoom" = 9 := by decide +kernel
theorem ZpI {q : Q} {r : Rw} {n : Nat} (I : In3 q) (h : r ∈ more5) : Zei [.t q.lw, .t (.int n), .t (.int r.k), .t (.str r.a)] = .ret (.t (.int (dueI (q.due n r)))) [.t q.lw, .t (.int n), .t (.int r.k), .t (.str r.a)] := by
 simp only [more5, List.mem_cons, List.not_mem_nil, or_false] at h
 have lw : q.ws.length <= 2 := by rcases I.ws with w | w | w | w <;> rw [w] <;> decide
 have ld : q.ds.length <= 2 := by rcases I.ds with w | w | w | w <;> rw [w] <;> decide
 have im := I.im
 have e0 : ∀ x y : T, oIx (.lst [x, y]) (.int 0) = some (.t x) := fun x y => rfl
 have e1 : ∀ x y : T, oIx (.lst [x, y]) (.int 1) = some (.t y) := fun x y => rfl
 have i0 : oIn (.int 0) (.tup [.int 2, .int 3]) = some false := rfl
 have i1 : oIn (.int 1) (.tup [.int 2, .int 3]) = some false := rfl
 have i2 : oIn (.int 2) (.tup [.int 2, .int 3]) = some true := rfl
 have i3 : oIn (.int 3) (.tup [.int 2, .int 3]) = some true := rfl
 have i4 : oIn (.int 4) (.tup [.int 2, .int 3]) = some false := rfl
 obtain ⟨ws, ds, rs, sh⟩ := q
 simp only [Q.lw, Q.due] at *
 have hn : (199 : Int) < n ↔ 200 <= n := by omega
 unfold Zei Ze5 lawS
 rcases h with rfl | rfl | rfl | rfl | rfl
 · simp only [Rw.k, Rw.a, Rw.due, dueW, g_o]
   by_cases h1 : ("other" : Str) ∈ ws <;> by_cases h2 : 200 <= n <;> (have h2i := h2; rw [<- hn] at h2i; simp_arith [e0, i0, h1, h2, h2i, dueI, nx1, nx9, show ¬ 6 <= ws.length by omega])
 · simp only [Rw.k, Rw.a, Rw.due, dueD, g_o]
   by_cases h1 : ("other" : Str) ∈ ds <;> by_cases h2 : 200 <= n <;> (have h2i := h2; rw [<- hn] at h2i; simp_arith [e1, i1, h1, h2, h2i, dueI, nx1, nx9, ZhQ, Zdp, show ¬ 10 <= ds.length by omega])
 · simp only [Rw.k, Rw.a, Rw.due, dueF]
   by_cases h1 : ("deed" : Str) ∈ ds
   · have ix := ZhP h1
     have sx := Ziu (sh := sh) h1
     by_cases h3 : ("deed" : Str) ∈ sh <;> by_cases h2 : 200 <= n <;> (have h2i := h2; rw [<- hn] at h2i; simp only [h3] at sx; simp_arith [i3, ix, sx, h1, h2, h2i, h3, dueI, nx4, nx9])
   · simp_arith [h1, dueI, nx2]
 · simp only [Rw.k, Rw.a, Rw.due, dueL]
   by_cases h1 : ("deed" : Str) ∈ ds
   · have ix := ZhP h1
     have sx := Ziu (sh := sh) h1
     by_cases h3 : ("deed" : Str) ∈ sh <;> by_cases h2 : 200 <= n <;> (have h2i := h2; rw [<- hn] at h2i; simp only [h3] at sx; simp_arith [i4, ix, sx, h1, h2, h2i, h3, dueI, nx5, nx9])
   · simp_arith [h1, dueI, nx2]
 · simp only [Rw.k, Rw.a, Rw.due, dueC, show big 10 = true from rfl]
   by_cases h1 : ("deed" : Str) ∈ ds
   · have ix := ZhP h1
     have sx := Ziu (sh := sh) h1
     have hw := im h1
     by_cases h3 : ("deed" : Str) ∈ sh <;> (simp only [h3] at sx; simp_arith [i2, ix, sx, h1, hw, h3, dueI, nx4, nx6])
   · simp_arith [h1, dueI, nx2]
theorem ZgJ {d : D} : seen (.x d) = .v (.t (frz d)) := rfl
theorem Zi4 {ps : List T} {x : T} : atI ((ps ++ [x]).map D.t) (-1) = some (.t x) := by rw [List.map_append]; exact ZiV
structure Hist (qs : List Q) : Prop where
 ne : qs ≠ []
 all : ∀ p ∈ qs, In3 p
 len : qs.length <= 201
theorem Hist.split {qs : List Q} (h : Hist qs) : ∃ pre q, qs = pre ++ [q] /\ In3 q := by
 have e := List.dropLast_concat_getLast h.ne
 exact ⟨qs.dropLast, qs.getLast h.ne, e.symm, h.all _ (List.getLast_mem h.ne)⟩
theorem Hist.add {pre : List Q} {q q' : Q} (h : Hist (pre ++ [q])) (h' : In3 q') (hl : pre.length < 200) : Hist (pre ++ [q] ++ [q']) := by
 refine ⟨by simp, fun p hp => ?_, by simp; omega⟩
 rcases List.mem_append.mp hp with y | y
 · exact h.all p y
 · simp at y; subst y; exact h'
abbrev offQ (qs : List Q) : D := off (qs.map Q.st)
abbrev ZbD (qs : List Q) : D := .lst ((qs.map Q.lw).map D.t)
def rowR (r : Rw) : T := .lst [.int r.k, .str r.a, r.bT, .int r.n]
abbrev ZdG (qs : List Q) (x3 x4 x5 x6 x7 x8 : Sl) : Env' := [.x (offQ qs), .x (ZbD qs), .v (.t (.lst (more5.map rowR))), x3, x4, x5, x6, x7, x8]
abbrev m1 : SS := sAsg (ZaB 4 Zei [none, none, none, none] (Zad (eFrz (eP (pIx (bVar 1) (pNeg (pC (.int 1)))))) (Zad (eFrz (e2 oSub (Zbg (e1 oLen (eVar 1))) (eC (.int 1)))) (Zad (eVar 3) (Zad (eVar 4) aNil))))) (Zaq 7)
abbrev m2 : SS := sAsg (ZaB 5 ZbK [some 0, none, none, none, none] (aIo 0 (Zad (eVar 3) (Zad (eVar 4) (Zad (eVar 5) (Zad (eVar 6) aNil)))))) (Zaq 8)
abbrev m3 : SS := (sIf (sT (eB oGe (eVar 7) (eC (.int 0)))) (sIf (sNot (sT (ZaB 2 Za5 [none, none] (Zad (eVar 8) (Zad (eVar 7) aNil))))) (sRet (eC (.bl false))) ZaH) (sSeq (sApp 1 (eFrz (ZaB 5 ZbA [none, none, none, none, none] (Zad (eFrz (eP (pIx (bVar 1) (pNeg (pC (.int 1)))))) (Zad (eVar 3) (Zad (eVar 4) (Zad (eVar 5) (Zad (eVar 6) aNil))))))))
 (sIf (sNot (sT (ZaB 2 (Zax 4) [none, none] (Zad (eVar 8) (Zad (eFrz (eTup (Zad (eC (.str "told")) (Zad (e2 oSub (Zbg (e1 oLen (eVar 1))) (eC (.int 1))) aNil)))) aNil))))) (sRet (eC (.bl false))) ZaH)))
abbrev ZlJ : SS := sSeq m1 (sSeq m2 m3)
theorem ZbT {σ : Env'} {i : Nat} {ps : List T} (h : (σ.map seen)[i]? = some (.v (.t (.lst ps)))) : Zbg (e1 oLen (eVar i)) σ = .ok (.t (.int ps.length)) σ := by
 unfold Zbg
 have e : e1 oLen (eVar i) (σ.map seen) = .ok (.t (.int ps.length)) ((σ.map seen).set i (.v (.t (.lst ps)))) := by
  unfold e1 eVar
  simp only [h]
  simp [Out.bnd, ZiT, ZdC]
 rw [e]
 rfl
theorem Zgk (n : Int) : Zax 4 [.t (.tup [.str "told", .int n]), .t (.tup [.str "told", .int n])] = .ret (.t (.bl true)) [.t (.tup [.str "told", .int n]), .t (.tup [.str "told", .int n])] := ZdF 3 _ rfl
theorem ZkS {qs : List Q} {r : Rw} {x7 x8 : Sl} (H : Hist qs) (hr : r ∈ more5) (h7 : okX x7) (h8 : okX x8) : ∃ qs' x7' x8', Hist qs' /\ okX x7' /\ okX x8' /\
 ZlJ (ZdG qs (.v (.t (.int r.k))) (.v (.t (.str r.a))) (.v (.t r.bT)) (.v (.t (.int r.n))) x7 x8) = .next (ZdG qs' (.v (.t (.int r.k))) (.v (.t (.str r.a))) (.v (.t r.bT)) (.v (.t (.int r.n))) x7' x8') := by
 obtain ⟨pre, q, rfl, I⟩ := H.split
 have hl := H.len
 simp only [List.length_append, List.length_singleton] at hl
 have ed := ZpI (n := pre.length) I hr
 have eo := q_do (ss := pre.map Q.st) (ZkR hr) I.n.good (by simp; omega)
 simp only [List.length_map] at eo
 have as : (pre ++ [q]).map Q.st = pre.map Q.st ++ [q.st] := by simp
 have al : (pre ++ [q]).map Q.lw = pre.map Q.lw ++ [q.lw] := by simp
 have lt := Zi4 (ps := pre.map Q.lw) (x := q.lw)
 have n1 : ((pre.map Q.lw ++ [q.lw]).length : Int) - 1 = pre.length := by simp
 generalize hk : (.t (.int r.k) : D) = dk at *
 generalize ha : (.t (.str r.a) : D) = da at *
 generalize hb : (.t r.bT : D) = db at *
 generalize hn : (.t (.int r.n) : D) = dn at *
 have E1 : m1 (ZdG (pre ++ [q]) (.v dk) (.v da) (.v db) (.v dn) x7 x8) = .next (ZdG (pre ++ [q]) (.v dk) (.v da) (.v db) (.v dn) (.v (.t (.int (dueI (q.due pre.length r))))) x8) := by
  unfold m1 ZdG offQ ZbD
  rw [as, al]
  subst hk ha hb hn
  have lk := ZbT (σ := [.x (off (pre.map Q.st ++ [q.st])), .x (.lst ((pre.map Q.lw ++ [q.lw]).map D.t)), .v (.t (.lst (more5.map rowR))), .v (.t (.int r.k)), .v (.t (.str r.a)), .v (.t r.bT), .v (.t (.int r.n)), x7, x8]) (i := 1) (ps := pre.map Q.lw ++ [q.lw]) (by show some (seen (.x _)) = _; rw [ZgJ, Zdf])
  generalize Zbg (DL.e1 oLen (eVar 1)) = L at lk ⊢
  rcases h7 with rfl | ⟨d, rfl⟩ <;> simp_arith [lt, lk, n1, ed]
 cases p : q.due pre.length r with
 | some c =>
  rw [p] at eo E1
  refine ⟨pre ++ [q], .v (.t (.int (numX c))), .v (.t (refT c)), H, .inr ⟨_, rfl⟩, .inr ⟨_, rfl⟩, ?_⟩
  rw [ZlJ, Zcj E1]
  have e2 : m2 (ZdG (pre ++ [q]) (.v dk) (.v da) (.v db) (.v dn) (.v (.t (.int (dueI (some c))))) x8) = .next (ZdG (pre ++ [q]) (.v dk) (.v da) (.v db) (.v dn) (.v (.t (.int (numX c)))) (.v (.t (refT c)))) := by
   unfold m2 ZdG offQ ZbD
   rw [as, al]
   subst hk ha hb hn
   rcases h8 with rfl | ⟨d, rfl⟩ <;> simp_arith [eo, dueI]
  rw [Zcj e2]
  have er := Zgj (ZkN p)
  have hp : (0 : Int) <= numX c := by
   have := (not_congr ZlI).mpr (show ¬ (some c : Option Str) = none by simp)
   simp only [dueI] at this
   omega
  unfold m3 ZdG
  simp_arith [hp, er]
 | none =>
  rw [p] at eo E1
  have hn2 := ZpH p
  obtain ⟨d, ea, hd⟩ := ZkO I.n.good p
  refine ⟨pre ++ [q] ++ [q.go r], .v (.t (.int (-1))), .v (.t (.tup [.str "told", .int (pre.length + 1)])), H.add (I.next hr p) hn2, .inr ⟨_, rfl⟩, .inr ⟨_, rfl⟩, ?_⟩
  rw [ZlJ, Zcj E1]
  have as2 : (pre ++ [q] ++ [q.go r]).map Q.st = pre.map Q.st ++ [q.st] ++ [(q.go r).st] := by simp
  have al2 : (pre ++ [q] ++ [q.go r]).map Q.lw = pre.map Q.lw ++ [q.lw] ++ [(q.go r).lw] := by simp
  have e2 : m2 (ZdG (pre ++ [q]) (.v dk) (.v da) (.v db) (.v dn) (.v (.t (.int (dueI none)))) x8) = .next [.x (off (pre.map Q.st ++ [q.st] ++ [(q.go r).st])), .x (.lst ((pre.map Q.lw ++ [q.lw]).map D.t)), .v (.t (.lst (more5.map rowR))), .v dk, .v da, .v db, .v dn, .v (.t (.int (-1))), .v (.t (.tup [.str "told", .int (pre.length + 1)]))] := by
   unfold m2 ZdG offQ ZbD
   rw [as, al]
   subst hk ha hb hn
   rcases h8 with rfl | ⟨d, rfl⟩ <;> simp_arith [eo, dueI]
  rw [Zcj e2]
  have sm := Zgk (pre.length + 1)
  have n2 : ((pre.map Q.lw ++ [q.lw] ++ [(q.go r).lw]).length : Int) - 1 = pre.length + 1 := by simp; omega
  have n3 : (pre.map Q.lw ++ [q.lw]).length < 1000000 := by simp; omega
  have nL : (pre.map Q.lw ++ [q.lw]).length = pre.length + 1 := by simp
  have n4 : pre.length + 1 < 1000000 := by omega
  have at2 : (pre.map Q.lw ++ [q.lw]).map D.t ++ [D.t (q.go r).lw] = (pre.map Q.lw ++ [q.lw] ++ [(q.go r).lw]).map D.t := ZlG _ _
  unfold m3 ZdG offQ ZbD
  rw [as2, al2]
  have lk := ZbT (σ := [.x (off (pre.map Q.st ++ [q.st] ++ [(q.go r).st])), .x (.lst ((pre.map Q.lw ++ [q.lw] ++ [(q.go r).lw]).map D.t)), .v (.t (.lst (more5.map rowR))), .v dk, .v da, .v db, .v dn, .v (.t (.int (-1))), .v (.t (.tup [.str "told", .int (pre.length + 1)]))]) (i := 1) (ps := pre.map Q.lw ++ [q.lw] ++ [(q.go r).lw]) (by show some (seen (.x _)) = _; rw [ZgJ, Zdf])
  subst hk ha hb hn
  generalize Zbg (DL.e1 oLen (eVar 1)) = L at lk ⊢
  generalize pre.map Q.lw ++ [q.lw] = PL at *
  generalize pre.map Q.st ++ [q.st] = PS at *
  simp_arith [lt, ea, hd, nL, n4, at2, lk, sm]
abbrev Zpa : D -> Env' -> Option Env' := kTup Zez 4 (ZaL (Zaq 3) (ZaL (Zaq 4) (ZaL (Zaq 5) (ZaL (Zaq 6) Zd3))))
theorem Zpb {qs : List Q} {r : Rw} {x3 x4 x5 x6 x7 x8 : Sl} (h3 : okX x3) (h4 : okX x4) (h5 : okX x5) (h6 : okX x6) : Zpa (.t (rowR r)) (ZdG qs x3 x4 x5 x6 x7 x8) = some (ZdG qs (.v (.t (.int r.k))) (.v (.t (.str r.a))) (.v (.t r.bT)) (.v (.t (.int r.n))) x7 x8) := by
 rcases h3 with rfl | ⟨d3, rfl⟩ <;> rcases h4 with rfl | ⟨d4, rfl⟩ <;> rcases h5 with rfl | ⟨d5, rfl⟩ <;> rcases h6 with rfl | ⟨d6, rfl⟩ <;> rfl
theorem ZhV : ∀ (rs : List Rw) (qs : List Q) (x3 x4 x5 x6 x7 x8 : Sl), (∀ r ∈ rs, r ∈ more5) -> Hist qs -> okX x3 -> okX x4 -> okX x5 -> okX x6 -> okX x7 -> okX x8 -> ∃ qs' x3' x4' x5' x6' x7' x8', Hist qs' /\ forS Zpa ZlJ (rs.map rowR) (ZdG qs x3 x4 x5 x6 x7 x8) = .next (ZdG qs' x3' x4' x5' x6' x7' x8')
 | [], qs, x3, x4, x5, x6, x7, x8, _, H, _, _, _, _, _, _ => ⟨qs, x3, x4, x5, x6, x7, x8, H, rfl⟩
 | r :: rs, qs, x3, x4, x5, x6, x7, x8, hr, H, h3, h4, h5, h6, h7, h8 => by
  obtain ⟨q1, y7, y8, H1, k7, k8, e⟩ := ZkS H (hr r (.head _)) h7 h8
  obtain ⟨q2, a3, a4, a5, a6, a7, a8, H2, e2⟩ := ZhV rs q1 _ _ _ _ y7 y8 (fun r h => hr r (.tail _ h)) H1 (.inr ⟨_, rfl⟩) (.inr ⟨_, rfl⟩) (.inr ⟨_, rfl⟩) (.inr ⟨_, rfl⟩) k7 k8
  refine ⟨q2, a3, a4, a5, a6, a7, a8, H2, ?_⟩
  rw [List.map_cons, forS, Zpb h3 h4 h5 h6]
  dsimp only
  rw [e]
  exact e2
theorem Zmo {qs : List Q} (H : Hist qs) : ∃ qs', Hist qs' /\ ZdE [offQ qs, ZbD qs] = .ret (.t (.bl true)) [offQ qs', ZbD qs'] := by
 obtain ⟨q2, x3, x4, x5, x6, x7, x8, H2, e⟩ := ZhV more5 qs .e .e .e .e .e .e (fun _ h => h) H (.inl rfl) (.inl rfl) (.inl rfl) (.inl rfl) (.inl rfl) (.inl rfl)
 refine ⟨q2, H2, ?_⟩
 unfold ZdE runF Zeu
 rw [show ZbN 9 [offQ qs, ZbD qs] = [.x (offQ qs), .x (ZbD qs), .e, .e, .e, .e, .e, .e, .e] from rfl]
 obtain ⟨rD, hD⟩ : ∃ rD : D, rD = .lst [.lst [.t (.int 0), .t (.str "other"), .t (.int 0), .t (.int 0)], .lst [.t (.int 1), .t (.str "other"), .dct [], .t (.int 0)], .lst [.t (.int 3), .t (.str "deed"), .t (.int 0), .t (.int 0)], .lst [.t (.int 4), .t (.str "deed"), .t (.int 0), .t (.int 0)], .lst [.t (.int 2), .t (.str "deed"), .t (.str "ware"), .t (.int 10)]] := ⟨_, rfl⟩
 have fD : frz rD = .lst (more5.map rowR) := by
  rw [hD]
  simp [Zlz, ZdC, ZoI, more5, rowR, Rw.k, Rw.a, Rw.bT, Rw.n, dctT]
 rw [Zcj (σ1 := [.x (offQ qs), .x (ZbD qs), .v rD, .e, .e, .e, .e, .e, .e]) (by rw [hD]; unfold offQ ZbD; simp_arith [])]
 rw [Zcj (σ1 := ZdG q2 x3 x4 x5 x6 x7 x8) (by
  have b1 : (iLst (eVar 2) : SI) [.x (offQ qs), .x (ZbD qs), .v rD, .e, .e, .e, .e, .e, .e] = .ok (more5.map rowR) (ZdG qs .e .e .e .e .e .e) := by
   unfold ZdG
   simp_arith [fD]
  show Out.th _ _ = _
  rw [b1]
  exact e)]
 obtain ⟨pre, q, rfl, I⟩ := H2.split
 have so := q_so (ss := pre.map Q.st) I.n.good
 simp only [List.length_map] at so
 have as : (pre ++ [q]).map Q.st = pre.map Q.st ++ [q.st] := by simp
 have al : (pre ++ [q]).map Q.lw = pre.map Q.lw ++ [q.lw] := by simp
 have lt := Zi4 (ps := pre.map Q.lw) (x := q.lw)
 unfold ZdG offQ ZbD
 rw [as, al]
 have lk := ZbT (σ := [.h, .x (.lst ((pre.map Q.lw ++ [q.lw]).map D.t)), .v (.t (.lst (more5.map rowR))), x3, x4, x5, x6, x7, x8]) (i := 1) (ps := pre.map Q.lw ++ [q.lw]) (by show some (seen (.x _)) = _; rw [ZgJ, Zdf])
 generalize Zbg (e1 oLen (eVar 1)) = L at lk ⊢
 have nL : (pre.map Q.lw ++ [q.lw]).length = pre.length + 1 := by simp
 generalize pre.map Q.lw ++ [q.lw] = PL at *
 generalize pre.map Q.st ++ [q.st] = PS at *
 simp_arith [lt, lk, nL, so]
def Zfr (vs : List Int) (k : Nat) : Rw := if k = 0 then .w "ware" else if k = 1 then .d "deed" [("ware", 3)] else .c "deed" "ware" (vs.getD (k % vs.length) 0)
structure At (k : Nat) (q : Q) : Prop where
 i : In3 q
 ws : q.ws = if k = 0 then [] else [("ware" : Str)]
 ds : q.ds = if k <= 1 then [] else [("deed" : Str)]
 sh : q.sh = []
theorem ZkT {vs : List Int} {k : Nat} : (Zfr vs k).ok := by
 unfold Zfr
 split
 · exact w_w
 · split
   · exact ⟨w_d, fun x h => by simp at h; subst h; exact w_w⟩
   · exact ⟨w_d, w_w⟩
theorem ZlK {vs : List Int} {k n : Nat} {q : Q} (A : At k q) (hv : ∀ v ∈ vs, big v = false) (h0 : 0 < vs.length) (hk : k < 200 /\ n = k \/ 200 <= k /\ n = 200) : q.due n (Zfr vs k) = if k < 200 then none else some "NoRoom" := by
 unfold Zfr Q.due
 rw [A.ws, A.ds, A.sh]
 by_cases k0 : k = 0
 · subst k0
   rcases hk with ⟨_, rfl⟩ | ⟨h, _⟩
   · simp [Rw.due, dueW, g_w]
   · omega
 · by_cases k1 : k = 1
   · subst k1
     rcases hk with ⟨_, rfl⟩ | ⟨h, _⟩
     · have s3 : big 3 = false := rfl
       simp [Rw.due, dueD, g_d, ZhQ, Zdp, s3]
     · omega
   · have hm : k % vs.length < vs.length := Nat.mod_lt _ h0
     have hb : big (vs.getD (k % vs.length) 0) = false := by
      rw [show vs.getD (k % vs.length) 0 = vs[k % vs.length] by simp [hm]]
      exact hv _ (List.getElem_mem hm)
     rw [if_neg k0, if_neg k1, if_neg k0, if_neg (by omega)]
     rcases hk with ⟨h, rfl⟩ | ⟨h, rfl⟩
     · simp only [Rw.due, dueC, hb]
       simp [h, show ¬ 200 <= n by omega]
     · simp only [Rw.due, dueC, hb]
       simp [show ¬ k < 200 by omega]
theorem At.next {vs : List Int} {k n : Nat} {q : Q} (A : At k q) (e : q.due n (Zfr vs k) = none) : At (k + 1) (q.go (Zfr vs k)) := by
 have N := A.i.n.next ZkT e
 unfold Zfr at N ⊢
 by_cases k0 : k = 0
 · subst k0
   have w := A.ws
   have d := A.ds
   simp at w d
   refine ⟨⟨N, ?_, ?_, ?_⟩, ?_, ?_, A.sh⟩
   · show q.ws ++ [("ware" : Str)] = [] \/ q.ws ++ [("ware" : Str)] = [("ware" : Str)] \/ _
     rw [w]; simp
   · exact .inl d
   · show ("deed" : Str) ∈ q.ds -> _
     rw [d]; intro h; cases h
   · show q.ws ++ [("ware" : Str)] = _
     rw [w]; simp
   · show q.ds = _
     rw [d]; simp
 · rw [if_neg k0] at N ⊢
   have w := A.ws
   rw [if_neg k0] at w
   by_cases k1 : k = 1
   · subst k1
     rw [if_pos rfl] at N ⊢
     have d := A.ds
     simp at d
     refine ⟨⟨N, .inr (.inl w), ?_, ?_⟩, ?_, ?_, A.sh⟩
     · show q.ds ++ [("deed" : Str)] = [] \/ q.ds ++ [("deed" : Str)] = [("deed" : Str)] \/ _
       rw [d]; simp
     · show _ -> ("ware" : Str) ∈ q.ws
       rw [w]; simp
     · show q.ws = _
       rw [w]; simp
     · show q.ds ++ [("deed" : Str)] = _
       rw [d]; simp
   · rw [if_neg k1] at N ⊢
     have d := A.ds
     rw [if_neg (by omega)] at d
     refine ⟨⟨N, .inr (.inl w), .inr (.inl d), fun _ => ?_⟩, ?_, ?_, A.sh⟩
     · show ("ware" : Str) ∈ q.ws
       rw [w]; simp
     · show q.ws = _
       rw [w]; simp
     · show q.ds = _
       rw [d, if_neg (by omega)]
abbrev Zdc (qs : List Q) (m : Int) (vs : List Int) (x4 x5 x6 : Sl) : Env' := [.x (offQ qs), .x (ZbD qs), .v (.t (.int m)), .v (.t (.lst (vs.map .int))), x4, x5, x6]
abbrev y1 : SS := sAsg (e2 oIx (eLst (Zad (eLst (Zad (eC (.int 0)) (Zad (eC (.str "ware")) (Zad (eC (.int 0)) (Zad (eC (.int 0)) aNil))))) (Zad (eLst (Zad (eC (.int 1)) (Zad (eC (.str "deed")) (Zad (eD1 "ware" (eC (.int 3))) (Zad (eC (.int 0)) aNil))))) (Zad (eLst (Zad (eC (.int 2)) (Zad (eC (.str "deed")) (Zad (eC (.str "ware")) (Zad (e2 oIx (eVar 3) (e2 oMod (eVar 4) (e1 oLen (eVar 3)))) aNil))))) aNil)))) (e2 oMin (eVar 4) (eC (.int 2)))) (Zaq 5)
abbrev y2 : SS := sAsg (ZaB 5 ZbK [some 0, none, none, none, none] (aIo 0 (Zad (eFrz (e2 oIx (eVar 5) (eC (.int 0)))) (Zad (eFrz (e2 oIx (eVar 5) (eC (.int 1)))) (Zad (eFrz (e2 oIx (eVar 5) (eC (.int 2)))) (Zad (eFrz (e2 oIx (eVar 5) (eC (.int 3)))) aNil)))))) (Zaq 6)
abbrev y3 : SS := (sIf (sT (eB oGt (Zbg (e1 oLen (eVar 1))) (eC (.int 200)))) (sIf (sNot (sT (ZaB 2 Za5 [none, none] (Zad (eVar 6) (Zad (eC (.int 9)) aNil))))) (sRet (eC (.bl false))) ZaH) (sSeq (sApp 1 (eFrz (ZaB 5 ZbA [none, none, none, none, none] (Zad (eFrz (eP (pIx (bVar 1) (pNeg (pC (.int 1)))))) (Zad (eFrz (e2 oIx (eVar 5) (eC (.int 0)))) (Zad (eFrz (e2 oIx (eVar 5) (eC (.int 1)))) (Zad (eFrz (e2 oIx (eVar 5) (eC (.int 2)))) (Zad (eFrz (e2 oIx (eVar 5) (eC (.int 3)))) aNil))))))))
 (sIf (sNot (sT (ZaB 2 (Zax 4) [none, none] (Zad (eVar 6) (Zad (eFrz (eTup (Zad (eC (.str "told")) (Zad (e2 oSub (Zbg (e1 oLen (eVar 1))) (eC (.int 1))) aNil)))) aNil))))) (sRet (eC (.bl false))) ZaH)))
abbrev ZlL : SS := sSeq y1 (sSeq y2 y3)
theorem Zmp {r : Rw} : oIx (rowR r) (.int 0) = some (.t (.int r.k)) /\ oIx (rowR r) (.int 1) = some (.t (.str r.a)) /\ oIx (rowR r) (.int 2) = some (.t r.bT) /\ oIx (rowR r) (.int 3) = some (.t (.int r.n)) := ⟨rfl, rfl, rfl, rfl⟩
theorem ZlM {qs : List Q} {m : Int} {vs : List Int} {k : Nat} {x5 x6 : Sl} (hl : vs.length = 60) (h5 : okX x5) : y1 (Zdc qs m vs (.v (.t (.int k))) x5 x6) = .next (Zdc qs m vs (.v (.t (.int k))) (.v (.t (rowR (Zfr vs k)))) x6) := by
 have hm : k % 60 < vs.length := by rw [hl]; omega
 have o1 : oMod (.int k) (.int 60) = some (.t (.int ((k % 60 : Nat) : Int))) := by rw [ZdB (by decide)]; rfl
 have i1 : oIx (.lst (vs.map .int)) (.int ((k % 60 : Nat) : Int)) = some (.t (.int (vs.getD (k % 60) 0))) := by rw [ZhF, DL.atI_nat]; simp [hm]
 have hll : ((vs.map T.int).length : Int) = 60 := by simp [hl]
 have o2 : oLen (.lst (vs.map .int)) = some (.t (.int 60)) := by rw [ZiT, hll]
 have o3 : oMin (.int k) (.int 2) = some (.t (.int (min (k : Int) 2))) := by
  show some (D.t (.int (if (2 : Int) < k then 2 else k))) = _
  congr 3
  split <;> omega
 have pk : ∀ a b c : T, oIx (.lst [a, b, c]) (.int (min (k : Int) 2)) = some (.t (if k = 0 then a else if k = 1 then b else c)) := fun a b c => by
  by_cases k0 : k = 0
  · subst k0; rfl
  · by_cases k1 : k = 1
    · subst k1; rfl
    · rw [show min (k : Int) 2 = 2 by omega, if_neg k0, if_neg k1]
      rfl
 have hr : rowR (Zfr vs k) = if k = 0 then .lst [.int 0, .str "ware", .int 0, .int 0] else if k = 1 then .lst [.int 1, .str "deed", .dct [("ware", .int 3)], .int 0] else .lst [.int 2, .str "deed", .str "ware", .int (vs.getD (k % 60) 0)] := by
  unfold Zfr
  rw [hl]
  by_cases k0 : k = 0
  · subst k0; rfl
  · by_cases k1 : k = 1
    · subst k1; rfl
    · simp only [if_neg k0, if_neg k1]; rfl
 unfold y1 Zdc
 rw [hr]
 generalize vs.getD (k % 60) 0 = v at *
 generalize k % 60 = j at *
 rcases h5 with rfl | ⟨d, rfl⟩ <;> simp_arith [o1, o2, i1, o3, pk, eD1, hl]
structure Play (k : Nat) (qs : List Q) : Prop where
 ex : ∃ pre q, qs = pre ++ [q] /\ At k q /\ pre.length = min k 200
 h : Hist qs
theorem ZkU {k : Nat} {qs : List Q} {m : Int} {vs : List Int} {x5 x6 : Sl} (P : Play k qs) (hl : vs.length = 60) (hv : ∀ v ∈ vs, big v = false) (h5 : okX x5) (h6 : okX x6) : ∃ qs' x5' x6', Play (k + 1) qs' /\ okX x5' /\ okX x6' /\
 ZlL (Zdc qs m vs (.v (.t (.int k))) x5 x6) = .next (Zdc qs' m vs (.v (.t (.int k))) x5' x6') := by
 obtain ⟨pre, q, rfl, A, hp⟩ := P.ex
 have H := P.h
 have R := ZlM (qs := pre ++ [q]) (m := m) (k := k) (x6 := x6) hl h5
 have eo := q_do (r := Zfr vs k) (ss := pre.map Q.st) ZkT A.i.n.good (by simp; omega)
 simp only [List.length_map] at eo
 have ed := ZlK (n := pre.length) A hv (by omega) (by omega)
 have as : (pre ++ [q]).map Q.st = pre.map Q.st ++ [q.st] := by simp
 have al : (pre ++ [q]).map Q.lw = pre.map Q.lw ++ [q.lw] := by simp
 have lt := Zi4 (ps := pre.map Q.lw) (x := q.lw)
 have nL : (pre.map Q.lw ++ [q.lw]).length = pre.length + 1 := by simp
 by_cases hk : k < 200
 · rw [if_pos hk] at ed
   rw [ed] at eo
   obtain ⟨d, ea, hd⟩ := ZkO A.i.n.good ed
   have A' := A.next ed
   generalize hr : Zfr vs k = r at *
   obtain ⟨r0, r1, r2, r3⟩ := Zmp (r := r)
   refine ⟨pre ++ [q] ++ [q.go r], .v (.t (rowR r)), .v (.t (.tup [.str "told", .int (pre.length + 1)])), ⟨⟨pre ++ [q], q.go r, rfl, A', by simp; omega⟩, H.add A'.i (by omega)⟩, .inr ⟨_, rfl⟩, .inr ⟨_, rfl⟩, ?_⟩
   rw [ZlL, Zcj R]
   have as2 : (pre ++ [q] ++ [q.go r]).map Q.st = pre.map Q.st ++ [q.st] ++ [(q.go r).st] := by simp
   have al2 : (pre ++ [q] ++ [q.go r]).map Q.lw = pre.map Q.lw ++ [q.lw] ++ [(q.go r).lw] := by simp
   have E2 : y2 (Zdc (pre ++ [q]) m vs (.v (.t (.int k))) (.v (.t (rowR r))) x6) = .next [.x (off (pre.map Q.st ++ [q.st] ++ [(q.go r).st])), .x (.lst ((pre.map Q.lw ++ [q.lw]).map D.t)), .v (.t (.int m)), .v (.t (.lst (vs.map .int))), .v (.t (.int k)), .v (.t (rowR r)), .v (.t (.tup [.str "told", .int (pre.length + 1)]))] := by
    unfold y2 Zdc offQ ZbD
    rw [as, al]
    generalize rowR r = RR at *
    rcases h6 with rfl | ⟨d, rfl⟩ <;> simp_arith [r0, r1, r2, r3, eo]
   rw [Zcj E2]
   have sm := Zgk (pre.length + 1)
   have n4 : pre.length + 1 < 1000000 := by omega
   have n5 : ¬ (200 : Int) < pre.length + 1 := by omega
   have at2 : (pre.map Q.lw ++ [q.lw]).map D.t ++ [D.t (q.go r).lw] = (pre.map Q.lw ++ [q.lw] ++ [(q.go r).lw]).map D.t := ZlG _ _
   unfold y3 Zdc offQ ZbD
   rw [as2, al2]
   have lk := ZbT (σ := [.x (off (pre.map Q.st ++ [q.st] ++ [(q.go r).st])), .x (.lst ((pre.map Q.lw ++ [q.lw] ++ [(q.go r).lw]).map D.t)), .v (.t (.int m)), .v (.t (.lst (vs.map .int))), .v (.t (.int k)), .v (.t (rowR r)), .v (.t (.tup [.str "told", .int (pre.length + 1)]))]) (i := 1) (ps := pre.map Q.lw ++ [q.lw] ++ [(q.go r).lw]) (by show some (seen (.x _)) = _; rw [ZgJ, Zdf])
   have lk0 := ZbT (σ := [.x (off (pre.map Q.st ++ [q.st] ++ [(q.go r).st])), .x (.lst ((pre.map Q.lw ++ [q.lw]).map D.t)), .v (.t (.int m)), .v (.t (.lst (vs.map .int))), .v (.t (.int k)), .v (.t (rowR r)), .v (.t (.tup [.str "told", .int (pre.length + 1)]))]) (i := 1) (ps := pre.map Q.lw ++ [q.lw]) (by show some (seen (.x _)) = _; rw [ZgJ, Zdf])
   generalize Zbg (e1 oLen (eVar 1)) = L at lk lk0 ⊢
   generalize pre.map Q.lw ++ [q.lw] = PL at *
   generalize pre.map Q.st ++ [q.st] = PS at *
   generalize rowR r = RR at *
   simp_arith [lt, ea, hd, nL, n4, n5, at2, lk, lk0, sm, r0, r1, r2, r3]
 · rw [if_neg hk] at ed
   rw [ed] at eo
   have hp2 : pre.length = 200 := by omega
   have er := Zgj (c := "NoRoom") (by decide)
   rw [nx9] at er
   have A' : At (k + 1) q := ⟨A.i, by rw [A.ws, if_neg (by omega), if_neg (by omega)], by rw [A.ds, if_neg (by omega), if_neg (by omega)], A.sh⟩
   generalize hr : Zfr vs k = r at *
   obtain ⟨r0, r1, r2, r3⟩ := Zmp (r := r)
   refine ⟨pre ++ [q], .v (.t (rowR r)), .v (.t (refT "NoRoom")), ⟨⟨pre, q, rfl, A', by omega⟩, H⟩, .inr ⟨_, rfl⟩, .inr ⟨_, rfl⟩, ?_⟩
   rw [ZlL, Zcj R]
   have E2 : y2 (Zdc (pre ++ [q]) m vs (.v (.t (.int k))) (.v (.t (rowR r))) x6) = .next (Zdc (pre ++ [q]) m vs (.v (.t (.int k))) (.v (.t (rowR r))) (.v (.t (refT "NoRoom")))) := by
    unfold y2 Zdc offQ ZbD
    rw [as, al]
    generalize rowR r = RR at *
    rcases h6 with rfl | ⟨d, rfl⟩ <;> simp_arith [r0, r1, r2, r3, eo]
   rw [Zcj E2]
   unfold y3 Zdc offQ ZbD
   rw [as, al]
   have lk0 := ZbT (σ := [.x (off (pre.map Q.st ++ [q.st])), .x (.lst ((pre.map Q.lw ++ [q.lw]).map D.t)), .v (.t (.int m)), .v (.t (.lst (vs.map .int))), .v (.t (.int k)), .v (.t (rowR r)), .v (.t (refT "NoRoom"))]) (i := 1) (ps := pre.map Q.lw ++ [q.lw]) (by show some (seen (.x _)) = _; rw [ZgJ, Zdf])
   generalize Zbg (e1 oLen (eVar 1)) = L at lk0 ⊢
   generalize pre.map Q.lw ++ [q.lw] = PL at *
   generalize pre.map Q.st ++ [q.st] = PS at *
   generalize rowR r = RR at *
   generalize refT "NoRoom" = TR at *
   simp_arith [nL, hp2, lk0, er]
theorem ZhW {m : Int} {vs : List Int} (hl : vs.length = 60) (hv : ∀ v ∈ vs, big v = false) : ∀ (n k : Nat) (qs : List Q) (x4 x5 x6 : Sl), Play k qs -> okX x4 -> okX x5 -> okX x6 -> ∃ qs' x4' x5' x6', Hist qs' /\ forS (Zaq 4) ZlL ((List.range' k n).map fun (i : Nat) => T.int (i : Int)) (Zdc qs m vs x4 x5 x6) = .next (Zdc qs' m vs x4' x5' x6')
 | 0, k, qs, x4, x5, x6, P, _, _, _ => ⟨qs, x4, x5, x6, P.h, rfl⟩
 | n + 1, k, qs, x4, x5, x6, P, h4, h5, h6 => by
  obtain ⟨q1, y5, y6, P1, k5, k6, e⟩ := ZkU (m := m) P hl hv h5 h6
  obtain ⟨q2, a4, a5, a6, H2, e2⟩ := ZhW (m := m) hl hv n (k + 1) q1 (.v (.t (.int k))) y5 y6 P1 (.inr ⟨_, rfl⟩) k5 k6
  refine ⟨q2, a4, a5, a6, H2, ?_⟩
  have k1 : Zaq 4 (.t (.int k)) (Zdc qs m vs x4 x5 x6) = some (Zdc qs m vs (.v (.t (.int k))) x5 x6) := by rcases h4 with rfl | ⟨d, rfl⟩ <;> rfl
  rw [List.range'_succ, List.map_cons, forS, k1]
  dsimp only
  rw [e]
  exact e2
def q0 : Q := ⟨[], [], [], []⟩
theorem at0 : At 0 q0 := ⟨⟨⟨⟨rfl, (fun _ h => by cases h), .nil, .nil, by decide, by decide, fun _ h => by cases h⟩, (fun _ h => by cases h), (fun _ h => by cases h), .nil⟩, .inl rfl, .inl rfl, fun h => by cases h⟩, rfl, rfl, rfl⟩
theorem ZpJ : Play 0 [q0] := ⟨⟨[], q0, rfl, at0, rfl⟩, by simp, fun p h => by simp at h; subst h; exact at0.i, by simp⟩
theorem ZlN {m : Nat} {vs : List Int} (hm : m <= 1000) (hl : vs.length = 60) (hv : ∀ v ∈ vs, big v = false) : ∃ qs', Hist qs' /\ Zdn [offQ [q0], ZbD [q0], .t (.int m), .t (.lst (vs.map .int))] = .ret (.t (.bl true)) [offQ qs', ZbD qs', .t (.int m), .t (.lst (vs.map .int))] := by
 obtain ⟨q2, x4, x5, x6, H2, e⟩ := ZhW (m := m) hl hv m 0 [q0] .e .e .e ZpJ (.inl rfl) (.inl rfl) (.inl rfl)
 refine ⟨q2, H2, ?_⟩
 have n1 : m < 1000000 := by omega
 unfold Zdn runF Zdm
 rw [show ZbN 7 [offQ [q0], ZbD [q0], .t (.int m), .t (.lst (vs.map .int))] = Zdc [q0] m vs .e .e .e from rfl]
 rw [Zcj (σ1 := Zdc q2 m vs x4 x5 x6) (by
  have b1 : (ZeG (eVar 2) : SI) (Zdc [q0] m vs .e .e .e) = .ok (rngT 0 m) (Zdc [q0] m vs .e .e .e) := by
   unfold Zdc
   simp_arith [n1]
  show Out.th _ _ = _
  rw [b1, Zi1, List.range_eq_range']
  exact e)]
 unfold Zdc
 simp_arith []
theorem Zi5 {i j : Int} (h : j.natAbs < 2 ^ 64) : oMul (.int i) (.int j) = some (.t (.int (i * j))) := by
 show (if cMul i j = true then _ else _) = _
 rw [if_pos (by simp only [cMul, decide_eq_true h, Bool.or_true, Bool.true_or])]
theorem ZpK (i k : Int) : ∃ v, Zeh [.t (.int i), .t (.int k)] = .ret (.t (.int v)) [.t (.int i), .t (.int k)] := by
 obtain ⟨o, ho⟩ : ∃ o, o = (i * 48271 + k * 7368787 + 1) % 2147483647 := ⟨_, rfl⟩
 have o0 : 0 <= o := by rw [ho]; exact Int.emod_nonneg _ (by decide)
 have o1 : o < 2147483647 := by rw [ho]; exact Int.emod_lt_of_pos _ (by decide)
 have a1 : oMul (.int i) (.int 48271) = some (.t (.int (i * 48271))) := Zi5 (by decide)
 have a2 : oMul (.int k) (.int 7368787) = some (.t (.int (k * 7368787))) := Zi5 (by decide)
 have a3 : oMod (.int (i * 48271 + k * 7368787 + 1)) (.int 2147483647) = some (.t (.int o)) := by rw [ho]; exact ZdB (by decide)
 have a4 : oMul (.int o) (.int o) = some (.t (.int (o * o))) := Zi5 (by omega)
 have a5 : oMod (.int (o * o)) (.int 2147483647) = some (.t (.int (o * o % 2147483647))) := ZdB (by decide)
 have a6 : oMul (.int (o * o % 2147483647)) (.int 69621) = some (.t (.int (o * o % 2147483647 * 69621))) := Zi5 (by decide)
 have a7 : oMod (.int (o * o % 2147483647 * 69621)) (.int 2147483647) = some (.t (.int (o * o % 2147483647 * 69621 % 2147483647))) := ZdB (by decide)
 refine ⟨o * o % 2147483647 * 69621 % 2147483647, ?_⟩
 unfold Zeh Ze4
 simp_arith [a1, a2, a3, a4, a5, a6, a7]
theorem l_at (ns : List Int) (k : Nat) : ∃ v, Zbv [.t (.scr ns), .t (.int k)] = .ret (.t (.int v)) [.t (.scr ns), .t (.int k)] := by
 have e0 : oLen (.scr ns) = some (.t (.int ns.length)) := by
  simp [oLen, items]
 by_cases h : k < ns.length
 · have h' : (k : Int) < (ns.length : Int) := by omega
   have e1 : oIx (.scr ns) (.int k) = some (.t (.int ns[k])) := by
    show (atI (ns.map T.int) (k : Int)).map D.t = _
    rw [DL.atI_nat]
    simp [h]
   refine ⟨ns[k], ?_⟩
   unfold Zbv Ze3
   simp_arith [e0, e1, h, h']
 · have h' : ¬ (k : Int) < (ns.length : Int) := by omega
   refine ⟨0, ?_⟩
   unfold Zbv Ze3
   simp_arith [e0, h, h']
def In19 (xs : List Int) : Prop := ∀ x ∈ xs, 0 <= x /\ x < 19
abbrev rE (c w : Int) (m : Bool) (xs : List Int) (x : Sl) : Env' := [.v (.t (.int c)), .v (.t (.int w)), .v (.t (.int 19)), .v (.t (.bl m)), .v (.lst ((xs.map T.int).map D.t)), x]
abbrev rB : SS := (sIf (sT (eVar 3)) (sApp 4 (e2 oMod (e2 oDiv (ZaB 2 Zeh [none, none] (Zad (eVar 0) (Zad (eVar 5) aNil))) (eC (.int 7))) (eVar 2))) (sSeq (sApp 4 (e2 oMod (eVar 0) (eVar 2)))
 (sAsg (e2 oDiv (eVar 0) (eVar 2)) (Zaq 0))))
theorem ZhX {w : Int} {m : Bool} : ∀ (ts : List Int) (c : Int) (xs : List Int) (x : Sl), okX x -> In19 xs -> xs.length + ts.length <= 1000 -> ∃ c' xs' x', forS (Zaq 5) rB (ts.map .int) (rE c w m xs x) = .next (rE c' w m xs' x') /\ In19 xs' /\ xs'.length = xs.length + ts.length
 | [], c, xs, x, _, h, _ => ⟨c, xs, x, rfl, h, rfl⟩
 | t :: ts, c, xs, x, hx, h, hn => by
  simp only [List.length_cons] at hn
  have n1 : xs.length < 1000000 := by omega
  have a1 : ∀ y : Int, ((xs.map T.int).map D.t) ++ [D.t (.int y)] = ((xs ++ [y]).map T.int).map D.t := fun y => by simp
  have k1 : Zaq 5 (.t (.int t)) (rE c w m xs x) = some (rE c w m xs (.v (.t (.int t)))) := by rcases hx with rfl | ⟨d, rfl⟩ <;> rfl
  have more : ∀ y : Int, 0 <= y -> y < 19 -> In19 (xs ++ [y]) := fun y y0 y1 z hz => by
   rcases List.mem_append.mp hz with q | q
   · exact h z q
   · simp at q; subst q; exact ⟨y0, y1⟩
  suffices hh : ∃ c1 y, 0 <= y /\ y < 19 /\ rB (rE c w m xs (.v (.t (.int t)))) = .next (rE c1 w m (xs ++ [y]) (.v (.t (.int t)))) from by
   obtain ⟨c1, y, y0, y1, b1⟩ := hh
   obtain ⟨c', xs', x', f1, h1, h2⟩ := ZhX (w := w) (m := m) ts c1 (xs ++ [y]) (.v (.t (.int t))) (.inr ⟨_, rfl⟩) (more y y0 y1) (by simp; omega)
   refine ⟨c', xs', x', ?_, h1, by rw [h2]; simp; omega⟩
   rw [List.map_cons, forS, k1]
   dsimp only
   rw [b1]
   exact f1
  cases m with
  | true =>
   obtain ⟨v, em⟩ := ZpK c t
   have o1 : oDiv (.int v) (.int 7) = some (.t (.int (v / 7))) := ZiS (by decide) (by decide)
   have o2 : oMod (.int (v / 7)) (.int 19) = some (.t (.int (v / 7 % 19))) := ZdB (by decide)
   refine ⟨c, v / 7 % 19, Int.emod_nonneg _ (by decide), Int.emod_lt_of_pos _ (by decide), ?_⟩
   unfold rB rE
   simp_arith [em, o1, o2, n1, a1]
  | false =>
   have o1 : oMod (.int c) (.int 19) = some (.t (.int (c % 19))) := ZdB (by decide)
   have o2 : oDiv (.int c) (.int 19) = some (.t (.int (c / 19))) := ZiS (by decide) (by decide)
   refine ⟨c / 19, c % 19, Int.emod_nonneg _ (by decide), Int.emod_lt_of_pos _ (by decide), ?_⟩
   unfold rB rE
   simp_arith [o1, o2, n1, a1]
theorem rngI (w : Nat) : rngT 0 w = ((List.range w).map fun (i : Nat) => (i : Int)).map T.int := by rw [Zi1, List.map_map]; rfl
theorem ZnJ (c : Int) (w : Nat) (m : Bool) (hw : w <= 100) : ∃ xs : List Int, xs.length = w /\ In19 xs /\ ZdU [.t (.int c), .t (.int w), .t (.int 19), .t (.bl m)] = .ret (.t (.lst (xs.map .int))) [.t (.int c), .t (.int w), .t (.int 19), .t (.bl m)] := by
 obtain ⟨c', xs, x', f1, h1, h2⟩ := ZhX (w := (w : Int)) (m := m) ((List.range w).map fun (i : Nat) => (i : Int)) c [] .e (.inl rfl) (fun _ h => by cases h) (by simp; omega)
 simp only [List.length_map, List.length_range, List.length_nil, Nat.zero_add] at h2
 refine ⟨xs, h2, h1, ?_⟩
 have n1 : w < 1000000 := by omega
 unfold ZdU runF ZdT
 rw [show ZbN 6 [.t (.int c), .t (.int w), .t (.int 19), .t (.bl m)] = [.v (.t (.int c)), .v (.t (.int w)), .v (.t (.int 19)), .v (.t (.bl m)), .e, .e] from rfl]
 rw [Zcj (σ1 := rE c w m [] .e) (by simp_arith [])]
 rw [Zcj (σ1 := rE c' w m xs x') (by
  have b1 : (ZeG (eVar 1) : SI) (rE c w m [] .e) = .ok (rngT 0 w) (rE c w m [] .e) := by simp_arith [n1]
  show Out.th _ _ = _
  rw [b1, rngI]
  exact f1)]
 unfold rE
 simp_arith []
theorem Zi6 : ∀ (xs : List Int) (x : Sl), okX x -> Zck (Zaq 0) Zds (e2 oSub (eVar 0) (eC (.int 9))) (xs.map .int) [x] = some (((xs.map (· - 9)).map T.int).map D.t)
 | [], _, _ => rfl
 | v :: vs, x, hx => by
  have ih := Zi6 vs (.v (.t (.int v))) (.inr ⟨_, rfl⟩)
  rcases hx with rfl | ⟨d, rfl⟩ <;> simp [Zck, Zaq, Zds, e2, eVar, eC, Out.bnd, ZdC, Zmf, -List.map_map] <;> (rw [ih])
abbrev lawE (sc : List Int) (s m : Int) (vs : List Int) (qs : List Q) (x6 x7 x8 : Sl) : Env' := [.v (.t (.scr sc)), .v (.t (.int s)), .v (.t (.int m)), .v (.t (.lst (vs.map .int))), .v (offQ qs), .v (ZbD qs), x6, x7, x8]
abbrev b1 : SS := sAsg (ZaB 5 ZbK [some 4, none, none, none, none] (aIo 4 (Zad (eC (.int 5)) (Zad (eVar 6) (Zad (eC (.int 0)) (Zad (eC (.int 0)) aNil)))))) (Zaq 8)
abbrev b2 : SS := (sIf (sT (eB oGe (eVar 6) (Zbg (e1 oLen (eVar 5))))) (sIf (sNot (sT (ZaB 2 Za5 [none, none] (Zad (eVar 8) (Zad (eC (.int 8)) aNil))))) (sRet (eC (.bl false))) ZaH) (sSeq (sAsg (Zgp (bVar 5) (p2 oSub (pLen (bVar 5)) (pB (bVar 6)))) (Zaq 5))
 (sIf (sNot (sT (ZaB 2 (Zax 4) [none, none] (Zad (eVar 8) (Zad (eFrz (eTup (Zad (eC (.str "told")) (Zad (e2 oSub (Zbg (e1 oLen (eVar 5))) (eC (.int 1))) aNil)))) aNil))))) (sRet (eC (.bl false))) ZaH)))
abbrev b3 : SS := (sIf (sNot (sT (ZaB 3 Za8 [some 4, none, none] (aIo 4 (Zad (eFrz (eP (pIx (bVar 5) (pNeg (pC (.int 1)))))) (Zad (eFrz (e2 oSub (Zbg (e1 oLen (eVar 5))) (eC (.int 1)))) aNil)))))) (sRet (eC (.bl false))) ZaH)
abbrev ZlO : SS := sSeq b1 (sSeq b2 b3)
theorem Hist.take {qs : List Q} {n : Nat} (H : Hist qs) (h : 0 < n) : Hist (qs.take n) := by
 refine ⟨fun e => ?_, fun p hp => H.all p (List.mem_of_mem_take hp), by have := H.len; rw [List.length_take]; omega⟩
 have := H.ne
 cases qs with
 | nil => exact this rfl
 | cons a r =>
  cases n with
  | zero => omega
  | succ n => simp at e
theorem Hist.pos {qs : List Q} (H : Hist qs) : 0 < qs.length := by
 have := H.ne
 cases qs with
 | nil => exact absurd rfl this
 | cons a r => simp
theorem ZgK {d : D} : seen (.v d) = .v (.t (frz d)) := rfl
theorem Zmq {sc : List Int} {s m : Int} {vs : List Int} {qs : List Q} {x6 x7 x8 : Sl} (H : Hist qs) : b3 (lawE sc s m vs qs x6 x7 x8) = .next (lawE sc s m vs qs x6 x7 x8) := by
 obtain ⟨pre, q, rfl, I⟩ := H.split
 have so := q_so (ss := pre.map Q.st) I.n.good
 simp only [List.length_map] at so
 have as : (pre ++ [q]).map Q.st = pre.map Q.st ++ [q.st] := by simp
 have al : (pre ++ [q]).map Q.lw = pre.map Q.lw ++ [q.lw] := by simp
 have lt := Zi4 (ps := pre.map Q.lw) (x := q.lw)
 have nL : (pre.map Q.lw ++ [q.lw]).length = pre.length + 1 := by simp
 unfold b3 lawE offQ ZbD
 rw [as, al]
 have lk := ZbT (σ := [.v (.t (.scr sc)), .v (.t (.int s)), .v (.t (.int m)), .v (.t (.lst (vs.map .int))), .e, .v (.lst ((pre.map Q.lw ++ [q.lw]).map D.t)), x6, x7, x8]) (i := 5) (ps := pre.map Q.lw ++ [q.lw]) (by show some (seen (.v _)) = _; rw [ZgK, Zdf])
 generalize Zbg (e1 oLen (eVar 5)) = L at lk ⊢
 generalize pre.map Q.lw ++ [q.lw] = PL at *
 generalize pre.map Q.st ++ [q.st] = PS at *
 simp_arith [lt, lk, nL, so]
theorem ZhY {sc : List Int} {s m : Int} {vs : List Int} {qs : List Q} {b : Nat} {t : D} {x8 : Sl} (H : Hist qs) (h8 : okX x8) : ∃ qs' x8', Hist qs' /\ okX x8' /\ ZlO (lawE sc s m vs qs (.v (.t (.int b))) (.v t) x8) = .next (lawE sc s m vs qs' (.v (.t (.int b))) (.v t) x8') := by
 have hp := H.pos
 have hl := H.len
 have e := ZpF (ss := qs.map Q.st) (b := b) (by simp; omega) (by simpa using hp)
 simp only [List.length_map] at e
 have nL : (qs.map Q.lw).length = qs.length := by simp
 by_cases h : qs.length <= b
 · rw [if_pos h] at e
   refine ⟨qs, .v (.t (refT "NotDone")), H, .inr ⟨_, rfl⟩, ?_⟩
   have E1 : b1 (lawE sc s m vs qs (.v (.t (.int b))) (.v t) x8) = .next (lawE sc s m vs qs (.v (.t (.int b))) (.v t) (.v (.t (refT "NotDone")))) := by
    unfold b1 lawE offQ
    rcases h8 with rfl | ⟨d, rfl⟩ <;> simp_arith [e]
   have er := Zgj (c := "NotDone") (by decide)
   rw [nx8] at er
   have hi : (qs.length : Int) <= b := by omega
   have E2 : b2 (lawE sc s m vs qs (.v (.t (.int b))) (.v t) (.v (.t (refT "NotDone")))) = .next (lawE sc s m vs qs (.v (.t (.int b))) (.v t) (.v (.t (refT "NotDone")))) := by
    have lk := ZbT (σ := lawE sc s m vs qs (.v (.t (.int b))) (.v t) (.v (.t (refT "NotDone")))) (i := 5) (ps := qs.map Q.lw) (by show some (seen (.v _)) = _; rw [ZgK, Zdf])
    unfold b2
    generalize Zbg (e1 oLen (eVar 5)) = L at lk ⊢
    unfold lawE ZbD at lk ⊢
    generalize refT "NotDone" = TR at *
    generalize qs.map Q.lw = PL at *
    simp_arith [lk, nL, hi, er]
   rw [ZlO, Zcj E1, Zcj E2, Zmq H]
 · rw [if_neg h] at e
   have H' := H.take (n := qs.length - b) (by omega)
   refine ⟨qs.take (qs.length - b), .v (.t (.tup [.str "told", .int ((qs.length - b : Nat) - 1)])), H', .inr ⟨_, rfl⟩, ?_⟩
   have as : (qs.take (qs.length - b)).map Q.st = (qs.map Q.st).take (qs.length - b) := by rw [List.map_take]
   have al : (qs.take (qs.length - b)).map Q.lw = (qs.map Q.lw).take (qs.length - b) := by rw [List.map_take]
   have E1 : b1 (lawE sc s m vs qs (.v (.t (.int b))) (.v t) x8) = .next [.v (.t (.scr sc)), .v (.t (.int s)), .v (.t (.int m)), .v (.t (.lst (vs.map .int))), .v (off ((qs.map Q.st).take (qs.length - b))), .v (ZbD qs), .v (.t (.int b)), .v t, .v (.t (.tup [.str "told", .int ((qs.length - b : Nat) - 1)]))] := by
    unfold b1 lawE offQ
    generalize (qs.map Q.st).take (qs.length - b) = PS at *
    rcases h8 with rfl | ⟨d, rfl⟩ <;> simp_arith [e]
   have hi : ¬ (qs.length : Int) <= b := by omega
   have ct := Zi3 (ts := qs.map Q.lw) (i := qs.length - b) (by simp)
   rw [show (((qs.length - b : Nat) : Int)) = (qs.length : Int) - b by omega] at ct
   have sm := Zgk ((qs.length - b : Nat) - 1)
   have lT := Zit (ts := qs.map Q.lw)
   have nT : ((qs.map Q.lw).take (qs.length - b)).length = qs.length - b := by rw [List.length_take, List.length_map]; omega
   have E2 : b2 [.v (.t (.scr sc)), .v (.t (.int s)), .v (.t (.int m)), .v (.t (.lst (vs.map .int))), .v (off ((qs.map Q.st).take (qs.length - b))), .v (ZbD qs), .v (.t (.int b)), .v t, .v (.t (.tup [.str "told", .int ((qs.length - b : Nat) - 1)]))] = .next (lawE sc s m vs (qs.take (qs.length - b)) (.v (.t (.int b))) (.v t) (.v (.t (.tup [.str "told", .int ((qs.length - b : Nat) - 1)])))) := by
    unfold b2 lawE offQ ZbD
    rw [as, al]
    have lk := ZbT (σ := [.v (.t (.scr sc)), .v (.t (.int s)), .v (.t (.int m)), .v (.t (.lst (vs.map .int))), .v (off ((qs.map Q.st).take (qs.length - b))), .v (.lst ((qs.map Q.lw).map D.t)), .v (.t (.int b)), .v t, .v (.t (.tup [.str "told", .int ((qs.length - b : Nat) - 1)]))]) (i := 5) (ps := qs.map Q.lw) (by show some (seen (.v _)) = _; rw [ZgK, Zdf])
    have lk2 := ZbT (σ := [.v (.t (.scr sc)), .v (.t (.int s)), .v (.t (.int m)), .v (.t (.lst (vs.map .int))), .v (off ((qs.map Q.st).take (qs.length - b))), .v (.lst (((qs.map Q.lw).take (qs.length - b)).map D.t)), .v (.t (.int b)), .v t, .v (.t (.tup [.str "told", .int ((qs.length - b : Nat) - 1)]))]) (i := 5) (ps := (qs.map Q.lw).take (qs.length - b)) (by show some (seen (.v _)) = _; rw [ZgK, Zdf])
    generalize Zbg (e1 oLen (eVar 5)) = L at lk lk2 ⊢
    generalize hnb : qs.length - b = nb at *
    generalize (qs.map Q.lw).take nb = PT at *
    generalize (qs.map Q.st).take nb = PS at *
    generalize qs.map Q.lw = PL at *
    simp_arith [lk, lk2, nL, nT, hi, Zgp, ct, lT, sm]
   rw [ZlO, Zcj E1, Zcj E2, Zmq H']
abbrev c9 : SS := (sIf (sT (eB oGt (Zbg (e1 oLen (eVar 5))) (eC (.int 1)))) (sSeq (sAsg (Zgp (bVar 5) (pNeg (pC (.int 1)))) (Zaq 5))
 (sIf (sNot (sT (ZaB 2 (Zax 4) [none, none] (Zad (eFrz (Zbi 4 "Office" "take_back" 2 Za0 [none] (Zad (eC (.int 1)) aNil))) (Zad (eFrz (e2 oSub (Zbg (e1 oLen (eVar 5))) (eC (.int 1)))) aNil))))) (sRet (eC (.bl false))) ZaH)) ZaH)
theorem ZlP (n : Int) : Zax 4 [.t (.int n), .t (.int n)] = .ret (.t (.bl true)) [.t (.int n), .t (.int n)] := ZdF 3 _ rfl
theorem Zpc {sc : List Int} {s m : Int} {vs : List Int} {qs : List Q} {x6 x7 x8 : Sl} (H : Hist qs) : ∃ qs', Hist qs' /\ c9 (lawE sc s m vs qs x6 x7 x8) = .next (lawE sc s m vs qs' x6 x7 x8) := by
 have hp := H.pos
 have hl := H.len
 have nL : (qs.map Q.lw).length = qs.length := by simp
 have lk := ZbT (σ := lawE sc s m vs qs x6 x7 x8) (i := 5) (ps := qs.map Q.lw) (by show some (seen (.v _)) = _; rw [ZgK, Zdf])
 by_cases h : qs.length = 1
 · refine ⟨qs, H, ?_⟩
   unfold c9
   generalize Zbg (e1 oLen (eVar 5)) = L at lk ⊢
   unfold lawE ZbD at lk ⊢
   generalize qs.map Q.lw = PL at *
   simp_arith [lk, nL, h]
 · have H' := H.take (n := qs.length - 1) (by omega)
   refine ⟨qs.take (qs.length - 1), H', ?_⟩
   obtain ⟨pre, q, e0, I⟩ := H.split
   have e1' : qs.length - 1 = pre.length := by rw [e0]; simp
   have ht : qs.take (qs.length - 1) = pre := by rw [e1', e0, List.take_left]
   have e := r_tb (ss := qs.map Q.st) (b := 1) (by simp; omega) (by simpa using hp)
   simp only [List.length_map] at e
   rw [if_neg (by omega)] at e
   have e2' : (qs.map Q.st).take (qs.length - 1) = pre.map Q.st := by rw [<- List.map_take, ht]
   rw [e2', e1'] at e
   have hpos : 0 < pre.length := by omega
   have sm := ZlP ((pre.length : Int) - 1)
   have ct : cutT (qs.map Q.lw) none (some (-1)) = pre.map Q.lw := by
    rw [e0, List.map_append]
    exact ZlH
   have lT := Zit (ts := qs.map Q.lw)
   have hq : qs.length = pre.length + 1 := by omega
   have nP : (pre.map Q.lw).length = pre.length := by simp
   have lk2 : ∀ y4 : Sl, Zbg (e1 oLen (eVar 5)) [.v (.t (.scr sc)), .v (.t (.int s)), .v (.t (.int m)), .v (.t (.lst (vs.map .int))), y4, .v (.lst ((pre.map Q.lw).map D.t)), x6, x7, x8] = .ok (.t (.int (pre.map Q.lw).length)) [.v (.t (.scr sc)), .v (.t (.int s)), .v (.t (.int m)), .v (.t (.lst (vs.map .int))), y4, .v (.lst ((pre.map Q.lw).map D.t)), x6, x7, x8] := fun y4 => ZbT (by show some (seen (.v _)) = _; rw [ZgK, Zdf])
   rw [ht]
   unfold c9
   generalize Zbg (e1 oLen (eVar 5)) = L at lk lk2 ⊢
   unfold lawE offQ ZbD at lk ⊢
   generalize qs.map Q.lw = PL at *
   generalize qs.map Q.st = PS at *
   generalize pre.map Q.lw = RL at *
   generalize pre.map Q.st = RS at *
   have h1 : (1 : Int) < pre.length + 1 := by omega
   rw [show ((1 : Nat) : Int) = 1 from rfl] at e
   simp_arith [lk, lk2, nL, nP, hq, h1, hpos, Zgp, ct, lT, e, sm]
theorem ZlQ (sc : List Int) (h : sc.length <= 63) : ∃ ds, ZlC [.t (.scr sc)] = .ret (.t (.bl true)) ds := by
 obtain ⟨s, e0⟩ : ∃ v, Zbv [.t (.scr sc), .t (.int 0)] = .ret (.t (.int v)) [.t (.scr sc), .t (.int 0)] := l_at sc 0
 obtain ⟨a, e1'⟩ : ∃ v, Zbv [.t (.scr sc), .t (.int 1)] = .ret (.t (.int v)) [.t (.scr sc), .t (.int 1)] := l_at sc 1
 obtain ⟨c, e2'⟩ : ∃ v, Zbv [.t (.scr sc), .t (.int 2)] = .ret (.t (.int v)) [.t (.scr sc), .t (.int 2)] := l_at sc 2
 obtain ⟨g, e3'⟩ : ∃ v, Zbv [.t (.scr sc), .t (.int 3)] = .ret (.t (.int v)) [.t (.scr sc), .t (.int 3)] := l_at sc 3
 have o1 : oMod (.int a) (.int 206) = some (.t (.int (a % 206))) := ZdB (by decide)
 have o2 : oMod (.int a) (.int 5) = some (.t (.int (a % 5))) := ZdB (by decide)
 have o3 : oMod (.int s) (.int 3) = some (.t (.int (s % 3))) := ZdB (by decide)
 have o4 : oDiv (.int s) (.int 3) = some (.t (.int (s / 3))) := ZiS (by decide) (by decide)
 have o5 : oMod (.int (s / 3)) (.int 2) = some (.t (.int (s / 3 % 2))) := ZdB (by decide)
 have o6 : oMod (.int g) (.int 206) = some (.t (.int (g % 206))) := ZdB (by decide)
 have o7 : oMod (.int g) (.int 4) = some (.t (.int (g % 4))) := ZdB (by decide)
 have o8 : oDiv (.int s) (.int 6) = some (.t (.int (s / 6))) := ZiS (by decide) (by decide)
 have o9 : oMod (.int (s / 6)) (.int 2) = some (.t (.int (s / 6 % 2))) := ZdB (by decide)
 obtain ⟨m, hm, em⟩ : ∃ m : Nat, m <= 1000 /\ oIx (.lst [.int (a % 206), .int (198 + a % 5)]) (.int (if s % 3 = 2 then 1 else 0)) = some (.t (.int m)) := by
  by_cases q : s % 3 = 2
  · refine ⟨(198 + a % 5).toNat, by omega, ?_⟩
    rw [if_pos q, show (((198 + a % 5).toNat : Nat) : Int) = 198 + a % 5 by omega]
    rfl
  · refine ⟨(a % 206).toNat, by omega, ?_⟩
    rw [if_neg q, show (((a % 206).toNat : Nat) : Int) = a % 206 by omega]
    rfl
 obtain ⟨b, eb⟩ : ∃ b : Nat, oIx (.lst [.int (g % 206), .int (g % 4)]) (.int (s / 6 % 2)) = some (.t (.int b)) := by
  have := Int.emod_nonneg (s / 6) (show (2 : Int) ≠ 0 by decide)
  have := Int.emod_lt_of_pos (s / 6) (show (0 : Int) < 2 by decide)
  by_cases q : s / 6 % 2 = 0
  · refine ⟨(g % 206).toNat, ?_⟩
    rw [q, show (((g % 206).toNat : Nat) : Int) = g % 206 by omega]
    rfl
  · refine ⟨(g % 4).toNat, ?_⟩
    rw [show s / 6 % 2 = 1 by omega, show (((g % 4).toNat : Nat) : Int) = g % 4 by omega]
    rfl
 obtain ⟨xs, hx, hin, ed⟩ := ZnJ c 60 (decide (s / 3 % 2 = 1)) (by decide)
 rw [show ((60 : Nat) : Int) = 60 from rfl] at ed
 have cs := Zi6 xs .e (.inl rfl)
 have n2 : xs.length < sizeLine := Zdv (by omega)
 obtain ⟨vs, hvs⟩ : ∃ vs : List Int, vs = xs.map (· - 9) := ⟨_, rfl⟩
 have hl : vs.length = 60 := by rw [hvs]; simpa using hx
 have hv : ∀ v ∈ vs, big v = false := fun v hv => by
  rw [hvs] at hv
  obtain ⟨y, hy, rfl⟩ := List.mem_map.mp hv
  have := hin y hy
  unfold big
  simp only [decide_eq_false_iff_not]
  split <;> omega
 rw [<- hvs] at cs
 obtain ⟨q1, H1, ep⟩ := ZlN hm hl hv
 obtain ⟨q2, H2, er⟩ := Zmo H1
 obtain ⟨q3, x3, H3, k3, t3⟩ := ZhY (sc := sc) (s := s) (m := m) (vs := vs) (b := b) (t := .t (.int 0)) (x8 := .e) H2 (.inl rfl)
 obtain ⟨q4, x4, H4, k4, t4⟩ := ZhY (sc := sc) (s := s) (m := m) (vs := vs) (b := b) (t := .t (.int 1)) H3 k3
 obtain ⟨q5, H5, t5⟩ := Zpc (sc := sc) (s := s) (m := m) (vs := vs) (x6 := .v (.t (.int b))) (x7 := .v (.t (.int 1))) (x8 := x4) H4
 obtain ⟨q6, H6, er2⟩ := Zmo H5
 have ri := ZoO
 have run : ZkG [.v (.t (.scr sc)), .e, .e, .e, .e, .e, .e, .e, .e] = .ret (.t (.bl true)) (lawE sc s m vs q6 (.v (.t (.int b))) (.v (.t (.int 1))) x4) := by
  unfold ZkG
  rw [Zcj (σ1 := [.v (.t (.scr sc)), .v (.t (.int s)), .e, .e, .e, .e, .e, .e, .e]) (by simp_arith [e0])]
  rw [Zcj (σ1 := [.v (.t (.scr sc)), .v (.t (.int s)), .v (.t (.int m)), .e, .e, .e, .e, .e, .e]) (by simp_arith [e1', o1, o2, o3, oInt, em])]
  rw [Zcj (σ1 := [.v (.t (.scr sc)), .v (.t (.int s)), .v (.t (.int m)), .v (.lst ((vs.map T.int).map D.t)), .e, .e, .e, .e, .e]) (by simp_arith [Zcl, Za4, capE, e2', o4, o5, ed, cs, n2])]
  rw [Zcj (σ1 := [.v (.t (.scr sc)), .v (.t (.int s)), .v (.t (.int m)), .v (.lst ((vs.map T.int).map D.t)), .v (offQ [q0]), .e, .e, .e, .e]) (by simp_arith [ri, Q.st, q0])]
  rw [Zcj (σ1 := [.v (.t (.scr sc)), .v (.t (.int s)), .v (.t (.int m)), .v (.lst ((vs.map T.int).map D.t)), .v (offQ [q0]), .v (ZbD [q0]), .e, .e, .e]) (by simp_arith [Q.lw, q0])]
  rw [Zcj (σ1 := lawE sc s m vs q2 .e .e .e) (by
   unfold lawE
   generalize offQ [q0] = A0 at *
   generalize ZbD [q0] = B0 at *
   generalize offQ q1 = A1 at *
   generalize ZbD q1 = B1 at *
   generalize offQ q2 = A2 at *
   generalize ZbD q2 = B2 at *
   simp_arith [ep, er])]
  rw [Zcj (σ1 := lawE sc s m vs q2 (.v (.t (.int b))) .e .e) (by
   unfold lawE
   simp_arith [e3', o6, o7, o8, o9, eb])]
  rw [Zcj (σ1 := lawE sc s m vs q4 (.v (.t (.int b))) (.v (.t (.int 1))) x4) (by
   have bb : (ZeG (eC (.int 2)) : SI) (lawE sc s m vs q2 (.v (.t (.int b))) .e .e) = .ok [.int 0, .int 1] (lawE sc s m vs q2 (.v (.t (.int b))) .e .e) := by
    rfl
   show Out.th _ _ = _
   rw [bb]
   dsimp only [Out.th]
   unfold ZlO b1 b2 b3 at t3 t4
   rw [forS, show Zaq 7 (.t (.int 0)) (lawE sc s m vs q2 (.v (.t (.int b))) .e .e) = some (lawE sc s m vs q2 (.v (.t (.int b))) (.v (.t (.int 0))) .e) from rfl]
   dsimp only
   rw [t3]
   dsimp only
   rw [forS, show Zaq 7 (.t (.int 1)) (lawE sc s m vs q3 (.v (.t (.int b))) (.v (.t (.int 0))) x3) = some (lawE sc s m vs q3 (.v (.t (.int b))) (.v (.t (.int 1))) x3) from rfl]
   dsimp only
   rw [t4]
   rfl)]
  rw [Zcj t5]
  unfold lawE
  generalize offQ q5 = A5 at *
  generalize ZbD q5 = B5 at *
  generalize offQ q6 = A6 at *
  generalize ZbD q6 = B6 at *
  simp_arith [er2]
 unfold ZlC runF
 rw [show ZbN 9 [.t (.scr sc)] = [.v (.t (.scr sc)), .e, .e, .e, .e, .e, .e, .e, .e] from rfl, run]
 exact ⟨_, rfl⟩
end My
/-
--ALL BadName Taken NoDeed NoWare Forbidden NotForbidden BadNumber NotDone NoRoom
--OBJ _law_office Office
--STR has_form name
--LISTN _law_one _law_two _law_three
--REC _law_same 4
--LEND Office.put_deed numbers
--LEND with_new_deed numbers
--LEND _law_played _law_past
--LEND _law_more _law_past
--LEND law _law_past
--FORL _law_more
--EXPL _law_more _law_played law
--KTXT /tmp/z/K19.txt
-/
namespace My
open PySem PySem.Spec PyProof.Rows L2 DL
theorem law_val (ns : List Int) (h : ns.length <= 63) : ∃ ds, ZlC [.t (.scr ns)] = .ret (.t (.bl true)) ds := ZlQ ns h
theorem law_fn {P : Program} {w : World} {K : PySem.W.Frag} {mg : Str -> Option Value} {fa : Addr} {fd : FuncData} (T : Txt K mg) (F : Fun K "law" "law" ZkE fa fd) :
 ∃ fd : FuncData, (∀ (s : Shared) (u : Value), BindsTo s fd ⟨[u], []⟩ [("_law_script", u)]) /\ ∀ base : Heap, K.In base -> base.Ns mainGlobals mg -> FnOk P w K mg base (XC P w) 8 fa fd ["_law_script"] (sp_law K) := by
 refine ⟨fd, fun s u => ?_, fun base _ _ => (ZoN T F).imp (Zps law_val)⟩
 obtain ⟨oc, od, kV, doc, pm, an, cdv, ct, osl, rfl, lk, hcd⟩ := F.ex
 exact .of_eq rfl
end My
open PySem PySem.W PyProof.Rows
set_option maxRecDepth 100000 in
set_option maxHeartbeats 0 in
theorem PySem.Challenge.cw_leanmodes_k19_two_hundred_holds : PySem.Challenge.rw_leanmodes_k19_two_hundred.Holds := by
 w_on; o_law
 refine PySem.W.holds_open (q := My.qK) (loose := []) (N := 20000) My.leftK (PySem.W.Hook.of _) (PySem.W.Hook.keeps _)
  (fun s e => PySem.W.xl_of s (Bool.and_eq_true_iff.mp e).1) PySem.W.XL.keeps (by rfl) (by rfl) (by rfl)
  (fun s e => PySem.W.recFacts_of (R := []) (Bool.and_eq_true_iff.mp e).2) (by rfl) (by assumption) (by decide +kernel)
  ⟨rfl, rfl, rfl, rfl, rfl, by decide +kernel⟩ ?hw ?hc
 (case hw => w_witness2)
 k_fill
 refine L2.walk_ofX (l := PySem.Challenge.rw_leanmodes_k19_two_hundred) (n := 63) (k := 8) (x := "_law_script") (sp := DL.sp_law) rfl (by decide) rfl ⟨rfl, by decide, by decide⟩ (fun w h Y => PySem.W.kIn_of Y) ?F ?S
 case F =>
  intro w mg fa h KX G hmg
  have T : My.Txt (L2.KOf KX) mg := by
   dsimp only [L2.KOf]
   have A_Standing : mg "Standing" = some (.ref 232) := PySem.W.mg_of KX G (by k_is)
   have A_Office : mg "Office" = some (.ref 454) := PySem.W.mg_of KX G (by k_is)
   have A_WorksError : mg "WorksError" = some (.ref 31) := PySem.W.mg_of KX G (by k_is)
   have A_BadName : mg "BadName" = some (.ref 44) := PySem.W.mg_of KX G (by k_is)
   have A_Taken : mg "Taken" = some (.ref 56) := PySem.W.mg_of KX G (by k_is)
   have A_NoRoom : mg "NoRoom" = some (.ref 152) := PySem.W.mg_of KX G (by k_is)
   have A_NoWare : mg "NoWare" = some (.ref 80) := PySem.W.mg_of KX G (by k_is)
   have A_BadNumber : mg "BadNumber" = some (.ref 116) := PySem.W.mg_of KX G (by k_is)
   have A_NoDeed : mg "NoDeed" = some (.ref 68) := PySem.W.mg_of KX G (by k_is)
   have A_Forbidden : mg "Forbidden" = some (.ref 92) := PySem.W.mg_of KX G (by k_is)
   have A_NotForbidden : mg "NotForbidden" = some (.ref 104) := PySem.W.mg_of KX G (by k_is)
   have A_NotDone : mg "NotDone" = some (.ref 140) := PySem.W.mg_of KX G (by k_is)
   have A_NoRound : mg "NoRound" = some (.ref 128) := PySem.W.mg_of KX G (by k_is)
   have Q_Standing : L2.Cls (My.KK w.params) 232 := ⟨by k_is, by k_is, by k_is, by k_is⟩
   have Q_Office : L2.Cls (My.KK w.params) 454 := ⟨by k_is, by k_is, by k_is, by k_is⟩
   have AA : DL.mgAll mg [("BadName", 44), ("Taken", 56), ("NoDeed", 68), ("NoWare", 80), ("Forbidden", 92), ("NotForbidden", 104), ("BadNumber", 116), ("NotDone", 140), ("NoRoom", 152)] := ⟨A_BadName, A_Taken, A_NoDeed, A_NoWare, A_Forbidden, A_NotForbidden, A_BadNumber, A_NotDone, A_NoRoom, trivial⟩
   have D1 : DL.desB (My.KK w.params) = true := by kernel_rfl
   have L1 : (List.all [(("BadName" : PySem.Str), 44), (("Taken" : PySem.Str), 56), (("NoDeed" : PySem.Str), 68), (("NoWare" : PySem.Str), 80), (("Forbidden" : PySem.Str), 92), (("NotForbidden" : PySem.Str), 104), (("BadNumber" : PySem.Str), 116), (("NotDone" : PySem.Str), 140), (("NoRoom" : PySem.Str), 152)] fun p => DL.excLB (My.KK w.params) p.2) = true := by kernel_rfl
   constructor
   case B => exact ⟨PySem.W.mg_none_of KX G (by k_is), PySem.W.mg_none_of KX G (by k_is), PySem.W.mg_none_of KX G (by k_is), PySem.W.mg_none_of KX G (by k_is), PySem.W.mg_none_of KX G (by k_is), PySem.W.mg_none_of KX G (by k_is), PySem.W.mg_none_of KX G (by k_is), PySem.W.mg_none_of KX G (by k_is), PySem.W.mg_none_of KX G (by k_is), PySem.W.mg_none_of KX G (by k_is), PySem.W.mg_none_of KX G (by k_is), PySem.W.mg_none_of KX G (by k_is), PySem.W.mg_none_of KX G (by k_is)⟩
   case f_law_at => exact DL.tfx KX G (by k_is) (DL.ff (by k_is) (by k_is) (by k_is) fun _ _ _ _ _ _ us hl => match us, hl with | [_, _], _ => rfl)
   case f_law_mix => exact DL.tfx KX G (by k_is) (DL.ff (by k_is) (by k_is) (by k_is) fun _ _ _ _ _ _ us hl => match us, hl with | [_, _], _ => rfl)
   case f_law_draws => exact DL.tfx KX G (by k_is) (DL.ff (by k_is) (by k_is) (by k_is) fun _ _ _ _ _ _ us hl => match us, hl with | [_, _, _, _], _ => rfl)
   case f_Standing_init => exact DL.tix A_Standing (by k_is) (by k_is) (by k_is) (by k_is) (DL.ff (by k_is) (by k_is) (by k_is) fun _ _ _ _ _ _ us hl => match us, hl with | [_, _, _, _, _], _ => rfl)
   case f_nothing_put_in => exact DL.tfx KX G (by k_is) (DL.ff (by k_is) (by k_is) (by k_is) fun _ _ _ _ _ _ us hl => match us, hl with | [], _ => rfl)
   case f_Office_init => exact DL.tix A_Office (by k_is) (by k_is) (by k_is) (by k_is) (DL.ff (by k_is) (by k_is) (by k_is) fun _ _ _ _ _ _ us hl => match us, hl with | [_], _ => rfl)
   case f_law_due => exact DL.tfx KX G (by k_is) (DL.ff (by k_is) (by k_is) (by k_is) fun _ _ _ _ _ _ us hl => match us, hl with | [_, _, _, _], _ => rfl)
   case f_Office_now => exact DL.tmx A_Office Q_Office (by k_is) (by k_is) (DL.ff (by k_is) (by k_is) (by k_is) fun _ _ _ _ _ _ us hl => match us, hl with | [_], _ => rfl)
   case f_has_form => exact DL.tfx KX G (by k_is) (DL.ff (by k_is) (by k_is) (by k_is) fun _ _ _ _ _ _ us hl => match us, hl with | [_], _ => rfl)
   case f_check_new_name => exact DL.tfx KX G (by k_is) (DL.ff (by k_is) (by k_is) (by k_is) fun _ _ _ _ _ _ us hl => match us, hl with | [_, _], _ => rfl)
   case f_check_room => exact DL.tfx KX G (by k_is) (DL.ff (by k_is) (by k_is) (by k_is) fun _ _ _ _ _ _ us hl => match us, hl with | [_, _], _ => rfl)
   case f_Office_doings => exact DL.tmx A_Office Q_Office (by k_is) (by k_is) (DL.ff (by k_is) (by k_is) (by k_is) fun _ _ _ _ _ _ us hl => match us, hl with | [_], _ => rfl)
   case f_Office_keep => exact DL.tmx A_Office Q_Office (by k_is) (by k_is) (DL.ff (by k_is) (by k_is) (by k_is) fun _ _ _ _ _ _ us hl => match us, hl with | [_, _], _ => rfl)
   case f_with_new_ware => exact DL.tfx KX G (by k_is) (DL.ff (by k_is) (by k_is) (by k_is) fun _ _ _ _ _ _ us hl => match us, hl with | [_, _], _ => rfl)
   case f_Office_put_ware => exact DL.tmx A_Office Q_Office (by k_is) (by k_is) (DL.ff (by k_is) (by k_is) (by k_is) fun _ _ _ _ _ _ us hl => match us, hl with | [_, _], _ => rfl)
   case f_check_wares => exact DL.tfx KX G (by k_is) (DL.ff (by k_is) (by k_is) (by k_is) fun _ _ _ _ _ _ us hl => match us, hl with | [_, _], _ => rfl)
   case f_check_numbers => exact DL.tfx KX G (by k_is) (DL.ff (by k_is) (by k_is) (by k_is) fun _ _ _ _ _ _ us hl => match us, hl with | [_], _ => rfl)
   case f_with_new_deed => exact DL.tfx KX G (by k_is) (DL.ff (by k_is) (by k_is) (by k_is) fun _ _ _ _ _ _ us hl => match us, hl with | [_, _, _], _ => rfl)
   case f_Office_put_deed => exact DL.tmx A_Office Q_Office (by k_is) (by k_is) (DL.ff (by k_is) (by k_is) (by k_is) fun _ _ _ _ _ _ us hl => match us, hl with | [_, _, _], _ => rfl)
   case f_check_deeds => exact DL.tfx KX G (by k_is) (DL.ff (by k_is) (by k_is) (by k_is) fun _ _ _ _ _ _ us hl => match us, hl with | [_, _], _ => rfl)
   case f_check_let => exact DL.tfx KX G (by k_is) (DL.ff (by k_is) (by k_is) (by k_is) fun _ _ _ _ _ _ us hl => match us, hl with | [_, _], _ => rfl)
   case f_with_number => exact DL.tfx KX G (by k_is) (DL.ff (by k_is) (by k_is) (by k_is) fun _ _ _ _ _ _ us hl => match us, hl with | [_, _, _, _], _ => rfl)
   case f_Office_change => exact DL.tmx A_Office Q_Office (by k_is) (by k_is) (DL.ff (by k_is) (by k_is) (by k_is) fun _ _ _ _ _ _ us hl => match us, hl with | [_, _, _, _], _ => rfl)
   case f_with_forbidden => exact DL.tfx KX G (by k_is) (DL.ff (by k_is) (by k_is) (by k_is) fun _ _ _ _ _ _ us hl => match us, hl with | [_, _], _ => rfl)
   case f_Office_forbid => exact DL.tmx A_Office Q_Office (by k_is) (by k_is) (DL.ff (by k_is) (by k_is) (by k_is) fun _ _ _ _ _ _ us hl => match us, hl with | [_, _], _ => rfl)
   case f_check_forbidden => exact DL.tfx KX G (by k_is) (DL.ff (by k_is) (by k_is) (by k_is) fun _ _ _ _ _ _ us hl => match us, hl with | [_, _], _ => rfl)
   case f_with_let => exact DL.tfx KX G (by k_is) (DL.ff (by k_is) (by k_is) (by k_is) fun _ _ _ _ _ _ us hl => match us, hl with | [_, _], _ => rfl)
   case f_Office_let => exact DL.tmx A_Office Q_Office (by k_is) (by k_is) (DL.ff (by k_is) (by k_is) (by k_is) fun _ _ _ _ _ _ us hl => match us, hl with | [_, _], _ => rfl)
   case f_check_kept => exact DL.tfx KX G (by k_is) (DL.ff (by k_is) (by k_is) (by k_is) fun _ _ _ _ _ _ us hl => match us, hl with | [_, _], _ => rfl)
   case f_Office_take_back => exact DL.tmd (t := 644) A_Office Q_Office (by k_is) (by k_is) (by k_is) (by k_is) (by k_is) (DL.bind_n 2 rfl fun us hl S => match us, hl with | [_, _], _ => by kernel_rfl) (DL.bind_n 1 rfl fun us hl S => match us, hl with | [_], _ => by kernel_rfl)
   case f_law_call => exact DL.tfx KX G (by k_is) (DL.ff (by k_is) (by k_is) (by k_is) fun _ _ _ _ _ _ us hl => match us, hl with | [_, _, _, _, _], _ => rfl)
   case f_law_do => exact DL.tfx KX G (by k_is) (DL.ff (by k_is) (by k_is) (by k_is) fun _ _ _ _ _ _ us hl => match us, hl with | [_, _, _, _, _], _ => rfl)
   case f_law_same => exact DL.tfx KX G (by k_is) (DL.ff (by k_is) (by k_is) (by k_is) fun _ _ _ _ _ _ us hl => match us, hl with | [_, _], _ => rfl)
   case f_law_refused => exact DL.tfx KX G (by k_is) (DL.ff (by k_is) (by k_is) (by k_is) fun _ _ _ _ _ _ us hl => match us, hl with | [_, _], _ => rfl)
   case f_law_twin => exact DL.tfx KX G (by k_is) (DL.ff (by k_is) (by k_is) (by k_is) fun _ _ _ _ _ _ us hl => match us, hl with | [_], _ => rfl)
   case f_law_apply => exact DL.tfx KX G (by k_is) (DL.ff (by k_is) (by k_is) (by k_is) fun _ _ _ _ _ _ us hl => match us, hl with | [_, _, _, _, _], _ => rfl)
   case f_Office_deeds => exact DL.tmx A_Office Q_Office (by k_is) (by k_is) (DL.ff (by k_is) (by k_is) (by k_is) fun _ _ _ _ _ _ us hl => match us, hl with | [_], _ => rfl)
   case f_Office_wares => exact DL.tmx A_Office Q_Office (by k_is) (by k_is) (DL.ff (by k_is) (by k_is) (by k_is) fun _ _ _ _ _ _ us hl => match us, hl with | [_], _ => rfl)
   case f_forbidden_names => exact DL.tfx KX G (by k_is) (DL.ff (by k_is) (by k_is) (by k_is) fun _ _ _ _ _ _ us hl => match us, hl with | [_], _ => rfl)
   case f_Office_forbidden => exact DL.tmx A_Office Q_Office (by k_is) (by k_is) (DL.ff (by k_is) (by k_is) (by k_is) fun _ _ _ _ _ _ us hl => match us, hl with | [_], _ => rfl)
   case f_number_of => exact DL.tfx KX G (by k_is) (DL.ff (by k_is) (by k_is) (by k_is) fun _ _ _ _ _ _ us hl => match us, hl with | [_, _, _], _ => rfl)
   case f_Office_number => exact DL.tmx A_Office Q_Office (by k_is) (by k_is) (DL.ff (by k_is) (by k_is) (by k_is) fun _ _ _ _ _ _ us hl => match us, hl with | [_, _, _], _ => rfl)
   case f_law_stands_so => exact DL.tfx KX G (by k_is) (DL.ff (by k_is) (by k_is) (by k_is) fun _ _ _ _ _ _ us hl => match us, hl with | [_, _, _], _ => rfl)
   case f_law_more => exact DL.tfx KX G (by k_is) (DL.ff (by k_is) (by k_is) (by k_is) fun _ _ _ _ _ _ us hl => match us, hl with | [_, _], _ => rfl)
   case f_law_played => exact DL.tfx KX G (by k_is) (DL.ff (by k_is) (by k_is) (by k_is) fun _ _ _ _ _ _ us hl => match us, hl with | [_, _, _, _], _ => rfl)
   case f_law => exact DL.tfx KX G (by k_is) (DL.ff (by k_is) (by k_is) (by k_is) fun _ _ _ _ _ _ us hl => match us, hl with | [_], _ => rfl)
   case fok_Office_stages => exact DL.fokx A_Office Q_Office (by k_is)
   case fok_Standing_ware_names => exact DL.fokx A_Standing Q_Standing (by k_is)
   case fok_Standing_deed_names => exact DL.fokx A_Standing Q_Standing (by k_is)
   case fok_Standing_rows => exact DL.fokx A_Standing Q_Standing (by k_is)
   case fok_Standing_stopped => exact DL.fokx A_Standing Q_Standing (by k_is)
   case c_Standing => exact DL.clsC A_Standing
   case c_Office => exact DL.clsC A_Office
   case c_WorksError => exact DL.clsC A_WorksError
   case g_LETTERS => exact ⟨_, PySem.W.mg_of KX G (by k_is)⟩
   case g_LONGEST => exact ⟨_, PySem.W.mg_of KX G (by k_is)⟩
   case c_BadName => exact DL.clsC A_BadName
   case x_BadName => exact DL.excx A_BadName (by k_exc)
   case c_Taken => exact DL.clsC A_Taken
   case x_Taken => exact DL.excx A_Taken (by k_exc)
   case c_NoRoom => exact DL.clsC A_NoRoom
   case x_NoRoom => exact DL.excx A_NoRoom (by k_exc)
   case g_MOST_WARES => exact ⟨_, PySem.W.mg_of KX G (by k_is)⟩
   case g_MOST_DOINGS => exact ⟨_, PySem.W.mg_of KX G (by k_is)⟩
   case c_NoWare => exact DL.clsC A_NoWare
   case x_NoWare => exact DL.excx A_NoWare (by k_exc)
   case g_HIGHEST_NUMBER => exact ⟨_, PySem.W.mg_of KX G (by k_is)⟩
   case c_BadNumber => exact DL.clsC A_BadNumber
   case x_BadNumber => exact DL.excx A_BadNumber (by k_exc)
   case g_MOST_DEEDS => exact ⟨_, PySem.W.mg_of KX G (by k_is)⟩
   case c_NoDeed => exact DL.clsC A_NoDeed
   case x_NoDeed => exact DL.excx A_NoDeed (by k_exc)
   case c_Forbidden => exact DL.clsC A_Forbidden
   case x_Forbidden => exact DL.excx A_Forbidden (by k_exc)
   case c_NotForbidden => exact DL.clsC A_NotForbidden
   case x_NotForbidden => exact DL.excx A_NotForbidden (by k_exc)
   case c_NotDone => exact DL.clsC A_NotDone
   case x_NotDone => exact DL.excx A_NotDone (by k_exc)
   case isx_BadName => exact DL.isxr AA D1 L1 A_BadName (by k_is) (by k_is) (by k_is) (by kernel_rfl)
   case isx_Taken => exact DL.isxr AA D1 L1 A_Taken (by k_is) (by k_is) (by k_is) (by kernel_rfl)
   case isx_NoDeed => exact DL.isxr AA D1 L1 A_NoDeed (by k_is) (by k_is) (by k_is) (by kernel_rfl)
   case isx_NoWare => exact DL.isxr AA D1 L1 A_NoWare (by k_is) (by k_is) (by k_is) (by kernel_rfl)
   case isx_Forbidden => exact DL.isxr AA D1 L1 A_Forbidden (by k_is) (by k_is) (by k_is) (by kernel_rfl)
   case isx_NotForbidden => exact DL.isxr AA D1 L1 A_NotForbidden (by k_is) (by k_is) (by k_is) (by kernel_rfl)
   case isx_BadNumber => exact DL.isxr AA D1 L1 A_BadNumber (by k_is) (by k_is) (by k_is) (by kernel_rfl)
   case isx_NoRound => exact DL.isxr AA D1 L1 A_NoRound (by k_is) (by k_is) (by k_is) (by kernel_rfl)
   case c_NoRound => exact DL.clsC A_NoRound
   case isx_NotDone => exact DL.isxr AA D1 L1 A_NotDone (by k_is) (by k_is) (by k_is) (by kernel_rfl)
   case isx_NoRoom => exact DL.isxr AA D1 L1 A_NoRoom (by k_is) (by k_is) (by k_is) (by kernel_rfl)
   case isx_ValueError => exact DL.isxv AA D1 L1 (by kernel_rfl)
   case try_WorksError => exact DL.tryx AA A_WorksError (by k_is) (by k_is) (by k_is) (by kernel_rfl)
  obtain ⟨fa2, fd, F, m, b⟩ := T.f_law.ex
  have e0 := hmg.symm.trans m
  cases e0
  exact My.law_fn T F
 case S => exact fun K H a ns hl hO hS => DL.law_sp hl hS
