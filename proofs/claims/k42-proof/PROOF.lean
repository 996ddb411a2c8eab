import PyProof.Rows.All
import Wide.All
import OpenK.AllK
import Wide.FinOn
import Lean
import PyProof.EqAt
import PyProof.EqKinds
import PyProof.TupleCall
import PyProof.P3Statements
import KE.KIntText
import PyProof.LongRange
import PySem.Challenge.RW_penwright_k42_whole_times_within_times
set_option Elab.async false
set_option linter.all false
set_option maxRecDepth 100000
set_option maxHeartbeats 4000000
/-! THE HAND LAYER, for ints, bools, texts, own classes, LISTS and tuples (index, slices, in, append, pop ..), calls, loops. Paste it whole ahead of your own text; what your proof does not reach may be deleted. -/
namespace L2
open PySem PySem.Spec PyProof.Rows

/-- a key: an int or a str -/
noncomputable abbrev Key := Sum Int Str
noncomputable def keyIs : Key → Value → Bool
  | .inl k, v => Value.isInt k v
  | .inr x, v => Value.isStrOf x v
noncomputable def keyH (w : World) : Key → Int
  | .inl k => hashInt k
  | .inr x => hashStr w x
theorem keyIs_shape : ∀ {k : Key} {v : Value}, keyIs k v = true → (∃ i t, k = Sum.inl i ∧ v = Value.int i t) ∨ (∃ x t, k = Sum.inr x ∧ v = Value.str x t)
  | .inl i, v, h => by
    obtain ⟨t, e⟩ := Value.isInt_shape (k := i) (v := v) h
    exact .inl ⟨i, t, rfl, e⟩
  | .inr x, v, h => by
    obtain ⟨t, e⟩ := Value.isStrOf_shape (x := x) (v := v) h
    exact .inr ⟨x, t, rfl, e⟩
theorem key_ll (a b : Int) : decide ((Sum.inl a : Key) = Sum.inl b) = (a == b) := by
  by_cases e : a = b
  · subst e; simp
  · have h : ¬ (Sum.inl a : Key) = Sum.inl b := fun q => e (Sum.inl.inj q)
    rw [decide_eq_false h]
    exact (beq_eq_false_iff_ne.mpr e).symm
theorem key_rr (a b : Str) : decide ((Sum.inr a : Key) = Sum.inr b) = decide (a = b) := by
  by_cases e : a = b
  · subst e; simp
  · have h : ¬ (Sum.inr a : Key) = Sum.inr b := fun q => e (Sum.inr.inj q)
    rw [decide_eq_false h, decide_eq_false e]
theorem key_lr (a : Int) (b : Str) : decide ((Sum.inl a : Key) = Sum.inr b) = false := decide_eq_false (fun q => nomatch q)
theorem key_rl (a : Str) (b : Int) : decide ((Sum.inr a : Key) = Sum.inl b) = false := decide_eq_false (fun q => nomatch q)

noncomputable def mixKind (prog : Program) (w : World) : PySem.KeyKind prog w Key where
  is := keyIs
  hash := keyH w
  inj := fun v a b ha hb => by
    rcases keyIs_shape ha with ⟨i, t, rfl, rfl⟩ | ⟨x, t, rfl, rfl⟩
    · rcases keyIs_shape hb with ⟨j, u, rfl, e⟩ | ⟨y, u, rfl, e⟩
      · injection e with e1 _; rw [e1]
      · exact nomatch e
    · rcases keyIs_shape hb with ⟨j, u, rfl, e⟩ | ⟨y, u, rfl, e⟩
      · exact nomatch e
      · injection e with e1 _; rw [e1]
  byValue := fun k v h => by
    rcases keyIs_shape h with ⟨i, t, rfl, rfl⟩ | ⟨x, t, rfl, rfl⟩ <;> rfl
  pyHash := fun hv h => by
    rcases keyIs_shape hv with ⟨i, t, rfl, rfl⟩ | ⟨x, t, rfl, rfl⟩
    · exact wpAny_pyHash_int h
    · exact wpAny_pyHash_str h
  eqBool := fun hu hv h => by
    rcases keyIs_shape hu with ⟨i, t, rfl, rfl⟩ | ⟨x, t, rfl, rfl⟩
    · rcases keyIs_shape hv with ⟨j, u, rfl, rfl⟩ | ⟨y, u, rfl, rfl⟩
      · rw [key_ll] at h; exact wpAny_eqBool_int h
      · rw [key_lr] at h; exact SeqAt.EqAt.int_str i t y u _ _ _ _ h
    · rcases keyIs_shape hv with ⟨j, u, rfl, rfl⟩ | ⟨y, u, rfl, rfl⟩
      · rw [key_rl] at h; exact SeqAt.EqAt.str_int x t j u _ _ _ _ h
      · rw [key_rr] at h; exact wpAny_eqBool_str h
  «strs» := fun k x t v h => by
    rcases keyIs_shape h with ⟨i, u, rfl, e⟩ | ⟨y, u, rfl, e⟩
    · exact nomatch e
    · injection e with e1 _
      subst e1
      cases v <;> rfl

end L2

namespace L2
open PySem PySem.Spec PyProof.Rows

/-- a value, without the heap -/
inductive V where
  | non | bl (b : Bool) | int (i : Int) | str (x : Str) | byt (b : Array UInt8) | flt (b : UInt64) | ref (a : Addr) | ty (n : String)
  deriving DecidableEq

noncomputable def RelV : V → Value → Prop
  | .non, u => u = Value.none
  | .bl b, u => u = Value.bool b
  | .int i, u => ∃ t, u = Value.int i t
  | .str x, u => ∃ t, u = Value.str x t
  | .byt b, u => ∃ t, u = Value.bytes b t
  | .flt b, u => ∃ t, u = Value.float b t
  | .ref a, u => u = Value.ref a
  | .ty n, u => u = Value.type n

noncomputable abbrev Vals : List V → List Value → Prop := Paired RelV
theorem Vals.length {xs : List V} {us : List Value} (r : Vals xs us) : xs.length = us.length := Paired.length r
theorem Vals.get : ∀ {xs : List V} {us : List Value} {i : Nat} {x : V}, Vals xs us → xs[i]? = some x → ∃ u, us[i]? = some u ∧ RelV x u
  | _, _, _, _, .nil, e => by simp at e
  | _, _, 0, _, .cons r _, e => by simp at e; subst e; exact ⟨_, rfl, r⟩
  | _, _, i + 1, x, .cons _ t, e => by
    obtain ⟨u, h1, h2⟩ := Vals.get (i := i) (x := x) t (by simpa using e)
    exact ⟨u, by simpa using h1, h2⟩
theorem Vals.set {x : V} {u : Value} (r : RelV x u) : ∀ {xs : List V} {us : List Value} (i : Nat), Vals xs us → Vals (xs.set i x) (us.set i u)
  | _, _, _, .nil => .nil
  | _, _, 0, .cons _ t => .cons r t
  | _, _, i + 1, .cons q t => .cons q (Vals.set r i t)
theorem Vals.append : ∀ {xs ys : List V} {us ws : List Value}, Vals xs us → Vals ys ws → Vals (xs ++ ys) (us ++ ws)
  | _, _, _, _, .nil, s => s
  | _, _, _, _, .cons r t, s => .cons r (Vals.append t s)
theorem Vals.take : ∀ {xs : List V} {us : List Value} (n : Nat), Vals xs us → Vals (xs.take n) (us.take n)
  | _, _, 0, _ => .nil
  | _, _, _ + 1, .nil => .nil
  | _, _, n + 1, .cons r t => .cons r (Vals.take n t)
theorem Vals.drop : ∀ {xs : List V} {us : List Value} (n : Nat), Vals xs us → Vals (xs.drop n) (us.drop n)
  | _, _, 0, r => r
  | _, _, _ + 1, .nil => .nil
  | _, _, n + 1, .cons _ t => Vals.drop n t
theorem Vals.none_of : ∀ {xs : List V} {us : List Value} {i : Nat}, Vals xs us → xs[i]? = none → us[i]? = none := fun {xs us i} r e => by
  have h1 := r.length
  have h2 : xs.length ≤ i := List.getElem?_eq_none_iff.mp e
  exact List.getElem?_eq_none_iff.mpr (by omega)

noncomputable def RelO : Option V → Option Value → Prop
  | some v, some u => RelV v u
  | none, none => True
  | _, _ => False
noncomputable def KV {κ : Type} : List (κ × V) → List (κ × Value) → Prop := Paired fun (p : κ × V) (q : κ × Value) => p.1 = q.1 ∧ RelV p.2 q.2

/-- a key of a dict (00_mix): an int or a text -/
noncomputable def kV : Key → V
  | .inl i => .int i
  | .inr x => .str x

/-- what stands at a tracked address -/
inductive HO where
  /-- a list -/
  | lst (xs : List V)
  /-- a tuple (never changes) -/
  | tup (xs : List V)
  /-- a dict whose keys are ints and texts; one whose keys are tuples of ints and texts (the empty one is both) -/
  | dK (kvs : List (Key × V)) | dT (kvs : List (List Key × V))
  /-- a set of ints: its members, its size -/
  | set (S : Int → Bool) (n : Nat)
  /-- an instance of the class at C, its dict at dx, its attributes -/
  | ins (C dx : Addr) (fs : List (Str × V))
  /-- the dict of the instance at x -/
  | own (x : Addr)
  /-- the dict of an exception -/
  | xd (fs : List (Str × V))
  /-- a bound method, f of x -/
  | met (f x : Addr)
  /-- a range object lo, lo + 1, .. below hi -/
  | rng (lo hi : Int)
  /-- a thing that is known to the object (the script; a dict while a loop walks it): read, never written while it is so -/
  | frz (o : Obj) (u : HO)
  /-- a code object's table -/
  | tbl (ps : Array Value)
  /-- any other thing, by what is true of its one object (a def of one's own: SetO a S n := HO.ext fun h => ..) -/
  | ext (φ : Heap → Prop)

noncomputable abbrev Hp := Addr → Option HO
noncomputable def upd (H : Hp) (a : Addr) (o : HO) : Hp := fun b => if b = a then some o else H b
theorem upd_same {H : Hp} {a : Addr} {o : HO} : upd H a o a = some o := by unfold upd; rw [if_pos rfl]
theorem upd_ne {H : Hp} {a b : Addr} {o : HO} (h : b ≠ a) : upd H a o b = H b := by unfold upd; rw [if_neg h]
/-- two objects of different content stand apart -/
theorem ne_of {H : Hp} {a b : Addr} {o u : HO} (h : H a = some o) (h' : H b = some u) (d : o ≠ u) : a ≠ b := by
  intro e; subst e; rw [h] at h'; exact d (Option.some.inj h')
theorem ne_of_none {H : Hp} {a b : Addr} {o : HO} (h : H a = some o) (h' : H b = none) : a ≠ b := by
  intro e; subst e; rw [h] at h'; cases h'

section
variable (P : Program) (w : World)
noncomputable def ObjOk (H : Hp) (h : Heap) (a : Addr) : HO → Prop
  | .lst xs => xs.length ≤ sizeLine ∧ ∃ (its : List Value) (n : Nat), Vals xs its ∧ h.get? a = some { cls := .type "list", data := .seq its.toArray n }
  | .tup xs => xs.length ≤ sizeLine ∧ ∃ its : List Value, Vals xs its ∧ IsTup h a its.toArray
  | .dK kvs => kvs.length ≤ sizeLine ∧ (a == sysModules) = false ∧ ∃ vs, KV kvs vs ∧ h.DictOf (mixKind P w) a vs
  | .dT kvs => kvs.length ≤ sizeLine ∧ (a == sysModules) = false ∧ ∃ xs : List (List Key × Addr × Value),
      Paired (fun (p : List Key × V) (q : List Key × Addr × Value) => p.1 = q.1 ∧ H q.2.1 = some (.tup (p.1.map kV)) ∧ RelV p.2 q.2.2) kvs xs ∧
      ∃ o es ep, h.get? a = some o ∧ o.ExactDict ∧ o.data = .dict es ep ∧ es.toList = xs.map (entryOfKey (tupleKind (mixKind P w))) ∧ (xs.map (·.1)).Nodup
  | .set S n => h.SetOf (intKind P w) a S n
  | .ins C dx fs => H dx = some (.own a) ∧ fs.length ≤ 1000 ∧ dx ≠ a ∧ h.get? a = some (PySem.W.instObj C dx) ∧
      ∃ mA, h.Ns1 dx mA ∧ (∀ f, RelO (fs.lookup f) (mA f)) ∧ PySem.Within mA (fs.map (·.1))
  | .own _ => ∃ o, h.get? a = some o
  | .xd fs => ∃ mA, h.Ns1 a mA ∧ ∀ f, RelO (fs.lookup f) (mA f)
  | .rng lo hi => ∃ t u v, h.get? a = some { cls := .type "range", data := .fields #[.int lo t, .int hi u, .int 1 v] }
  | .frz o u => h.get? a = some o ∧ ObjOk H h a u
  | .tbl ps => h.get? a = some { cls := .none, data := .fields ps }
  | .met f x => h.get? a = some (PySem.W.methodObj (.ref f) (.ref x))
  | .ext φ => φ h ∧ (∃ o, h.get? a = some o) ∧ ∀ h1 h2 : Heap, φ h1 → (∀ o, h1.get? a = some o → h2.get? a = some o) → φ h2
/-- the abstract heap is held -/
noncomputable def HOk (H : Hp) (h : Heap) : Prop := ∀ a o, H a = some o → ObjOk P w H h a o
end

section
variable {P : Program} {w : World} {H H' : Hp} {h h' : Heap} {a : Addr} {o : HO}
theorem ObjOk.lt (x : ObjOk P w H h a o) : a < h.objs.size := by
  cases o with
  | lst xs => obtain ⟨_, _, _, _, e⟩ := x; exact Heap.lt_size e
  | tup xs => obtain ⟨_, _, _, p⟩ := x; exact p.lt
  | dK kvs => obtain ⟨_, _, _, _, o, _, _, e, _⟩ := x; exact Heap.lt_size e
  | dT kvs => obtain ⟨_, _, _, _, o, _, _, e, _⟩ := x; exact Heap.lt_size e
  | set S n => obtain ⟨o, _, _, _, e, _⟩ := x; exact Heap.lt_size e
  | ins C dx fs => obtain ⟨_, _, _, e, _⟩ := x; exact Heap.lt_size e
  | own y => obtain ⟨_, e⟩ := x; exact Heap.lt_size e
  | xd fs => obtain ⟨_, ⟨_, _, _, e, _⟩, _⟩ := x; exact Heap.lt_size e
  | rng lo hi => obtain ⟨_, _, _, e⟩ := x; exact Heap.lt_size e
  | frz ob u => obtain ⟨e, _⟩ := x; exact Heap.lt_size e
  | tbl ps => exact Heap.lt_size (show h.get? a = some _ from x)
  | met f y => exact Heap.lt_size (show h.get? a = some _ from x)
  | ext φ => obtain ⟨_, ⟨_, e⟩, _⟩ := x; exact Heap.lt_size e
theorem Paired.mapP {α β : Type} {F G : α → β → Prop} : ∀ {l₁ : List α} {l₂ : List β}, Paired F l₁ l₂ → (∀ a b, F a b → G a b) → Paired G l₁ l₂
  | _, _, .nil, _ => .nil
  | _, _, .cons r t, f => .cons (f _ _ r) (Paired.mapP t f)
/-- what an object's description leans on: its own object, its own dict, the tuples -/
theorem ObjOk.stay (x : ObjOk P w H h a o) (k : ∀ b u, (b = a ∨ H b = some (.own a)) → h.get? b = some u → h'.get? b = some u)
    (ho : ∀ b, H b = some (.own a) → H' b = some (.own a)) (ht : ∀ b xs, H b = some (.tup xs) → H' b = some (.tup xs)) : ObjOk P w H' h' a o := by
  induction o with
  | lst xs => obtain ⟨z, its, n, r, e⟩ := x; exact ⟨z, its, n, r, k _ _ (.inl rfl) e⟩
  | tup xs => obtain ⟨z, its, r, ob, e, c⟩ := x; exact ⟨z, its, r, ob, k _ _ (.inl rfl) e, c⟩
  | dK kvs => obtain ⟨z, y, vs, r, ob, es, ep, e, c⟩ := x; exact ⟨z, y, vs, r, ob, es, ep, k _ _ (.inl rfl) e, c⟩
  | dT kvs =>
    obtain ⟨z, y, xs, r, ob, es, ep, e, c⟩ := x
    exact ⟨z, y, xs, Paired.mapP r fun p q z => ⟨z.1, ht _ _ z.2.1, z.2.2⟩, ob, es, ep, k _ _ (.inl rfl) e, c⟩
  | set S n => obtain ⟨ob, es, ep, t, e, c⟩ := x; exact ⟨ob, es, ep, t, k _ _ (.inl rfl) e, c⟩
  | ins C dx fs =>
    obtain ⟨d, z, ne, e, mA, ⟨od, es, ep, e2, c⟩, r⟩ := x
    exact ⟨ho _ d, z, ne, k _ _ (.inl rfl) e, mA, ⟨od, es, ep, k _ _ (.inr d) e2, c⟩, r⟩
  | own y => obtain ⟨ob, e⟩ := x; exact ⟨ob, k _ _ (.inl rfl) e⟩
  | xd fs => obtain ⟨mA, ⟨od, es, ep, e, c⟩, r⟩ := x; exact ⟨mA, ⟨od, es, ep, k _ _ (.inl rfl) e, c⟩, r⟩
  | rng lo hi => obtain ⟨t, u, v, e⟩ := x; exact ⟨t, u, v, k _ _ (.inl rfl) e⟩
  | frz ob u ih => obtain ⟨e, q⟩ := x; exact ⟨k _ _ (.inl rfl) e, ih q⟩
  | tbl ps =>
    have e : h.get? a = some { cls := .none, data := .fields ps } := x
    show h'.get? a = some { cls := .none, data := .fields ps }
    exact k a _ (.inl rfl) e
  | met f y =>
    have e : h.get? a = some (PySem.W.methodObj (.ref f) (.ref y)) := x
    show h'.get? a = some (PySem.W.methodObj (.ref f) (.ref y))
    exact k a _ (.inl rfl) e
  | ext φ => obtain ⟨p, ⟨o, e⟩, st⟩ := x; exact ⟨st _ _ p fun o q => k _ _ (.inl rfl) q, ⟨o, k _ _ (.inl rfl) e⟩, st⟩
theorem HOk.lt (x : HOk P w H h) (e : H a = some o) : a < h.objs.size := (x a o e).lt
theorem HOk.fresh (x : HOk P w H h) (e : h.objs.size ≤ a) : H a = none := by
  cases q : H a with
  | none => rfl
  | some u => exact absurd (Nat.lt_of_lt_of_le (x.lt q) e) (Nat.lt_irrefl _)
/-- every object of the heap is kept -/
theorem HOk.kept (x : HOk P w H h) (k : ∀ b u, h.get? b = some u → h'.get? b = some u) : HOk P w H h' := fun a o e =>
  (x a o e).stay (fun b u _ q => k b u q) (fun _ q => q) fun _ _ q => q
/-- a new object is laid and tracked -/
theorem HOk.laid (x : HOk P w H h) (k : ∀ b u, h.get? b = some u → h'.get? b = some u) (hp : h.objs.size ≤ a) (new : ObjOk P w (upd H a o) h' a o) : HOk P w (upd H a o) h' := fun b u e => by
  have hn := x.fresh hp
  by_cases hb : b = a
  · subst hb; rw [upd_same] at e; cases e; exact new
  · rw [upd_ne hb] at e
    exact (x b u e).stay (fun c v _ q => k c v q) (fun c q => by rw [upd_ne (ne_of_none q hn)]; exact q) fun c xs q => by rw [upd_ne (ne_of_none q hn)]; exact q
end

/-- what may be read as u: it is u, or a known u -/
noncomputable def Rd (H : Hp) (a : Addr) (u : HO) : Prop := H a = some u ∨ ∃ o, H a = some (.frz o u)
theorem Rd.of {H : Hp} {a : Addr} {u : HO} (h : H a = some u) : Rd H a u := .inl h
theorem Rd.ok {P : Program} {w : World} {H : Hp} {h : Heap} {a : Addr} {u : HO} (r : Rd H a u) (x : HOk P w H h) : ObjOk P w H h a u := by
  rcases r with r | ⟨o, r⟩
  · exact x a u r
  · obtain ⟨_, q⟩ := x a _ r
    exact q
/-- what may be written -/
noncomputable def Mut : Option HO → Prop
  | some (.lst _) => True
  | some (.dK _) => True
  | some (.dT _) => True
  | some (.set _ _) => True
  | some (.ins _ _ _) => True
  | some (.ext _) => True
  | _ => False
section
variable {P : Program} {w : World} {H : Hp} {h h' : Heap} {x e : Addr} {o' : HO}
/-- the object at e is changed: x itself, or the dict of the instance x -/
theorem HOk.write (ok : HOk P w H h) (mu : Mut (H x)) (he : e = x ∨ H e = some (.own x)) (k : ∀ b u, b ≠ e → h.get? b = some u → h'.get? b = some u) (heo : ∃ u, h'.get? e = some u)
    (new : ObjOk P w (upd H x o') h' x o') : HOk P w (upd H x o') h' := fun b u q => by
  have nown : ∀ c y, H c = some (.own y) → c ≠ x := fun c y r z => by subst z; rw [r] at mu; exact mu
  have ntup : ∀ c xs, H c = some (.tup xs) → c ≠ x := fun c xs r z => by subst z; rw [r] at mu; exact mu
  by_cases hb : b = x
  · subst hb; rw [upd_same] at q; cases q; exact new
  · rw [upd_ne hb] at q
    by_cases hbe : b = e
    · have q' : H b = some (.own x) := by
        rcases he with z | z
        · exact absurd (hbe.trans z) hb
        · rw [hbe]; exact z
      rw [q] at q'; cases q'
      obtain ⟨v, hv⟩ := heo
      exact ⟨v, by rw [hbe]; exact hv⟩
    · refine (ok b u q).stay (fun c v hc r => k c v ?_ r) (fun c r => by rw [upd_ne (nown c b r)]; exact r) fun c xs r => by rw [upd_ne (ntup c xs r)]; exact r
      rcases hc with rfl | hc
      · exact hbe
      · rintro rfl
        rcases he with z | z
        · exact nown c b hc z
        · rw [hc] at z; cases z; exact hb rfl
end

/-! ### kept unless tracked; of the frames at fs (the callers') the slots may change (an exception that passes writes there); of the records at ex (iterators) nothing is said -/
structure Un (fs ex : List Addr) (H H' : Hp) (h h' : Heap) : Prop where
  keep : ∀ b o, h.get? b = some o → H b = none → b ∉ fs → b ∉ ex → h'.get? b = some o
  slot : ∀ b o, h.get? b = some o → H b = none → b ∈ fs → b ∉ ex → ∃ sl, h'.get? b = some { o with slots := sl }
  free : ∀ b o, h.get? b = some o → H b = none → b ∉ ex → H' b = none
  there : ∀ b o, h.get? b = some o → b ∉ ex → ∃ o', h'.get? b = some o'
  tups : ∀ b xs, H b = some (.tup xs) → H' b = some (.tup xs)
  frzs : ∀ b o u, H b = some (.frz o u) → H' b = some (.frz o u)
  tbls : ∀ b ps, H b = some (.tbl ps) → ∃ more, H' b = some (.tbl (ps ++ more))
section
variable {fs fs' ex ex' : List Addr} {H H1 H2 : Hp} {h h1 h2 h' : Heap} {a x e : Addr} {o : HO}
theorem Un.any (u : Un fs ex H H1 h h1) {b : Addr} {ob : Obj} (q : h.get? b = some ob) (n : H b = none) (hx : b ∉ ex) : ∃ sl, h1.get? b = some { ob with slots := sl } := by
  by_cases hb : b ∈ fs
  · exact u.slot b ob q n hb hx
  · exact ⟨ob.slots, u.keep b ob q n hb hx⟩
theorem Un.trans (a : Un fs ex H H1 h h1) (b : Un fs ex H1 H2 h1 h2) : Un fs ex H H2 h h2 where
  keep := fun c ob q n hc hx => b.keep c ob (a.keep c ob q n hc hx) (a.free c ob q n hx) hc hx
  slot := fun c ob q n hc hx => by
    obtain ⟨sl, e1⟩ := a.slot c ob q n hc hx
    obtain ⟨sl', e2⟩ := b.slot c _ e1 (a.free c ob q n hx) hc hx
    exact ⟨sl', e2⟩
  free := fun c ob q n hx => by
    obtain ⟨o', e1⟩ := a.there c ob q hx
    exact b.free c o' e1 (a.free c ob q n hx) hx
  there := fun c ob q hx => by
    obtain ⟨o', e1⟩ := a.there c ob q hx
    exact b.there c o' e1 hx
  tups := fun c xs q => b.tups c xs (a.tups c xs q)
  frzs := fun c ob xs q => b.frzs c ob xs (a.frzs c ob xs q)
  tbls := fun c ps q => by
    obtain ⟨m1, e1⟩ := a.tbls c ps q
    obtain ⟨m2, e2⟩ := b.tbls c _ e1
    exact ⟨m1 ++ m2, by rw [e2, Array.append_assoc]⟩
theorem Un.kept (k : ∀ b u, h.get? b = some u → h'.get? b = some u) : Un fs ex H H h h' :=
  ⟨fun b ob q _ _ _ => k b ob q, fun b ob q _ _ _ => ⟨ob.slots, k b ob q⟩, fun _ _ _ n _ => n, fun b ob q _ => ⟨ob, k b ob q⟩, fun _ _ q => q, fun _ _ _ q => q, fun _ ps q => ⟨#[], by rw [q]; simp⟩⟩
theorem Un.refl : Un fs ex H H h h := Un.kept fun _ _ q => q
theorem Un.laid (k : ∀ b u, h.get? b = some u → h'.get? b = some u) (hp : h.objs.size ≤ a) (hn : H a = none) : Un fs ex H (upd H a o) h h' where
  keep := fun b u q _ _ _ => k b u q
  slot := fun b u q _ _ _ => ⟨u.slots, k b u q⟩
  free := fun b u q n _ => by rw [upd_ne (Nat.ne_of_lt (Nat.lt_of_lt_of_le (Heap.lt_size q) hp))]; exact n
  there := fun b u q _ => ⟨u, k b u q⟩
  tups := fun b xs q => by rw [upd_ne (ne_of_none q hn)]; exact q
  frzs := fun b u xs q => by rw [upd_ne (ne_of_none q hn)]; exact q
  tbls := fun b ps q => ⟨#[], by rw [upd_ne (ne_of_none q hn), q]; simp⟩
theorem Un.write (mu : Mut (H x)) (he : e = x ∨ H e = some (.own x)) (k : ∀ b u, b ≠ e → h.get? b = some u → h'.get? b = some u) (heo : ∃ u, h'.get? e = some u) : Un fs ex H (upd H x o) h h' := by
  have hx : ∀ b, H b = none → b ≠ x := fun b n z => by subst z; rw [n] at mu; exact mu
  have hb : ∀ b, H b = none → b ≠ e := fun b n z => by
    subst z
    rcases he with r | r
    · exact hx b n r
    · rw [n] at r; cases r
  have hm : ∀ b u, H b = some u → ¬ Mut (some u) → b ≠ x := fun b u q nm z => by subst z; rw [q] at mu; exact nm mu
  refine ⟨fun b u q n _ _ => k b u (hb b n) q, fun b u q n _ _ => ⟨u.slots, k b u (hb b n) q⟩, fun b u q n _ => by rw [upd_ne (hx b n)]; exact n, fun b u q _ => ?_,
    fun b xs q => by rw [upd_ne (hm b _ q fun z => z)]; exact q, fun b u xs q => by rw [upd_ne (hm b _ q fun z => z)]; exact q, fun b ps q => ⟨#[], by rw [upd_ne (hm b _ q fun z => z), q]; simp⟩⟩
  by_cases hbe : b = e
  · subst hbe; exact heo
  · exact ⟨u, k b u hbe q⟩
theorem Un.mono (u : Un fs ex H H1 h h1) (hs : ∀ b ∈ fs, b ∈ fs') (hx : ∀ b ∈ ex, b ∈ ex') : Un fs' ex' H H1 h h1 :=
  ⟨fun b ob q n hb he => u.keep b ob q n (fun z => hb (hs b z)) fun z => he (hx b z), fun _ _ q n _ he => u.any q n fun z => he (hx _ z), fun b ob q n he => u.free b ob q n fun z => he (hx b z), fun b ob q he => u.there b ob q fun z => he (hx b z), u.tups, u.frzs, u.tbls⟩
end

/-! ### the heap without what is tracked -/
noncomputable def trk (h : Heap) (H : Hp) : List Addr := (List.range h.objs.size).filter fun a => (H a).isSome
noncomputable def hidT (h : Heap) (H : Hp) : Heap := PySem.W.hideAll h (trk h H)
theorem hidT_size (h : Heap) (H : Hp) : (hidT h H).objs.size = h.objs.size := PySem.W.hideAll_size _ _
theorem hidT_get {h : Heap} {H : Hp} {b : Addr} {o : Obj} (e : h.get? b = some o) (n : H b = none) : (hidT h H).get? b = some o :=
  PySem.W.hideAll_get _ e fun hm => by
    have q : (H b).isSome = true := (List.mem_filter.mp hm).2
    rw [n] at q; simp at q
theorem of_hidT {h : Heap} {H : Hp} {b : Addr} {o : Obj} (e : (hidT h H).get? b = some o) : h.get? b = some o ∧ H b = none := by
  have e' : h.get? b = some o := PySem.W.of_hideAll (trk h H) e
  refine ⟨e', ?_⟩
  cases q : H b with
  | none => rfl
  | some x =>
    have hm : b ∈ trk h H := List.mem_filter.mpr ⟨List.mem_range.mpr (Heap.lt_size e'), by simp [q]⟩
    have z : (hidT h H).get? b = none := PySem.W.hideAll_none (trk h H) hm
    rw [z] at e; cases e

/-! ### OpenK's ledger, filled with every new object but one -/
noncomputable def allNews (g h : Heap) (L : Addr) : List (Addr × Obj) := (List.range h.objs.size).filterMap fun a => if a = L ∨ (g.get? a).isSome = true then none else (h.get? a).map fun o => (a, o)
noncomputable def rest (g h : Heap) (L d : Addr) : List (Addr × Obj) := (allNews g h L).filter fun p => decide (p.1 ≠ d)
end L2

namespace L2
open PySem PySem.Spec PyProof.Rows

/-- the module's facts, over the base: the heap at the law's entry without what is tracked there -/
structure Mod (K : PySem.W.Frag) (mg : Str → Option Value) (base : Heap) : Prop where
  kin : K.In base
  glob : base.Ns mainGlobals mg
  blt : ∃ mb, base.Ns builtinsNs mb ∧ ∀ x : Str, x ≠ "__name__" → mb x = bootBuiltins x
  nolimit : base.NoLimit

/-- the context: a def's body (or a comprehension's block) running. base: fixed through the whole law; s₀, H₀: the entry; outer: the frames whose slots others may change (a def's callers); stack: all frames that run;
   ex: iterators that were made ahead of the entry and are walked here (a comprehension's); fn: the names whose cells were made at the entry (a def: all; a comprehension's block: its own); calm: not within an except suite; pn: pins that every state bears; xe: what is wanted of an exception that leaves the code -/
structure Cx where
  prog : Program
  w : World
  K : PySem.W.Frag
  mg : Str → Option Value
  base : Heap
  A : Around
  N : List Str
  s₀ : Shared
  H₀ : Hp
  env : Env
  outer : List Env
  stack : List Env
  ex : List Addr
  fn : Str → Bool
  calm : Bool
  pn : List (Addr × Obj)
  xe : Value → Shared → Prop
/-- the callers' frames -/
noncomputable def frs (l : List Env) : List Addr := l.filterMap (·.frame)
noncomputable abbrev Cx.fs (X : Cx) : List Addr := frs X.outer

noncomputable def Vis (sc : Scope) (x : Str) : Prop := sc.names.lookup x = some .local ∨ sc.names.lookup x = some .cell ∨ sc.names.lookup x = some .free
noncomputable def Loc (sc : Scope) (x : Str) : Prop := sc.names.lookup x = some .local ∨ sc.names.lookup x = some .cell
noncomputable def Look (env : Env) (h : Heap) (m : Str → Option Value) (x : Str) (u : Value) : Prop :=
  (env.kindOf x = some .local ∧ m x = some u) ∨ ((env.kindOf x = some .cell ∨ env.kindOf x = some .free) ∧ ∃ c, env.cells.lookup x = some c ∧ h.IsCell c (some u))

structure Cx.Ok (X : Cx) : Prop where
  mod : Mod X.K X.mg X.base
  kind : X.env.scope.kind = .function
  glob : X.env.globals = mainGlobals
  blt : X.env.builtins = builtinsNs
  above : X.s₀.heap.objs.size ≤ X.env.locals
  inj : ∀ x y c, X.env.cells.lookup x = some c → X.env.cells.lookup y = some c → x = y
  has : ∀ x, (X.env.kindOf x = some .cell ∨ X.env.kindOf x = some .free) → ∃ c, X.env.cells.lookup x = some c
  cab : ∀ x c, X.fn x = true → X.env.cells.lookup x = some c → X.s₀.heap.objs.size ≤ c
  hd : X.calm = true → X.A.handled = none
  frames : X.A.frames = some X.stack
  stk : X.stack = X.outer ∨ (X.stack = X.env :: X.outer ∧ X.env.frame = some X.env.locals)
  exf : ∀ b ∈ X.ex, b ≠ X.env.locals ∧ ∀ x c, X.env.cells.lookup x = some c → c ≠ b
  bs : ∀ b o, X.base.get? b = some o → X.s₀.heap.get? b = some o ∧ X.H₀ b = none
  bsz : X.base.objs.size ≤ X.s₀.heap.objs.size
  noex : ∀ b o, X.base.get? b = some o → b ∉ X.ex
  exfs : ∀ b ∈ X.ex, b ∉ X.fs
  funs : X.s₀.heap.FunFrames X.base X.outer
  frf : ∀ b ∈ X.fs, X.H₀ b = none

structure Inv (X : Cx) (pins : List (Addr × Obj)) (σ : List (Option V)) (H : Hp) (s : Shared) : Prop where
  ok : X.Ok
  os : s.os = X.s₀.os
  bare : AllBare s.gens
  base : Un X.fs X.ex X.H₀ H X.s₀.heap s.heap
  loc : ∃ m, s.heap.Ns X.env.locals m ∧ ∀ (i : Nat) (x : Str) (v : V), X.N[i]? = some x → σ[i]? = some (some v) → Vis X.env.scope x → ∃ u, RelV v u ∧ Look X.env s.heap m x u
  cell : ∀ x c, X.env.cells.lookup x = some c → ∃ v, s.heap.IsCell c v
  free : H X.env.locals = none
  freeC : ∀ x c, X.env.cells.lookup x = some c → H c = none
  pin : ∀ p ∈ X.pn ++ pins, s.heap.get? p.1 = some p.2 ∧ H p.1 = none ∧ p.1 ≠ X.env.locals ∧ p.1 ∉ X.fs ∧ ∀ v, p.2.data ≠ .cell v
  hok : HOk X.prog X.w H s.heap
  len : σ.length = X.N.length

section
variable {X : Cx} {pins : List (Addr × Obj)} {σ : List (Option V)} {H H' : Hp} {s : Shared} {h' : Heap}

theorem Cx.Ok.nofr (ok : X.Ok) {b : Addr} {o : Obj} (e : X.base.get? b = some o) : b ∉ X.fs := fun hb => by
  have := (ok.funs.mem hb).1
  rw [e] at this; cases this
theorem Inv.bs (I : Inv X pins σ H s) : ∀ b o, X.base.get? b = some o → s.heap.get? b = some o ∧ H b = none := fun b o e =>
  ⟨I.base.keep b o (I.ok.bs b o e).1 (I.ok.bs b o e).2 (I.ok.nofr e) (I.ok.noex b o e), I.base.free b o (I.ok.bs b o e).1 (I.ok.bs b o e).2 (I.ok.noex b o e)⟩
theorem Inv.bk (I : Inv X pins σ H s) : ∀ b o, X.base.get? b = some o → s.heap.get? b = some o := fun b o e => (I.bs b o e).1
theorem Inv.mod (I : Inv X pins σ H s) : Mod X.K X.mg X.base := I.ok.mod
theorem Inv.kIn (I : Inv X pins σ H s) : X.K.In s.heap := I.ok.mod.kin.keeps I.bk
theorem Inv.nolimit (I : Inv X pins σ H s) : s.heap.NoLimit := I.ok.mod.nolimit.keeps I.bk
/-- the frame over the base: for OpenK's rules (K.In X.base is I.mod.kin) -/
theorem Inv.fr (I : Inv X pins σ H s) : ∃ m, Fr X.base X.env.locals s.heap m :=
  let ⟨m, hn, _⟩ := I.loc
  ⟨m, hn, I.bk, Nat.le_trans I.ok.bsz I.ok.above⟩
theorem Inv.lt (I : Inv X pins σ H s) : X.env.locals < s.heap.objs.size := let ⟨_, hn, _⟩ := I.loc; hn.lt
theorem Inv.sz (I : Inv X pins σ H s) : X.s₀.heap.objs.size ≤ s.heap.objs.size := Nat.le_trans I.ok.above (Nat.le_of_lt I.lt)
theorem Inv.nofs (I : Inv X pins σ H s) {a : Addr} (h : s.heap.objs.size ≤ a) : a ∉ X.fs := fun hb => by
  obtain ⟨_, o, ho, _⟩ := I.ok.funs.mem hb
  exact absurd (Nat.lt_of_lt_of_le (Heap.lt_size ho) (Nat.le_trans I.sz h)) (Nat.lt_irrefl _)
theorem Inv.cne (I : Inv X pins σ H s) : ∀ x c, X.env.cells.lookup x = some c → c ≠ X.env.locals := fun x c e z => by
  obtain ⟨v, o, ho, hd⟩ := I.cell x c e
  obtain ⟨m, ⟨o', es, ep, ho', hd', _⟩, _⟩ := I.loc
  rw [z, ho'] at ho; cases ho; rw [hd'] at hd; cases hd
theorem Inv.funs (I : Inv X pins σ H s) : s.heap.FunFrames X.base X.outer := by
  have all : ∀ (l : List Env), (∀ b ∈ frs l, b ∈ X.fs) → X.s₀.heap.FunFrames X.base l → s.heap.FunFrames X.base l := by
    intro l
    induction l with
    | nil => intro _ _; trivial
    | cons env r ih =>
      intro hs hl
      obtain ⟨hk, ⟨L, o, hf, hn, ho, hd⟩, hr⟩ := hl
      have hL : L ∈ X.fs := hs L (by unfold frs; rw [List.filterMap_cons, hf]; exact List.mem_cons_self)
      obtain ⟨sl, e⟩ := I.base.slot L o ho (I.ok.frf L hL) hL fun z => I.ok.exfs L z hL
      exact ⟨hk, ⟨L, _, hf, hn, e, hd⟩, ih (fun b hb => hs b (by unfold frs; rw [List.filterMap_cons, hf]; exact List.mem_cons_of_mem _ hb)) hr⟩
  exact all X.outer (fun _ hb => hb) I.ok.funs

/-- the frames that run, for a call -/
theorem Inv.stack (I : Inv X pins σ H s) : s.heap.FunFrames X.base X.stack := by
  rcases I.ok.stk with e | ⟨e, hf⟩
  · rw [e]; exact I.funs
  · rw [e]
    obtain ⟨m, hn, _⟩ := I.loc
    refine .cons (by rw [I.ok.kind]; decide) hf hn ?_ I.funs
    exact Heap.get?_none_of_le (Nat.le_trans I.ok.bsz I.ok.above)
theorem Inv.stkSub (I : Inv X pins σ H s) : ∀ b ∈ frs X.stack, b ∈ X.env.locals :: X.fs := fun b hb => by
  rcases I.ok.stk with e | ⟨e, hf⟩
  · rw [e] at hb; exact List.mem_cons_of_mem _ hb
  · rw [e] at hb
    unfold frs at hb
    rw [List.filterMap_cons, hf] at hb
    exact hb
theorem Inv.stkFree (I : Inv X pins σ H s) : ∀ b ∈ frs X.stack, H b = none := fun b hb => by
  rcases List.mem_cons.mp (I.stkSub b hb) with e | hb
  · rw [e]; exact I.free
  · obtain ⟨_, o, ho, _⟩ := I.ok.funs.mem hb
    exact I.base.free b o ho (I.ok.frf b hb) fun z => I.ok.exfs b z hb

/-- THE STEP: the untracked objects but the frame and the records at ch are kept (the callers' frames up to slots), the frame's map is kept, the new abstract heap is held -/
theorem Inv.step {g' : Array GenState} {t' : Nat} {d' : Drawn} {ch : List Addr} (I : Inv X pins σ H s)
    (hch : ∀ b ∈ ch, (b ∈ X.ex ∨ X.s₀.heap.objs.size ≤ b) ∧ b ≠ X.env.locals ∧ (∀ x c, X.env.cells.lookup x = some c → c ≠ b) ∧ ∀ p ∈ X.pn ++ pins, p.1 ≠ b)
    (keep : ∀ b o, b ≠ X.env.locals → b ∉ X.fs → b ∉ ch → s.heap.get? b = some o → H b = none → h'.get? b = some o)
    (slot : ∀ b o, b ≠ X.env.locals → b ∈ X.fs → b ∉ ch → s.heap.get? b = some o → H b = none → ∃ sl, h'.get? b = some { o with slots := sl }) (free : ∀ b o, b ∉ ch → s.heap.get? b = some o → H b = none → H' b = none)
    (there : ∀ b o, b ∉ ch → s.heap.get? b = some o → ∃ o', h'.get? b = some o')
    (tups : ∀ b xs, H b = some (.tup xs) → H' b = some (.tup xs)) (frzs : ∀ b o u, H b = some (.frz o u) → H' b = some (.frz o u)) (tbls : ∀ b ps, H b = some (.tbl ps) → ∃ more, H' b = some (.tbl (ps ++ more)))
    (ns : ∀ m, s.heap.Ns X.env.locals m → h'.Ns X.env.locals m) (hok : HOk X.prog X.w H' h') (hg : AllBare g') :
    Inv X pins σ H' { s with heap := h', gens := g', drawn := d', toks := t' } := by
  have neL : ∀ b o, X.s₀.heap.get? b = some o → b ≠ X.env.locals := fun b o e => Nat.ne_of_lt (Nat.lt_of_lt_of_le (Heap.lt_size e) I.ok.above)
  have neC : ∀ b o, X.s₀.heap.get? b = some o → b ∉ X.ex → b ∉ ch := fun b o e hx hb => by
    rcases (hch b hb).1 with z | z
    · exact hx z
    · exact absurd (Nat.lt_of_lt_of_le (Heap.lt_size e) z) (Nat.lt_irrefl _)
  have cellK : ∀ x c, X.env.cells.lookup x = some c → ∀ v, s.heap.IsCell c v → h'.IsCell c v := fun x c e v ⟨o, ho, hd⟩ => by
    have nch : c ∉ ch := fun z => (hch c z).2.2.1 x c e rfl
    by_cases hc : c ∈ X.fs
    · obtain ⟨sl, q⟩ := slot c o (I.cne x c e) hc nch ho (I.freeC x c e)
      exact ⟨_, q, hd⟩
    · exact ⟨o, keep c o (I.cne x c e) hc nch ho (I.freeC x c e), hd⟩
  refine ⟨I.ok, I.os, hg, ⟨fun b o e n hb hx => ?_, fun b o e n hb hx => ?_, fun b o e n hx => ?_, fun b o e hx => ?_, fun b xs e => tups b xs (I.base.tups b xs e), fun b o xs e => frzs b o xs (I.base.frzs b o xs e), fun b ps e => ?_⟩, ?_, fun x c e => ?_, ?_, fun x c e => ?_, fun p hp => ?_, hok, I.len⟩
  · exact keep b o (neL b o e) hb (neC b o e hx) (I.base.keep b o e n hb hx) (I.base.free b o e n hx)
  · obtain ⟨sl, e1⟩ := I.base.slot b o e n hb hx
    obtain ⟨sl', e2⟩ := slot b _ (neL b o e) hb (neC b o e hx) e1 (I.base.free b o e n hx)
    exact ⟨sl', e2⟩
  · obtain ⟨o', e1⟩ := I.base.there b o e hx
    exact free b o' (neC b o e hx) e1 (I.base.free b o e n hx)
  · obtain ⟨o', e1⟩ := I.base.there b o e hx
    exact there b o' (neC b o e hx) e1
  · obtain ⟨m1, e1⟩ := I.base.tbls b ps e
    obtain ⟨m2, e2⟩ := tbls b _ e1
    exact ⟨m1 ++ m2, by rw [e2, Array.append_assoc]⟩
  · obtain ⟨m, hn, hl⟩ := I.loc
    refine ⟨m, ns m hn, fun i x v e1 e2 e3 => ?_⟩
    obtain ⟨u, r, l⟩ := hl i x v e1 e2 e3
    refine ⟨u, r, ?_⟩
    rcases l with l | ⟨k, c, e, z⟩
    · exact .inl l
    · exact .inr ⟨k, c, e, cellK x c e _ z⟩
  · obtain ⟨v, z⟩ := I.cell x c e
    exact ⟨v, cellK x c e v z⟩
  · obtain ⟨m, ⟨o, _, _, ho, _⟩, _⟩ := I.loc
    exact free _ o (fun z => (hch _ z).2.1 rfl) ho I.free
  · obtain ⟨v, o, ho, hd⟩ := I.cell x c e
    exact free c o (fun z => (hch c z).2.2.1 x c e rfl) ho (I.freeC x c e)
  · obtain ⟨e, n, ne, nf, d⟩ := I.pin p hp
    have nch : p.1 ∉ ch := fun z => (hch p.1 z).2.2.2 p hp rfl
    exact ⟨keep p.1 p.2 ne nf nch e n, free p.1 p.2 nch e n, ne, nf, d⟩
/-- .. where the frame's own object is kept too -/
theorem Inv.un {t' : Nat} (I : Inv X pins σ H s) (u : Un X.fs [] H H' s.heap h') (hok : HOk X.prog X.w H' h') : Inv X pins σ H' { s with heap := h', toks := t' } := by
  obtain ⟨m, ⟨o, es, ep, ho, r⟩, _⟩ := id I.loc
  obtain ⟨sl, hL⟩ := u.any ho I.free (by simp)
  exact I.step (g' := s.gens) (d' := s.drawn) (ch := []) (fun _ z => nomatch z) (fun b o _ hb _ e n => u.keep b o e n hb (by simp)) (fun b o _ hb _ e n => u.slot b o e n hb (by simp)) (fun b o _ e n => u.free b o e n (by simp)) (fun b o _ e => u.there b o e (by simp)) u.tups u.frzs u.tbls (fun m' hm => by
    obtain ⟨o', es', ep', ho', r'⟩ := hm
    rw [ho] at ho'; cases ho'
    exact ⟨_, es', ep', hL, r'⟩) hok I.bare
/-- behind a call (or a comprehension's block): the slots of this frame may have changed too, the records at ch may have turned -/
theorem Inv.call {g' : Array GenState} {t' : Nat} {d' : Drawn} {ch : List Addr} (I : Inv X pins σ H s) (u : Un (frs X.stack) ch H H' s.heap h') (hok : HOk X.prog X.w H' h') (hg : AllBare g')
    (hch : ∀ b ∈ ch, (b ∈ X.ex ∨ X.s₀.heap.objs.size ≤ b) ∧ b ≠ X.env.locals ∧ (∀ x c, X.env.cells.lookup x = some c → c ≠ b) ∧ ∀ p ∈ X.pn ++ pins, p.1 ≠ b) :
    Inv X pins σ H' { s with heap := h', gens := g', drawn := d', toks := t' } := by
  obtain ⟨m, ⟨o, es, ep, ho, r⟩, _⟩ := id I.loc
  obtain ⟨sl, hL⟩ := u.any ho I.free fun z => (hch _ z).2.1 rfl
  exact I.step (ch := ch) hch (fun b o hL hb hc e n => u.keep b o e n (fun z => (List.mem_cons.mp (I.stkSub b z)).elim hL hb) hc) (fun b o _ _ hc e n => u.any e n hc) (fun b o hc e n => u.free b o e n hc) (fun b o hc e => u.there b o e hc) u.tups u.frzs u.tbls (fun m' hm => by
    obtain ⟨o', es', ep', ho', r'⟩ := hm
    rw [ho] at ho'; cases ho'
    exact ⟨_, es', ep', hL, r'⟩) hok hg
/-- an untracked record of ours (an iterator) has turned -/
theorem Inv.turned {t' : Nat} {it : Addr} (I : Inv X pins σ H s) (k : ∀ b o, b ≠ it → s.heap.get? b = some o → h'.get? b = some o) (hn : H it = none) (hL : it ≠ X.env.locals)
    (h1 : it ∈ X.ex ∨ X.s₀.heap.objs.size ≤ it) (h2 : ∀ x c, X.env.cells.lookup x = some c → c ≠ it) (h3 : ∀ p ∈ X.pn ++ pins, p.1 ≠ it) : Inv X pins σ H { s with heap := h', toks := t' } := by
  have nit : ∀ b u, H b = some u → b ≠ it := fun b u e z => by rw [z, hn] at e; cases e
  refine I.step (g' := s.gens) (d' := s.drawn) (ch := [it]) (fun b hb => ?_) (fun b o _ _ hc e _ => k b o (fun z => hc (by simp [z])) e) (fun b o _ _ hc e _ => ⟨o.slots, k b o (fun z => hc (by simp [z])) e⟩) (fun _ _ _ _ n => n)
    (fun b o hc e => ⟨o, k b o (fun z => hc (by simp [z])) e⟩) (fun _ _ e => e) (fun _ _ _ e => e) (fun b ps e => ⟨#[], by rw [e]; simp⟩) (fun m hm => ?_) (fun b u e => ?_) I.bare
  · have e : b = it := by simpa using hb
    subst e
    exact ⟨h1, hL, h2, h3⟩
  · obtain ⟨o, es, ep, ho, r⟩ := hm
    exact ⟨o, es, ep, k _ o (Ne.symm hL) ho, r⟩
  · refine (I.hok b u e).stay (fun c v hc q => k c v ?_ q) (fun _ q => q) fun _ _ q => q
    rcases hc with z | z
    · rw [z]; exact nit b u e
    · exact nit c _ z
theorem Inv.tok (I : Inv X pins σ H s) (t : Nat) : Inv X pins σ H { s with toks := t } := I.un (h' := s.heap) (t' := t) Un.refl I.hok
/-- all objects kept -/
theorem Inv.kept {t' : Nat} (I : Inv X pins σ H s) (k : ∀ b u, s.heap.get? b = some u → h'.get? b = some u) : Inv X pins σ H { s with heap := h', toks := t' } := I.un (Un.kept k) (I.hok.kept k)
/-- a new object laid and tracked -/
theorem Inv.laid {a : Addr} {o : HO} {t' : Nat} (I : Inv X pins σ H s) (k : ∀ b u, s.heap.get? b = some u → h'.get? b = some u) (hp : s.heap.objs.size ≤ a) (new : ObjOk X.prog X.w (upd H a o) h' a o) :
    Inv X pins σ (upd H a o) { s with heap := h', toks := t' } := I.un (Un.laid k hp (I.hok.fresh hp)) (I.hok.laid k hp new)
/-- an object written -/
theorem Inv.write {x e : Addr} {o : HO} {t' : Nat} (I : Inv X pins σ H s) (mu : Mut (H x)) (he : e = x ∨ H e = some (.own x)) (k : ∀ b u, b ≠ e → s.heap.get? b = some u → h'.get? b = some u) (heo : ∃ u, h'.get? e = some u)
    (new : ObjOk X.prog X.w (upd H x o) h' x o) : Inv X pins σ (upd H x o) { s with heap := h', toks := t' } := I.un (Un.write mu he k heo) (I.hok.write mu he k heo new)
theorem Inv.pins_of {pins' : List (Addr × Obj)} (I : Inv X pins σ H s) (h : ∀ p ∈ pins', s.heap.get? p.1 = some p.2 ∧ H p.1 = none ∧ p.1 ≠ X.env.locals ∧ p.1 ∉ X.fs ∧ ∀ v, p.2.data ≠ .cell v) : Inv X pins' σ H s :=
  ⟨I.ok, I.os, I.bare, I.base, I.loc, I.cell, I.free, I.freeC, fun p hp => (List.mem_append.mp hp).elim (fun z => I.pin p (List.mem_append_left _ z)) (h p), I.hok, I.len⟩

theorem nodup_ix {N : List Str} (hN : N.Nodup) {i j : Nat} {x : Str} (a : N[i]? = some x) (b : N[j]? = some x) : i = j := by
  obtain ⟨h1, e1⟩ := List.getElem?_eq_some_iff.mp a
  obtain ⟨h2, e2⟩ := List.getElem?_eq_some_iff.mp b
  exact (List.getElem_inj hN).mp (e1.trans e2.symm)

/-- a name is stored; what changed -/
theorem store_ok2 {M : Model} {A : Around} {E : Value → Shared → Prop} {i : Nat} {x : Str} {v : V} {u : Value} {Q : Unit → Shared → Prop} (I : Inv X pins σ H s) (hN : X.N.Nodup) (hi : X.N[i]? = some x) (hx : Loc X.env.scope x) (r : RelV v u)
    (h : ∀ s', Inv X pins (σ.set i (some v)) H s' → (∃ a, Heap.SameBut a s.heap s'.heap ∧ (a = X.env.locals ∨ X.env.cells.lookup x = some a)) → Q () s') (hf : X.fn x = true ∨ X.env.scope.names.lookup x = some .local := by first | exact .inl rfl | exact .inr rfl | assumption) : wpAny M A (storeName X.env x u) Q E s := by
  obtain ⟨m, hn, hl⟩ := id I.loc
  have hcls : (X.env.scope.kind == .class || (X.env.scope.kind == .module && X.env.locals != X.env.globals)) = false := by rw [I.ok.kind]; rfl
  have hiσ : i < σ.length := by rw [I.len]; exact (List.getElem?_eq_some_iff.mp hi).1
  have cne := I.cne
  have tracked : ∀ {a : Addr} {h' : Heap}, (∃ o, s.heap.get? a = some o ∧ H a = none) → Heap.SameBut a s.heap h' → HOk X.prog X.w H h' := fun {a h'} ha hs b ob e => by
    obtain ⟨_, _, hfree⟩ := ha
    refine (I.hok b ob e).stay (fun c w' hc q => (hs.2 c ?_).trans q) (fun _ q => q) fun _ _ q => q
    rintro rfl
    rcases hc with rfl | hc
    · rw [hfree] at e; cases e
    · rw [hfree] at hc; cases hc
  rcases hx with hk | hk
  · refine wpAny_storeName_local hk hn (fun h' hn' hs => ?_) hcls
    obtain ⟨oL, _, _, hoL, _⟩ := id hn
    refine h _ ⟨I.ok, I.os, I.bare, ⟨fun b o e n hb hx => ?_, fun b o e n hb hx => ?_, I.base.free, fun b o e hx => ?_, I.base.tups, I.base.frzs, I.base.tbls⟩, ⟨_, hn', fun j y v' e1 e2 e3 => ?_⟩, fun y c e => ?_, I.free, I.freeC, fun p hp => ?_, tracked ⟨oL, hoL, I.free⟩ hs, by simpa using I.len⟩ ⟨_, hs, .inl rfl⟩
    · exact (hs.2 b (Nat.ne_of_lt (Nat.lt_of_lt_of_le (Heap.lt_size e) I.ok.above))).trans (I.base.keep b o e n hb hx)
    · obtain ⟨sl, e1⟩ := I.base.slot b o e n hb hx
      exact ⟨sl, (hs.2 b (Nat.ne_of_lt (Nat.lt_of_lt_of_le (Heap.lt_size e) I.ok.above))).trans e1⟩
    · obtain ⟨o', e1⟩ := I.base.there b o e hx
      exact ⟨o', (hs.2 b (Nat.ne_of_lt (Nat.lt_of_lt_of_le (Heap.lt_size e) I.ok.above))).trans e1⟩
    · by_cases hj : j = i
      · subst hj
        rw [hi] at e1; cases e1
        rw [List.getElem?_set_self hiσ] at e2
        cases e2
        exact ⟨u, r, .inl ⟨hk, by simp⟩⟩
      · rw [List.getElem?_set_ne (Ne.symm hj)] at e2
        obtain ⟨u', r', q⟩ := hl j y v' e1 e2 e3
        refine ⟨u', r', ?_⟩
        rcases q with ⟨k, e⟩ | ⟨k, c, e, z⟩
        · refine .inl ⟨k, ?_⟩
          have : y ≠ x := fun e => hj (nodup_ix hN e1 (e ▸ hi))
          simp [this, e]
        · exact .inr ⟨k, c, e, z.sameBut hs (cne y c e)⟩
    · obtain ⟨w', z⟩ := I.cell y c e
      exact ⟨w', z.sameBut hs (cne y c e)⟩
    · obtain ⟨e, n, ne, nf, d⟩ := I.pin p hp
      exact ⟨(hs.2 p.1 ne).trans e, n, ne, nf, d⟩
  · have hfn : X.fn x = true := by
      rcases hf with z | z
      · exact z
      · rw [z] at hk; cases hk
    obtain ⟨c, hc⟩ := I.ok.has x (.inl hk)
    obtain ⟨w', z⟩ := I.cell x c hc
    refine wpAny_storeName_cell I.ok.kind hk hc z (fun h' hc' hs => ?_)
    obtain ⟨oc, hoc, hocd⟩ := id z
    refine h { s with heap := h' } ⟨I.ok, I.os, I.bare, ⟨fun b o e n hb hx => ?_, fun b o e n hb hx => ?_, I.base.free, fun b o e hx => ?_, I.base.tups, I.base.frzs, I.base.tbls⟩, ⟨m, hn.sameBut hs (Ne.symm (cne x c hc)), fun j y v' e1 e2 e3 => ?_⟩, fun y c' e => ?_, I.free, I.freeC, fun p hp => ?_, tracked ⟨oc, hoc, I.freeC x c hc⟩ hs, by simpa using I.len⟩ ⟨c, hs, .inr hc⟩
    · exact (hs.2 b (Nat.ne_of_lt (Nat.lt_of_lt_of_le (Heap.lt_size e) (I.ok.cab x c hfn hc)))).trans (I.base.keep b o e n hb hx)
    · obtain ⟨sl, e1⟩ := I.base.slot b o e n hb hx
      exact ⟨sl, (hs.2 b (Nat.ne_of_lt (Nat.lt_of_lt_of_le (Heap.lt_size e) (I.ok.cab x c hfn hc)))).trans e1⟩
    · obtain ⟨o', e1⟩ := I.base.there b o e hx
      exact ⟨o', (hs.2 b (Nat.ne_of_lt (Nat.lt_of_lt_of_le (Heap.lt_size e) (I.ok.cab x c hfn hc)))).trans e1⟩
    · by_cases hj : j = i
      · subst hj
        rw [hi] at e1; cases e1
        rw [List.getElem?_set_self hiσ] at e2
        cases e2
        exact ⟨u, r, .inr ⟨.inl hk, c, hc, hc'⟩⟩
      · rw [List.getElem?_set_ne (Ne.symm hj)] at e2
        obtain ⟨u', r', q⟩ := hl j y v' e1 e2 e3
        refine ⟨u', r', ?_⟩
        rcases q with q | ⟨k, c', e, z'⟩
        · exact .inl q
        · refine .inr ⟨k, c', e, z'.sameBut hs ?_⟩
          rintro rfl
          exact hj (nodup_ix hN e1 (I.ok.inj _ _ _ e hc ▸ hi))
    · by_cases hcc : c' = c
      · subst hcc; exact ⟨_, hc'⟩
      · obtain ⟨w2, z2⟩ := I.cell y c' e
        exact ⟨w2, z2.sameBut hs hcc⟩
    · obtain ⟨e, n, ne, nf, d⟩ := I.pin p hp
      refine ⟨(hs.2 p.1 ?_).trans e, n, ne, nf, d⟩
      intro q
      rw [q, hoc] at e
      have q' : oc = p.2 := Option.some.inj e
      exact d w' (by rw [← q']; exact hocd)
theorem store_ok {M : Model} {A : Around} {E : Value → Shared → Prop} {i : Nat} {x : Str} {v : V} {u : Value} {Q : Unit → Shared → Prop} (I : Inv X pins σ H s) (hN : X.N.Nodup) (hi : X.N[i]? = some x) (hx : Loc X.env.scope x) (r : RelV v u)
    (h : ∀ s', Inv X pins (σ.set i (some v)) H s' → Q () s') (hf : X.fn x = true ∨ X.env.scope.names.lookup x = some .local := by first | exact .inl rfl | exact .inr rfl | assumption) : wpAny M A (storeName X.env x u) Q E s :=
  store_ok2 I hN hi hx r (fun s' I' _ => h s' I') hf
/-- behind a call or a block, the state as it is -/
theorem Inv.call' {s' : Shared} {ch : List Addr} (I : Inv X pins σ H s) (ho : s'.os = s.os) (u : Un (frs X.stack) ch H H' s.heap s'.heap) (hok : HOk X.prog X.w H' s'.heap) (hg : AllBare s'.gens)
    (hch : ∀ b ∈ ch, (b ∈ X.ex ∨ X.s₀.heap.objs.size ≤ b) ∧ b ≠ X.env.locals ∧ (∀ x c, X.env.cells.lookup x = some c → c ≠ b) ∧ ∀ p ∈ X.pn ++ pins, p.1 ≠ b) : Inv X pins σ H' s' := by
  obtain ⟨h', g', d', t', o'⟩ := s'
  have e : o' = s.os := ho
  subst e
  exact I.call (g' := g') (t' := t') (d' := d') u hok hg hch
end

/-! ### the judgements -/
/-- an exception: its class, its own dict's address (where it has one), the abstract heap behind it -/
noncomputable abbrev XK := Value → Option Addr → Hp → Prop
noncomputable abbrev St := List (Option V)
noncomputable abbrev VK := V → Hp → Prop
/-- an expression's reading; a test's; an argument list's -/
noncomputable abbrev TE := St → Hp → VK → Prop
noncomputable abbrev TT := St → Hp → (Bool → Hp → Prop) → Prop
noncomputable abbrev TA := St → Hp → (List V → Hp → Prop) → Prop
/-- what is wanted behind a statement -/
structure Ends where
  nx : St → Hp → Prop
  rt : VK
  bk : St → Hp → Prop := fun _ _ => False
  ct : St → Hp → Prop := fun _ _ => False
noncomputable abbrev TS := Ends → St → Hp → Prop

noncomputable def EP (X : Cx) (pins : List (Addr × Obj)) (σ : St) (Q : VK) (u : Value) (s' : Shared) : Prop := ∃ v H', Inv X pins σ H' s' ∧ RelV v u ∧ Q v H'
noncomputable def TP (X : Cx) (pins : List (Addr × Obj)) (σ : St) (Q : Bool → Hp → Prop) (b : Bool) (s' : Shared) : Prop := ∃ H', Inv X pins σ H' s' ∧ Q b H'
noncomputable def AP (X : Cx) (pins : List (Addr × Obj)) (σ : St) (Q : List V → Hp → Prop) (us : List Value) (s' : Shared) : Prop := ∃ vs H', Inv X pins σ H' s' ∧ Vals vs us ∧ Q vs H'
noncomputable def SP (X : Cx) (pins : List (Addr × Obj)) (D : Ends) (f : Flow) (s' : Shared) : Prop :=
  match f with
  | .next => ∃ σ' H', Inv X pins σ' H' s' ∧ D.nx σ' H'
  | .brk => ∃ σ' H', Inv X pins σ' H' s' ∧ D.bk σ' H'
  | .cont => ∃ σ' H', Inv X pins σ' H' s' ∧ D.ct σ' H'
  | .ret u => ∃ v σ' H', Inv X pins σ' H' s' ∧ RelV v u ∧ D.rt v H'

noncomputable def PE (X : Cx) (e : Expr) (t : TE) : Prop :=
  ∀ (pins : List (Addr × Obj)) (s : Shared) (σ : St) (H : Hp) (Q : VK), Inv X pins σ H s → t σ H Q → wpAny (model X.prog X.w) X.A (eval e X.env) (EP X pins σ Q) X.xe s
noncomputable def PT (X : Cx) (e : Expr) (t : TT) : Prop :=
  ∀ (pins : List (Addr × Obj)) (s : Shared) (σ : St) (H : Hp) (Q : Bool → Hp → Prop), Inv X pins σ H s → t σ H Q → wpAny (model X.prog X.w) X.A (isTrue e X.env (eval e X.env)) (TP X pins σ Q) X.xe s
/-- a test whatever its 'whole' is (and, or) -/
noncomputable def PW (X : Cx) (e : Expr) (t : TT) : Prop :=
  ∀ (whole : Sem Value) (pins : List (Addr × Obj)) (s : Shared) (σ : St) (H : Hp) (Q : Bool → Hp → Prop), Inv X pins σ H s → t σ H Q → wpAny (model X.prog X.w) X.A (isTrue e X.env whole) (TP X pins σ Q) X.xe s
theorem PW.pt {X : Cx} {e : Expr} {t : TT} (h : PW X e t) : PT X e t := h _
/-- an argument list (no star), from the left -/
noncomputable def PA (X : Cx) (es : List Expr) (t : TA) : Prop :=
  ∀ (pos : Pos) (pins : List (Addr × Obj)) (s : Shared) (σ : St) (H : Hp) (Q : List V → Hp → Prop), Inv X pins σ H s → t σ H Q → wpAny (model X.prog X.w) X.A (spliced (backTo pos (starEach es X.env))) (AP X pins σ Q) X.xe s
noncomputable def PS (X : Cx) (st : Stmt) (t : TS) : Prop :=
  ∀ (pins : List (Addr × Obj)) (s : Shared) (σ : St) (H : Hp) (D : Ends), Inv X pins σ H s → t D σ H → wpAny (model X.prog X.w) X.A (exec st X.env) (SP X pins D) X.xe s
noncomputable def PSs (X : Cx) (st : List Stmt) (t : TS) : Prop :=
  ∀ (pins : List (Addr × Obj)) (s : Shared) (σ : St) (H : Hp) (D : Ends), Inv X pins σ H s → t D σ H → wpAny (model X.prog X.w) X.A (execs st X.env) (SP X pins D) X.xe s
/-- weaken the end -/
theorem thn {α : Type} {t : Sem α} {Q Q' : α → Shared → Prop} {M : Model} {A : Around} {E : Value → Shared → Prop} {s : Shared} (h : wpAny M A t Q E s) (hQ : ∀ a s, Q a s → Q' a s) : wpAny M A t Q' E s := wpAny_mono h hQ fun _ _ x => x
end L2

namespace L2
open PySem PySem.Spec PyProof.Rows
section
variable {X : Cx}

/-! ### names and constants -/
noncomputable def tVar (i : Nat) : TE := fun σ H Q => ∃ v, σ[i]? = some (some v) ∧ Q v H
noncomputable def tC (v : V) : TE := fun _ H Q => Q v H
theorem pe_var {i : Nat} {x : Str} {pos : Pos} (hN : X.N[i]? = some x) (hv : Vis X.env.scope x) (hd : (x == ("__debug__" : Str)) = false := by decide) (hcd : (x == ("__classdict__" : Str)) = false := by decide) : PE X (.Name x pos) (tVar i) := by
  intro pins s σ H Q I h
  obtain ⟨v, e, h⟩ := h
  obtain ⟨m, hn, hl⟩ := I.loc
  obtain ⟨u, r, l⟩ := hl i x v hN e hv
  have fin : EP X pins σ Q u s := ⟨v, H, I, r, h⟩
  rcases l with ⟨hk, hm⟩ | ⟨hk, c, hc, hcell⟩
  · exact wpAny_Name (wpAny_loadName_local I.ok.kind hk hn hm fin) hd
  · rcases hk with hk | hk
    · exact wpAny_Name (wpAny_loadName_cell I.ok.kind hk hc hcell fin) hd
    · exact wpAny_Name (wpAny_loadName_free I.ok.kind hk hc hcell fin hcd) hd
theorem pe_int {i j pos} : PE X (.Constant (.int i) j pos) (tC (.int i)) := fun _ _ _ H _ I h => wpAny_Constant_int ⟨.int i, H, I.tok _, ⟨_, rfl⟩, h⟩
theorem pe_bl {b j pos} : PE X (.Constant (.bool b) j pos) (tC (.bl b)) := fun _ _ _ H _ I h => Constant_bool ⟨.bl b, H, I, rfl, h⟩
theorem pe_non {j pos} : PE X (.Constant .none j pos) (tC .non) := fun _ _ _ H _ I h => Constant_none ⟨.non, H, I, rfl, h⟩
theorem pe_str {x j pos} : PE X (.Constant (.str x) j pos) (tC (.str x)) := fun _ _ _ H _ I h => Calls.Constant_str ⟨.str x, H, I.tok _, ⟨_, rfl⟩, h⟩

/-- a global name of the def -/
noncomputable def Gl (X : Cx) (x : Str) : Prop := X.env.kindOf x = some .globalImplicit
theorem ld_glob {E : Value → Shared → Prop} {pins : List (Addr × Obj)} {s : Shared} {σ : St} {H : Hp} {x : Str} {u : Value} {pos : Pos} {Q : Value → Shared → Prop} (I : Inv X pins σ H s) (hg : Gl X x) (hm : X.mg x = some u) (h : Q u s)
    (hd : (x == ("__debug__" : Str)) = false := by decide) : wpAny (model X.prog X.w) X.A (eval (.Name x pos) X.env) Q E s :=
  Calls.Name_function_global I.ok.kind hg (Calls.loadGlobal_global (by rw [I.ok.glob]; exact I.mod.glob.keeps I.bk) hm h) hd
theorem ld_blt {E : Value → Shared → Prop} {pins : List (Addr × Obj)} {s : Shared} {σ : St} {H : Hp} {x : Str} {u : Value} {pos : Pos} {Q : Value → Shared → Prop} (I : Inv X pins σ H s) (hg : Gl X x) (hm : X.mg x = none) (hv : bootBuiltins x = some u) (h : Q u s)
    (hn : x ≠ "__name__" := by decide) (hd : (x == ("__debug__" : Str)) = false := by decide) : wpAny (model X.prog X.w) X.A (eval (.Name x pos) X.env) Q E s := by
  obtain ⟨mb, h1, h2⟩ := I.mod.blt
  exact Calls.Name_function_global I.ok.kind hg (Calls.loadGlobal_builtin (by rw [I.ok.glob]; exact I.mod.glob.keeps I.bk) hm (by rw [I.ok.blt]; exact h1.keeps I.bk) ((h2 x hn).trans hv) h) hd
/-- a module's constant, a class, a function, as a value -/
theorem pe_glob {x : Str} {v : V} {u : Value} {pos : Pos} (hg : Gl X x) (hm : X.mg x = some u) (r : RelV v u) (hd : (x == ("__debug__" : Str)) = false := by decide) : PE X (.Name x pos) (tC v) :=
  fun _ _ _ H _ I h => ld_glob I hg hm ⟨v, H, I, r, h⟩ hd
theorem pe_bltn {x : Str} {v : V} {u : Value} {pos : Pos} (hg : Gl X x) (hm : X.mg x = none) (hv : bootBuiltins x = some u) (r : RelV v u) (hn : x ≠ "__name__" := by decide) (hd : (x == ("__debug__" : Str)) = false := by decide) : PE X (.Name x pos) (tC v) :=
  fun _ _ _ H _ I h => ld_blt I hg hm hv ⟨v, H, I, r, h⟩ hn hd

variable {a b : Expr} {ta tb : TE} {pos : Pos}
/-- a comparison as a value, as a test -/
noncomputable def tB (t : TE) : TT := fun σ H Q => t σ H fun x H1 => ∃ c, x = .bl c ∧ Q c H1
/-- an expression whose value is a bool, as a test -/
theorem pt_val {e : Expr} {t : TE} (h : PE X e t) (he : ∀ whole, isTrue e X.env whole = (do let v ← whole; standAt e.pos; holding [v] (truthy v)) := by intro _; rfl) : PT X e (tB t) := by
  intro pins s σ H Q I hw
  refine isTrue_plain (thn (h pins s σ H _ I hw) fun v s1 ⟨x, H1, I1, r1, q1⟩ => ?_) (he _)
  obtain ⟨d, rfl, q⟩ := q1
  cases r1
  exact wpAny_truthy_bool ⟨H1, I1, q⟩

/-! ### and, or, not -/
variable {tA tB' : TT} {rest : List Expr}
noncomputable def tAnd (t u : TT) : TT := fun σ H Q => t σ H fun c H1 => if c = true then u σ H1 Q else Q false H1
noncomputable def tOr (t u : TT) : TT := fun σ H Q => t σ H fun c H1 => if c = true then Q true H1 else u σ H1 Q
noncomputable def tNot (t : TT) : TT := fun σ H Q => t σ H fun c H1 => Q (!c) H1
theorem pw_and1 (ha : PT X a tA) : PW X (.BoolOp .And [a] pos) tA := by
  intro wh pins s σ H Q I h
  refine isTrue_and (thn (ha pins s σ H Q I h) fun c s1 e => ?_)
  cases c with
  | true => exact isTrue_and_nil e
  | false => exact e
theorem pw_or1 (ha : PT X a tA) : PW X (.BoolOp .Or [a] pos) tA := by
  intro wh pins s σ H Q I h
  refine isTrue_or (thn (ha pins s σ H Q I h) fun c s1 e => ?_)
  cases c with
  | false => exact isTrue_or_nil e
  | true => exact e
theorem pw_and (ha : PT X a tA) (hb : PW X (.BoolOp .And (b :: rest) pos) tB') : PW X (.BoolOp .And (a :: b :: rest) pos) (tAnd tA tB') := by
  intro wh pins s σ H Q I h
  refine isTrue_and (thn (ha pins s σ H _ I h) fun c s1 ⟨H1, I1, q1⟩ => ?_)
  cases c with
  | true => exact hb wh pins s1 σ H1 Q I1 q1
  | false => exact ⟨H1, I1, q1⟩
theorem pw_or (ha : PT X a tA) (hb : PW X (.BoolOp .Or (b :: rest) pos) tB') : PW X (.BoolOp .Or (a :: b :: rest) pos) (tOr tA tB') := by
  intro wh pins s σ H Q I h
  refine isTrue_or (thn (ha pins s σ H _ I h) fun c s1 ⟨H1, I1, q1⟩ => ?_)
  cases c with
  | true => exact ⟨H1, I1, q1⟩
  | false => exact hb wh pins s1 σ H1 Q I1 q1
theorem pt_not (ha : PT X a tA) : PT X (.UnaryOp .Not a pos) (tNot tA) := by
  intro pins s σ H Q I h
  exact isTrue_not (ha pins s σ H (fun c H1 => Q (!c) H1) I h)
/-- .. as values (bools) -/
noncomputable def tAndV (ta tb : TE) : TE := fun σ H Q => ta σ H fun x H1 => ∃ c, x = .bl c ∧ if c = true then tb σ H1 Q else Q (.bl false) H1
noncomputable def tNotV (ta : TE) : TE := fun σ H Q => ta σ H fun x H1 => ∃ c, x = .bl c ∧ Q (.bl (!c)) H1
theorem pe_one {op} {t : TE} (h : PE X a t) : PE X (.BoolOp op [a] pos) t := fun pins s σ H Q I hw => BoolOp_one (h pins s σ H Q I hw)
theorem pe_and (ha : PE X a ta) (hb : PE X (.BoolOp .And (b :: rest) pos) tb) : PE X (.BoolOp .And (a :: b :: rest) pos) (tAndV ta tb) := by
  intro pins s σ H Q I h
  refine BoolOp_and (thn (ha pins s σ H _ I h) fun v s1 ⟨x, H1, I1, r1, q1⟩ => ?_)
  obtain ⟨c, rfl, q1⟩ := q1
  cases r1
  refine wpAny_truthy_bool ?_
  cases c with
  | true => exact hb pins s1 σ H1 Q I1 q1
  | false => exact ⟨.bl false, H1, I1, rfl, q1⟩
theorem pe_not (ha : PE X a ta) : PE X (.UnaryOp .Not a pos) (tNotV ta) := by
  intro pins s σ H Q I h
  refine UnaryOp_ (thn (ha pins s σ H _ I h) fun v s1 ⟨x, H1, I1, r1, q1⟩ => ?_)
  obtain ⟨c, rfl, q1⟩ := q1
  cases r1
  exact not_of (wpAny_truthy_bool ⟨.bl (!c), H1, I1, rfl, q1⟩)
/-- a if t else b -/
noncomputable def tIf (t : TT) (ta tb : TE) : TE := fun σ H Q => t σ H fun c H1 => if c = true then ta σ H1 Q else tb σ H1 Q
theorem pe_ifExp {c : Expr} (hc : PT X c tA) (ha : PE X a ta) (hb : PE X b tb) : PE X (.IfExp c a b pos) (tIf tA ta tb) := by
  intro pins s σ H Q I h
  refine wpAny_IfExp (thn (hc pins s σ H _ I h) fun d s1 ⟨H1, I1, q1⟩ => ?_)
  cases d with
  | true => exact ha pins s1 σ H1 Q I1 q1
  | false => exact hb pins s1 σ H1 Q I1 q1
end
end L2

namespace L2
open PySem PySem.Spec PyProof.Rows

/-! ### a list, a tuple that is read: tracked, frozen, or an object of the module -/
noncomputable def SqL (K : PySem.W.Frag) (H : Hp) (a : Addr) (xs : List V) : Prop :=
  Rd H a (.lst xs) ∨
    ∃ (o : Obj) (its : Array Value) (n : Nat), K.lookup a = some o ∧ o.cls = .type "list" ∧ o.dict = none ∧ o.data = .seq its n ∧ its.size ≤ sizeLine ∧ Vals xs its.toList
noncomputable def SqT (K : PySem.W.Frag) (H : Hp) (a : Addr) (xs : List V) : Prop :=
  Rd H a (.tup xs) ∨
    ∃ (o : Obj) (its : Array Value) (n : Nat), K.lookup a = some o ∧ o.cls = .type "tuple" ∧ o.data = .seq its n ∧ its.size ≤ sizeLine ∧ Vals xs its.toList
noncomputable def absV : Value → Option V
  | .none => some .non
  | .bool b => some (.bl b)
  | .int i _ => some (.int i)
  | .str x _ => some (.str x)
  | .bytes b _ => some (.byt b)
  | .float b _ => some (.flt b)
  | .ref a => some (.ref a)
  | .type n => some (.ty n)
  | _ => none
theorem RelV.abs {x : V} {u : Value} (r : RelV x u) : absV u = some x := by
  cases x with
  | non => cases r; rfl
  | bl _ => cases r; rfl
  | int _ => obtain ⟨t, rfl⟩ := r; rfl
  | str _ => obtain ⟨t, rfl⟩ := r; rfl
  | byt _ => obtain ⟨t, rfl⟩ := r; rfl
  | flt _ => obtain ⟨t, rfl⟩ := r; rfl
  | ref _ => cases r; rfl
  | ty _ => cases r; rfl
theorem RelV.inj {x y : V} {u : Value} (r : RelV x u) (q : RelV y u) : x = y := Option.some.inj (r.abs.symm.trans q.abs)
theorem Vals.inj : ∀ {xs ys : List V} {us : List Value}, Vals xs us → Vals ys us → xs = ys
  | _, _, _, .nil, .nil => rfl
  | _, _, _, .cons r t, .cons r' t' => by rw [r.inj r', Vals.inj t t']
section
variable {X : Cx} {pins : List (Addr × Obj)} {σ : St} {H : Hp} {s : Shared} {a : Addr} {xs ys : List V}
theorem SqL.of {K : PySem.W.Frag} (h : H a = some (.lst xs)) : SqL K H a xs := .inl (.inl h)
theorem SqT.of {K : PySem.W.Frag} (h : H a = some (.tup xs)) : SqT K H a xs := .inl (.inl h)
theorem Inv.list (I : Inv X pins σ H s) (h : SqL X.K H a xs) : ∃ its : List Value, Vals xs its ∧ PlainL s.heap a its.toArray ∧ xs.length ≤ sizeLine := by
  rcases h with h | ⟨o, its, n, hk, hc, hd, hs, hz, r⟩
  · obtain ⟨z, its, n, r, e⟩ := h.ok I.hok
    exact ⟨its, r, ⟨_, n, e, rfl, rfl, rfl⟩, z⟩
  · refine ⟨its.toList, r, ⟨o, n, I.kIn a o hk, hc, hd, by simpa using hs⟩, ?_⟩
    have e := r.length
    simp only [Array.length_toList] at e
    omega
theorem Inv.tuple (I : Inv X pins σ H s) (h : SqT X.K H a xs) : ∃ its : List Value, Vals xs its ∧ IsTup s.heap a its.toArray ∧ xs.length ≤ sizeLine := by
  rcases h with h | ⟨o, its, n, hk, hc, hs, hz, r⟩
  · obtain ⟨z, its, r, p⟩ := h.ok I.hok
    exact ⟨its, r, p, z⟩
  · refine ⟨its.toList, r, ⟨o, I.kIn a o hk, hc, n, by simpa using hs⟩, ?_⟩
    have e := r.length
    simp only [Array.length_toList] at e
    omega
theorem Inv.list_inj (I : Inv X pins σ H s) (h : SqL X.K H a xs) (h' : SqL X.K H a ys) : xs = ys := by
  obtain ⟨its, r, ⟨o, n, e, _, _, d⟩, _⟩ := I.list h
  obtain ⟨its', r', ⟨o', n', e', _, _, d'⟩, _⟩ := I.list h'
  rw [e] at e'; cases e'
  rw [d] at d'
  injection d' with d1 _
  have : its = its' := by simpa using congrArg Array.toList d1
  subst this
  exact r.inj r'
theorem Inv.tuple_inj (I : Inv X pins σ H s) (h : SqT X.K H a xs) (h' : SqT X.K H a ys) : xs = ys := by
  obtain ⟨its, r, ⟨o, e, _, n, d⟩, _⟩ := I.tuple h
  obtain ⟨its', r', ⟨o', e', _, n', d'⟩, _⟩ := I.tuple h'
  rw [e] at e'; cases e'
  rw [d] at d'
  injection d' with d1 _
  have : its = its' := by simpa using congrArg Array.toList d1
  subst this
  exact r.inj r'
end

/-! ### another wish about exceptions -/
noncomputable abbrev Cx.wish (X : Cx) (E : Value → Shared → Prop) : Cx := { X with xe := E }
/-- no exception leaves -/
noncomputable abbrev Cx.nox (X : Cx) : Cx := X.wish fun _ _ => False
theorem Cx.Ok.wish {X : Cx} (ok : X.Ok) (E : Value → Shared → Prop) : (X.wish E).Ok :=
  ⟨ok.mod, ok.kind, ok.glob, ok.blt, ok.above, ok.inj, ok.has, ok.cab, ok.hd, ok.frames, ok.stk, ok.exf, ok.bs, ok.bsz, ok.noex, ok.exfs, ok.funs, ok.frf⟩
theorem Cx.Ok.unwish {X : Cx} {E : Value → Shared → Prop} (ok : (X.wish E).Ok) : X.Ok :=
  ⟨ok.mod, ok.kind, ok.glob, ok.blt, ok.above, ok.inj, ok.has, ok.cab, ok.hd, ok.frames, ok.stk, ok.exf, ok.bs, ok.bsz, ok.noex, ok.exfs, ok.funs, ok.frf⟩
section
variable {X : Cx} {pins : List (Addr × Obj)} {σ : St} {H : Hp} {s : Shared} {E : Value → Shared → Prop}
theorem Inv.wish (I : Inv X pins σ H s) (E : Value → Shared → Prop) : Inv (X.wish E) pins σ H s := ⟨I.ok.wish E, I.os, I.bare, I.base, I.loc, I.cell, I.free, I.freeC, I.pin, I.hok, I.len⟩
theorem Inv.unwish (I : Inv (X.wish E) pins σ H s) : Inv X pins σ H s := ⟨I.ok.unwish, I.os, I.bare, I.base, I.loc, I.cell, I.free, I.freeC, I.pin, I.hok, I.len⟩
theorem SP.unwish {D : Ends} {f : Flow} {s' : Shared} (h : SP (X.wish E) pins D f s') : SP X pins D f s' := by
  cases f with
  | next => obtain ⟨σ', H', I, q⟩ := h; exact ⟨σ', H', I.unwish, q⟩
  | brk => obtain ⟨σ', H', I, q⟩ := h; exact ⟨σ', H', I.unwish, q⟩
  | cont => obtain ⟨σ', H', I, q⟩ := h; exact ⟨σ', H', I.unwish, q⟩
  | ret u => obtain ⟨v, σ', H', I, r, q⟩ := h; exact ⟨v, σ', H', I.unwish, r, q⟩
theorem PE.nox {e : Expr} {t : TE} (h : PE X.nox e t) : PE X e t := fun pins s σ H Q I hw =>
  wpAny_mono (h pins s σ H Q (I.wish _) hw) (fun _ _ ⟨v, H', I', r, q⟩ => ⟨v, H', I'.unwish, r, q⟩) fun _ _ z => False.elim z
theorem PT.nox {e : Expr} {t : TT} (h : PT X.nox e t) : PT X e t := fun pins s σ H Q I hw =>
  wpAny_mono (h pins s σ H Q (I.wish _) hw) (fun _ _ ⟨H', I', q⟩ => ⟨H', I'.unwish, q⟩) fun _ _ z => False.elim z
theorem PSs.nox {st : List Stmt} {t : TS} (h : PSs X.nox st t) : PSs X st t := fun pins s σ H D I hw =>
  wpAny_mono (h pins s σ H D (I.wish _) hw) (fun _ _ q => q.unwish) fun _ _ z => False.elim z
end

/-! ### blocks and small statements -/
section
variable {X : Cx} {st : Stmt} {rest : List Stmt} {t u : TS} {e : Expr} {te : TE} {pos : Pos}
noncomputable def tNext : TS := fun D σ H => D.nx σ H
noncomputable def tSeq (t u : TS) : TS := fun D σ H => t { D with nx := u D } σ H
theorem pss_nil : PSs X [] tNext := fun _ _ σ H _ I h => wpAny_execs_nil ⟨σ, H, I, h⟩
theorem pss_cons (h1 : PS X st t) (h2 : PSs X rest u) : PSs X (st :: rest) (tSeq t u) := by
  intro pins s σ H D I h
  refine wpAny_execs_cons (thn (h1 pins s σ H { D with nx := u D } I h) fun f s1 q => ?_)
  cases f with
  | next =>
    obtain ⟨σ', H', I', q⟩ := q
    exact h2 pins s1 σ' H' D I' q
  | ret v => exact q
  | brk => exact q
  | cont => exact q
theorem pss_one (h1 : PS X st t) : PSs X [st] t := by
  intro pins s σ H D I h
  refine wpAny_execs_cons (thn (h1 pins s σ H D I h) fun f s1 q => ?_)
  cases f with
  | next => exact wpAny_execs_nil q
  | ret v => exact q
  | brk => exact q
  | cont => exact q
/-- in a def's body nothing is shown -/
theorem Inv.quiet {pins : List (Addr × Obj)} {σ : St} {H : Hp} {s : Shared} (I : Inv X pins σ H s) : interactive X.env = false := by simp [interactive, I.ok.kind]
/-- an expression whose value is dropped -/
noncomputable def tDrop (te : TE) : TS := fun D σ H => te σ H fun _ H1 => D.nx σ H1
theorem ps_expr (he : PE X e te) (hs : swapsWith e none pos.line X.env = pure false := by rfl) : PS X (.Expr e pos) (tDrop te) := by
  intro pins s σ H D I h
  exact wpAny_Expr_any (thn (he pins s σ H _ I h) fun v s1 ⟨x, H1, I1, r1, q1⟩ => ⟨σ, H1, I1, q1⟩) I.quiet hs
noncomputable def tRet (te : TE) : TS := fun D σ H => te σ H D.rt
theorem ps_ret (he : PE X e te) : PS X (.Return (some e) pos) (tRet te) := by
  intro pins s σ H D I h
  exact wpAny_Return_some (thn (he pins s σ H _ I h) fun v s1 ⟨x, H1, I1, r1, q1⟩ => ⟨x, σ, H1, I1, r1, q1⟩)
noncomputable def tIfS (c : TT) (t u : TS) : TS := fun D σ H => c σ H fun b H1 => if b = true then t D σ H1 else u D σ H1
theorem ps_if {c : Expr} {a b : List Stmt} {tc : TT} (hc : PT X c tc) (ha : PSs X a t) (hb : PSs X b u) : PS X (.If c a b pos) (tIfS tc t u) := by
  intro pins s σ H D I h
  refine wpAny_If (thn (hc pins s σ H _ I h) fun d s1 ⟨H1, I1, q1⟩ => ?_)
  cases d with
  | true => exact ha pins s1 σ H1 D I1 q1
  | false => exact hb pins s1 σ H1 D I1 q1
/-- code that the proof never comes to -/
noncomputable def tNever : TS := fun _ _ _ => False
theorem ps_never : PS X st tNever := fun _ _ _ _ _ _ h => h.elim
end

/-! ### targets -/
noncomputable abbrev TG := V → St → Hp → (St → Hp → Prop) → Prop
noncomputable def PG (X : Cx) (target : Expr) (t : TG) : Prop :=
  ∀ (pins : List (Addr × Obj)) (s : Shared) (σ : St) (H : Hp) (v : V) (u : Value) (Q : St → Hp → Prop), Inv X pins σ H s → RelV v u → t v σ H Q →
    wpAny (model X.prog X.w) X.A (assign target X.env u) (fun _ s' => ∃ σ' H', Inv X pins σ' H' s' ∧ Q σ' H') X.xe s
/-- o[i] = v, by values -/
noncomputable abbrev TSet := V → V → V → Hp → (Hp → Prop) → Prop
noncomputable def PSet (X : Cx) (t : TSet) : Prop :=
  ∀ (pins : List (Addr × Obj)) (s : Shared) (σ : St) (H : Hp) (o i v : V) (ov iv u : Value) (Q : Hp → Prop), Inv X pins σ H s → RelV o ov → RelV i iv → RelV v u → t o i v H Q →
    wpAny (model X.prog X.w) X.A (setItem ov iv u) (fun _ s' => ∃ H', Inv X pins σ H' s' ∧ Q H') X.xe s
section
variable {X : Cx} {pos : Pos}
noncomputable def gName (i : Nat) : TG := fun v σ H Q => Q (σ.set i (some v)) H
theorem pg_name {i : Nat} {x : Str} (hN : X.N.Nodup) (hi : X.N[i]? = some x) (hx : Loc X.env.scope x) (hf : X.fn x = true ∨ X.env.scope.names.lookup x = some .local := by first | exact .inl rfl | exact .inr rfl | assumption) : PG X (.Name x pos) (gName i) := by
  intro pins s σ H v u Q I r h
  exact wpAny_assign_Name (store_ok I hN hi hx r (fun s' I' => ⟨_, H, I', h⟩) hf)
/-- o[i] = .. -/
noncomputable def gSub (to ti : TE) (t : TSet) : TG := fun v σ H Q => to σ H fun o H1 => ti σ H1 fun i H2 => t o i v H2 fun H3 => Q σ H3
theorem pg_sub {o i : Expr} {to ti : TE} {t : TSet} (ho : PE X o to) (hi : PE X i ti) (hs : PSet X t)
    (ha : ∀ v, assign (.Subscript o i pos) X.env v = (do
      let ov ← holding [v] (eval o X.env)
      let iv ← holding [v, ov] (eval i X.env)
      standAt pos
      holding [v, ov, iv] (setItem ov iv v)
      release [v, ov, iv] []) := by intro _; rfl) : PG X (.Subscript o i pos) (gSub to ti t) := by
  intro pins s σ H v u Q I r h
  rw [ha]
  refine wpAny_bind (wpAny_holding (thn (ho pins s σ H _ I h) fun ov s1 ⟨x, H1, I1, r1, q1⟩ => ?_))
  refine wpAny_bind (wpAny_holding (thn (hi pins s1 σ H1 _ I1 q1) fun iv s2 ⟨y, H2, I2, r2, q2⟩ => ?_))
  refine wpAny_bind (wpAny_standAt (wpAny_bind (wpAny_holding (thn (hs pins s2 σ H2 x y v ov iv u _ I2 r1 r2 r q2) fun _ s3 ⟨H3, I3, q3⟩ => ?_))))
  exact wpAny_release ⟨σ, H3, I3, q3⟩
/-- target = value -/
noncomputable def tAsg (te : TE) (g : TG) : TS := fun D σ H => te σ H fun x H1 => g x σ H1 D.nx
theorem ps_asg {tg e : Expr} {te : TE} {g : TG} (he : PE X e te) (hg : PG X tg g) (hs : swapsWithSole [tg] e pos.line X.env = pure false := by rfl) (hw : swappedStores [tg] e X.env = pure none := by rfl)
    (h1 : (assignEach [tg] X.env).map (·.2) = [assign tg X.env] := by rfl) : PS X (.Assign [tg] e pos) (tAsg te g) := by
  intro pins s σ H D I h
  refine wpAny_Assign_stores (thn (he pins s σ H _ I h) fun v s1 ⟨x, H1, I1, r1, q1⟩ => ?_) hs hw
  rw [h1]
  exact thn (hg pins s1 σ H1 x v _ I1 r1 q1) fun _ s2 q => q
/-- name = value -/
theorem ps_set {i : Nat} {x : Str} {e : Expr} {te : TE} {pos' : Pos} (hN : X.N.Nodup) (hi : X.N[i]? = some x) (hx : Loc X.env.scope x) (he : PE X e te) (hs : swapsWith e (some (.Name x pos')) pos.line X.env = pure false := by rfl) (hf : X.fn x = true ∨ X.env.scope.names.lookup x = some .local := by first | exact .inl rfl | exact .inr rfl | assumption) :
    PS X (.Assign [.Name x pos'] e pos) (tAsg te (gName i)) := by
  intro pins s σ H D I h
  refine wpAny_Assign_Name (thn (he pins s σ H _ I h) fun v s1 ⟨y, H1, I1, r1, q1⟩ => ?_) hs
  exact store_ok I1 hN hi hx r1 (fun s2 I2 => ⟨_, H1, I2, q1⟩) hf
end

/-! ### while -/
section
variable {X : Cx} {pos : Pos}
end

/-! ### what a loop or a comprehension walks -/
/-- at turn i: it yields x (the heap may grow), or it stops -/
structure It where
  go : Nat → Hp → Prop
  yld : Nat → Hp → V → Hp → Prop
  stop : Nat → Hp → Prop
/-- the iterator's own objects may turn: they are not the frame's, not pinned, younger than the entry (or a comprehension's own) -/
noncomputable def FpOk (X : Cx) (pins : List (Addr × Obj)) (H : Hp) (b : Addr) : Prop :=
  H b = none ∧ b ≠ X.env.locals ∧ b ∉ X.fs ∧ (b ∈ X.ex ∨ X.s₀.heap.objs.size ≤ b) ∧ (∀ x c, X.env.cells.lookup x = some c → c ≠ b) ∧ ∀ p ∈ X.pn ++ pins, p.1 ≠ b
theorem Inv.fpOk {X : Cx} {pins : List (Addr × Obj)} {σ : St} {H H' : Hp} {s : Shared} {b : Addr} (I : Inv X pins σ H s) (hb : s.heap.objs.size ≤ b) (hn : H' b = none) : FpOk X pins H' b := by
  refine ⟨hn, Nat.ne_of_gt (Nat.lt_of_lt_of_le I.lt hb), I.nofs hb, .inr (Nat.le_trans I.sz hb), fun x c e z => ?_, fun p hp z => ?_⟩
  · obtain ⟨v, q⟩ := I.cell x c e
    exact absurd (Nat.lt_of_lt_of_le q.lt (by rw [z]; exact hb)) (Nat.lt_irrefl _)
  · exact absurd (Nat.lt_of_lt_of_le (Heap.lt_size (I.pin p hp).1) (by rw [z]; exact hb)) (Nat.lt_irrefl _)
structure Turn (P : Program) (w : World) (K : PySem.W.Frag) (tg : Expr) (J : It) (fp : List Addr) (it : Addr) (tn : Nat → Heap → Prop) : Prop where
  mem : it ∈ fp
  obj : ∀ i h, tn i h → ∀ b ∈ fp, ∃ o, h.get? b = some o ∧ ∀ v, o.data ≠ .cell v
  keep : ∀ i h h', tn i h → (∀ b ∈ fp, ∀ o, h.get? b = some o → h'.get? b = some o) → tn i h'
  item : ∀ (X : Cx), X.prog = P → X.w = w → X.K = K → X.calm = true → ∀ (i : Nat) (pins : List (Addr × Obj)) (s : Shared) (σ : St) (H : Hp) (E : Value → Shared → Prop), Inv X pins σ H s → (∀ b ∈ fp, FpOk X pins H b) → tn i s.heap → J.go i H →
    wpAny (model P w) X.A (pyNext (.ref it)) (fun r s1 => ∃ u, r = some u ∧
      wpAny (model P w) X.A (letOwnedTupleGo tg (.ref it) u) (fun _ s2 => ∃ x H', Inv X pins σ H' s2 ∧ RelV x u ∧ J.yld i H x H' ∧ tn (i + 1) s2.heap ∧ ∀ b ∈ fp, H' b = none) E s1) E s
  done : ∀ (X : Cx), X.prog = P → X.w = w → X.K = K → X.calm = true → ∀ (i : Nat) (pins : List (Addr × Obj)) (s : Shared) (σ : St) (H : Hp) (E : Value → Shared → Prop), Inv X pins σ H s → (∀ b ∈ fp, FpOk X pins H b) → tn i s.heap → J.stop i H →
    wpAny (model P w) X.A (pyNext (.ref it)) (fun r s1 => r = none ∧ Inv X pins σ H s1) E s
  self : ∀ (A : Around) (i : Nat) (s : Shared) (Q : Value → Shared → Prop) (E : Value → Shared → Prop), tn i s.heap → Q (.ref it) s → wpAny (model P w) A (pyIter (.ref it)) Q E s
noncomputable abbrev TI := St → Hp → (It → Hp → Prop) → Prop
/-- an iterator has come -/
noncomputable def PIE (X : Cx) (pins : List (Addr × Obj)) (σ : St) (tg : Expr) (R : It → Hp → Prop) (itv : Value) (s2 : Shared) : Prop :=
  ∃ (it : Addr) (fp : List Addr) (tn : Nat → Heap → Prop) (J : It) (H' : Hp), itv = .ref it ∧ Inv X pins σ H' s2 ∧ Turn X.prog X.w X.K tg J fp it tn ∧ tn 0 s2.heap ∧ (∀ b ∈ fp, FpOk X pins H' b) ∧ R J H'
noncomputable def PI (X : Cx) (tg iter : Expr) (wi : TI) : Prop :=
  ∀ (pins : List (Addr × Obj)) (s : Shared) (σ : St) (H : Hp) (R : It → Hp → Prop), Inv X pins σ H s → wi σ H R →
    wpAny (model X.prog X.w) X.A (eval iter X.env) (fun v s1 => wpAny (model X.prog X.w) X.A (pyIter v) (PIE X pins σ tg R) X.xe s1) X.xe s

/-- the step ahead of the store is nothing for an iterator that keeps no tuple -/
theorem go_of {M : Model} {A : Around} {E : Value → Shared → Prop} {s : Shared} {tg : Expr} {it : Addr} {u : Value} {o : Obj} {n : String} {vs : Array Value} {Q : Unit → Shared → Prop} (ho : s.heap.get? it = some o) (hc : o.cls = .type n) (hd : o.data = .fields vs)
    (hn : ["enumerate", "zip", "dict_itemiterator", "dict_reverseitemiterator", "odict_iterator", "itertools.zip_longest", "itertools.pairwise"].contains n = false) (hQ : Q () s) : wpAny M A (letOwnedTupleGo tg (.ref it) u) Q E s := by
  unfold letOwnedTupleGo
  cases tg <;> first
    | exact wpAny_pure hQ
    | (cases u <;> first
        | exact wpAny_pure hQ
        | (refine wpAny_bind (wpAny_load ho ?_)
           rw [hc, hd]
           show wpAny M A (if (["enumerate", "zip", "dict_itemiterator", "dict_reverseitemiterator", "odict_iterator", "itertools.zip_longest", "itertools.pairwise"].contains n && vs[0]? == some (rawInt _)) = true then _ else _) Q E s
           rw [if_neg (by intro h; rw [hn, Bool.false_and] at h; cases h)]
           exact wpAny_pure hQ))

/-- the list at a, as it stands at each turn (a loop may append to it) -/
noncomputable def Itl (K : PySem.W.Frag) (a : Addr) : It :=
  ⟨fun i H => ∃ xs x, SqL K H a xs ∧ xs[i]? = some x, fun i H x H' => H' = H ∧ ∀ xs, SqL K H a xs → xs[i]? = some x, fun i H => ∃ xs, SqL K H a xs ∧ xs.length ≤ i⟩
noncomputable def Itt (K : PySem.W.Frag) (a : Addr) : It :=
  ⟨fun i H => ∃ xs x, SqT K H a xs ∧ xs[i]? = some x, fun i H x H' => H' = H ∧ ∀ xs, SqT K H a xs → xs[i]? = some x, fun i H => ∃ xs, SqT K H a xs ∧ xs.length ≤ i⟩
/-- lo, lo + 1, .. (n of them) -/
noncomputable def Itr (lo : Int) (n : Nat) : It := ⟨fun i _ => i < n, fun i H x H' => H' = H ∧ x = .int (lo + i), fun i _ => n ≤ i⟩
theorem turn_list {P : Program} {w : World} {K : PySem.W.Frag} {tg : Expr} (a it : Addr) : Turn P w K tg (Itl K a) [it] it (fun i h => h.IsListIter it a i) where
  mem := by simp
  obj := fun i h st b hb => by
    have e : b = it := by simpa using hb
    subst e
    obtain ⟨o, e, c, d⟩ := st
    exact ⟨o, e, fun v z => by rw [d] at z; cases z⟩
  keep := fun i h h' st k => st.at fun o e => k it (by simp) o e
  item := by
    intro X hP hw hK hc i pins s σ H E I hf st hg
    subst hP hw hK
    obtain ⟨xs, x, hq, hx⟩ := hg
    obtain ⟨its, rv, p, hz⟩ := I.list hq
    obtain ⟨u, hu, ru⟩ := rv.get hx
    obtain ⟨f0, f1, f2, f3, f4, f5⟩ := hf it (by simp)
    refine wpAny_pyNext_list_item st p.isList (x := u) (by simpa using hu) fun h' st' sb => ?_
    have I1 : Inv X pins σ H { s with heap := h' } := I.turned (t' := s.toks) (fun b o hb e => (sb.2 b hb).trans e) f0 f1 f3 f4 f5
    obtain ⟨o, e, c, d⟩ := id st'
    exact ⟨u, rfl, go_of (s := { s with heap := h' }) e c d (by decide) ⟨x, H, I1, ru, ⟨rfl, fun ys hy => by rw [I.list_inj hy hq]; exact hx⟩, st', fun b hb => (hf b hb).1⟩⟩
  done := by
    intro X hP hw hK hc i pins s σ H E I hf st hg
    subst hP hw hK
    obtain ⟨xs, hq, hx⟩ := hg
    obtain ⟨its, rv, p, hz⟩ := I.list hq
    obtain ⟨f0, f1, f2, f3, f4, f5⟩ := hf it (by simp)
    have hl := rv.length
    exact wpAny_pyNext_list_end (I.ok.hd hc) st p.isList (by simp; omega) fun h' eb => ⟨rfl, I.turned (t' := s.toks) (fun b o hb e => eb b o hb e) f0 f1 f3 f4 f5⟩
  self := fun _ _ _ _ _ st h => wpAny_pyIter_listiter st h
theorem turn_tuple {P : Program} {w : World} {K : PySem.W.Frag} {tg : Expr} (a it : Addr) : Turn P w K tg (Itt K a) [it] it (fun i h => h.IsTupleIter it a i) where
  mem := by simp
  obj := fun i h st b hb => by
    have e : b = it := by simpa using hb
    subst e
    obtain ⟨o, e, c, d⟩ := st
    exact ⟨o, e, fun v z => by rw [d] at z; cases z⟩
  keep := fun i h h' st k => st.at fun o e => k it (by simp) o e
  item := by
    intro X hP hw hK hc i pins s σ H E I hf st hg
    subst hP hw hK
    obtain ⟨xs, x, hq, hx⟩ := hg
    obtain ⟨its, rv, p, hz⟩ := I.tuple hq
    obtain ⟨u, hu, ru⟩ := rv.get hx
    obtain ⟨f0, f1, f2, f3, f4, f5⟩ := hf it (by simp)
    refine wpAny_pyNext_tuple_item st (show s.heap.IsTuple a its.toArray from p) (x := u) (by simpa using hu) fun h' st' sb => ?_
    have I1 : Inv X pins σ H { s with heap := h' } := I.turned (t' := s.toks) (fun b o hb e => (sb.2 b hb).trans e) f0 f1 f3 f4 f5
    obtain ⟨o, e, c, d⟩ := id st'
    exact ⟨u, rfl, go_of (s := { s with heap := h' }) e c d (by decide) ⟨x, H, I1, ru, ⟨rfl, fun ys hy => by rw [I.tuple_inj hy hq]; exact hx⟩, st', fun b hb => (hf b hb).1⟩⟩
  done := by
    intro X hP hw hK hc i pins s σ H E I hf st hg
    subst hP hw hK
    obtain ⟨xs, hq, hx⟩ := hg
    obtain ⟨its, rv, p, hz⟩ := I.tuple hq
    obtain ⟨f0, f1, f2, f3, f4, f5⟩ := hf it (by simp)
    have hl := rv.length
    exact wpAny_pyNext_tuple_end (I.ok.hd hc) st (show s.heap.IsTuple a its.toArray from p) (by simp; omega) fun h' eb => ⟨rfl, I.turned (t' := s.toks) (fun b o hb e => eb b o hb e) f0 f1 f3 f4 f5⟩
  self := fun _ _ _ _ _ st h => wpAny_pyIter_tupleiter st h
theorem turn_range {P : Program} {w : World} {K : PySem.W.Frag} {tg : Expr} (it : Addr) (lo : Int) (n : Nat) : Turn P w K tg (Itr lo n) [it] it (fun i h => IsRangeIter h it (lo + (i : Nat) * 1) ((n : Int) - (i : Nat)) 1) where
  mem := by simp
  obj := fun i h st b hb => by
    have e : b = it := by simpa using hb
    subst e
    exact ⟨_, st, fun v z => by
      have z' : Data.fields _ = Data.cell v := z
      cases z'⟩
  keep := fun i h h' st k => k it (by simp) _ st
  item := by
    intro X hP hw hK hc i pins s σ H E I hf st hg
    subst hP hw hK
    obtain ⟨f0, f1, f2, f3, f4, f5⟩ := hf it (by simp)
    have W := Walks.range (prog := X.prog) (w := X.w) (I.ok.hd hc) it lo 1 n
    refine W.item i s _ _ hg st fun v h' tk hv st' kk => ?_
    obtain ⟨t, rfl⟩ := hv
    have I1 : Inv X pins σ H { s with heap := h', toks := tk } := I.turned (fun b o hb e => kk b o (by simpa using hb) e) f0 f1 f3 f4 f5
    refine ⟨_, rfl, go_of (s := { s with heap := h', toks := tk }) (n := "range_iterator") st' rfl rfl (by decide) ⟨.int (lo + i), H, I1, ⟨t, ?_⟩, ⟨rfl, rfl⟩, st', fun b hb => (hf b hb).1⟩⟩
    rw [Int.mul_one]
  done := by
    intro X hP hw hK hc i pins s σ H E I hf st hg
    subst hP hw hK
    obtain ⟨f0, f1, f2, f3, f4, f5⟩ := hf it (by simp)
    exact wpAny_pyNext_range_end (I.ok.hd hc) st (by have : n ≤ i := hg; omega) fun h' eb => ⟨rfl, I.turned (t' := s.toks) (fun b o hb e => eb b o hb e) f0 f1 f3 f4 f5⟩
  self := fun _ _ _ _ _ st h => wpAny_pyIter_rangeiter st h
end L2

namespace L2
open PySem PySem.Spec PyProof.Rows
section
variable {X : Cx} {tg : Expr}
/-- a range object just made, walked -/
theorem range_it {pins : List (Addr × Obj)} {σ : St} {H : Hp} {s : Shared} {R : It → Hp → Prop} {E : Value → Shared → Prop} {lo hi : Int} {t u v : Tok} {tk : Nat} (I : Inv X pins σ H s) (h1 : -(2 ^ 62) ≤ lo) (h2 : lo < 2 ^ 62) (h3 : -(2 ^ 62) ≤ hi) (h4 : hi < 2 ^ 62)
    (q : R (Itr lo (hi - lo).toNat) H) : wpAny (model X.prog X.w) X.A (pyIter (.ref s.heap.objs.size)) (PIE X pins σ tg R) E { s with heap := s.heap.push { cls := .type "range", data := .fields #[.int lo t, .int hi u, .int 1 v] }, toks := tk } := by
  refine wpAny_pyIter_range (IsRange.new ..) (small_one h1 h2 h3 h4) ?_
  have I1 : Inv X pins σ H { s with heap := s.heap.push { cls := .type "range", data := .fields #[.int lo t, .int hi u, .int 1 v] }, toks := tk } := I.kept fun b o e => Heap.get?_push_of_some _ e
  refine ⟨(s.heap.push { cls := .type "range", data := .fields #[.int lo t, .int hi u, .int 1 v] }).objs.size, [(s.heap.push { cls := .type "range", data := .fields #[.int lo t, .int hi u, .int 1 v] }).objs.size], _, _, H, rfl,
    I1.kept (t' := tk) fun b o e => Heap.get?_push_of_some _ e, turn_range _ lo (hi - lo).toNat, ?_, fun b hb => ?_, q⟩
  · have e1 : lo + ((0 : Nat) : Int) * 1 = lo := by simp
    have e2 : (((hi - lo).toNat : Nat) : Int) - ((0 : Nat) : Int) = Builtin.Range.rangeSize lo hi 1 := by rw [rangeSize_one]; split <;> omega
    show IsRangeIter _ _ (lo + ((0 : Nat) : Int) * 1) ((((hi - lo).toNat : Nat) : Int) - ((0 : Nat) : Int)) 1
    rw [e1, e2]
    exact Heap.get?_push_size _ rfl
  · have e : b = (s.heap.push { cls := .type "range", data := .fields #[.int lo t, .int hi u, .int 1 v] }).objs.size := by simpa using hb
    subst e
    exact I1.fpOk (Nat.le_refl _) (I1.hok.fresh (Nat.le_refl _))
noncomputable def iRng1 (ta : TA) : TI := fun σ H R => ta σ H fun vs H1 => ∃ j : Int, vs = [.int j] ∧ -(2 ^ 62) ≤ j ∧ j < 2 ^ 62 ∧ R (Itr 0 j.toNat) H1
theorem pi_range1 {a : Expr} {ta : TA} {p pos : Pos} (hg : Gl X "range") (hm : X.mg "range" = none) (ha : PA X [a] ta) (hs : starEach [a] X.env = [(false, eval a X.env)] := by rfl) : PI X tg (.Call (.Name "range" p) [a] [] pos) (iRng1 ta) := by
  intro pins s σ H R I h
  refine Call_ (ld_blt I hg hm boot_range (PyProof.Rows.callWith_type1 (thn (ha pos pins s σ H _ I h) fun us s1 ⟨vs, H1, I1, r1, q1⟩ => ?_) hs rfl))
  obtain ⟨j, e, q1, q2, q⟩ := q1
  subst e
  cases r1 with
  | cons r rr =>
    cases rr
    obtain ⟨t, rfl⟩ := r
    exact call_range_1 (range_it I1 (by omega) (by omega) q1 q2 (by simpa using q))
/-! ### for -/
/-- W: the invariant by the turn and a measure; N: what the body is to reach -/
noncomputable def tFor (wi : TI) (g : TG) (tb : TS) : TS := fun D σ H => wi σ H fun J H1 => ∃ W : Nat → Nat → St → Hp → Prop, (∃ m, W 0 m σ H1) ∧ ∀ i m σ H, W i m σ H →
  (J.stop i H ∧ D.nx σ H) ∨ (J.go i H ∧ ∃ N : St → Hp → Prop, (∀ σ' H', N σ' H' → ∃ m', m' < m ∧ W (i + 1) m' σ' H') ∧ ∀ x H', J.yld i H x H' → g x σ H' fun σ2 H2 => tb { D with nx := N, ct := N, bk := D.nx } σ2 H2)
/-- the records at fp as they stand -/
noncomputable def pinsAt (fp : List Addr) (h : Heap) : List (Addr × Obj) := fp.filterMap fun b => (h.get? b).map fun o => (b, o)
theorem mem_pinsAt {fp : List Addr} {h : Heap} {b : Addr} {o : Obj} (hb : b ∈ fp) (e : h.get? b = some o) : (b, o) ∈ pinsAt fp h := List.mem_filterMap.mpr ⟨b, hb, by rw [e]; rfl⟩
theorem of_pinsAt {fp : List Addr} {h : Heap} {p : Addr × Obj} (hp : p ∈ pinsAt fp h) : p.1 ∈ fp ∧ h.get? p.1 = some p.2 := by
  obtain ⟨b, hb, e⟩ := List.mem_filterMap.mp hp
  cases q : h.get? b with
  | none => rw [q] at e; cases e
  | some o =>
    rw [q] at e
    have e' : (b, o) = p := Option.some.inj e
    subst e'
    exact ⟨hb, q⟩
theorem Inv.pinned {pins : List (Addr × Obj)} {σ : St} {H : Hp} {s : Shared} {fp : List Addr} (I : Inv X pins σ H s) (hf : ∀ b ∈ fp, FpOk X pins H b) (ho : ∀ b ∈ fp, ∃ o, s.heap.get? b = some o ∧ ∀ v, o.data ≠ .cell v) : Inv X (pins ++ pinsAt fp s.heap) σ H s :=
  I.pins_of fun p hp => (List.mem_append.mp hp).elim (fun z => I.pin p (List.mem_append_right _ z)) fun z => by
    obtain ⟨hb, e⟩ := of_pinsAt z
    obtain ⟨f0, f1, f2, _⟩ := hf p.1 hb
    obtain ⟨o, e', d⟩ := ho p.1 hb
    rw [e] at e'; cases e'
    exact ⟨e, f0, f1, f2, d⟩
theorem Inv.unpinned {pins pl : List (Addr × Obj)} {σ : St} {H : Hp} {s : Shared} (I : Inv X (pins ++ pl) σ H s) : Inv X pins σ H s := I.pins_of fun p hp => I.pin p (List.mem_append_right _ (List.mem_append_left _ hp))
theorem ps_for {iter : Expr} {body : List Stmt} {wi : TI} {g : TG} {tb : TS} {pos : Pos} (hp : PassesOwn (model X.prog X.w) X.A X.env X.xe) (hc : X.calm = true) (hi : PI X tg iter wi) (hg : PG X tg g) (hb : PSs X body tb)
    (hs : ∀ x, foldedSetIterable iter X.env x = pure x := by intro _; rfl) : PS X (.For tg iter body [] pos) (tFor wi g tb) := by
  intro pins s σ H D I h
  refine wpAny_For (thn (hi pins s σ H _ I h) fun v s1 h1 => thn h1 fun itv s2 h2 => ?_) hs
  obtain ⟨it, fp, tn, J, H2, e, I2, T, st2, f2, W, ⟨m0, w0⟩, turn⟩ := h2
  subst e
  -- what stays true of the iterator's objects through the loop
  have stat : ∀ {H' : Hp}, (∀ b ∈ fp, H' b = none) → ∀ b ∈ fp, FpOk X pins H' b := fun hn b hb => ⟨hn b hb, (f2 b hb).2⟩
  refine codeAny_forLoop_any (fun n s' => ∃ i σ' H', Inv X pins σ' H' s' ∧ tn i s'.heap ∧ (∀ b ∈ fp, H' b = none) ∧ W i n σ' H') ?_ m0 ⟨0, σ, H2, I2, st2, fun b hb => (f2 b hb).1, w0⟩
  rintro n s3 ⟨i, σ3, H3, I3, st3, fr3, w3⟩
  rcases turn i n σ3 H3 w3 with ⟨stop, qn⟩ | ⟨go, N, hN, step⟩
  · refine wpAny_passesOwn hp (thn (T.done X rfl rfl rfl hc i pins s3 σ3 H3 X.xe I3 (stat fr3) st3 stop) fun r s4 ⟨hr, I4⟩ => ?_)
    subst hr
    exact wpAny_execs_nil ⟨σ3, H3, I4, qn⟩
  · refine wpAny_passesOwn hp (thn (T.item X rfl rfl rfl hc i pins s3 σ3 H3 X.xe I3 (stat fr3) st3 go) fun r s4 ⟨u, hr, h4⟩ => ?_)
    subst hr
    refine wpAny_passesOwn hp (thn h4 fun _ s5 ⟨x, H5, I5, r5, y5, st5, fr5⟩ => ?_)
    have I5' := I5.pinned (stat fr5) (T.obj _ _ st5)
    refine wpAny_passesOwn hp (thn (hg _ s5 σ3 H5 x u _ I5' r5 (step x H5 y5)) fun _ s6 ⟨σ6, H6, I6, q6⟩ => ?_)
    refine wpAny_passesOwn hp (thn (hb _ s6 σ6 H6 _ I6 q6) fun f s7 q7 => ?_)
    have again : ∀ {σ7 : St} {H7 : Hp}, Inv X (pins ++ pinsAt fp s5.heap) σ7 H7 s7 → N σ7 H7 → ∃ m, m < n ∧ ∃ i σ' H', Inv X pins σ' H' s7 ∧ tn i s7.heap ∧ (∀ b ∈ fp, H' b = none) ∧ W i m σ' H' := fun {σ7 H7} I7 n7 => by
      obtain ⟨m', hm, w7⟩ := hN σ7 H7 n7
      refine ⟨m', hm, i + 1, σ7, H7, I7.unpinned, T.keep _ _ _ st5 fun b hb o e => (I7.pin (b, o) (List.mem_append_right _ (List.mem_append_right _ (mem_pinsAt hb e)))).1, fun b hb => ?_, w7⟩
      obtain ⟨o, e, d⟩ := T.obj _ _ st5 b hb
      exact (I7.pin (b, o) (List.mem_append_right _ (List.mem_append_right _ (mem_pinsAt hb e)))).2.1
    cases f with
    | next => obtain ⟨σ7, H7, I7, n7⟩ := q7; exact again I7 n7
    | cont => obtain ⟨σ7, H7, I7, n7⟩ := q7; exact again I7 n7
    | brk => obtain ⟨σ7, H7, I7, q7⟩ := q7; exact ⟨σ7, H7, I7.unpinned, q7⟩
    | ret v => obtain ⟨x7, σ7, H7, I7, r7, q7⟩ := q7; exact ⟨x7, σ7, H7, I7.unpinned, r7, q7⟩
end

end L2

namespace L2
open PySem PySem.Spec PyProof.Rows

noncomputable abbrev R2 := V → V → Hp → VK → Prop
/-- a two-place operation on values: f is binaryOp op, inplaceOp op or compareOp op -/
noncomputable def OpR (X : Cx) (f : Value → Value → Sem Value) (r : R2) : Prop :=
  ∀ (pins : List (Addr × Obj)) (s : Shared) (σ : St) (H : Hp) (x y : V) (v u : Value) (Q : VK), Inv X pins σ H s → RelV x v → RelV y u → r x y H Q →
    wpAny (model X.prog X.w) X.A (f v u) (EP X pins σ Q) X.xe s
/-- a one-place operation -/
noncomputable def UnR (X : Cx) (f : Value → Sem Value) (r : V → Hp → VK → Prop) : Prop :=
  ∀ (pins : List (Addr × Obj)) (s : Shared) (σ : St) (H : Hp) (x : V) (v : Value) (Q : VK), Inv X pins σ H s → RelV x v → r x H Q →
    wpAny (model X.prog X.w) X.A (f v) (EP X pins σ Q) X.xe s
/-- a call of a value that is known (a builtin, a type) with values -/
noncomputable def CallR (X : Cx) (f : Value) (r : List V → Hp → VK → Prop) : Prop :=
  ∀ (pins : List (Addr × Obj)) (s : Shared) (σ : St) (H : Hp) (xs : List V) (us : List Value) (Q : VK), Inv X pins σ H s → Vals xs us → r xs H Q →
    wpAny (model X.prog X.w) X.A (call f us) (EP X pins σ Q) X.xe s
noncomputable def tOp (r : R2) (ta tb : TE) : TE := fun σ H Q => ta σ H fun x H1 => tb σ H1 fun y H2 => r x y H2 Q
noncomputable def tUn (r : V → Hp → VK → Prop) (ta : TE) : TE := fun σ H Q => ta σ H fun x H1 => r x H1 Q
/-- ints in, under C, and a value out -/
noncomputable def rI (C : Int → Int → Prop) (g : Int → Int → V) : R2 := fun x y H Q => ∃ i j, x = .int i ∧ y = .int j ∧ C i j ∧ Q (g i j) H
noncomputable def rI0 (g : Int → Int → V) : R2 := fun x y H Q => ∃ i j, x = .int i ∧ y = .int j ∧ Q (g i j) H
noncomputable def rU (g : Int → V) : V → Hp → VK → Prop := fun x H Q => ∃ i, x = .int i ∧ Q (g i) H

section
variable {X : Cx} {a b c : Expr} {ta tb tc : TE} {pos : Pos}

theorem binT (ha : PE X a ta) (hb : PE X b tb) {pins : List (Addr × Obj)} {s : Shared} {σ : St} {H : Hp} {R : V → V → Hp → Prop} (I : Inv X pins σ H s)
    (h : ta σ H fun x H1 => tb σ H1 fun y H2 => R x y H2) {Q : Value → Shared → Prop} {f : Value → Value → Sem Value}
    (hf : ∀ v u s2 x y H2, Inv X pins σ H2 s2 → RelV x v → RelV y u → R x y H2 → wpAny (model X.prog X.w) X.A (f v u) Q X.xe s2) :
    wpAny (model X.prog X.w) X.A (eval a X.env) (fun v s₁ => wpAny (model X.prog X.w) X.A (eval b X.env) (fun u s₂ => wpAny (model X.prog X.w) X.A (f v u) Q X.xe s₂) X.xe s₁) X.xe s := by
  refine thn (ha pins s σ H _ I h) fun v s1 ⟨x, H1, I1, r1, q1⟩ => ?_
  refine thn (hb pins s1 σ H1 _ I1 q1) fun u s2 ⟨y, H2, I2, r2, q2⟩ => ?_
  exact hf v u s2 x y H2 I2 r1 r2 q2

theorem pe_op {op : Operator} {r : R2} (ho : OpR X (binaryOp op) r) (ha : PE X a ta) (hb : PE X b tb) : PE X (.BinOp a op b pos) (tOp r ta tb) := by
  intro pins s σ H Q I h
  exact wpAny_BinOp (binT ha hb I h fun v u s2 x y H2 I2 rx ry q => ho pins s2 σ H2 x y v u Q I2 rx ry q)
theorem pe_un {op : UnaryOp} {r : V → Hp → VK → Prop} (ho : UnR X (unaryOp op) r) (ha : PE X a ta) : PE X (.UnaryOp op a pos) (tUn r ta) := by
  intro pins s σ H Q I h
  exact UnaryOp_ (thn (ha pins s σ H _ I h) fun v s1 ⟨x, H1, I1, r1, q1⟩ => ho pins s1 σ H1 x v Q I1 r1 q1)
/-! ### ints -/
theorem opI {f : Value → Value → Sem Value} {C : Int → Int → Prop} {g : Int → Int → Int}
    (rule : ∀ (i j : Int) (t u : Tok) (s : Shared) (Q : Value → Shared → Prop) (E : Value → Shared → Prop), C i j → Q (.int (g i j) s.toks) { s with toks := s.toks + 1 } → wpAny (model X.prog X.w) X.A (f (.int i t) (.int j u)) Q E s) :
    OpR X f (rI C fun i j => .int (g i j)) := by
  intro pins s σ H x y v u Q I rx ry h
  obtain ⟨i, j, rfl, rfl, hc, q⟩ := h
  obtain ⟨t, rfl⟩ := rx
  obtain ⟨t', rfl⟩ := ry
  exact rule i j t t' s _ _ hc ⟨.int (g i j), H, I.tok _, ⟨_, rfl⟩, q⟩
theorem opI0 {f : Value → Value → Sem Value} {g : Int → Int → Int}
    (rule : ∀ (i j : Int) (t u : Tok) (s : Shared) (Q : Value → Shared → Prop) (E : Value → Shared → Prop), Q (.int (g i j) s.toks) { s with toks := s.toks + 1 } → wpAny (model X.prog X.w) X.A (f (.int i t) (.int j u)) Q E s) :
    OpR X f (rI0 fun i j => .int (g i j)) := by
  intro pins s σ H x y v u Q I rx ry h
  obtain ⟨i, j, rfl, rfl, q⟩ := h
  obtain ⟨t, rfl⟩ := rx
  obtain ⟨t', rfl⟩ := ry
  exact rule i j t t' s _ _ ⟨.int (g i j), H, I.tok _, ⟨_, rfl⟩, q⟩
theorem opB0 {f : Value → Value → Sem Value} {g : Int → Int → Bool}
    (rule : ∀ (i j : Int) (t u : Tok) (s : Shared) (Q : Value → Shared → Prop) (E : Value → Shared → Prop), Q (.bool (g i j)) s → wpAny (model X.prog X.w) X.A (f (.int i t) (.int j u)) Q E s) :
    OpR X f (rI0 fun i j => .bl (g i j)) := by
  intro pins s σ H x y v u Q I rx ry h
  obtain ⟨i, j, rfl, rfl, q⟩ := h
  obtain ⟨t, rfl⟩ := rx
  obtain ⟨t', rfl⟩ := ry
  exact rule i j t t' s _ _ ⟨.bl (g i j), H, I, rfl, q⟩

noncomputable def CPow (i j : Int) : Prop := 0 ≤ j ∧ j ≤ 1000000 ∧ i.natAbs < 2 ^ 64
noncomputable def CMul (i j : Int) : Prop := (-(2 ^ 64) < i ∧ i < 2 ^ 64) ∨ (-(2 ^ 64) < j ∧ j < 2 ^ 64)
theorem CMul.ok {i j : Int} (h : CMul i j) : IntMulOk i j := by
  rcases h with ⟨h1, h2⟩ | ⟨h1, h2⟩
  · exact .of_left (intBits_le_64 h1 h2)
  · exact .of_right (intBits_le_64 h1 h2)
theorem op_add : OpR X (binaryOp .Add) (rI0 fun i j => .int (i + j)) := opI0 fun _ _ _ _ _ _ _ q => add_int q
theorem op_sub : OpR X (binaryOp .Sub) (rI0 fun i j => .int (i - j)) := opI0 fun _ _ _ _ _ _ _ q => sub_int q
/-- % by a positive divisor of any size -/
theorem op_mod : OpR X (binaryOp .Mod) (rI (fun _ j => 0 < j) fun i j => .int (i % j)) := opI fun i j _ _ _ _ _ hc q => by
  have h1 : (0 : Int) < j := hc
  exact mod_int' (by omega) (by rw [Int.fmod_eq_emod_of_nonneg i (by omega)]; exact q)
theorem op_pow : OpR X (binaryOp .Pow) (rI CPow fun i j => .int (i ^ j.toNat)) := opI fun _ _ _ _ _ _ _ hc q => pow_int_small hc.1 hc.2.1 hc.2.2 q
theorem unI {f : Value → Sem Value} {g : Int → Int}
    (rule : ∀ (i : Int) (t : Tok) (s : Shared) (Q : Value → Shared → Prop) (E : Value → Shared → Prop), Q (.int (g i) s.toks) { s with toks := s.toks + 1 } → wpAny (model X.prog X.w) X.A (f (.int i t)) Q E s) :
    UnR X f (rU fun i => .int (g i)) := by
  intro pins s σ H x v Q I rx h
  obtain ⟨i, rfl, q⟩ := h
  obtain ⟨t, rfl⟩ := rx
  exact rule i t s _ _ ⟨.int (g i), H, I.tok _, ⟨_, rfl⟩, q⟩
theorem un_neg : UnR X (unaryOp .USub) (rU fun i => .int (-i)) := unI fun _ _ _ _ _ q => neg_int q
end

/-! ### comparisons -/
/-- the scalars that == tells apart as data does -/
noncomputable def scal : V → V → Bool
  | .non, .non => true | .non, .int _ => true | .int _, .non => true | .non, .bl _ => true | .bl _, .non => true | .non, .str _ => true | .str _, .non => true
  | .int _, .int _ => true | .bl _, .bl _ => true | .str _, .str _ => true | .byt _, .byt _ => true
  | .int _, .str _ => true | .str _, .int _ => true | .bl _, .str _ => true | .str _, .bl _ => true
  | _, _ => false
noncomputable def rEq : R2 := fun x y H Q => scal x y = true ∧ Q (.bl (decide (x = y))) H
noncomputable def rNe : R2 := fun x y H Q => scal x y = true ∧ Q (.bl (!decide (x = y))) H

theorem dec_int {i j : Int} : decide (V.int i = V.int j) = (i == j) := by
  rw [Bool.eq_iff_iff]
  simp
theorem dec_bl {i j : Bool} : decide (V.bl i = V.bl j) = (i == j) := by
  rw [Bool.eq_iff_iff]
  simp
theorem dec_str {i j : Str} : decide (V.str i = V.str j) = (i == j) := by
  rw [Bool.eq_iff_iff]
  simp
theorem dec_byt {i j : Array UInt8} : decide (V.byt i = V.byt j) = (i.toList == j.toList) := by
  rw [Bool.eq_iff_iff]
  cases i
  cases j
  simp

section
variable {X : Cx} {a b c : Expr} {ta tb tc : TE} {pos : Pos}
theorem fin_bl {pins : List (Addr × Obj)} {σ : St} {H : Hp} {s : Shared} {Q : VK} {k k' : Bool} (I : Inv X pins σ H s) (q : Q (.bl k) H) (e : k = k') : EP X pins σ Q (.bool k') s := by
  subst e
  exact ⟨.bl k, H, I, rfl, q⟩
theorem op_eq : OpR X (compareOp .Eq) rEq := by
  intro pins s σ H x y v u Q I rx ry h
  obtain ⟨hs, q⟩ := h
  cases x with
  | non =>
    cases rx
    cases y with
    | non => cases ry; exact PySem.EqNone.eq_none_none (fin_bl I q (by simp))
    | bl j => cases ry; exact PySem.EqNone.eq_none_bool (fin_bl I q (by simp))
    | int j => obtain ⟨t', rfl⟩ := ry; exact PySem.EqNone.eq_none_int (fin_bl I q (by simp))
    | str j => obtain ⟨t', rfl⟩ := ry; exact PySem.EqNone.eq_none_str (fin_bl I q (by simp))
    | _ => exact absurd (show false = true from hs) Bool.false_ne_true
  | bl i =>
    cases rx
    cases y with
    | non => cases ry; exact PySem.EqNone.eq_bool_none (fin_bl I q (by simp))
    | bl j => cases ry; exact eq_bool (fin_bl I q dec_bl)
    | str j => obtain ⟨t', rfl⟩ := ry; exact PySem.EqMixed.eq_bool_str (fin_bl I q (by simp))
    | _ => exact absurd (show false = true from hs) Bool.false_ne_true
  | int i =>
    obtain ⟨t, rfl⟩ := rx
    cases y with
    | non => cases ry; exact PySem.EqNone.eq_int_none (fin_bl I q (by simp))
    | int j => obtain ⟨t', rfl⟩ := ry; exact eq_int (fin_bl I q dec_int)
    | str j => obtain ⟨t', rfl⟩ := ry; exact PySem.EqMixed.eq_int_str (fin_bl I q (by simp))
    | _ => exact absurd (show false = true from hs) Bool.false_ne_true
  | str i =>
    obtain ⟨t, rfl⟩ := rx
    cases y with
    | non => cases ry; exact PySem.EqNone.eq_str_none (fin_bl I q (by simp))
    | bl j => cases ry; exact PySem.EqMixed.eq_str_bool (fin_bl I q (by simp))
    | int j => obtain ⟨t', rfl⟩ := ry; exact PySem.EqMixed.eq_str_int (fin_bl I q (by simp))
    | str j => obtain ⟨t', rfl⟩ := ry; exact eq_str (fin_bl I q dec_str)
    | _ => exact absurd (show false = true from hs) Bool.false_ne_true
  | byt i =>
    obtain ⟨t, rfl⟩ := rx
    cases y with
    | byt j => obtain ⟨t', rfl⟩ := ry; exact PySem.W.eq_bytes (fin_bl I q dec_byt)
    | _ => exact absurd (show false = true from hs) Bool.false_ne_true
  | _ => cases y <;> exact absurd (show false = true from hs) Bool.false_ne_true
theorem op_ne : OpR X (compareOp .NotEq) rNe := by
  intro pins s σ H x y v u Q I rx ry h
  obtain ⟨hs, q⟩ := h
  cases x with
  | non =>
    cases rx
    cases y with
    | non => cases ry; exact PySem.EqNone.ne_none_none (fin_bl I q (by simp))
    | bl j => cases ry; exact PySem.EqNone.ne_none_bool (fin_bl I q (by simp))
    | int j => obtain ⟨t', rfl⟩ := ry; exact PySem.EqNone.ne_none_int (fin_bl I q (by simp))
    | str j => obtain ⟨t', rfl⟩ := ry; exact PySem.EqNone.ne_none_str (fin_bl I q (by simp))
    | _ => exact absurd (show false = true from hs) Bool.false_ne_true
  | bl i =>
    cases rx
    cases y with
    | non => cases ry; exact PySem.EqNone.ne_bool_none (fin_bl I q (by simp))
    | bl j => cases ry; exact ne_bool (fin_bl I q (congrArg not dec_bl))
    | str j => obtain ⟨t', rfl⟩ := ry; exact PySem.EqMixed.ne_bool_str (fin_bl I q (by simp))
    | _ => exact absurd (show false = true from hs) Bool.false_ne_true
  | int i =>
    obtain ⟨t, rfl⟩ := rx
    cases y with
    | non => cases ry; exact PySem.EqNone.ne_int_none (fin_bl I q (by simp))
    | int j => obtain ⟨t', rfl⟩ := ry; exact ne_int (fin_bl I q (congrArg not dec_int))
    | str j => obtain ⟨t', rfl⟩ := ry; exact PySem.EqMixed.ne_int_str (fin_bl I q (by simp))
    | _ => exact absurd (show false = true from hs) Bool.false_ne_true
  | str i =>
    obtain ⟨t, rfl⟩ := rx
    cases y with
    | non => cases ry; exact PySem.EqNone.ne_str_none (fin_bl I q (by simp))
    | bl j => cases ry; exact PySem.EqMixed.ne_str_bool (fin_bl I q (by simp))
    | int j => obtain ⟨t', rfl⟩ := ry; exact PySem.EqMixed.ne_str_int (fin_bl I q (by simp))
    | str j => obtain ⟨t', rfl⟩ := ry; exact ne_str (fin_bl I q (congrArg not dec_str))
    | _ => exact absurd (show false = true from hs) Bool.false_ne_true
  | byt i =>
    obtain ⟨t, rfl⟩ := rx
    cases y with
    | byt j => obtain ⟨t', rfl⟩ := ry; exact PySem.W.ne_bytes (fin_bl I q (congrArg not dec_byt))
    | _ => exact absurd (show false = true from hs) Bool.false_ne_true
  | _ => cases y <;> exact absurd (show false = true from hs) Bool.false_ne_true

theorem op_lt : OpR X (compareOp .Lt) (rI0 fun i j => .bl (decide (i < j))) := opB0 fun _ _ _ _ _ _ _ q => lt_int q
theorem op_le : OpR X (compareOp .LtE) (rI0 fun i j => .bl (decide (i ≤ j))) := opB0 fun _ _ _ _ _ _ _ q => le_int q
theorem op_gt : OpR X (compareOp .Gt) (rI0 fun i j => .bl (decide (j < i))) := opB0 fun _ _ _ _ _ _ _ q => gt_int q
theorem op_ge : OpR X (compareOp .GtE) (rI0 fun i j => .bl (decide (j ≤ i))) := opB0 fun _ _ _ _ _ _ _ q => ge_int q
/-- the one string within the other -/
theorem op_in_str : OpR X (compareOp .In) (fun x y H Q => ∃ i j, x = .str i ∧ y = .str j ∧ Q (.bl (!(Builtin.Str.occurrences j i 0 j.length 1).isEmpty)) H) := by
  intro pins s σ H x y v u Q I rx ry h
  obtain ⟨i, j, rfl, rfl, q⟩ := h
  obtain ⟨t, rfl⟩ := rx
  obtain ⟨t', rfl⟩ := ry
  exact in_str (fin_bl I q rfl)

/-- is None, is not None: the right side a value none -/
theorem op_isN : OpR X (compareOp .Is) (fun x y H Q => y = .non ∧ Q (.bl (decide (x = .non))) H) := by
  intro pins s σ H x y v u Q I rx ry h
  obtain ⟨rfl, q⟩ := h
  cases ry
  refine is_none_gen (fin_bl I q ?_)
  cases x <;> first
    | (cases rx; rfl)
    | (obtain ⟨t, rfl⟩ := rx; rfl)
/-- two rules for one operation: by cases -/
theorem OpR.or {f : Value → Value → Sem Value} {r r' : R2} (h : OpR X f r) (h' : OpR X f r') : OpR X f (fun x y H Q => r x y H Q ∨ r' x y H Q) := by
  intro pins s σ H x y v u Q I rx ry q
  rcases q with q | q
  · exact h pins s σ H x y v u Q I rx ry q
  · exact h' pins s σ H x y v u Q I rx ry q

theorem nomark (b : Expr) {op : CmpOp} (h : op ≠ .In := by decide) (h2 : op ≠ .NotIn := by decide) : behindInMarks op b = false := by
  have e1 : (op == CmpOp.In) = false := by cases op <;> first | rfl | exact absurd rfl h
  have e2 : (op == CmpOp.NotIn) = false := by cases op <;> first | rfl | exact absurd rfl h2
  cases b <;> simp [behindInMarks, e1, e2]
/-- a comparison as a value; hm: nomark b, or (for in, not in) by with_unfolding_all rfl -/
theorem pe_cmpR {op : CmpOp} {r : R2} (ho : OpR X (compareOp op) r) (ha : PE X a ta) (hb : PE X b tb) (hm : behindInMarks op b = false) : PE X (.Compare a [op] [b] pos) (tOp r ta tb) := by
  intro pins s σ H Q I h
  exact wpAny_Compare1 (binT ha hb I h fun v u s2 x y H2 I2 rx ry q => ho pins s2 σ H2 x y v u Q I2 rx ry q) hm
/-- a reading of a value as a test -/
noncomputable def tTest (t : TE) : TT := fun σ H Q => t σ H fun x H' => ∃ k, x = .bl k ∧ Q k H'
theorem pt_cmpR {op : CmpOp} {r : R2} (ho : OpR X (compareOp op) r) (ha : PE X a ta) (hb : PE X b tb) (hm : behindInMarks op b = false) : PT X (.Compare a [op] [b] pos) (tTest (tOp r ta tb)) := by
  intro pins s σ H Q I h
  refine wpAny_isTrue_Compare1 (thn (ha pins s σ H _ I h) fun v s1 ⟨x, H1, I1, r1, q1⟩ => thn (hb pins s1 σ H1 _ I1 q1) fun u s2 ⟨y, H2, I2, r2, q2⟩ =>
    thn (ho pins s2 σ H2 x y v u _ I2 r1 r2 q2) fun c s3 ⟨z, H3, I3, r3, k, e, q3⟩ => ?_) hm
  subst e
  cases r3
  exact wpAny_truthy_bool ⟨H3, I3, q3⟩
/-- a op1 b op2 c -/
noncomputable def tChain (r r' : R2) (ta tb tc : TE) : TE := fun σ H Q => ta σ H fun x H1 => tb σ H1 fun y H2 => r x y H2 fun z H3 => ∃ k, z = .bl k ∧
  (if k = true then tc σ H3 fun w' H4 => r' y w' H4 Q else Q (.bl false) H3)
theorem pe_chain {op op' : CmpOp} {r r' : R2} (ho : OpR X (compareOp op) r) (ho' : OpR X (compareOp op') r') (ha : PE X a ta) (hb : PE X b tb) (hc : PE X c tc)
    (hm : lastMarks [op, op'] [b, c] = false := by with_unfolding_all rfl) : PE X (.Compare a [op, op'] [b, c] pos) (tChain r r' ta tb tc) := by
  intro pins s σ H Q I h
  refine Compare_chain (thn (ha pins s σ H _ I h) fun v s1 ⟨x, H1, I1, r1, q1⟩ => chain_link (thn (hb pins s1 σ H1 _ I1 q1) fun u s2 ⟨y, H2, I2, r2, q2⟩ =>
    thn (ho pins s2 σ H2 x y v u _ I2 r1 r2 q2) fun d s3 ⟨z, H3, I3, r3, k, e, q3⟩ => ?_)) hm
  subst e
  cases r3
  refine wpAny_truthy_bool ?_
  cases k with
  | false => exact ite_ff ⟨.bl false, H3, I3, rfl, q3⟩
  | true => exact ite_tt (chain_last (thn (hc pins s3 σ H3 _ I3 q3) fun w' s4 ⟨z', H4, I4, r4, q4⟩ => ho' pins s4 σ H4 y z' u w' Q I4 r2 r4 q4))
theorem line63 : (sizeLine : Nat) < 2 ^ 63 := by rw [sizeLine_eq]; decide
theorem op_add_str : OpR X (binaryOp .Add) (fun x y H Q => ∃ i j, x = .str i ∧ y = .str j ∧ i.length + j.length ≤ sizeLine ∧ Q (.str (i ++ j)) H) := by
  intro pins s σ H x y v u Q I rx ry h
  obtain ⟨i, j, rfl, rfl, hz, q⟩ := h
  obtain ⟨t, rfl⟩ := rx
  obtain ⟨t', rfl⟩ := ry
  exact add_str (fun t' tk => ⟨.str (i ++ j), H, I.tok _, ⟨_, rfl⟩, q⟩) hz
/-! ### scalar builtins, by CallR -/
theorem vals1 {x : V} {us : List Value} (r : Vals [x] us) : ∃ u, us = [u] ∧ RelV x u := by
  cases r with
  | cons r1 r2 => cases r2; exact ⟨_, rfl, r1⟩
theorem vals2 {x y : V} {us : List Value} (r : Vals [x, y] us) : ∃ u w', us = [u, w'] ∧ RelV x u ∧ RelV y w' := by
  cases r with
  | cons r1 r2 =>
    cases r2 with
    | cons r3 r4 => cases r4; exact ⟨_, _, rfl, r1, r3⟩
theorem call_abs : CallR X (.builtin "abs") (fun xs H Q => ∃ i, xs = [.int i] ∧ Q (.int (if i < 0 then -i else i)) H) := by
  intro pins s σ H xs us Q I r h
  obtain ⟨i, rfl, q⟩ := h
  obtain ⟨u, rfl, t, rfl⟩ := vals1 r
  exact call_abs_int fun u tk => ⟨.int (if i < 0 then -i else i), H, I.tok _, ⟨_, rfl⟩, q⟩
theorem call_max2 (hc : X.calm = true) : CallR X (.builtin "max") (fun xs H Q => ∃ i j, xs = [.int i, .int j] ∧ Q (.int (if j > i then j else i)) H) := by
  intro pins s σ H xs us Q I r h
  obtain ⟨i, j, rfl, q⟩ := h
  obtain ⟨u, w', rfl, ⟨t, rfl⟩, ⟨t', rfl⟩⟩ := vals2 r
  refine max_two_ints (I.ok.hd hc) fun h' tk k => ⟨_, H, I.kept k, ?_, q⟩
  by_cases hj : j > i
  · rw [if_pos hj, if_pos hj]; exact ⟨_, rfl⟩
  · rw [if_neg hj, if_neg hj]; exact ⟨_, rfl⟩
theorem call_min2 (hc : X.calm = true) : CallR X (.builtin "min") (fun xs H Q => ∃ i j, xs = [.int i, .int j] ∧ Q (.int (if j < i then j else i)) H) := by
  intro pins s σ H xs us Q I r h
  obtain ⟨i, j, rfl, q⟩ := h
  obtain ⟨u, w', rfl, ⟨t, rfl⟩, ⟨t', rfl⟩⟩ := vals2 r
  refine min_two_ints (I.ok.hd hc) fun h' tk k => ⟨_, H, I.kept k, ?_, q⟩
  by_cases hj : j < i
  · rw [if_pos hj, if_pos hj]; exact ⟨_, rfl⟩
  · rw [if_neg hj, if_neg hj]; exact ⟨_, rfl⟩
theorem call_int1 : CallR X (.type "int") (fun xs H Q => (∃ i, xs = [.int i] ∧ Q (.int i) H) ∨ ∃ k, xs = [.bl k] ∧ Q (.int (if k then 1 else 0)) H) := by
  intro pins s σ H xs us Q I r h
  rcases h with ⟨i, rfl, q⟩ | ⟨k, rfl, q⟩
  · obtain ⟨u, rfl, t, rfl⟩ := vals1 r
    exact call_int_int ⟨.int i, H, I, ⟨_, rfl⟩, q⟩
  · obtain ⟨u, rfl, r1⟩ := vals1 r
    cases r1
    exact call_int_bool ⟨.int (if k then 1 else 0), H, I.tok _, ⟨_, rfl⟩, q⟩
end
end L2

namespace L2
open PySem PySem.Spec PyProof.Rows

/-! ### an instance, its attributes a map -/
structure ObjM (h : Heap) (x dx C : Addr) (mA : Str → Option Value) : Prop where
  obj : h.get? x = some (PySem.W.instObj C dx)
  ns : h.Ns1 dx mA
  ne : dx ≠ x

theorem lookIn_ns {h : Heap} {dx : Addr} {mA : Str → Option Value} (n : h.Ns1 dx mA) : ∃ od, h.get? dx = some od ∧ ∀ name, PySem.W.lookIn name od = some (mA name) := by
  obtain ⟨o, es, ep, ho, hd, hk, _, hm⟩ := n
  refine ⟨o, ho, fun name => ?_⟩
  have e := hm name
  unfold nsFind findBy at e
  rw [← Array.find?_toList] at e
  unfold PySem.W.lookIn
  rw [hd]
  dsimp only
  split
  · rename_i y q
    rw [q] at e
    exact congrArg some e
  · rename_i q
    rw [q] at e
    have a : es.toList.any (·.refKey) = false := by
      rw [List.any_eq_false]
      intro y hy
      obtain ⟨z, t, hkey⟩ := hk y (Array.mem_toList_iff.mp hy)
      simp [DictEntry.refKey, hkey]
    have a' : ¬ es.toList.any (·.refKey) = true := by rw [a]; exact Bool.false_ne_true
    rw [if_neg a']
    exact congrArg some e

theorem ObjM.look {h : Heap} {x dx C : Addr} {mA : Str → Option Value} (I : ObjM h x dx C mA) : ∃ od, PySem.W.InstAt h x (PySem.W.instObj C dx) C (some od) ∧ ∀ name, PySem.W.lookIn name od = some (mA name) :=
  let ⟨od, ho, hl⟩ := lookIn_ns I.ns
  ⟨od, ⟨I.obj, rfl, rfl, ho⟩, hl⟩

section
variable {prog : Program} {w : World} {A : Around} {E : Value → Shared → Prop} {s : Shared} {K : PySem.W.Frag} {x dx C f : Addr} {mA : Str → Option Value} {name : Str} {v : Value}

theorem get_map {expr : Bool} {Q : Value → Shared → Prop} (X : K.In s.heap) (I : ObjM s.heap x dx C mA) (hg : PySem.W.plainGet K C name = true) (hh : PySem.W.hasDictIn K C = true)
    (ha : PySem.W.findIn K (.ref C) name = some none) (hv : mA name = some v) (hv' : PySem.W.handedIn v = true) (h : Q v { s with toks := s.toks + 1 }) :
    wpAny (model prog w) A (getAttr (.ref x) name expr) Q E s := by
  obtain ⟨od, J, hl⟩ := I.look
  exact PySem.W.get_value X J (PySem.W.plainGet_of hg).1 (PySem.W.findObj_own hh ha rfl (by rw [hl, hv])) hv' h

theorem get_meth {pl : Sem Bool} {Q : Value × List Value → Shared → Prop} (X : K.In s.heap) (I : ObjM s.heap x dx C mA) (hg : PySem.W.plainGet K C name = true)
    (hf : PySem.W.findIn K (.ref C) name = some (some (.ref f))) (ht : PySem.W.isFn K (.ref f) = true) (hv : mA name = none) (h : Q (.ref f, [.ref x]) s) :
    wpAny (model prog w) A (getMethod (.ref x) name pl) Q E s := by
  obtain ⟨od, J, hl⟩ := I.look
  exact PySem.W.method_fn X J (PySem.W.plainGet_of hg).1 (PySem.W.plainGet_of hg).2 hf (beq_iff_eq.mp ht) (by show (PySem.W.lookIn name od).map (·.isSome) = some false; rw [hl, hv]; rfl) h

theorem set_map {ns : List Str} {Q : Unit → Shared → Prop} (X : K.In s.heap) (I : ObjM s.heap x dx C mA)
    (hs : PySem.W.findIn K (.ref C) "__setattr__" = some (some (.builtin "object.__setattr__"))) (hp : PySem.W.plainOver K C = true) (ht : PySem.W.takerIn K C name = some none) (hh : PySem.W.hasDictIn K C = true)
    (hw : PySem.Within mA ns) (hsz : ns.length ≤ sizeLine)
    (h : ∀ h', ObjM h' x dx C (fun y => if y = name then some v else mA y) → Heap.SameBut dx s.heap h' → Q () { s with heap := h', toks := s.toks + 2 }) :
    wpAny (model prog w) A (setAttr (.ref x) name v) Q E s := by
  obtain ⟨od, J, hl⟩ := I.look
  refine PySem.W.set_plain X J hs (PySem.W.osa_open (s := { s with toks := s.toks + 1 }) (r := none) X J hp ht fun b => ?_)
  obtain ⟨cd, hc, hd'⟩ := PySem.W.any_some hh
  have hx : s.heap.get? x = some ⟨.ref C, some dx, .plain, #[]⟩ := I.obj
  refine wpAny_bind (wpAny_pure (wpAny_bind (wpAny_bind (wpAny_loadPart hx (wpAny_bind (PySem.W.Looks.here (s := { s with toks := s.toks + 1 }) (PySem.W.looks_clsIn X hc) ?_))))))
  rw [hd']
  refine wpAny_pure (a := some dx) (wpAny_bind (wpAny_pure (wpAny_bind ?_)))
  refine wpAny_nsSet1 (s := { s with toks := s.toks + 1 }) I.ns fun h' hn2 hs2 => ?_
  obtain ⟨oD, esD, epD, hoD, hdD, hcD⟩ := hn2.count (PySem.Within.cons name v hw)
  refine wpAny_bind (wpAny_lookBehind hoD (by rw [hdD]; exact pastItsLine_dict (Nat.le_trans hcD (by rw [List.length_cons]; omega))) ?_)
  exact wpAny_pure (h _ ⟨(hs2.2 _ (Ne.symm I.ne)).trans I.obj, hn2, I.ne⟩ hs2)

/-- C(..): the dict at the heap's end, the instance behind it; then its __init__ -/
theorem make_map {R : Result → Shared → Prop} {vs : List Value} {kw : List (Str × Value)} (X : K.In s.heap) (hm : PySem.W.makesIn K C = true)
    (hi : PySem.W.findIn K (.ref C) "__init__" = some (some (.ref f))) (hf : PySem.W.typeIn K (.ref f) = some (.type "function"))
    (h : codeAny (model prog w) (A.under (.builtin "type.__call__" ⟨.ref C :: vs, kw⟩)) (.call (.ref f) ⟨.ref (s.heap.objs.size + 1) :: vs, kw⟩) (PySem.W.InitBack (s.heap.objs.size + 1) R)
      { s with heap := (s.heap.push PySem.W.emptyDict).push (PySem.W.instObj C s.heap.objs.size) }) :
    codeAny (model prog w) A (.call (.ref C) ⟨vs, kw⟩) R s := by
  obtain ⟨hh, g, d, t, os⟩ := s
  exact PySem.W.make_core (PySem.W.makes_of X hm) (PySem.W.looks_findIn X hi) (fun self => PySem.W.bind_fn X self hf) (.inl rfl) h
end

/-! ### the attributes as a list of pairs -/
noncomputable def putF (f : Str) (v : V) : List (Str × V) → List (Str × V)
  | [] => [(f, v)]
  | (g, x) :: r => if g = f then (g, v) :: r else (g, x) :: putF f v r
theorem lookup_putF (f g : Str) (v : V) : ∀ fs : List (Str × V), (putF f v fs).lookup g = if g = f then some v else fs.lookup g
  | [] => by
    show List.lookup g [(f, v)] = _
    by_cases h : g = f
    · have hb : (g == f) = true := beq_iff_eq.mpr h
      simp only [List.lookup, hb, if_pos h]
    · have hb : (g == f) = false := beq_eq_false_iff_ne.mpr h
      simp only [List.lookup, hb, if_neg h]
  | (k, x) :: r => by
    have ih := lookup_putF f g v r
    rw [show putF f v ((k, x) :: r) = (if k = f then (k, v) :: r else (k, x) :: putF f v r) from rfl]
    by_cases hk : k = f
    · rw [if_pos hk]
      by_cases h : g = k
      · have hb : (g == k) = true := beq_iff_eq.mpr h
        simp only [List.lookup, hb, if_pos (h.trans hk)]
      · have hb : (g == k) = false := beq_eq_false_iff_ne.mpr h
        simp only [List.lookup, hb, if_neg (fun e : g = f => h (e.trans hk.symm))]
    · rw [if_neg hk]
      by_cases h : g = k
      · have hb : (g == k) = true := beq_iff_eq.mpr h
        simp only [List.lookup, hb, if_neg (fun e : g = f => hk (h.symm.trans e))]
      · have hb : (g == k) = false := beq_eq_false_iff_ne.mpr h
        simp only [List.lookup, hb]
        exact ih
theorem keys_putF (f : Str) (v : V) : ∀ fs : List (Str × V), f ∈ (putF f v fs).map (·.1) ∧ ∀ g, g ∈ fs.map (·.1) → g ∈ (putF f v fs).map (·.1)
  | [] => ⟨by simp [putF], fun g h => by simp at h⟩
  | (k, x) :: r => by
    obtain ⟨i1, i2⟩ := keys_putF f v r
    rw [show putF f v ((k, x) :: r) = (if k = f then (k, v) :: r else (k, x) :: putF f v r) from rfl]
    by_cases hk : k = f
    · rw [if_pos hk]
      subst hk
      exact ⟨by simp, fun g h => by simpa using h⟩
    · rw [if_neg hk]
      refine ⟨?_, fun g h => ?_⟩
      · rw [List.map_cons]
        exact List.mem_cons_of_mem _ i1
      · rw [List.map_cons] at h ⊢
        rcases List.mem_cons.mp h with e | e
        · exact List.mem_cons.mpr (.inl e)
        · exact List.mem_cons_of_mem _ (i2 g e)
theorem length_putF (f : Str) (v : V) : ∀ fs : List (Str × V), (putF f v fs).length ≤ fs.length + 1
  | [] => by simp [putF]
  | (k, x) :: r => by
    have ih := length_putF f v r
    rw [show putF f v ((k, x) :: r) = (if k = f then (k, v) :: r else (k, x) :: putF f v r) from rfl]
    by_cases hk : k = f
    · rw [if_pos hk, List.length_cons, List.length_cons]; omega
    · rw [if_neg hk, List.length_cons, List.length_cons]; omega

theorem RelO.some_of {v : V} {o : Option Value} (r : RelO (some v) o) : ∃ u, o = some u ∧ RelV v u := by
  cases o with
  | none => exact (show False from r).elim
  | some u => exact ⟨u, rfl, r⟩
theorem RelO.none_of {o : Option Value} (r : RelO none o) : o = none := by
  cases o with
  | none => rfl
  | some u => exact (show False from r).elim
theorem handed_of {v : V} {u : Value} (r : RelV v u) : PySem.W.handedIn u = true := by
  cases v with
  | non => cases (show u = Value.none from r); rfl
  | bl b => cases (show u = Value.bool b from r); rfl
  | int i => obtain ⟨t, e⟩ := (show ∃ t, u = Value.int i t from r); cases e; rfl
  | str x => obtain ⟨t, e⟩ := (show ∃ t, u = Value.str x t from r); cases e; rfl
  | byt b => obtain ⟨t, e⟩ := (show ∃ t, u = Value.bytes b t from r); cases e; rfl
  | flt b => obtain ⟨t, e⟩ := (show ∃ t, u = Value.float b t from r); cases e; rfl
  | ref a => cases (show u = Value.ref a from r); rfl
  | ty n => cases (show u = Value.type n from r); rfl

section
variable {P : Program} {w : World} {H H' : Hp} {h h' : Heap} {a C dx : Addr} {fs fs' : List (Str × V)}
theorem ins_get (hok : HOk P w H h) (e : H a = some (.ins C dx fs)) : ∃ mA, ObjM h a dx C mA ∧ (∀ f, RelO (fs.lookup f) (mA f)) ∧ PySem.Within mA (fs.map (·.1)) ∧ fs.length ≤ 1000 ∧ H dx = some (.own a) := by
  obtain ⟨d, z, ne, ob, mA, n, r, q⟩ := (show ObjOk P w H h a (.ins C dx fs) from hok a _ e)
  exact ⟨mA, ⟨ob, n, ne⟩, r, q, z, d⟩
end

/-! ### what of the text a class must have -/
structure Cls (K : PySem.W.Frag) (C : Addr) : Prop where
  pg : PySem.W.plainGet K C Str.empty = true
  hd : PySem.W.hasDictIn K C = true
  po : PySem.W.plainOver K C = true
  sa : PySem.W.findIn K (.ref C) "__setattr__" = some (some (.builtin "object.__setattr__"))
theorem Cls.get {K : PySem.W.Frag} {C : Addr} (c : Cls K C) (f : Str) : PySem.W.plainGet K C f = true := c.pg
/-- no class of it has the name -/
noncomputable def NoAttr (K : PySem.W.Frag) (C : Addr) (f : Str) : Prop := PySem.W.findIn K (.ref C) f = some none
theorem NoAttr.taker {K : PySem.W.Frag} {C : Addr} {f : Str} (n : NoAttr K C f) : PySem.W.takerIn K C f = some none := by
  unfold PySem.W.takerIn
  rw [show PySem.W.findIn K (.ref C) f = some none from n]
  rfl
/-- a constant of the class -/
structure Con (K : PySem.W.Frag) (C : Addr) (f : Str) (v : V) (u : Value) : Prop where
  at_ : PySem.W.findIn K (.ref C) f = some (some u)
  rel : RelV v u
  get : PySem.W.specialIn K u "__get__" = some none
  cp : PySem.W.copiedNames.contains f = false
/-- a method: a plain def of the class or of one above it -/
structure Meth (K : PySem.W.Frag) (C : Addr) (m : Str) (f : Addr) : Prop where
  at_ : PySem.W.findIn K (.ref C) m = some (some (.ref f))
  fn : PySem.W.isFn K (.ref f) = true
  kp : PySem.W.keepIn K (.ref f) = true

section
variable {X : Cx} {pins : List (Addr × Obj)} {σ : St} {H : Hp} {s : Shared} {a C dx : Addr} {fs : List (Str × V)} {f : Str} {v : V} {A : Around} {E : Value → Shared → Prop}

theorem getattr_ok {b : Bool} {Q : Value → Shared → Prop} (I : Inv X pins σ H s) (e : H a = some (.ins C dx fs)) (c : Cls X.K C) (n : NoAttr X.K C f) (l : fs.lookup f = some v)
    (h : ∀ u s', Inv X pins σ H s' → RelV v u → Q u s') : wpAny (model X.prog X.w) A (getAttr (.ref a) f b) Q E s := by
  obtain ⟨mA, O, r, _, _, _⟩ := ins_get I.hok e
  obtain ⟨u, hu, ru⟩ := RelO.some_of (v := v) (o := mA f) (by rw [← l]; exact r f)
  exact get_map I.kIn O (c.get f) c.hd n hu (handed_of ru) (h u _ (I.tok _) ru)

theorem getmeth_ok {m : Str} {g : Addr} {pl : Sem Bool} {Q : Value × List Value → Shared → Prop} (I : Inv X pins σ H s) (e : H a = some (.ins C dx fs)) (c : Cls X.K C) (k : Meth X.K C m g) (l : fs.lookup m = none)
    (h : Q (.ref g, [.ref a]) s) : wpAny (model X.prog X.w) A (getMethod (.ref a) m pl) Q E s := by
  obtain ⟨mA, O, r, _, _, _⟩ := ins_get I.hok e
  have hn : mA m = none := RelO.none_of (by rw [← l]; exact r m)
  exact get_meth I.kIn O (c.get m) k.at_ k.fn hn h

theorem setattr_ok {y : V} {u : Value} {Q : Unit → Shared → Prop} (I : Inv X pins σ H s) (e : H a = some (.ins C dx fs)) (c : Cls X.K C) (n : NoAttr X.K C f) (hl : fs.length < 1000) (ry : RelV y u)
    (h : ∀ s', Inv X pins σ (upd H a (.ins C dx (putF f y fs))) s' → Q () s') : wpAny (model X.prog X.w) A (setAttr (.ref a) f u) Q E s := by
  obtain ⟨mA, O, r, wi, _, ho⟩ := ins_get I.hok e
  have hz : (fs.map (·.1)).length ≤ sizeLine := by rw [List.length_map, sizeLine_eq]; omega
  refine set_map I.kIn O c.sa c.po n.taker c.hd wi hz fun h' O' sb => h _ ?_
  have hd : ∃ o, h'.get? dx = some o := let ⟨o, _, _, e', _⟩ := O'.ns; ⟨o, e'⟩
  refine I.write (x := a) (e := dx) (by rw [e]; exact True.intro) (.inr ho) (fun b q hb z => (sb.2 b hb).trans z) hd ?_
  refine ⟨by rw [upd_ne O.ne]; exact ho, ?_, O.ne, O'.obj, _, O'.ns, fun g => ?_, fun g hg => ?_⟩
  · have := length_putF f y fs; omega
  · show RelO ((putF f y fs).lookup g) (if g = f then some u else mA g)
    rw [lookup_putF]
    by_cases q : g = f
    · rw [if_pos q, if_pos q]; exact ry
    · rw [if_neg q, if_neg q]; exact r g
  · by_cases q : g = f
    · rw [q]; exact (keys_putF f y fs).1
    · refine (keys_putF f y fs).2 g (wi g fun z => hg ?_)
      show (if g = f then some u else mA g) = none
      rw [if_neg q]; exact z

/-- a new instance, tracked, without attributes -/
theorem Inv.made (I : Inv X pins σ H s) : Inv X pins σ (upd (upd H s.heap.objs.size (.own (s.heap.objs.size + 1))) (s.heap.objs.size + 1) (.ins C s.heap.objs.size []))
    { s with heap := (s.heap.push PySem.W.emptyDict).push (PySem.W.instObj C s.heap.objs.size) } := by
  have e1 : (s.heap.push PySem.W.emptyDict).get? s.heap.objs.size = some PySem.W.emptyDict := Heap.get?_push_size s.heap rfl
  have e2 : ((s.heap.push PySem.W.emptyDict).push (PySem.W.instObj C s.heap.objs.size)).get? (s.heap.objs.size + 1) = some (PySem.W.instObj C s.heap.objs.size) := by
    have := Heap.get?_push_size (s.heap.push PySem.W.emptyDict) (o := PySem.W.instObj C s.heap.objs.size) rfl
    rwa [Heap.size_push] at this
  have e3 : (s.heap.push PySem.W.emptyDict).Ns s.heap.objs.size (fun _ => none) := ⟨PySem.W.emptyDict, #[], _, e1, rfl, (fun e he => absurd he (by simp)), fun _ => rfl⟩
  have I1 := I.laid (a := s.heap.objs.size) (o := .own (s.heap.objs.size + 1)) (h' := s.heap.push PySem.W.emptyDict) (t' := s.toks) (fun b u q => Heap.get?_push_of_some _ q) (Nat.le_refl _) ⟨_, e1⟩
  refine I1.laid (a := s.heap.objs.size + 1) (o := .ins C s.heap.objs.size []) (t' := s.toks) (fun b u q => Heap.get?_push_of_some _ q) (Nat.le_of_eq (Heap.size_push _ _)) ?_
  have ne : s.heap.objs.size ≠ s.heap.objs.size + 1 := Nat.ne_of_lt (Nat.lt_succ_self _)
  refine ⟨by rw [upd_ne ne, upd_same], Nat.zero_le _, ne, e2, fun _ => none, (Heap.Ns1.of_empty e3).at fun o q => Heap.get?_push_of_some _ q, fun _ => True.intro, fun y hy => absurd rfl hy⟩

/-- e.f where nothing but the object is asked: through attributeBase (super) and the last hold -/
theorem attr_of {prog : Program} {w : World} {env : Env} {e : Expr} {f : Str} {pos : Pos} {s : Shared} {Q : Value → Shared → Prop} (hb : attributeBase e f env (eval e env) = eval e env)
    (h : wpAny (model prog w) A (eval e env) (fun o s₁ => wpAny (model prog w) A (getAttr o f true) Q E s₁) E s) : wpAny (model prog w) A (eval (.Attribute e f pos) env) Q E s :=
  Attribute_any_ h (by rw [arm_eval_Attribute, hb])
end

/-! ### readings and rules -/
/-- e.f, an attribute of the instance -/
noncomputable def tFld (K : PySem.W.Frag) (ta : TE) (f : Str) : TE := fun σ H Q => ta σ H fun x H1 => ∃ a C dx fs v, x = .ref a ∧ H1 a = some (.ins C dx fs) ∧ Cls K C ∧ NoAttr K C f ∧ fs.lookup f = some v ∧ Q v H1
/-- e.f = value -/
noncomputable def sFld (K : PySem.W.Frag) (ta tv : TE) (f : Str) : TS := fun D σ H => tv σ H fun y H1 => ta σ H1 fun x H2 => ∃ a C dx fs, x = .ref a ∧ H2 a = some (.ins C dx fs) ∧ Cls K C ∧ NoAttr K C f ∧ fs.length < 1000 ∧
  D.nx σ (upd H2 a (.ins C dx (putF f y fs)))
section
variable {X : Cx} {o e value : Expr} {f : Str} {pos pos' tpos : Pos} {ta tv : TE}
theorem pe_fld (he : PE X e ta) (hb : attributeBase e f X.env (eval e X.env) = eval e X.env) : PE X (.Attribute e f pos) (tFld X.K ta f) := by
  intro pins s σ H Q I h
  refine attr_of hb (thn (he pins s σ H _ I h) fun u s1 ⟨x, H1, I1, rx, a, C, dx, fs, v, ex, ea, c, n, l, q⟩ => ?_)
  subst ex
  obtain rfl : u = Value.ref a := rx
  exact getattr_ok I1 ea c n l fun u' s2 I2 ru => ⟨v, H1, I2, ru, q⟩
theorem ps_fld (ha : PE X o ta) (hv : PE X value tv) (hs : swapsWith value (some (.Attribute o f pos')) pos.line X.env = pure false) : PS X (.Assign [.Attribute o f pos'] value pos) (sFld X.K ta tv f) := by
  intro pins s σ H D I h
  refine plainObj_wpAny_Assign_Attribute (thn (hv pins s σ H _ I h) fun u s1 ⟨y, H1, I1, ry, q⟩ => thn (ha pins s1 σ H1 _ I1 q) fun ov s2 ⟨x, H2, I2, rx, a, C, dx, fs, ex, ea, c, n, l, q2⟩ => ?_) hs
  subst ex
  obtain rfl : ov = Value.ref a := rx
  exact setattr_ok I2 ea c n l ry fun s3 I3 => ⟨σ, _, I3, q2⟩
end

/-! ### isinstance -/
section
variable {X : Cx} {pins : List (Addr × Obj)} {σ : St} {H : Hp} {s : Shared} {A : Around} {E : Value → Shared → Prop} {Q : Value → Shared → Prop} {c : Value} {b : Bool}
/-- the type of a value, as the fragment's deciders take it; for an instance its class -/
inductive TyOf (K : PySem.W.Frag) (H : Hp) : V → Value → Prop where
  | non : TyOf K H .non (.type "NoneType")
  | bl (x : Bool) : TyOf K H (.bl x) (.type "bool")
  | int (i : Int) : TyOf K H (.int i) (.type "int")
  | str (x : Str) : TyOf K H (.str x) (.type "str")
  | flt (x : UInt64) : TyOf K H (.flt x) (.type "float")
  | lst {a : Addr} {xs : List V} (e : H a = some (.lst xs)) : TyOf K H (.ref a) (.type "list")
  | frz {a : Addr} {o : Obj} {xs : List V} (e : H a = some (.frz o (.lst xs))) : TyOf K H (.ref a) (.type "list")
  | tup {a : Addr} {xs : List V} (e : H a = some (.tup xs)) : TyOf K H (.ref a) (.type "tuple")
  | dK {a : Addr} {kvs : List (Key × V)} (e : H a = some (.dK kvs)) : TyOf K H (.ref a) (.type "dict")
  | dT {a : Addr} {kvs : List (List Key × V)} (e : H a = some (.dT kvs)) : TyOf K H (.ref a) (.type "dict")
  | ins {a C dx : Addr} {fs : List (Str × V)} (e : H a = some (.ins C dx fs)) (cl : Cls K C) (ha : PySem.W.findIn K (.ref C) "__class__" = some (some (.builtin "object.__class__")))
      (hn : PySem.W.specialIn K (.builtin "object.__class__") "__get__" = some (some (.builtin "getset_descriptor.__get__"))) (htk : PySem.W.takesIn K (.builtin "object.__class__") = some true)
      (hm : PySem.W.mroIn K C (.type "object") = some true) : TyOf K H (.ref a) (.ref C)
end
end L2

namespace L2
open PySem PySem.Spec PyProof.Rows

/-! ### room -/
structure Room (k : Nat) (A : Around) : Prop where
  hd : A.handled = none
  dp : A.depth + 3 * k + 5 < recursionLimit
  un : A.units + 16 * k + 200 < cLine
theorem Room.mono {j k : Nat} {A : Around} (r : Room k A) (h : j ≤ k) : Room j A := ⟨r.hd, by have := r.dp; omega, by have := r.un; omega⟩
theorem Room.deeper {k : Nat} {A : Around} (r : Room (k + 1) A) (env : Env) : Room k (A.deeper env) :=
  ⟨r.hd, by have := r.dp; show A.depth + 1 + 3 * k + 5 < _; omega, by have := r.un; show A.units + 3 + 16 * k + 200 < _; omega⟩
theorem Room.in1 {k : Nat} {A : Around} (r : Room (k + 1) A) : Room k A.in1 :=
  ⟨r.hd, by have := r.dp; show A.depth + 3 * k + 5 < _; omega, by have := r.un; show A.units + 1 + 16 * k + 200 < _; omega⟩
theorem make_depth {A : Around} {C : Addr} {us : List Value} {kw : List (Str × Value)} : (A.under (.builtin "type.__call__" ⟨.ref C :: us, kw⟩)).depth = A.depth + 1 := by
  first | rfl | simp [Around.under, Code.weight, Code.isCreation, Code.isGuard, Code.isCaller, Code.frames, Code.isFrame, guardIds]
theorem make_units {A : Around} {C : Addr} {us : List Value} {kw : List (Str × Value)} : (A.under (.builtin "type.__call__" ⟨.ref C :: us, kw⟩)).units = A.units + 1 := by
  first | rfl | simp [Around.under, Code.cUnits, Code.frames, Code.isFrame]
theorem Room.make {k : Nat} {A : Around} (r : Room (k + 1) A) (C : Addr) (us : List Value) (kw : List (Str × Value)) : Room k (A.under (.builtin "type.__call__" ⟨.ref C :: us, kw⟩)) :=
  ⟨r.hd, by have := r.dp; rw [make_depth]; omega, by have := r.un; rw [make_units]; omega⟩
theorem Room.depth {k : Nat} {A : Around} (r : Room k A) : A.depth < recursionLimit := by have := r.dp; omega
theorem Room.units {k : Nat} {A : Around} (r : Room k A) : A.units + 64 < cLine := by have := r.un; omega
/-! ### argument lists and displays -/
noncomputable def tNil : TA := fun _ H Q => Q [] H
noncomputable def tCons (ta : TE) (tr : TA) : TA := fun σ H Q => ta σ H fun x H1 => tr σ H1 fun xs H2 => Q (x :: xs) H2
section
variable {X : Cx} {e : Expr} {es : List Expr} {te : TE} {t : TA} {pos : Pos}
theorem pa_nil : PA X [] tNil := fun _ _ _ _ H Q I h => Calls.spliced_nil ⟨[], H, I, .nil, h⟩
theorem pa_cons (ha : PE X e te) (hr : PA X es t) (hs : starEach (e :: es) X.env = (false, eval e X.env) :: starEach es X.env := by rfl) : PA X (e :: es) (tCons te t) := by
  intro pos pins s σ H Q I h
  rw [hs]
  show wpAny _ _ (spliced ((false, eval e X.env) :: backTo pos (starEach es X.env))) _ _ s
  refine Calls.spliced_cons (thn (ha pins s σ H _ I h) fun u s1 ⟨x, H1, I1, r1, q1⟩ => ?_)
  exact thn (hr pos pins s1 σ H1 _ I1 q1) fun us s2 ⟨xs, H2, I2, r2, q2⟩ => ⟨x :: xs, H2, I2, .cons r1 r2, q2⟩

/-- a tuple, a list of written items -/
noncomputable def tTup (t : TA) : TE := fun σ H Q => t σ H fun xs H1 => xs.length ≤ sizeLine ∧ ∀ p, H1 p = none → Q (.ref p) (upd H1 p (.tup xs))
noncomputable def tLst (t : TA) : TE := fun σ H Q => t σ H fun xs H1 => xs.length ≤ sizeLine ∧ ∀ p, H1 p = none → Q (.ref p) (upd H1 p (.lst xs))
theorem pe_tup {x1} (h : PA X es t) : PE X (.Tuple es x1 pos) (tTup t) := by
  intro pins s σ H Q I hq
  refine wpAny_Tuple_spliced (thn (h pos pins s σ H _ I hq) fun us s1 ⟨xs, H1, I1, r, z, q⟩ => ⟨by rw [← r.length]; exact z, ?_⟩)
  have hf : H1 s1.heap.objs.size = none := I1.hok.fresh (Nat.le_refl _)
  refine ⟨.ref s1.heap.objs.size, upd H1 s1.heap.objs.size (.tup xs), I1.laid (t' := s1.toks) (fun b u e => Heap.get?_push_of_some _ e) (Nat.le_refl _) ?_, rfl, q _ hf⟩
  exact ⟨z, us, r, ⟨_, Heap.get?_push_size _ rfl, rfl, _, rfl⟩⟩
theorem pe_lst (h : PA X es t) : PE X (.List es pos) (tLst t) := by
  intro pins s σ H Q I hq
  refine wpAny_List_spliced (thn (h pos pins s σ H _ I hq) fun us s1 ⟨xs, H1, I1, r, z, q⟩ => ⟨by rw [← r.length]; exact z, ?_⟩)
  have hf : H1 s1.heap.objs.size = none := I1.hok.fresh (Nat.le_refl _)
  refine ⟨.ref s1.heap.objs.size, upd H1 s1.heap.objs.size (.lst xs), I1.laid (t' := s1.toks) (fun b u e => Heap.get?_push_of_some _ e) (Nat.le_refl _) ?_, rfl, q _ hf⟩
  exact ⟨z, us, 0, r, Heap.get?_push_size _ rfl⟩
end

/-! ### what a def promises -/
/-- a def's promise: the bound arguments in the parameters' order, the heap, the wanted end, the wanted exception -/
noncomputable abbrev Sp := List V → Hp → VK → XK → Prop
/-- how an exception lies behind a call (file 08 gives it): the callers' frames, abstract heap and state ahead of the call, the wish, the exception, the state -/
noncomputable abbrev CXT := List Env → Hp → Shared → XK → Value → Shared → Prop

/-- the state at a call -/
structure Env0 (P : Program) (w : World) (K : PySem.W.Frag) (mg : Str → Option Value) (base : Heap) (A : Around) (outer : List Env) (s : Shared) (H : Hp) : Prop where
  frames : A.frames = some outer
  mod : Mod K mg base
  bs : ∀ b o, base.get? b = some o → s.heap.get? b = some o ∧ H b = none
  bsz : base.objs.size ≤ s.heap.objs.size
  funs : s.heap.FunFrames base outer
  frf : ∀ b ∈ frs outer, H b = none
  hok : HOk P w H s.heap
  bare : AllBare s.gens
/-- a call's end -/
noncomputable def CE (outer : List Env) (P : Program) (w : World) (H : Hp) (s : Shared) (Q : VK) (u : Value) (s' : Shared) : Prop :=
  ∃ v H', s'.os = s.os ∧ AllBare s'.gens ∧ Un (frs outer) [] H H' s.heap s'.heap ∧ HOk P w H' s'.heap ∧ RelV v u ∧ Q v H'
noncomputable def CR (CX : CXT) (outer : List Env) (P : Program) (w : World) (H : Hp) (s : Shared) (Q : VK) (E : XK) (r : Result) (s' : Shared) : Prop :=
  match r with
  | .ok (.ret u) => CE outer P w H s Q u s'
  | .ok _ => False
  | .error e => CX outer H s E e s'
structure FnOk (P : Program) (w : World) (K : PySem.W.Frag) (mg : Str → Option Value) (base : Heap) (CX : CXT) (k : Nat) (f : Addr) (fd : FuncData) (ps : List Str) (sp : Sp) : Prop where
  len : ∀ vs H Q E, sp vs H Q E → vs.length = ps.length
  run : ∀ (A : Around) (outer : List Env) (s : Shared) (H : Hp) (args : Args) (us : List Value) (vs : List V) (Q : VK) (E : XK), Room k A → Env0 P w K mg base A outer s H → BindsTo s fd args (ps.zip us) → Vals vs us → sp vs H Q E →
    codeAny (model P w) A (.call (.ref f) args) (CR CX outer P w H s Q E) s
theorem FnOk.mono {P : Program} {w : World} {K : PySem.W.Frag} {mg : Str → Option Value} {base : Heap} {CX : CXT} {j k : Nat} {f : Addr} {fd : FuncData} {ps : List Str} {sp : Sp} (F : FnOk P w K mg base CX j f fd ps sp) (h : j ≤ k) :
    FnOk P w K mg base CX k f fd ps sp := ⟨F.len, fun A outer s H args us vs Q E hr => F.run A outer s H args us vs Q E (hr.mono h)⟩
theorem Env0.make {P : Program} {w : World} {K : PySem.W.Frag} {mg : Str → Option Value} {base : Heap} {A : Around} {outer : List Env} {s : Shared} {H : Hp} (e : Env0 P w K mg base A outer s H) (C : Addr) (us : List Value) (kw : List (Str × Value)) :
    Env0 P w K mg base (A.under (.builtin "type.__call__" ⟨.ref C :: us, kw⟩)) outer s H := ⟨by first | exact e.frames | (simpa [Around.under, Code.envs, Code.isFrame, pushEnvs] using e.frames), e.mod, e.bs, e.bsz, e.funs, e.frf, e.hok, e.bare⟩
theorem Env0.in1 {P : Program} {w : World} {K : PySem.W.Frag} {mg : Str → Option Value} {base : Heap} {A : Around} {outer : List Env} {s : Shared} {H : Hp} (e : Env0 P w K mg base A outer s H) :
    Env0 P w K mg base A.in1 outer s H := ⟨e.frames, e.mod, e.bs, e.bsz, e.funs, e.frf, e.hok, e.bare⟩

section
variable {X : Cx} {pins : List (Addr × Obj)} {σ : St} {H : Hp} {s s' : Shared}
/-- from a body: what a callee wants -/
theorem Inv.env0 (I : Inv X pins σ H s) : Env0 X.prog X.w X.K X.mg X.base X.A X.stack s H :=
  ⟨I.ok.frames, I.ok.mod, I.bs, Nat.le_trans I.ok.bsz I.sz, I.stack, I.stkFree, I.hok, I.bare⟩
/-- behind a call -/
theorem Inv.after {Q : VK} {u : Value} (I : Inv X pins σ H s) (h : CE X.stack X.prog X.w H s Q u s') : EP X pins σ Q u s' := by
  obtain ⟨v, H', os, bare, un, hok, r, q⟩ := h
  obtain ⟨hh, g, d, t, os'⟩ := s'
  obtain rfl : os' = s.os := os
  exact ⟨v, H', I.call (h' := hh) (g' := g) (d' := d) (t' := t) (ch := []) un hok bare (fun b z => absurd z (by simp)), r, q⟩
end

/-! ### calls -/
/-- f(..): the written arguments, then the defaults dvs; E: what is wanted of an exception -/
noncomputable def tCall (sp : Sp) (dvs : List V) (E : XK) (t : TA) : TE := fun σ H Q => t σ H fun vs H1 => sp (vs ++ dvs) H1 Q E
/-- o.m(..) of an instance of the class at C -/
noncomputable def tMeth (C : Addr) (m : Str) (sp : Sp) (dvs : List V) (E : XK) (ta : TE) (t : TA) : TE := fun σ H Q => ta σ H fun x H1 => ∃ a dx fs, x = .ref a ∧ H1 a = some (.ins C dx fs) ∧ fs.lookup m = none ∧
  t σ H1 fun vs H2 => sp (x :: (vs ++ dvs)) H2 Q E
/-- C(..): a new instance and its dict, then __init__ -/
noncomputable def tMake (C : Addr) (sp : Sp) (dvs : List V) (E : XK) (t : TA) : TE := fun σ H Q => t σ H fun vs H1 => ∀ x dx, H1 x = none → H1 dx = none → dx ≠ x →
  sp (.ref x :: (vs ++ dvs)) (upd (upd H1 dx (.own x)) x (.ins C dx [])) (fun v H2 => v = .non ∧ Q (.ref x) H2) E

/-- how the parameters are bound: us the positional arguments, kw the keywords' values by name, ds the defaults that fill up -/
noncomputable def Binds (K : PySem.W.Frag) (fd : FuncData) (ps : List Str) (ds : List Value) : Prop :=
  ∀ (s : Shared) (us : List Value), K.In s.heap → (us ++ ds).length = ps.length → BindsTo s fd ⟨us, []⟩ (ps.zip (us ++ ds))
/-- every parameter is given -/
theorem Binds.all {K : PySem.W.Frag} {fd : FuncData} {ps : List Str} (h : ∀ us : List Value, us.length = ps.length → bindArgs fd ⟨us, []⟩ = pure (ps.zip us)) : Binds K fd ps [] := fun s us _ hl => by
  rw [List.append_nil] at hl ⊢
  exact .of_eq (h us hl)

/-- an exception of a callee reaches what this body wants of exceptions -/
noncomputable def Passes (CX : CXT) (X : Cx) (E : XK) : Prop := ∀ (pins : List (Addr × Obj)) (σ : St) (H : Hp) (s : Shared) (e : Value) (s' : Shared), Inv X pins σ H s → CX X.stack H s E e s' → X.xe e s'

section
variable {X : Cx} {CX : CXT} {k : Nat} {f C : Addr} {fd : FuncData} {ps : List Str} {sp : Sp} {dvs : List V} {ds : List Value} {E : XK} {x m : Str} {p pos apos : Pos} {e o : Expr} {es : List Expr} {ta : TE} {t : TA}

/-- the callee runs -/
theorem run_fn {pins : List (Addr × Obj)} {σ : St} {H : Hp} {s : Shared} {Q : VK} {us : List Value} {vs : List V} (F : FnOk X.prog X.w X.K X.mg X.base CX k f fd ps sp) (hr : Room k X.A) (hb : Binds X.K fd ps ds) (hd : Vals dvs ds) (hx : Passes CX X E)
    (I : Inv X pins σ H s) (r : Vals vs us) (h : sp (vs ++ dvs) H Q E) : wpAny (model X.prog X.w) X.A (call (.ref f) us) (EP X pins σ Q) X.xe s := by
  have r2 : Vals (vs ++ dvs) (us ++ ds) := r.append hd
  have hl : (us ++ ds).length = ps.length := by rw [← r2.length]; exact F.len _ _ _ _ h
  refine wpAny_call (codeAny_mono (F.run X.A X.stack s H ⟨us, []⟩ (us ++ ds) (vs ++ dvs) Q E hr I.env0 (hb s us I.kIn hl) r2 h) fun r s' hq => ?_)
  cases r with
  | error e => exact hx pins σ H s e s' I hq
  | ok fl =>
    cases fl with
    | ret u => exact I.after hq
    | next => exact False.elim hq
    | brk => exact False.elim hq
    | cont => exact False.elim hq

theorem pe_call (F : FnOk X.prog X.w X.K X.mg X.base CX k f fd ps sp) (hr : Room k X.A) (hg : Gl X x) (hm : X.mg x = some (.ref f)) (hk : PySem.W.keepIn X.K (.ref f) = true) (hb : Binds X.K fd ps ds) (hd : Vals dvs ds) (hx : Passes CX X E)
    (ha : PA X (e :: es) t) (hdb : (x == ("__debug__" : Str)) = false := by decide) (he : starEach (e :: es) X.env = (false, eval e X.env) :: starEach es X.env := by rfl) (hpl : (backTo pos (starEach es X.env)).any (·.1) = false := by rfl) :
    PE X (.Call (.Name x p) (e :: es) [] pos) (tCall sp dvs E t) := by
  intro pins s σ H Q I h
  refine wpAny_Call_Name_kw (ld_glob I hg hm ?_ hdb)
  refine PySem.W.callWith_K (h₀ := X.base) I.ok.mod.kin hk (thn (ha pos pins s σ H _ I h) fun us s1 ⟨vs, H1, I1, r, q⟩ => ⟨I1.kIn, ?_⟩) he hpl
  exact run_fn F hr hb hd hx I1 r q
/-- o.m(e, ..) -/
theorem pe_meth {pl : Sem Bool} (he : PE X o ta) (c : Cls X.K C) (hm : Meth X.K C m f) (F : FnOk X.prog X.w X.K X.mg X.base CX k f fd ps sp) (hr : Room k X.A) (hb : Binds X.K fd ps ds) (hd : Vals dvs ds) (hx : Passes CX X E) (ha : PA X (e :: es) t)
    (hst : starEach (e :: es) X.env = (false, eval e X.env) :: starEach es X.env := by rfl) (hpl : (backTo pos (starEach es X.env)).any (·.1) = false := by rfl)
    (ht : eval (.Call (.Attribute o m apos) (e :: es) [] pos) X.env = (do
      let ov ← eval o X.env
      standAt apos.atName
      let (f, first) ← holding [ov] (getMethod ov m pl)
      callWith pos f first (backTo pos (starEach (e :: es) X.env)) (backToKw pos (keywordEach [] X.env))) := by rfl) :
    PE X (.Call (.Attribute o m apos) (e :: es) [] pos) (tMeth C m sp dvs E ta t) := by
  intro pins s σ H Q I h
  refine PySem.W.methodCall_KW (pl := pl) (thn (he pins s σ H _ I h) fun u s1 ⟨x, H1, I1, rx, a, dx, fs, ex, ea, l, q⟩ => ?_) ht
  subst ex
  obtain rfl : u = Value.ref a := rx
  refine getmeth_ok I1 ea c hm l ?_
  refine PySem.W.callWith_K (first := [.ref a]) (h₀ := X.base) I.ok.mod.kin hm.kp (thn (ha pos pins s1 σ H1 _ I1 q) fun us s2 ⟨vs, H2, I2, r, q2⟩ => ⟨I2.kIn, ?_⟩) hst hpl
  exact run_fn (us := .ref a :: us) (vs := .ref a :: vs) F hr hb hd hx I2 (.cons rfl r) q2
/-- o.m() -/
theorem pe_meth0 {pl : Sem Bool} (he : PE X o ta) (c : Cls X.K C) (hm : Meth X.K C m f) (F : FnOk X.prog X.w X.K X.mg X.base CX k f fd ps sp) (hr : Room k X.A) (hb : Binds X.K fd ps ds) (hd : Vals dvs ds) (hx : Passes CX X E)
    (ht : eval (.Call (.Attribute o m apos) [] [] pos) X.env = (do
      let ov ← eval o X.env
      standAt apos.atName
      let (f, first) ← holding [ov] (getMethod ov m pl)
      callWith pos f first (backTo pos (starEach [] X.env)) (backToKw pos (keywordEach [] X.env))) := by rfl) :
    PE X (.Call (.Attribute o m apos) [] [] pos) (tMeth C m sp dvs E ta tNil) := by
  intro pins s σ H Q I h
  refine PySem.W.methodCall_KW (pl := pl) (thn (he pins s σ H _ I h) fun u s1 ⟨x, H1, I1, rx, a, dx, fs, ex, ea, l, q⟩ => ?_) ht
  subst ex
  obtain rfl : u = Value.ref a := rx
  refine getmeth_ok I1 ea c hm l ?_
  exact PySem.W.callWith_K0 (first := [.ref a]) I1.kIn hm.kp (run_fn (us := [.ref a]) (vs := [.ref a]) F hr hb hd hx I1 (.cons rfl .nil) q)

/-- what a class must have to be made -/
structure Mk (K : PySem.W.Frag) (C f : Addr) : Prop where
  makes : PySem.W.makesIn K C = true
  init : PySem.W.findIn K (.ref C) "__init__" = some (some (.ref f))
  fn : PySem.W.isFn K (.ref f) = true
  kp : PySem.W.keepIn K (.ref C) = true

theorem run_make {pins : List (Addr × Obj)} {σ : St} {H : Hp} {s : Shared} {Q : VK} {us : List Value} {vs : List V} (M : Mk X.K C f) (F : FnOk X.prog X.w X.K X.mg X.base CX k f fd ps sp) (hr : Room (k + 1) X.A) (hb : Binds X.K fd ps ds) (hd : Vals dvs ds)
    (hx : Passes CX X E) (I : Inv X pins σ H s) (r : Vals vs us)
    (h : ∀ x dx, H x = none → H dx = none → dx ≠ x → sp (.ref x :: (vs ++ dvs)) (upd (upd H dx (.own x)) x (.ins C dx [])) (fun v H2 => v = .non ∧ Q (.ref x) H2) E) :
    wpAny (model X.prog X.w) X.A (call (.ref C) us) (EP X pins σ Q) X.xe s := by
  have hq := h (s.heap.objs.size + 1) s.heap.objs.size (I.hok.fresh (Nat.le_succ _)) (I.hok.fresh (Nat.le_refl _)) (Nat.ne_of_lt (Nat.lt_succ_self _))
  have I2 := Inv.made (C := C) I
  have r2 : Vals (V.ref (s.heap.objs.size + 1) :: (vs ++ dvs)) (Value.ref (s.heap.objs.size + 1) :: (us ++ ds)) := .cons rfl (r.append hd)
  have hl : (Value.ref (s.heap.objs.size + 1) :: us ++ ds).length = ps.length := by
    have e := r2.length
    rw [F.len _ _ _ _ hq] at e
    exact e.symm
  refine wpAny_call (make_map (f := f) I.kIn M.makes M.init (beq_iff_eq.mp M.fn) (codeAny_mono (F.run _ X.stack _ _ ⟨Value.ref (s.heap.objs.size + 1) :: us, []⟩ (Value.ref (s.heap.objs.size + 1) :: (us ++ ds)) _ _ E (hr.make C us [])
    (I2.env0.make C us []) (hb _ (Value.ref (s.heap.objs.size + 1) :: us) I2.kIn hl) r2 hq) fun r s' hq' => ?_))
  cases r with
  | error e => exact hx pins σ _ _ e s' I2 hq'
  | ok fl =>
    cases fl with
    | ret u =>
      obtain ⟨v, H', I3, rv, ev, q3⟩ := I2.after hq'
      subst ev
      exact ⟨rv, ⟨V.ref (s.heap.objs.size + 1), H', I3, rfl, q3⟩⟩
    | next => exact False.elim hq'
    | brk => exact False.elim hq'
    | cont => exact False.elim hq'
theorem pe_make (M : Mk X.K C f) (F : FnOk X.prog X.w X.K X.mg X.base CX k f fd ps sp) (hr : Room (k + 1) X.A) (hg : Gl X x) (hm : X.mg x = some (.ref C)) (hb : Binds X.K fd ps ds) (hd : Vals dvs ds) (hx : Passes CX X E)
    (ha : PA X (e :: es) t) (hdb : (x == ("__debug__" : Str)) = false := by decide) (he : starEach (e :: es) X.env = (false, eval e X.env) :: starEach es X.env := by rfl) (hpl : (backTo pos (starEach es X.env)).any (·.1) = false := by rfl) :
    PE X (.Call (.Name x p) (e :: es) [] pos) (tMake C sp dvs E t) := by
  intro pins s σ H Q I h
  refine wpAny_Call_Name_kw (ld_glob I hg hm ?_ hdb)
  refine PySem.W.callWith_K (h₀ := X.base) I.ok.mod.kin M.kp (thn (ha pos pins s σ H _ I h) fun us s1 ⟨vs, H1, I1, r, q⟩ => ⟨I1.kIn, ?_⟩) he hpl
  exact run_make M F hr hb hd hx I1 r q
end

section
variable {X : Cx} {CX : CXT} {k : Nat} {f C : Addr} {fd : FuncData} {ps ks : List Str} {sp : Sp} {E : XK} {x m : Str} {p pos apos kpos : Pos} {e o : Expr} {es : List Expr} {kws : List Keyword} {te ta : TE} {t tk : TA} {nm : Option Str}
/-- how a call with keywords binds: g puts the positional values us and the keywords' values ws (names ks) in the parameters' order, defaults among them -/
structure KBinds (K : PySem.W.Frag) (fd : FuncData) (ps ks : List Str) (g : List Value → List Value → List Value) (gV : List V → List V → List V) : Prop where
  to : ∀ (s : Shared) (us ws : List Value), K.In s.heap → (g us ws).length = ps.length → BindsTo s fd ⟨us, ks.zip ws⟩ (ps.zip (g us ws))
  rel : ∀ {vs : List V} {us : List Value} {zs : List V} {ws : List Value}, Vals vs us → Vals zs ws → Vals (gV vs zs) (g us ws)
variable {g : List Value → List Value → List Value} {gV : List V → List V → List V}
end

/-! ### a def's body keeps its promise -/
/-- names: the parameters first -/
structure FnScope (N P : List Str) (sc : Scope) : Prop where
  kind : sc.kind = .function
  co : sc.isCoroutine = false
  gen : sc.isGenerator = false
  nd : N.Nodup
  pre : N.take P.length = P
  par : ∀ x ∈ P, sc.names.lookup x = some .local ∨ sc.names.lookup x = some .cell
  nofree : ∀ y ∈ sc.names, y.2 ≠ .free

theorem bindL_out {kindOf : Str → Option NameKind} {x : Str} : ∀ {binds : List (Str × Value)} {m : Str → Option Value}, (∀ v, (x, v) ∉ binds) → bindL kindOf binds m x = m x
  | [], _, _ => rfl
  | (n, v) :: r, m, h => by
    unfold bindL
    rw [bindL_out fun w hw => h w (List.mem_cons_of_mem _ hw)]
    split
    · have : x ≠ n := by rintro rfl; exact h v List.mem_cons_self
      simp [this]
    · rfl
theorem bindC_out {kindOf : Str → Option NameKind} {x : Str} : ∀ {binds : List (Str × Value)} {m : Str → Option Value}, (∀ v, (x, v) ∉ binds) → bindC kindOf binds m x = m x
  | [], _, _ => rfl
  | (n, v) :: r, m, h => by
    unfold bindC
    rw [bindC_out fun w hw => h w (List.mem_cons_of_mem _ hw)]
    split
    · rfl
    · have : x ≠ n := by rintro rfl; exact h v List.mem_cons_self
      simp [this]
theorem bindL_get {kindOf : Str → Option NameKind} {x : Str} {v : Value} : ∀ {P : List Str} {vs : List Value} {i : Nat} {m : Str → Option Value}, P.Nodup → P[i]? = some x → vs[i]? = some v → kindOf x = some .local →
    bindL kindOf (P.zip vs) m x = some v
  | [], _, _, _, _, h, _, _ => by simp at h
  | _ :: _, [], _, _, _, _, h, _ => by simp at h
  | p :: P, w :: vs, 0, m, nd, h1, h2, hk => by
    simp at h1 h2; subst h1; subst h2
    show bindL kindOf ((p, w) :: P.zip vs) m p = _
    unfold bindL
    rw [bindL_out fun v hv => (List.nodup_cons.mp nd).1 (List.of_mem_zip hv).1, if_pos hk]
    simp
  | p :: P, w :: vs, i + 1, m, nd, h1, h2, hk => by
    show bindL kindOf ((p, w) :: P.zip vs) m x = _
    unfold bindL
    exact bindL_get (i := i) (List.nodup_cons.mp nd).2 (by simpa using h1) (by simpa using h2) hk
theorem bindC_get {kindOf : Str → Option NameKind} {x : Str} {v : Value} : ∀ {P : List Str} {vs : List Value} {i : Nat} {m : Str → Option Value}, P.Nodup → P[i]? = some x → vs[i]? = some v → kindOf x ≠ some .local →
    bindC kindOf (P.zip vs) m x = some v
  | [], _, _, _, _, h, _, _ => by simp at h
  | _ :: _, [], _, _, _, _, h, _ => by simp at h
  | p :: P, w :: vs, 0, m, nd, h1, h2, hk => by
    simp at h1 h2; subst h1; subst h2
    show bindC kindOf ((p, w) :: P.zip vs) m p = _
    unfold bindC
    rw [bindC_out fun v hv => (List.nodup_cons.mp nd).1 (List.of_mem_zip hv).1, if_neg hk]
    simp
  | p :: P, w :: vs, i + 1, m, nd, h1, h2, hk => by
    show bindC kindOf ((p, w) :: P.zip vs) m x = _
    unfold bindC
    exact bindC_get (i := i) (List.nodup_cons.mp nd).2 (by simpa using h1) (by simpa using h2) hk

/-- the names' values at the entry -/
noncomputable def start (N : List Str) (vs : List V) : St := vs.map some ++ List.replicate (N.length - vs.length) none

/-- the context of a def's body, at its entry; an exception leaves the frame, then lies as CX says -/
noncomputable def cxOf (CX : CXT) (P : Program) (w : World) (K : PySem.W.Frag) (mg : Str → Option Value) (base : Heap) (N : List Str) (qual : Str) (scope : Scope) (f : Addr) (cd : Value) (A : Around) (outer : List Env) (s : Shared) (H : Hp) (E : XK) : Cx where
  prog := P
  w := w
  K := K
  mg := mg
  base := base
  A := A.deeper (envOfC qual scope s.heap.objs.size f cd)
  N := N
  s₀ := s
  H₀ := H
  env := envOfC qual scope s.heap.objs.size f cd
  outer := outer
  stack := envOfC qual scope s.heap.objs.size f cd :: outer
  ex := []
  calm := true
  fn := fun _ => true
  pn := []
  xe := fun e s' => wpAny (model P w) (A.deeper (envOfC qual scope s.heap.objs.size f cd)) (leaving (envOfC qual scope s.heap.objs.size f cd) e) (fun _ s'' => CX outer H s E e s'') (fun e' s'' => CX outer H s E e' s'') s'

theorem cell_has {sc : Scope} {n : Nat} {x : Str} (h : sc.names.lookup x = some .cell) : ∃ c, (cellsFrom n sc.names []).lookup x = some c := by
  have q := PySem.W.cellsFrom_some sc.names n [] (.inl h)
  exact Option.isSome_iff_exists.mp q

theorem inv_start {CX : CXT} {P : Program} {w : World} {K : PySem.W.Frag} {mg : Str → Option Value} {base : Heap} {N ps : List Str} {qual : Str} {scope : Scope} {f : Addr} {cd : Value} {A : Around} {outer : List Env} {s s1 : Shared} {H : Hp} {E : XK} {us : List Value} {vs : List V}
    (S : FnScope N ps scope) (hd : A.handled = none) (e0 : Env0 P w K mg base A outer s H) (hl : vs.length = ps.length) (r : Vals vs us)
    (x : InCallC s s.heap.objs.size (bindL (envOfC qual scope s.heap.objs.size f cd).kindOf (ps.zip us) fun _ => none) (cellsFrom (s.heap.objs.size + 1) scope.names []) (bindC (envOfC qual scope s.heap.objs.size f cd).kindOf (ps.zip us) fun _ => none) s1) :
    Inv (cxOf CX P w K mg base N qual scope f cd A outer s H E) [] (start N vs) H s1 := by
  have hpl : ps.length ≤ N.length := by have := congrArg List.length S.pre; rw [List.length_take] at this; omega
  obtain ⟨h1, tk, rfl, hk⟩ := x.done
  have noA : ∀ b : Addr, b ∉ (cxOf CX P w K mg base N qual scope f cd A outer s H E).ex := fun b z => absurd (show b ∈ ([] : List Addr) from z) (by simp)
  refine ⟨⟨e0.mod, S.kind, rfl, rfl, Nat.le_refl _, fun y z c h1 h2 => ?_, fun y hy => ?_, fun y c _ h => ?_, fun _ => hd, Around.frames_deeper e0.frames, .inr ⟨rfl, rfl⟩, fun b z => absurd z (noA b), e0.bs, e0.bsz, fun b _ _ => noA b, fun b z => absurd z (noA b), e0.funs, e0.frf⟩,
    rfl, e0.bare, Un.kept hk, ⟨_, x.toInCall.ns, fun i y v h1 h2 h3 => ?_⟩, fun y c h => ⟨_, x.cell y c h⟩, e0.hok.fresh (Nat.le_refl _), fun y c h => ?_, fun p hp => absurd (show p ∈ ([] : List (Addr × Obj)) from hp) (by simp), e0.hok.kept hk, ?_⟩
  · exact name_of_addr x.apart (PySem.mem_of_lookup h1) (PySem.mem_of_lookup h2)
  · have hy : scope.names.lookup y = some .cell ∨ scope.names.lookup y = some .free := hy
    rcases hy with hy | hy
    · exact cell_has hy
    · exact absurd rfl (S.nofree _ (PySem.mem_of_lookup hy))
  · exact Nat.le_of_lt (x.above y c (PySem.mem_of_lookup h))
  · have hi : i < vs.length := by
      unfold start at h2
      by_cases hi : i < vs.length
      · exact hi
      · rw [List.getElem?_append_right (by simpa using hi)] at h2
        rw [List.getElem?_replicate] at h2
        split at h2 <;> cases h2
    have ha : vs[i]? = some v := by
      unfold start at h2
      rw [List.getElem?_append_left (by simpa using hi), List.getElem?_map] at h2
      cases e : vs[i]? with
      | none => rw [e] at h2; cases h2
      | some a => rw [e] at h2; cases h2; rfl
    obtain ⟨u, hu, rv⟩ := r.get ha
    have hp : ps[i]? = some y := by
      rw [← S.pre, List.getElem?_take_of_lt (by omega)]; exact h1
    have ndP : ps.Nodup := by rw [← S.pre]; exact S.nd.sublist (List.take_sublist _ _)
    refine ⟨u, rv, ?_⟩
    rcases S.par y (List.mem_of_getElem? hp) with k | k
    · exact .inl ⟨k, bindL_get ndP hp hu k⟩
    · obtain ⟨c, e⟩ := cell_has (n := s.heap.objs.size + 1) k
      refine .inr ⟨.inl k, c, e, ?_⟩
      have q := x.cell y c e
      rw [bindC_get ndP hp hu (by show scope.names.lookup y ≠ _; rw [k]; decide)] at q
      exact q
  · exact e0.hok.fresh (Nat.le_of_lt (x.above y c (PySem.mem_of_lookup h)))
  · unfold start
    show _ = N.length
    rw [List.length_append, List.length_map, List.length_replicate]
    omega

/-- THE RULE: a def (or a method) of the text, by its body. The body's reading t is chosen for each entry; it is run at the parameters' values -/
theorem fn_of {CX : CXT} {P : Program} {w : World} {K : PySem.W.Frag} {mg : Str → Option Value} {base : Heap} {k : Nat} {f : Addr} {name qual : Str} {params : Arguments} {body : List Stmt} {scope : Scope} {dV kV doc pm cdv ct oc : Value} {an od : Option Addr}
    {osl : Array (Option Value)} {N ps : List Str} {sp : Sp} (lk : K.lookup f = some ⟨oc, od, .func (PySem.W.fnOf name qual params body scope dV kV doc pm an cdv ct), osl⟩) (hcd : PySem.W.codeIn K cdv qual = true) (S : FnScope N ps scope)
    (len : ∀ vs H Q E, sp vs H Q E → vs.length = ps.length)
    (hbody : ∀ (A : Around) (outer : List Env) (s : Shared) (H : Hp) (vs : List V) (Q : VK) (E : XK), Room k (A.deeper (envOfC qual scope s.heap.objs.size f cdv)) → sp vs H Q E →
      ∃ t, PSs (cxOf CX P w K mg base N qual scope f cdv A outer s H E) body t ∧ t { nx := fun _ H' => Q .non H', rt := Q } (start N vs) H) :
    FnOk P w K mg base CX (k + 1) f (PySem.W.fnOf name qual params body scope dV kV doc pm an cdv ct) ps sp := by
  refine ⟨len, fun A outer s H args us vs Q E hr e0 hb r hsp => ?_⟩
  have hl := len _ _ _ _ hsp
  have KX : K.In s.heap := e0.mod.kin.keeps fun b o e => (e0.bs b o e).1
  have lim : s.heap.NoLimit := e0.mod.nolimit.keeps fun b o e => (e0.bs b o e).1
  have hkind : ∀ y ∈ ps.zip us, scope.names.lookup y.1 = some .local ∨ (scope.names.lookup y.1 = some .cell ∧ ((cellsFrom (s.heap.objs.size + 1) scope.names []).lookup y.1).isSome = true) := fun ⟨n, v⟩ hy => by
    rcases S.par n (List.of_mem_zip hy).1 with q | q
    · exact .inl q
    · exact .inr ⟨q, PySem.W.cellsFrom_some _ _ _ (.inl q)⟩
  refine codeAny_call_function hr.depth (KX _ _ lk) rfl S.co S.gen rfl (PySem.W.codeRec_of KX hcd) (hb _ _ _ _ ?_)
  refine wpAny_newFunctionEnv_cells S.kind hkind fun env he s1 x => ?_
  subst he
  refine ⟨lim.keeps x.toInCall.keep, codeAny_func ?_⟩
  obtain ⟨t, ht, hq⟩ := hbody A outer s H vs Q E (hr.deeper _) hsp
  have I : Inv (cxOf CX P w K mg base N qual scope f cdv A outer s H E) [] (start N vs) H s1 := inv_start S hr.hd e0 hl r x
  refine wpAny_mono (ht [] s1 (start N vs) H _ I hq) (fun fl s' hs => ?_) fun e s' hs => hs
  have fin : ∀ {σ' : St} {H' : Hp} {v : V} {u : Value}, Inv (cxOf CX P w K mg base N qual scope f cdv A outer s H E) [] σ' H' s' → RelV v u → Q v H' → CE outer P w H s Q u s' :=
    fun {σ' H' v u} J rv q => ⟨v, H', J.os, J.bare, J.base, J.hok, rv, q⟩
  cases fl with
  | ret u =>
    obtain ⟨v, σ', H', J, rv, q⟩ := hs
    exact fin J rv q
  | next =>
    obtain ⟨σ', H', J, q⟩ := hs
    exact fin (v := V.non) (u := Value.none) J rfl q
  | brk =>
    obtain ⟨_, _, _, q⟩ := hs
    exact False.elim q
  | cont =>
    obtain ⟨_, _, _, q⟩ := hs
    exact False.elim q
end L2

namespace L2
open PySem PySem.Spec PyProof.Rows
section
variable {X : Cx} {x : Str} {p pos : Pos} {e : Expr} {es : List Expr} {t : TA} {id T : String} {r : List V → Hp → VK → Prop}

noncomputable def tCB (r : List V → Hp → VK → Prop) (t : TA) : TE := fun σ H Q => t σ H fun vs H1 => r vs H1 Q
/-- f(e, ..), f a built-in function -/
theorem pe_callB (hc : CallR X (.builtin id) r) (hg : Gl X x) (hm : X.mg x = none) (hv : bootBuiltins x = some (.builtin id)) (ha : PA X (e :: es) t) (hn : x ≠ "__name__" := by decide) (hdb : (x == ("__debug__" : Str)) = false := by decide)
    (he : starEach (e :: es) X.env = (false, eval e X.env) :: starEach es X.env := by rfl) (hpl : (backTo pos (starEach es X.env)).any (·.1) = false := by rfl) : PE X (.Call (.Name x p) (e :: es) [] pos) (tCB r t) := by
  intro pins s σ H Q I h
  refine wpAny_Call_Name_kw (ld_blt I hg hm hv ?_ hn hdb)
  exact PyProof.Rows.callWith_builtin1 (thn (ha pos pins s σ H _ I h) fun us s1 ⟨vs, H1, I1, r1, q1⟩ => hc pins s1 σ H1 vs us Q I1 r1 q1) he hpl
/-- T(e, ..), T a built-in type -/
theorem pe_callTy (hc : CallR X (.type T) r) (hg : Gl X x) (hm : X.mg x = none) (hv : bootBuiltins x = some (.type T)) (ha : PA X (e :: es) t) (hn : x ≠ "__name__" := by decide) (hdb : (x == ("__debug__" : Str)) = false := by decide)
    (he : starEach (e :: es) X.env = (false, eval e X.env) :: starEach es X.env := by rfl) (hpl : (backTo pos (starEach es X.env)).any (·.1) = false := by rfl) : PE X (.Call (.Name x p) (e :: es) [] pos) (tCB r t) := by
  intro pins s σ H Q I h
  refine wpAny_Call_Name_kw (ld_blt I hg hm hv ?_ hn hdb)
  exact PyProof.Rows.callWith_type1 (thn (ha pos pins s σ H _ I h) fun us s1 ⟨vs, H1, I1, r1, q1⟩ => hc pins s1 σ H1 vs us Q I1 r1 q1) he hpl
end
end L2

namespace HT
open PySem PyProof.Rows

section
open PySem.SeqAt
open PySem.AutoSeq1 (wpAny_loadPart')
open PySem.MeetsSeq PySem.MeetsSeq2 PySem.MeetsSeq3

end

section
variable {prog : Program} {w : World} {A : Around} {E : Value → Shared → Prop} {s : Shared}

/-- t + u, t not empty -/
theorem cat_tup {t b : Addr} {vs ws : List Value} {Q : Value → Shared → Prop} (ht : IsTup s.heap t vs.toArray) (hb : IsTup s.heap b ws.toArray) (hv : vs ≠ [])
    (h1 : ws = [] → Q (.ref t) s) (h2 : ws ≠ [] → Q (.ref s.heap.objs.size) { s with heap := s.heap.push { cls := .type "tuple", data := .seq (vs ++ ws).toArray } })
    (hsz : vs.length + ws.length ≤ sizeLine) : wpAny (model prog w) A (binaryOp .Add (.ref t) (.ref b)) Q E s := by
  obtain ⟨⟨cls, dd, data, sl⟩, ho, hc, n, hd⟩ := id ht
  obtain ⟨⟨cls2, dd2, data2, sl2⟩, ho2, hc2, n2, hd2⟩ := id hb
  simp only at hc hd hc2 hd2
  subst hc hd hc2 hd2
  have e : vs.toArray ++ ws.toArray = (vs ++ ws).toArray := by simp
  by_cases hw : ws = []
  · exact concat_meets ⟨_, ho, rfl⟩ ⟨_, ho2, rfl⟩ noFill_tuple_add seq_tuple_add PySem.F.slot_tuple_add PySem.F.entry_tuple_add (PySem.F.args_tuple_add_2 _ _)
      (tuple_addW1 t b vs.toArray ws.toArray n n2 dd dd2 sl sl2 (by simpa using hv) (by simp [hw])) ⟨ho, ho2, h1 hw⟩
  · refine concat_meets ⟨_, ho, rfl⟩ ⟨_, ho2, rfl⟩ noFill_tuple_add seq_tuple_add PySem.F.slot_tuple_add PySem.F.entry_tuple_add (PySem.F.args_tuple_add_2 _ _)
      (tuple_addW2 t b vs.toArray ws.toArray n n2 dd dd2 sl sl2 (by simpa using hv) (by simpa using hw) (by rw [List.size_toArray, List.size_toArray]; exact hsz)) ⟨ho, ho2, ?_⟩
    rw [e]
    exact h2 hw

end
end HT

namespace L2
open PySem PySem.Spec PyProof.Rows

/-! ### the parts of a slice -/
noncomputable abbrev TO := St → Hp → (Option Int → Hp → Prop) → Prop
section
variable {X : Cx} {e : Expr} {te : TE} {lo hi : Option Expr} {tl th : TO} {pos p2 : Pos}

/-- what a slice of a value is, by values: the slice object stands at sl -/
noncomputable def SlR (X : Cx) (r : V → Option Int → Option Int → Hp → VK → Prop) : Prop :=
  ∀ (pins : List (Addr × Obj)) (s : Shared) (σ : St) (H : Hp) (x : V) (v vl vu : Value) (lo hi : Option Int) (sl : Addr) (Q : VK), Inv X pins σ H s → RelV x v → s.heap.IsSliceOf sl vl vu .none → IsPart vl lo → IsPart vu hi → r x lo hi H Q →
    ∃ T id, typeLookup (.type T) "__getitem__" = pure (some (.builtin id)) ∧ s.TypeIs v T ∧ wpAny (model X.prog X.w) X.A (getItem v (.ref sl)) (EP X pins σ Q) X.xe s
theorem SlR.or {r r' : V → Option Int → Option Int → Hp → VK → Prop} (h : SlR X r) (h' : SlR X r') : SlR X (fun x lo hi H Q => r x lo hi H Q ∨ r' x lo hi H Q) := by
  intro pins s σ H x v vl vu lo hi sl Q I rx hs pl pu q
  rcases q with q | q
  · exact h pins s σ H x v vl vu lo hi sl Q I rx hs pl pu q
  · exact h' pins s σ H x v vl vu lo hi sl Q I rx hs pl pu q
/-- t + u, t not empty: u empty gives t itself -/
noncomputable def rCatT (K : PySem.W.Frag) : R2 := fun x y H Q => ∃ a b xs ys, x = .ref a ∧ y = .ref b ∧ SqT K H a xs ∧ SqT K H b ys ∧ xs ≠ [] ∧ xs.length + ys.length ≤ sizeLine ∧
  (ys = [] → Q (.ref a) H) ∧ (ys ≠ [] → ∀ p, H p = none → Q (.ref p) (upd H p (.tup (xs ++ ys))))
theorem Vals.nil_iff {xs : List V} {us : List Value} (r : Vals xs us) : us = [] ↔ xs = [] := by
  cases r with
  | nil => simp
  | cons _ _ => simp
theorem op_catT : OpR X (binaryOp .Add) (rCatT X.K) := by
  intro pins s σ H x y v u Q I rx ry h
  obtain ⟨a, b, xs, ys, rfl, rfl, ha, hb, hx, hz, q1, q2⟩ := h
  cases rx
  cases ry
  obtain ⟨its, r1, p1, _⟩ := I.tuple ha
  obtain ⟨its2, r2, p2, _⟩ := I.tuple hb
  refine HT.cat_tup p1 p2 (fun z => hx (r1.nil_iff.mp z)) (fun z => ⟨.ref a, H, I, rfl, q1 (r2.nil_iff.mp z)⟩) (fun z => ?_) (by rw [← r1.length, ← r2.length]; exact hz)
  refine ⟨.ref s.heap.objs.size, _, I.laid (t' := s.toks) (o := .tup (xs ++ ys)) (fun b ob q => Heap.get?_push_of_some _ q) (Nat.le_refl _) ?_, rfl, q2 (fun w => z (r2.nil_iff.mpr w)) _ (I.hok.fresh (Nat.le_refl _))⟩
  exact ⟨by rw [List.length_append]; exact hz, _, r1.append r2, IsTup.new _ _⟩
end
end L2

namespace L2
open PySem PySem.Spec PyProof.Rows

/-! ### places -/
/-- the place that an index of any sign means -/
noncomputable def ixN (n : Nat) (i : Int) : Option Nat := if 0 ≤ i then (if i < n then some i.toNat else none) else if -(n : Int) ≤ i then some (i + n).toNat else none
noncomputable def atI {α : Type} (xs : List α) (i : Int) : Option α := (ixN xs.length i).bind fun j => xs[j]?
theorem ixN_seq {n : Nat} {i : Int} {j : Nat} (h : ixN n i = some j) : seqIndex? i n = some j ∧ j < n ∧ -(n : Int) ≤ i ∧ i < n := by
  unfold ixN at h
  by_cases h0 : 0 ≤ i
  · rw [if_pos h0] at h
    by_cases h1 : i < n
    · rw [if_pos h1] at h
      have e : i.toNat = j := Option.some.inj h
      exact ⟨by rw [seqIndex_of h0 h1, e], by omega, by omega, h1⟩
    · rw [if_neg h1] at h; cases h
  · rw [if_neg h0] at h
    by_cases h1 : -(n : Int) ≤ i
    · rw [if_pos h1] at h
      have e : (i + n).toNat = j := Option.some.inj h
      exact ⟨by rw [seqIndex_neg (by omega) h1, e], by omega, h1, by omega⟩
    · rw [if_neg h1] at h; cases h
theorem atI_get {α : Type} {xs : List α} {i : Int} {v : α} (h : atI xs i = some v) : ∃ j, seqIndex? i xs.length = some j ∧ xs[j]? = some v ∧ j < xs.length ∧ -(xs.length : Int) ≤ i ∧ i < xs.length := by
  unfold atI at h
  cases e : ixN xs.length i with
  | none => rw [e] at h; cases h
  | some j =>
    rw [e] at h
    obtain ⟨h1, h2, h3, h4⟩ := ixN_seq e
    exact ⟨j, h1, h, h2, h3, h4⟩
/-! ### what may be subscripted -/
/-- what stands as an index of a plain subscript -/
noncomputable def PlainIx (b : Expr) : Prop := ∀ o i, subscripted b false o i = operate [o, i] (getItem o i)
/-- a subscript by values -/
noncomputable def IxR (X : Cx) (r : R2) : Prop :=
  ∀ (value slice : Expr) (pins : List (Addr × Obj)) (s : Shared) (σ : St) (H : Hp) (x y : V) (v u : Value) (Q : VK), Inv X pins σ H s → RelV x v → RelV y u → r x y H Q →
    subscripted slice false v u = operate [v, u] (getItem v u) → wpAny (model X.prog X.w) X.A (subscriptTail value slice v u) (EP X pins σ Q) X.xe s
/-- a call of a builtin's method by values: the receiver, the arguments -/
noncomputable def MtR (X : Cx) (id : String) (r : V → List V → Hp → VK → Prop) : Prop :=
  ∀ (pins : List (Addr × Obj)) (s : Shared) (σ : St) (H : Hp) (x : V) (xs : List V) (v : Value) (us : List Value) (Q : VK), Inv X pins σ H s → RelV x v → Vals xs us → r x xs H Q →
    wpAny (model X.prog X.w) X.A (call (.builtin id) (v :: us)) (EP X pins σ Q) X.xe s
section
variable {X : Cx} {a b : Expr} {ta tb : TE} {pos : Pos}
theorem IxR.or {r r' : R2} (h : IxR X r) (h' : IxR X r') : IxR X (fun x y H Q => r x y H Q ∨ r' x y H Q) := by
  intro value slice pins s σ H x y v u Q I rx ry q hs
  rcases q with q | q
  · exact h value slice pins s σ H x y v u Q I rx ry q hs
  · exact h' value slice pins s σ H x y v u Q I rx ry q hs
theorem MtR.or {id : String} {r r' : V → List V → Hp → VK → Prop} (h : MtR X id r) (h' : MtR X id r') : MtR X id (fun x xs H Q => r x xs H Q ∨ r' x xs H Q) := by
  intro pins s σ H x xs v us Q I rx rs q
  rcases q with q | q
  · exact h pins s σ H x xs v us Q I rx rs q
  · exact h' pins s σ H x xs v us Q I rx rs q
/-- a[b] -/
theorem pe_ix {r : R2} (hr : IxR X r) (ha : PE X a ta) (hb : PE X b tb) (hs : PlainIx b) : PE X (.Subscript a b pos) (tOp r ta tb) := by
  intro pins s σ H Q I h
  exact Subscript_ (binT ha hb I h fun v u s2 x y H2 I2 rx ry q => hr a b pins s2 σ H2 x y v u Q I2 rx ry q (hs _ _))

noncomputable def rIxL (K : PySem.W.Frag) : R2 := fun x y H Q => ∃ p xs i v, x = .ref p ∧ y = .int i ∧ SqL K H p xs ∧ atI xs i = some v ∧ Q v H
noncomputable def rIxT (K : PySem.W.Frag) : R2 := fun x y H Q => ∃ p xs i v, x = .ref p ∧ y = .int i ∧ SqT K H p xs ∧ atI xs i = some v ∧ Q v H
theorem ix_list : IxR X (rIxL X.K) := by
  intro value slice pins s σ H x y v u Q I rx ry h hs
  obtain ⟨p, xs, i, z, rfl, rfl, hq, he, q⟩ := h
  cases rx
  obtain ⟨t, rfl⟩ := ry
  obtain ⟨its, r, pl, hz⟩ := I.list hq
  obtain ⟨j, h1, h2, h3, h4, h5⟩ := atI_get he
  obtain ⟨w, ew, rw'⟩ := r.get h2
  have hl := r.length
  have hn := line63
  have fin : EP X pins σ Q w s := ⟨z, H, I, rw', q⟩
  by_cases h0 : 0 ≤ i
  · have hj : i.toNat = j := by
      rw [seqIndex_of h0 h5] at h1
      exact Option.some.inj h1
    exact item_listR pl.isList h0 (by omega) (by rw [hj]; simpa using ew) fin hs
  · have hj : (i + (its.toArray.size : Int)).toNat = j := by
      rw [seqIndex_neg (by omega) h4] at h1
      rw [List.size_toArray, ← hl]
      exact Option.some.inj h1
    exact subscriptTail_builtinR (x := w) pl.isList.typeIs slot_list_getitem.lookup
      (wpAny_getItem_list_neg (Q := fun r s' => r = w ∧ EP X pins σ Q r s') pl.isList (by omega) (by rw [List.size_toArray] <;> omega) (by omega) (by rw [hj]; simpa using ew) ⟨rfl, fin⟩) hs
theorem ix_tup : IxR X (rIxT X.K) := by
  intro value slice pins s σ H x y v u Q I rx ry h hs
  obtain ⟨p, xs, i, z, rfl, rfl, hq, he, q⟩ := h
  cases rx
  obtain ⟨t, rfl⟩ := ry
  obtain ⟨its, r, pl, hz⟩ := I.tuple hq
  obtain ⟨j, h1, h2, h3, h4, h5⟩ := atI_get he
  obtain ⟨w, ew, rw'⟩ := r.get h2
  have hl := r.length
  have hn := line63
  have fin : EP X pins σ Q w s := ⟨z, H, I, rw', q⟩
  exact subscriptTail_builtinR (x := w) pl.typeIs slot_tuple_getitem.lookup
    (getItem_tuple (j := j) (Q := fun r s' => r = w ∧ EP X pins σ Q r s') pl (by omega) (by omega) (by rw [List.size_toArray, ← hl]; exact h1) (by simpa using ew) ⟨rfl, fin⟩) hs
/-! ### xs[i] = v, any sign -/
/-- the list's object behind a store -/
theorem mapSeq_set (its : List Value) (n j : Nat) (u : Value) : Obj.mapSeq (·.setIfInBounds j u) { cls := .type "list", data := .seq its.toArray n } = { cls := .type "list", data := .seq (its.set j u).toArray n } := by
  simp [Obj.mapSeq]
theorem Inv.lst {pins : List (Addr × Obj)} {σ : St} {H : Hp} {s : Shared} {p : Addr} {xs : List V} (I : Inv X pins σ H s) (h : H p = some (.lst xs)) :
    ∃ (its : List Value) (n : Nat), Vals xs its ∧ s.heap.get? p = some { cls := .type "list", data := .seq its.toArray n } ∧ xs.length ≤ sizeLine := by
  obtain ⟨z, its, n, r, e⟩ := I.hok p _ h
  exact ⟨its, n, r, e, z⟩
/-- the list at p is written by an update of its object -/
theorem Inv.lstUpd {pins : List (Addr × Obj)} {σ : St} {H : Hp} {s : Shared} {p : Addr} {xs ys : List V} {its its' : List Value} {n n' : Nat} {f : Obj → Obj} (I : Inv X pins σ H s) (h : H p = some (.lst xs))
    (ho : s.heap.get? p = some { cls := .type "list", data := .seq its.toArray n }) (hf : f { cls := .type "list", data := .seq its.toArray n } = { cls := .type "list", data := .seq its'.toArray n' }) (r : Vals ys its') (hz : ys.length ≤ sizeLine) (t : Nat) :
    Inv X pins σ (upd H p (.lst ys)) { s with heap := s.heap.update p f, toks := t } := by
  have e : (s.heap.update p f).get? p = some { cls := .type "list", data := .seq its'.toArray n' } := by
    rw [Heap.get?_update_self f ho (by rw [hf] <;> rfl), hf]
  refine I.write (x := p) (e := p) (by rw [h]; trivial) (.inl rfl) (fun b u hb q => (Heap.get?_update_other _ _ (Ne.symm hb)).trans q) ⟨_, e⟩ ?_
  exact ⟨hz, its', n', r, e⟩
noncomputable def rSetL : V → V → V → Hp → (Hp → Prop) → Prop := fun o i v H Q => ∃ p xs k j, o = .ref p ∧ i = .int k ∧ H p = some (.lst xs) ∧ ixN xs.length k = some j ∧ Q (upd H p (.lst (xs.set j v)))
theorem set_list : PSet X rSetL := by
  intro pins s σ H o i v ov iv u Q I ro ri rv h
  obtain ⟨p, xs, k, j, rfl, rfl, hp, hj, q⟩ := h
  cases ro
  obtain ⟨t, rfl⟩ := ri
  obtain ⟨its, n, r, ho, hz⟩ := I.lst hp
  obtain ⟨h1, h2, h3, h4⟩ := ixN_seq hj
  have hl := r.length
  have hn := line63
  have I' : Inv X pins σ (upd H p (.lst (xs.set j v))) { s with heap := s.heap.update p (Obj.mapSeq (·.setIfInBounds j u)) } :=
    I.lstUpd hp ho (mapSeq_set its n j u) (r.set rv j) (by rw [List.length_set]; exact hz) s.toks
  by_cases h0 : 0 ≤ k
  · have hk : k.toNat = j := by
      rw [seqIndex_of h0 h4] at h1
      exact Option.some.inj h1
    exact PySem.W.ki_setAt ho h0 (by omega) (by rw [List.size_toArray, ← hl]; exact h4) (by rw [hk]; exact ⟨_, I', q⟩)
  · have hk : (k + (its.toArray.size : Int)).toNat = j := by
      rw [seqIndex_neg (by omega) h3] at h1
      rw [List.size_toArray, ← hl]
      exact Option.some.inj h1
    exact PySem.W.ki_setBack ho (by omega) (by rw [List.size_toArray, ← hl]; exact h3) (by omega) (by rw [hk]; exact ⟨_, I', q⟩)

/-! ### in, not in: flat items -/
noncomputable def flatV : V → Bool
  | .non => true
  | .bl _ => true
  | .int _ => true
  | .str _ => true
  | _ => false
/-- == of flat values -/
noncomputable def eqV : V → V → Bool
  | .non, .non => true
  | .bl a, .bl b => a == b
  | .bl a, .int b => (if a then 1 else 0) == b
  | .int a, .bl b => a == (if b then 1 else 0)
  | .int a, .int b => a == b
  | .str a, .str b => a == b
  | _, _ => false
theorem eqAt_V {A : Around} {s : Shared} {y x : V} {u v : Value} (ry : RelV y u) (rx : RelV x v) (fy : flatV y = true) (fx : flatV x = true) : SeqAt.EqAt A s u v (eqV y x) := by
  cases y with
  | non =>
    cases ry
    cases x with
    | non => cases rx; exact SeqAt.EqAt.same _
    | bl b => cases rx; exact SeqAt.EqAt.none_bool b
    | int b => obtain ⟨t, rfl⟩ := rx; exact SeqAt.EqAt.none_int b t
    | str b => obtain ⟨t, rfl⟩ := rx; exact SeqAt.EqAt.none_str b t
    | _ => exact absurd (show false = true from fx) Bool.false_ne_true
  | bl a =>
    cases ry
    cases x with
    | non => cases rx; exact SeqAt.EqAt.bool_none a
    | bl b => cases rx; exact SeqAt.EqAt.bool_bool a b
    | int b => obtain ⟨t, rfl⟩ := rx; exact SeqAt.EqAt.bool_int a b t
    | str b => obtain ⟨t, rfl⟩ := rx; exact SeqAt.EqAt.bool_str a b t
    | _ => exact absurd (show false = true from fx) Bool.false_ne_true
  | int a =>
    obtain ⟨t', rfl⟩ := ry
    cases x with
    | non => cases rx; exact SeqAt.EqAt.int_none a t'
    | bl b => cases rx; exact SeqAt.EqAt.int_bool a t' b
    | int b => obtain ⟨t, rfl⟩ := rx; exact SeqAt.EqAt.int_int a t' b t
    | str b => obtain ⟨t, rfl⟩ := rx; exact SeqAt.EqAt.int_str a t' b t
    | _ => exact absurd (show false = true from fx) Bool.false_ne_true
  | str a =>
    obtain ⟨t', rfl⟩ := ry
    cases x with
    | non => cases rx; exact SeqAt.EqAt.str_none a t'
    | bl b => cases rx; exact SeqAt.EqAt.str_bool a t' b
    | int b => obtain ⟨t, rfl⟩ := rx; exact SeqAt.EqAt.str_int a t' b t
    | str b => obtain ⟨t, rfl⟩ := rx; exact SeqAt.EqAt.str_str a t' b t
    | _ => exact absurd (show false = true from fx) Bool.false_ne_true
  | _ => exact absurd (show false = true from fy) Bool.false_ne_true
/-- the items' answers, read off the values (a value's own answer does not lean on its token) -/
noncomputable def eqU (x : V) (u : Value) : Bool := match u with
  | .none => eqV .non x
  | .bool b => eqV (.bl b) x
  | .int i _ => eqV (.int i) x
  | .str z _ => eqV (.str z) x
  | _ => false
theorem eqU_of {x y : V} {u : Value} (r : RelV y u) (f : flatV y = true) : eqU x u = eqV y x := by
  cases y with
  | non => cases r; rfl
  | bl b => cases r; rfl
  | int i => obtain ⟨t, rfl⟩ := r; rfl
  | str z => obtain ⟨t, rfl⟩ := r; rfl
  | _ => exact absurd (show false = true from f) Bool.false_ne_true
theorem any_eqU {x : V} : ∀ {xs : List V} {us : List Value}, Vals xs us → xs.all flatV = true → us.any (eqU x) = xs.any fun y => eqV y x
  | _, _, .nil, _ => rfl
  | y :: xs, u :: us, .cons r t, f => by
    rw [List.all_cons, Bool.and_eq_true] at f
    rw [List.any_cons, List.any_cons, eqU_of r f.1, any_eqU t f.2]
theorem mem_eqAt {A : Around} {s : Shared} {x : V} {v : Value} (rx : RelV x v) (fx : flatV x = true) : ∀ {xs : List V} {us : List Value}, Vals xs us → xs.all flatV = true → ∀ u ∈ us, SeqAt.EqAt A s u v (eqU x u)
  | _, _, .nil, _ => fun u hu => by cases hu
  | y :: xs, u :: us, .cons r t, f => fun u' hu => by
    rw [List.all_cons, Bool.and_eq_true] at f
    rcases List.mem_cons.mp hu with rfl | hu
    · rw [eqU_of r f.1]; exact eqAt_V r rx f.1 fx
    · exact mem_eqAt rx fx t f.2 u' hu
noncomputable def inV (x : V) (xs : List V) : Bool := xs.any fun y => eqV y x
/-- x in a list or tuple of flat items -/
noncomputable def rIn (K : PySem.W.Frag) (neg : Bool) : R2 := fun x y H Q => ∃ p xs, y = .ref p ∧ (SqL K H p xs ∨ SqT K H p xs) ∧ flatV x = true ∧ xs.all flatV = true ∧ Q (.bl (if neg then !inV x xs else inV x xs)) H
theorem op_in_seq : OpR X (compareOp .In) (rIn X.K false) := by
  intro pins s σ H x y v u Q I rx ry h
  obtain ⟨p, xs, rfl, hq, fx, fs, q⟩ := h
  cases ry
  rcases hq with hq | hq
  · obtain ⟨its, r, pl, hz⟩ := I.list hq
    refine SeqAt.in_listAt (eqU x) pl.isList (fun w hw => mem_eqAt rx fx r fs w (by simpa using hw)) ⟨.bl _, H, I, rfl, ?_⟩
    rw [show its.toArray.any (eqU x) = its.any (eqU x) by simp, any_eqU r fs]
    exact q
  · obtain ⟨its, r, pl, hz⟩ := I.tuple hq
    refine SeqAt.in_tupleAt (eqU x) pl (fun w hw => mem_eqAt rx fx r fs w (by simpa using hw)) ⟨.bl _, H, I, rfl, ?_⟩
    rw [show its.toArray.any (eqU x) = its.any (eqU x) by simp, any_eqU r fs]
    exact q
theorem op_notIn_seq : OpR X (compareOp .NotIn) (rIn X.K true) := by
  intro pins s σ H x y v u Q I rx ry h
  obtain ⟨p, xs, rfl, hq, fx, fs, q⟩ := h
  cases ry
  rcases hq with hq | hq
  · obtain ⟨its, r, pl, hz⟩ := I.list hq
    refine SeqAt.notIn_listAt (eqU x) pl.isList (fun w hw => mem_eqAt rx fx r fs w (by simpa using hw)) ⟨.bl _, H, I, rfl, ?_⟩
    rw [show its.toArray.any (eqU x) = its.any (eqU x) by simp, any_eqU r fs]
    exact q
  · obtain ⟨its, r, pl, hz⟩ := I.tuple hq
    refine SeqAt.notIn_tupleAt (eqU x) pl (fun w hw => mem_eqAt rx fx r fs w (by simpa using hw)) ⟨.bl _, H, I, rfl, ?_⟩
    rw [show its.toArray.any (eqU x) = its.any (eqU x) by simp, any_eqU r fs]
    exact q
theorem op_notIn_str : OpR X (compareOp .NotIn) (fun x y H Q => ∃ i j, x = .str i ∧ y = .str j ∧ Q (.bl (!(!(Builtin.Str.occurrences j i 0 j.length 1).isEmpty))) H) := by
  intro pins s σ H x y v u Q I rx ry h
  obtain ⟨i, j, rfl, rfl, q⟩ := h
  obtain ⟨t, rfl⟩ := rx
  obtain ⟨t', rfl⟩ := ry
  exact notIn_str ⟨.bl _, H, I, rfl, q⟩

/-! ### len, list(x), tuple(x) of any list or tuple that is read -/
theorem call_len_seq : CallR X (.builtin "len") (fun xs H Q => ∃ p ys, xs = [.ref p] ∧ (SqL X.K H p ys ∨ SqT X.K H p ys) ∧ Q (.int ys.length) H) := by
  intro pins s σ H xs us Q I r h
  obtain ⟨p, ys, rfl, hq, q⟩ := h
  obtain ⟨u, rfl, rx⟩ := vals1 r
  cases rx
  have hn := line63
  rcases hq with hq | hq
  · obtain ⟨its, r', pl, hz⟩ := I.list hq
    have hlen := r'.length
    exact Calls.call_len_list pl.isList (by simp only [List.size_toArray] <;> omega) ⟨.int ys.length, H, I.tok _, ⟨s.toks + 1, by rw [List.size_toArray, hlen]⟩, q⟩
  · obtain ⟨its, r', pl, hz⟩ := I.tuple hq
    have hlen := r'.length
    exact len_tuple pl (by simp only [List.size_toArray] <;> omega) ⟨.int ys.length, H, I.tok _, ⟨s.toks + 1, by rw [List.size_toArray, hlen]⟩, q⟩
theorem call_len_str : CallR X (.builtin "len") (fun xs H Q => ∃ z, xs = [.str z] ∧ z.length ≤ sizeLine ∧ Q (.int z.length) H) := by
  intro pins s σ H xs us Q I r h
  obtain ⟨z, rfl, hz, q⟩ := h
  obtain ⟨u, rfl, t, rfl⟩ := vals1 r
  have hn := line63
  exact len_str (by omega) ⟨.int z.length, H, I.tok _, ⟨_, rfl⟩, q⟩
theorem CallR.or {f : Value} {r r' : List V → Hp → VK → Prop} (h : CallR X f r) (h' : CallR X f r') : CallR X f (fun xs H Q => r xs H Q ∨ r' xs H Q) := by
  intro pins s σ H xs us Q I rs q
  rcases q with q | q
  · exact h pins s σ H xs us Q I rs q
  · exact h' pins s σ H xs us Q I rs q
variable {o e : Expr} {es : List Expr} {to : TE} {t : TA} {name : Str} {apos cpos : Pos} {T id : String} {r : V → List V → Hp → VK → Prop}
/- xs.append(e), list.index on a module's tuple .. are MtR facts of 06m -/
end
end L2

namespace L2
open PySem PySem.Spec PyProof.Rows

noncomputable def MtM (X : Cx) (id : String) (r : V → List V → Hp → VK → Prop) : Prop :=
  ∀ (pins : List (Addr × Obj)) (s : Shared) (σ : St) (H : Hp) (x : V) (xs : List V) (v : Value) (us : List Value) (Q : VK), Inv X pins σ H s → RelV x v → Vals xs us → r x xs H Q →
    wpAny (model X.prog X.w) X.A (call (.builtin id) (v :: us)) (EP X pins σ Q) X.xe s

/-! ### lists of values -/
theorem Vals.one : ∀ {x : V} {us : List Value}, Vals [x] us → ∃ u, us = [u] ∧ RelV x u
  | _, _, .cons r .nil => ⟨_, rfl, r⟩
theorem Vals.two : ∀ {x y : V} {us : List Value}, Vals [x, y] us → ∃ u v, us = [u, v] ∧ RelV x u ∧ RelV y v
  | _, _, _, .cons r (.cons q .nil) => ⟨_, _, rfl, r, q⟩
theorem Vals.zero : ∀ {us : List Value}, Vals [] us → us = []
  | _, .nil => rfl
theorem Vals.reverse {xs : List V} {us : List Value} (h : Vals xs us) : Vals xs.reverse us.reverse := by
  induction h with
  | nil => exact .nil
  | cons r t ih => rw [List.reverse_cons, List.reverse_cons]; exact Vals.append ih (.cons r .nil)
theorem Vals.rep {xs : List V} {us : List Value} (h : Vals xs us) : ∀ k : Nat, Vals (List.replicate k xs).flatten (List.replicate k us).flatten
  | 0 => .nil
  | k + 1 => by
    rw [List.replicate_succ, List.replicate_succ, List.flatten_cons, List.flatten_cons]
    exact Vals.append h (Vals.rep h k)
theorem foldl_rep (its : List Value) : ∀ (k : Nat) (acc : List Value),
    List.foldl (fun x1 x2 => x1 ++ x2) acc.toArray (List.replicate k its.toArray) = (acc ++ (List.replicate k its).flatten).toArray
  | 0, acc => by simp
  | k + 1, acc => by
    have e : acc.toArray ++ its.toArray = (acc ++ its).toArray := by simp
    have e2 : (acc ++ its) ++ (List.replicate k its).flatten = acc ++ (List.replicate (k + 1) its).flatten := by
      rw [List.replicate_succ, List.flatten_cons, List.append_assoc]
    rw [← e2, ← foldl_rep its k (acc ++ its), ← e, List.replicate_succ, List.foldl_cons]

section
variable {X : Cx} {pins : List (Addr × Obj)} {σ : St} {H : Hp} {s : Shared} {l b : Addr} {xs ys zs : List V}

/-! ### the two steps: a tracked list is rewritten, a new list is laid -/
theorem Inv.lset {its its' : List Value} {n : Nat} {f : Array Value → Array Value} {t' : Nat} (I : Inv X pins σ H s) (hH : H l = some (.lst xs))
    (e : s.heap.get? l = some { cls := .type "list", data := .seq its.toArray n }) (hf : f its.toArray = its'.toArray) (hv : Vals ys its') (hz : ys.length ≤ sizeLine) :
    Inv X pins σ (upd H l (.lst ys)) { s with heap := s.heap.update l (Obj.mapSeq f), toks := t' } := by
  have q := PySem.IsL.update e f
  rw [hf] at q
  refine I.write (x := l) (e := l) (by rw [hH]; exact trivial) (.inl rfl) (fun b' u hb hu => (Heap.get?_update_other s.heap (Obj.mapSeq f) (Ne.symm hb)).trans hu) ⟨_, q⟩ ?_
  exact ⟨hz, its', _, hv, q⟩
theorem Inv.lnew {its : List Value} {t' : Nat} (I : Inv X pins σ H s) (hv : Vals ys its) (hz : ys.length ≤ sizeLine) :
    Inv X pins σ (upd H s.heap.objs.size (.lst ys)) { s with heap := s.heap.push { cls := .type "list", data := .seq its.toArray }, toks := t' } :=
  I.laid (fun _ _ q => Heap.get?_push_of_some _ q) (Nat.le_refl _) ⟨hz, its, 0, hv, Heap.get?_push_size _ rfl⟩
theorem Inv.fresh (I : Inv X pins σ H s) : H s.heap.objs.size = none := I.hok.fresh (Nat.le_refl _)
theorem Inv.lstM (I : Inv X pins σ H s) (hH : H l = some (.lst xs)) : xs.length ≤ sizeLine ∧ ∃ (its : List Value) (n : Nat), Vals xs its ∧ xs.length = its.length ∧ s.heap.get? l = some { cls := .type "list", data := .seq its.toArray n } := by
  obtain ⟨z, its, n, r, e⟩ := I.hok l _ hH
  exact ⟨z, its, n, r, r.length, e⟩

theorem notLongL {n : Nat} (h : n ≤ sizeLine) : Builtin.List.listTooLong n = false := by
  unfold Builtin.List.listTooLong
  exact decide_eq_false (by omega)
end

section
variable {X : Cx}

/-! ### methods -/
noncomputable def rAppend : V → List V → Hp → VK → Prop := fun x vs H Q => ∃ l xs y, x = .ref l ∧ vs = [y] ∧ H l = some (.lst xs) ∧ xs.length < sizeLine ∧ Q .non (upd H l (.lst (xs ++ [y])))
theorem mt_append : MtM X "list.append" rAppend := by
  intro pins s σ H x vs v us Q I rx rv h
  obtain ⟨l, xs, y, rfl, rfl, hH, hz, q⟩ := h
  cases rx
  obtain ⟨u, rfl, ru⟩ := rv.one
  obtain ⟨z, its, n, r, hl, e⟩ := I.lstM hH
  refine call_meets F.slot_list_append ⟨_, e, rfl⟩ F.entry_list_append (F.args_list_append_2 _ _) (PySem.list_append l its.toArray n u (by rw [List.size_toArray]; omega)) ⟨e, ?_⟩
  refine ⟨.non, _, I.lset (its' := its ++ [u]) hH e (by simp) (r.append (.cons ru .nil)) ?_, rfl, q⟩
  rw [List.length_append, List.length_singleton]
  omega

/-! ### list + list, list += list, list * int -/
noncomputable def rCat : R2 := fun x y H Q => ∃ l b xs zs, x = .ref l ∧ y = .ref b ∧ H l = some (.lst xs) ∧ H b = some (.lst zs) ∧ xs.length + zs.length ≤ sizeLine ∧ ∀ p, H p = none → Q (.ref p) (upd H p (.lst (xs ++ zs)))
theorem op_cat : OpR X (binaryOp .Add) rCat := by
  intro pins s σ H x y v u Q I rx ry h
  obtain ⟨l, b, xs, zs, rfl, rfl, hH, hB, hz, q⟩ := h
  cases rx
  cases ry
  obtain ⟨z, its, n, r, hl, e⟩ := I.lstM hH
  obtain ⟨z2, its2, n2, r2, hl2, e2⟩ := I.lstM hB
  refine PySem.P.add_list e e2 ?_ (by rw [List.size_toArray, List.size_toArray]; omega)
  have ea : its.toArray ++ its2.toArray = (its ++ its2).toArray := by simp
  rw [ea]
  exact ⟨.ref _, _, I.lnew (t' := s.toks) (r.append r2) (by rw [List.length_append]; omega), rfl, q _ I.fresh⟩
/-- a list times an int (a negative one is nothing) -/
noncomputable def rRep : R2 := fun x y H Q => ∃ l k xs, x = .ref l ∧ y = .int k ∧ H l = some (.lst xs) ∧ -(2 ^ 63) ≤ k ∧ k < 2 ^ 63 ∧ xs.length * k.toNat ≤ sizeLine ∧
  ∀ p, H p = none → Q (.ref p) (upd H p (.lst (List.replicate k.toNat xs).flatten))
theorem len_rep {α : Type} (xs : List α) (k : Nat) : (List.replicate k xs).flatten.length = k * xs.length := by
  induction k with
  | zero => simp
  | succ k ih => rw [List.replicate_succ, List.flatten_cons, List.length_append, ih, Nat.succ_mul, Nat.add_comm]
theorem op_rep : OpR X (binaryOp .Mult) rRep := by
  intro pins s σ H x y v u Q I rx ry h
  obtain ⟨l, k, xs, rfl, rfl, hH, h1, h2, hz, q⟩ := h
  cases rx
  obtain ⟨t, rfl⟩ := ry
  obtain ⟨z, its, n, r, hl, e⟩ := I.lstM hH
  have hlen : its.toArray.size * k.toNat ≤ sizeLine := by rw [List.size_toArray, ← hl]; exact hz
  have hcap : ¬ its.toArray.size * k.toNat > (2 ^ 63 - 1) / 8 := by
    have : (sizeLine : Nat) ≤ (2 ^ 63 - 1) / 8 := by decide
    omega
  have hfit : ¬ (!Builtin.List.listFitsIndex k) = true := by
    rw [fitsIndex_both h1 h2]
    exact Bool.false_ne_true
  have hlong : ¬ Builtin.List.listTooLong (its.toArray.size * k.toNat) = true := by
    rw [notLongL hlen]
    exact Bool.false_ne_true
  have hnew : List.foldl (fun x1 x2 => x1 ++ x2) #[] (List.replicate (if its.toArray.isEmpty = true then 0 else k.toNat) its.toArray) = (List.replicate k.toNat its).flatten.toArray := by
    have f0 : ∀ m : Nat, List.foldl (fun x1 x2 => x1 ++ x2) #[] (List.replicate m its.toArray) = (List.replicate m its).flatten.toArray := fun m => by
      have := foldl_rep its m []
      rw [List.nil_append] at this
      exact this
    rw [f0]
    cases its with
    | nil => simp
    | cons a r' => rw [if_neg (by simp)]
  refine wpAny_binaryOp_repeat_ref (T := "list") (U := "int") (by decide) ⟨_, e, rfl⟩ (fun s' => typeIs_int s' k t) noFill_list_mul F.fills_int_mul F.slot_int_rmul repeat_list F.slot_int_index.lookup
    (call_meets F.slot_int_rmul (typeIs_int s k t) F.entry_int_rmul (F.args_int_rmul_2 _ _) (int___rmul___int_list k t l its.toArray n)
      ⟨e, rfl, ⟨_, e, rfl⟩, call_meets F.slot_list_mul ⟨_, e, rfl⟩ F.entry_list_mul (F.args_list_mul_2 _ _) (AutoListH.list___mul___list_int_3 l its.toArray n k t hfit hcap hlong) ⟨e, ?_⟩⟩)
  rw [hnew]
  exact ⟨.ref _, _, I.lnew (t' := s.toks) (r.rep k.toNat) (by rw [len_rep, Nat.mul_comm]; exact hz), rfl, q _ I.fresh⟩

end

/-! ### xs[a:b] = ys -/
section
variable {prog : Program} {w : World} {A : Around} {E : Value → Shared → Prop} {s : Shared}
end

section
variable {X : Cx}
end
end L2

namespace Att
open PySem PySem.W PySem.Calls PyProof.Rows

/-! ### the script -/
theorem ints_of_wellAll {P : Params} {h : Heap} : ∀ (ns : List Int) (vs : List Value), WellAll P h vs (ns.map WData.int) → IntsAre vs ns := by
  intro ns
  induction ns with
  | nil =>
    intro vs w
    rw [List.map_nil] at w
    cases w
    exact .nil
  | cons n ns ih =>
    intro vs w
    rw [List.map_cons] at w
    cases w with
    | cons a b =>
      cases a
      exact .cons _ _ (ih _ b)

theorem script_of {l : OpenLaw} {n : Nat} (hn : l.most = some n) {P : Params} {h : Heap} {args : List WData} {vals : List Value}
    (hpre : l.row.toRowW.claim.pre args = true) (hwl : WellAll P h vals args) :
    ∃ a vs ns, vals = [Value.ref a] ∧ args = [WData.list (ns.map WData.int)] ∧ h.get? a = some { cls := .type "list", data := .seq vs.toArray } ∧ IntsAre vs ns ∧ ns.length ≤ n := by
  have hsh : WShape.hasAll [] args [.list .int] = true := (pre_splitW hpre).1
  have hc : l.pre.holds [] { args := args } = true := (pre_splitW hpre).2
  obtain ⟨d, r, rfl, h1, h2⟩ := hasAllW_cons hsh
  obtain rfl := hasAllW_nil h2
  obtain ⟨xs, rfl, h3⟩ := hasW_list h1
  obtain ⟨ns, rfl⟩ := items_int h3
  have hlen : ns.length ≤ n := by
    unfold OpenLaw.pre at hc
    have h4 : (WTm.not (.lt (.lit (.int (n : Int))) (.len (.arg 0)))).holds [] { args := [.list (ns.map .int)] } = true := by
      have h4 := (holds_andW hc).1
      rw [hn] at h4
      exact h4
    have h5 := condW_of h4 (w_not (w_lt w_lit (w_len_list (w_arg rfl))))
    rw [List.length_map] at h5
    refine Nat.le_of_not_lt fun q => ?_
    have q' : (n : Int) < ((ns.length : Nat) : Int) := by omega
    first
      | (rw [decide_eq_true q'] at h5; exact absurd h5 (by decide))
      | (simp at h5; omega)
  cases hwl with
  | cons w1 w2 =>
    cases w2
    cases w1 with
    | list ho hall => exact ⟨_, _, ns, rfl, rfl, ho, ints_of_wellAll ns _ hall, hlen⟩

theorem post_true (l : OpenLaw) (args : List WData) : l.row.toRowW.claim.post args (.bool true) args = true :=
  postW_of (r := l.row.toRowW) (X := (true == true))
    (show WShape.has [] (.bool true) .bool = true by first | rfl | decide | simp [WShape.has, WShape.arms, WShape.armsAll])
    (show (WTm.eq .res (.lit (.bool true))).value [] { args := args, res := some (.bool true), after := args } = some (.bool (true == true)) from w_eq_bool (w_res rfl) w_lit) rfl

/-- the same from a codeAny of the CALL (for a layer whose function contracts speak of calls) -/
theorem attach_call {l : OpenLaw} {n : Nat} {q : Program} {loose : List Str} {XP : (Str → Option Value) → Heap → Prop} {YP : World → Heap → Prop} {d : DefRec}
    (hn : l.most = some n) (hdf : d.params.defaults = [])
    (call : ∀ (w : World) (s₀ s₁ : Shared) (mg mb : Str → Option Value) (fa : Addr) (o : Obj) (pm cd doc : Value) (a : Addr) (vs : List Value) (ns : List Int),
      Ground q loose [] XP w s₀ mg mb s₁.heap → YP w s₁.heap →
      s₁.heap.get? fa = some o → o.data = .func (docDef d.name d.params d.body d.scope pm cd doc) → s₁.heap.CodeRec cd d.name → mg d.name = some (.ref fa) →
      s₁.heap.get? a = some { cls := .type "list", data := .seq vs.toArray } → IntsAre vs ns → ns.length ≤ n → s₁.gens = #[] →
      codeAny (model l.prog w) callerA (.call (.ref fa) ⟨[.ref a], []⟩) (fun r s' => r = .ok (.ret (.bool true)) ∧ OldK s₁.heap s'.heap ∧ s'.os = s₁.os ∧ AllBare s'.gens) s₁) :
    WalkO q loose XP YP l.row.toRowW d [] (fun f vs => PySem.call f vs) := by
  intro w s₀ s₁ mg mb G Y fa o pm cd doc dV kV ho hd hcd hD hmg hg args vals as hpre hlay hrd hwl hlo
  obtain rfl : dV = .none := Dflts.none hD hdf
  obtain rfl : kV = .none := Dflts.noKw hD
  obtain ⟨a, vs, ns, rfl, rfl, hobj, hints, hlen⟩ := script_of hn hpre hwl
  refine enter_call (codeAny_mono (call w s₀ s₁ mg mb fa o pm cd doc a vs ns G Y ho (fd_plain hd) hcd hmg hobj hints hlen hg) fun r s' hq => ?_)
  obtain ⟨rfl, h2, h3, h4⟩ := hq
  exact ⟨.inl ⟨.bool true, .bool true, [], rfl, fun _ => rfl, .bool true, post_true l _, fun _ => ⟨List.Pairwise.nil, fun _ hm => (nomatch hm)⟩⟩, h2, h3, h4⟩

/-! ### rules over ANY heap (no ledger) from facts about the written part K: the library's own take a ledger (News) for what they write -/
section
variable {prog : Program} {w : World} {A : Around} {E : Value → Shared → Prop} {s : Shared} {K : Frag}

noncomputable def ledger (h : Heap) (L d : Addr) : List (Addr × Obj) := (List.range h.objs.size).filterMap fun a => if a = L ∨ a = d then none else (h.get? a).map fun o => (a, o)
end
end Att

namespace L2
open PySem PySem.Spec PyProof.Rows

theorem vals_ints : ∀ {vs : List Value} {ns : List Int}, IntsAre vs ns → Vals (ns.map V.int) vs
  | _, _, .nil => .nil
  | _, _, .cons n t h => .cons ⟨t, rfl⟩ (vals_ints h)

/-- nothing is tracked but the script, known to the object (or it is an object of the module) -/
noncomputable def Only (H : Hp) : Prop := ∀ b, H b = none ∨ ∃ o xs, H b = some (.frz o (.lst xs))

/-- THE HEAD: the law's promise, at the heap behind the top. F, the promise of the law's def, may use that base is part of the heap (so K.In base, base.Ns mainGlobals mg stand in Mod) -/
theorem law_call {P : Program} {w : World} {K : PySem.W.Frag} {mg mb : Str → Option Value} {CX : CXT} {k : Nat} {fa a : Addr} {fd : FuncData} {x : Str} {sp : Sp} {s₁ : Shared} {vs : List Value} {ns : List Int}
    (KX : K.In s₁.heap) (hns : s₁.heap.Ns mainGlobals mg) (hb : s₁.heap.Ns builtinsNs mb) (hbb : ∀ x : Str, x ≠ "__name__" → mb x = bootBuiltins x) (hlim : s₁.heap.NoLimit) (hg : s₁.gens = #[])
    (ha : s₁.heap.get? a = some { cls := .type "list", data := .seq vs.toArray }) (hi : IntsAre vs ns) (hl : ns.length ≤ sizeLine) (hr : Room k callerA)
    (F : ∀ base : Heap, K.In base → base.Ns mainGlobals mg → FnOk P w K mg base CX k fa fd [x] sp) (hbind : ∀ (s : Shared) (u : Value), BindsTo s fd ⟨[u], []⟩ [(x, u)])
    (hsp : ∀ H : Hp, Only H → SqL K H a (ns.map V.int) → sp [.ref a] H (fun v _ => v = .bl true) fun _ _ _ => False)
    (hCX : ∀ H e s', CX [] H s₁ (fun _ _ _ => False) e s' → False) :
    codeAny (model P w) callerA (.call (.ref fa) ⟨[.ref a], []⟩) (fun r s' => r = .ok (.ret (.bool true)) ∧ OldK s₁.heap s'.heap ∧ s'.os = s₁.os ∧ AllBare s'.gens) s₁ := by
  have rv := vals_ints hi
  have lenV := hi.length
  -- from an abstract heap in which nothing but the script may be tracked
  have core : ∀ H : Hp, Only H → SqL K H a (ns.map V.int) → HOk P w H s₁.heap → (∀ b, H b ≠ none → b = a) → (H a ≠ none → K.lookup a = none) →
      codeAny (model P w) callerA (.call (.ref fa) ⟨[.ref a], []⟩) (fun r s' => r = .ok (.ret (.bool true)) ∧ OldK s₁.heap s'.heap ∧ s'.os = s₁.os ∧ AllBare s'.gens) s₁ := by
    intro H hO hS hok hA hK
    have base_of : ∀ {b : Addr} {o : Obj}, s₁.heap.get? b = some o → H b = none → (hidT s₁.heap H).get? b = some o := fun e n => hidT_get e n
    have noA : ∀ {b : Addr} {o : Obj} {es : Array DictEntry} {ep : Nat}, s₁.heap.get? b = some o → o.data = .dict es ep → H b = none := fun {b o es ep} e d => by
      cases q : H b with
      | none => rfl
      | some u =>
        have e' : b = a := hA b (by rw [q]; simp)
        subst e'
        rw [ha] at e; cases e
        have d' : Data.seq vs.toArray _ = Data.dict es ep := d
        cases d'
    have nsK : ∀ {b : Addr} {m : Str → Option Value}, s₁.heap.Ns b m → (hidT s₁.heap H).Ns b m := fun {b m} ⟨o, es, ep, e, d, r⟩ => ⟨o, es, ep, base_of e (noA e d), d, r⟩
    have hKb : K.In (hidT s₁.heap H) := fun b o e => base_of (KX b o e) (by
      cases q : H b with
      | none => rfl
      | some u =>
        have e' : b = a := hA b (by rw [q]; simp)
        subst e'
        rw [hK (by rw [q]; simp)] at e; cases e)
    have hM : Mod K mg (hidT s₁.heap H) := ⟨hKb, nsK hns, ⟨mb, nsK hb, hbb⟩, let ⟨mc, h1, h2⟩ := hlim; ⟨mc, nsK h1, h2⟩⟩
    have e0 : Env0 P w K mg (hidT s₁.heap H) callerA [] s₁ H := ⟨rfl, hM, fun b o e => of_hidT e, Nat.le_of_eq (hidT_size _ _), trivial, fun b hb => absurd (show b ∈ ([] : List Addr) from hb) (by simp), hok, .of_eq hg⟩
    refine codeAny_mono ((F _ hKb (nsK hns)).run callerA [] s₁ H ⟨[.ref a], []⟩ [.ref a] [.ref a] _ _ hr e0 (hbind s₁ (.ref a)) (.cons rfl .nil) (hsp H hO hS)) fun r s' h => ?_
    cases r with
    | error e => exact (hCX H e s' h).elim
    | ok fl =>
      cases fl with
      | next => exact False.elim h
      | brk => exact False.elim h
      | cont => exact False.elim h
      | ret u =>
        obtain ⟨v, H', os, bare, un, hok', r', q⟩ := h
        have q' : v = .bl true := q
        subst q'
        obtain rfl : u = Value.bool true := r'
        refine ⟨rfl, OldK.of_keep fun b o e => ?_, os, bare⟩
        cases q : H b with
        | none => exact un.keep b o e q (by intro z; exact absurd (show b ∈ ([] : List Addr) from z) (by simp)) (by simp)
        | some u =>
          rcases hO b with z | ⟨ob, xs, z⟩
          · rw [q] at z; cases z
          · have z2 := un.frzs b ob _ z
            obtain ⟨e1, _⟩ := hok b _ z
            obtain ⟨e2, _⟩ := hok' b _ z2
            rw [e] at e1; cases e1
            exact e2
  cases hk : K.lookup a with
  | some o =>
    -- the script is one of the module's own objects
    have e := KX a o hk
    rw [ha] at e
    cases e
    refine core (fun _ => none) (fun _ => .inl rfl) (.inr ⟨_, vs.toArray, _, hk, rfl, rfl, rfl, by rw [List.size_toArray, lenV]; exact hl, by simpa using rv⟩) (fun b u z => by have z' : (none : Option HO) = some u := z; cases z') (fun b z => absurd rfl z) fun z => absurd rfl z
  | none =>
    refine core (fun b => if b = a then some (.frz { cls := .type "list", data := .seq vs.toArray } (.lst (ns.map V.int))) else none) (fun b => ?_) (.inl (.inr ⟨{ cls := .type "list", data := .seq vs.toArray }, if_pos rfl⟩)) (fun b u z => ?_) (fun b z => ?_) fun _ => hk
    · by_cases hb : b = a
      · exact .inr ⟨_, _, if_pos hb⟩
      · exact .inl (if_neg hb)
    · by_cases hb : b = a
      · have z' := (if_pos hb).symm.trans z
        cases z'
        subst hb
        exact ⟨ha, by rw [List.length_map]; exact hl, vs, _, rv, ha⟩
      · have z' := (if_neg hb).symm.trans z
        cases z'
    · by_cases hb : b = a
      · exact hb
      · exact absurd (if_neg hb) z
end L2

namespace L2
open PySem PySem.Spec PyProof.Rows

noncomputable abbrev KOf {K : PySem.W.Frag} {h : Heap} (_ : K.In h) : PySem.W.Frag := K

/-- the goal that k_head leaves (case hc), from the law's promise. F gives the function object fd (K's own) once, then the promise over every base -/
theorem walk_of {l : PySem.W.OpenLaw} {n k : Nat} {q : Program} {loose : List Str} {XP : (Str → Option Value) → Heap → Prop} {YP : World → Heap → Prop} {d : DefRec} {K : Params → PySem.W.Frag} {CX : World → CXT} {sp : World → Sp} {x : Str}
    (hn : l.most = some n) (hn2 : n ≤ sizeLine) (hdf : d.params.defaults = []) (hr : Room k callerA)
    (hY : ∀ (w : World) (h : Heap), YP w h → (K w.params).In h)
    (F : ∀ (w : World) (mg : Str → Option Value) (fa : Addr) (h : Heap), (K w.params).In h → h.Ns mainGlobals mg → mg d.name = some (.ref fa) →
      ∃ fd : FuncData, (∀ (s : Shared) (u : Value), BindsTo s fd ⟨[u], []⟩ [(x, u)]) ∧
        ∀ base : Heap, (K w.params).In base → base.Ns mainGlobals mg → FnOk l.prog w (K w.params) mg base (CX w) k fa fd [x] (sp w))
    (hsp : ∀ (w : World) (H : Hp) (a : Addr) (ns : List Int), ns.length ≤ n → Only H → SqL (K w.params) H a (ns.map V.int) → sp w [.ref a] H (fun v _ => v = .bl true) fun _ _ _ => False)
    (hCX : ∀ (w : World) (H : Hp) (s : Shared) (e : Value) (s' : Shared), CX w [] H s (fun _ _ _ => False) e s' → False) :
    PySem.W.WalkO q loose XP YP l.row.toRowW d [] (fun f vs => PySem.call f vs) := by
  refine Att.attach_call hn hdf fun w s₀ s₁ mg mb fa o pm cd doc a vs ns G Y ho hd hcd hmg hobj hints hlen hg => ?_
  have KX := hY w _ Y
  obtain ⟨fd, hb, hF⟩ := F w mg fa _ KX G.T.g hmg
  exact law_call KX G.T.g G.T.b G.T.builtins G.T.nolimit hg hobj hints (Nat.le_trans hlen hn2) hr hF hb (fun H hO hS => hsp w H a ns hlen hO hS) fun H e s' => hCX w H s₁ e s'
end L2

/- THE LAST THEOREM (shape; LID, My.* are yours):
   My.Adr: a structure of the addresses that your layer names (classes, functions); My.Txt K t: a structure (Prop) of the equations over K;
   My.txt_mk : {K} {implicit addresses ..} (e1 : nsIn K mainGlobals "law" = some (some (.ref f))) (e2 : K.lookup f = some ⟨oc, od, .func (fnOf "law" "law" params body scope dV kV doc pm an cdv ct), sl⟩) (e3 : codeIn K cdv "law" = true) .. : ∃ t, My.Txt K t

theorem PySem.Challenge.cw_LID_holds : PySem.Challenge.rw_LID.Holds := by
  w_on; o_law; k_head; (case hw => w_witness2)
  k_fill
  refine L2.walk_of (l := PySem.Challenge.rw_LID) (n := 63) (k := 40) (x := "script") (CX := fun w => ..) (sp := fun _ => My.sp_law) rfl (by decide) rfl ⟨rfl, by decide, by decide⟩ (fun w h Y => PySem.W.kIn_of Y) ?F ?S ?C
  case F =>
    intro w mg fa h KX G hmg
    have T : ∃ t, My.Txt (L2.KOf KX) t := by
      dsimp only [L2.KOf]                          -- K must stand as «<heap const> w.params» for k_is
      refine' My.txt_mk ?e1 ?e2 ?e3 ..
      (case e1 => PySem.W.k_is)                    -- in the order: a name -> its address -> its object -> its parts
      (case e2 => PySem.W.k_is)
      ..
    obtain ⟨t, T⟩ := T
    have e0 := hmg.symm.trans (PySem.W.mg_of KX G T.law)
    cases e0                                       -- fa is the law's own address
    exact ⟨_, fun s u => .of_eq rfl, fun base kb nb => My.law_fn T kb nb⟩     -- if «.of_eq rfl» comes too early: refine' ⟨_, ?b, fun base kb nb => My.law_fn T kb nb⟩; exact fun s u => .of_eq rfl
  case S => exact fun w H a ns hl hO hS => ..
  case C => exact ..
(the tactic k_is has no namespace: write k_is) -/

/-! SHORT WORDS over the layer: a def of the text, its body, what a loop and a test want. -/
namespace L2
open PySem PySem.Spec PyProof.Rows

noncomputable def defArgs (s : Stmt) : Arguments := match s with
  | .FunctionDef _ a _ _ _ _ _ _ _ _ => a
  | _ => { posonlyargs := [], args := [], vararg := none, kwonlyargs := [], kw_defaults := [], kwarg := none, defaults := [] }
noncomputable def defBody (s : Stmt) : List Stmt := match s with
  | .FunctionDef _ _ b _ _ _ _ _ _ _ => b
  | _ => []
noncomputable def defScope (s : Stmt) : Scope := match s with
  | .FunctionDef _ _ _ _ _ _ sc _ _ _ => sc
  | _ => { kind := .function, names := [], isGenerator := false, isCoroutine := false }

/-! ### no exception leaves a def -/
noncomputable abbrev CX0 : CXT := fun _ _ _ _ _ _ => False
noncomputable abbrev E0 : XK := fun _ _ _ => False
theorem pass0 {X : Cx} : Passes CX0 X E0 := fun _ _ _ _ _ _ _ h => h.elim

/-! ### a def (or method) of the text as it stands behind the top -/
structure Fun (K : PySem.W.Frag) (x qual : Str) (st : Stmt) (f : Addr) (fd : FuncData) : Prop where
  ex : ∃ (oc : Value) (od : Option Addr) (kV doc pm : Value) (an : Option Addr) (cdv ct : Value) (osl : Array (Option Value)),
    fd = PySem.W.fnOf x qual (defArgs st) (defBody st) (defScope st) .none kV doc pm an cdv ct ∧ K.lookup f = some ⟨oc, od, .func fd, osl⟩ ∧ PySem.W.codeIn K cdv qual = true
  kp : PySem.W.keepIn K (.ref f) = true
section
variable {P : Program} {w : World} {K : PySem.W.Frag} {mg : Str → Option Value} {base : Heap}
/-- THE RULE for a def: its body as a term of rules, and the reading of that term -/
theorem Fun.ok {x qual : Str} {st : Stmt} {f : Addr} {fd : FuncData} {N ps : List Str} {k : Nat} {sp : Sp} (F : Fun K x qual st f fd) (S : FnScope N ps (defScope st)) (len : ∀ vs H Q E, sp vs H Q E → vs.length = ps.length)
    (hbody : ∀ (cdv : Value) (A : Around) (outer : List Env) (s : Shared) (H : Hp) (vs : List V) (Q : VK) (E : XK), Room k (A.deeper (envOfC qual (defScope st) s.heap.objs.size f cdv)) → sp vs H Q E →
      ∃ t, PSs (cxOf CX0 P w K mg base N qual (defScope st) f cdv A outer s H E).nox (defBody st) t ∧ t { nx := fun _ H' => Q .non H', rt := Q } (start N vs) H) : FnOk P w K mg base CX0 (k + 1) f fd ps sp := by
  obtain ⟨oc, od, kV, doc, pm, an, cdv, ct, osl, rfl, lk, hcd⟩ := F.ex
  refine fn_of lk hcd S len fun A outer s H vs Q E hr hsp => ?_
  obtain ⟨t, h, q⟩ := hbody cdv A outer s H vs Q E hr hsp
  exact ⟨t, h.nox, q⟩
/-- how its arguments bind (no defaults): h is «fun _ _ _ _ _ _ us hl => match us, hl with | [_, _], _ => rfl», one _ a parameter -/
theorem Fun.binds {x qual : Str} {st : Stmt} {f : Addr} {fd : FuncData} {ps : List Str} (F : Fun K x qual st f fd)
    (h : ∀ (kV doc pm : Value) (an : Option Addr) (cdv ct : Value) (us : List Value), us.length = ps.length → bindArgs (PySem.W.fnOf x qual (defArgs st) (defBody st) (defScope st) .none kV doc pm an cdv ct) ⟨us, []⟩ = pure (ps.zip us)) : Binds K fd ps [] := by
  obtain ⟨oc, od, kV, doc, pm, an, cdv, ct, osl, rfl, lk, hcd⟩ := F.ex
  exact .all (h kV doc pm an cdv ct)
theorem fun_mk {x qual : Str} {st : Stmt} {f : Addr} {oc : Value} {od an : Option Addr} {osl : Array (Option Value)} {kV doc pm cdv ct : Value} (l : K.lookup f = some ⟨oc, od, .func (PySem.W.fnOf x qual (defArgs st) (defBody st) (defScope st) .none kV doc pm an cdv ct), osl⟩)
    (c : PySem.W.codeIn K cdv qual = true) (k : PySem.W.keepIn K (.ref f) = true) : Fun K x qual st f (PySem.W.fnOf x qual (defArgs st) (defBody st) (defScope st) .none kV doc pm an cdv ct) := ⟨⟨oc, od, kV, doc, pm, an, cdv, ct, osl, rfl, l, c⟩, k⟩
end
/-! ### expressions in short: the name that stands in the i-th slot -/
section
variable {X : Cx}
end

/-! ### heaps -/
/-- all that was tracked is as it was -/
noncomputable def Same (H H' : Hp) : Prop := ∀ b o, H b = some o → H' b = some o
theorem Same.refl (H : Hp) : Same H H := fun _ _ h => h
theorem Same.trans {H H1 H2 : Hp} (a : Same H H1) (b : Same H1 H2) : Same H H2 := fun c o h => b c o (a c o h)
theorem Same.free {H H' : Hp} (e : Same H H') {l : Addr} (h : H' l = Option.none) : H l = Option.none := by
  cases q : H l with
  | none => rfl
  | some o =>
    rw [e l o q] at h
    cases h
theorem Same.seq {K : PySem.W.Frag} {H H' : Hp} {a : Addr} {xs : List V} (e : Same H H') (h : SqL K H a xs) : SqL K H' a xs := by
  rcases h with (h | ⟨o, h⟩) | h
  · exact .inl (.inl (e _ _ h))
  · exact .inl (.inr ⟨o, e _ _ h⟩)
  · exact .inr h

end L2

namespace Pv
open PySem

/-- a value without addresses of tuples: a tuple is its items; fls: a list that is never written (the script, a module's list) -/
inductive D where
  | non | bl (b : Bool) | int (i : Int) | str (x : Str) | tup (l : List D) | fls (l : List D) | ref (a : Addr) | ty (n : String) | exc (c : Str)
inductive MO where
  | lst (xs : List D)
  | ins (c : Str) (fs : List (Str × D))
noncomputable abbrev Mu := Addr → Option MO
noncomputable def updM (μ : Mu) (a : Addr) (o : MO) : Mu := fun b => if b = a then some o else μ b
theorem updM_same {μ : Mu} {a : Addr} {o : MO} : updM μ a o a = some o := by unfold updM; rw [if_pos rfl]
theorem updM_ne {μ : Mu} {a b : Addr} {o : MO} (h : b ≠ a) : updM μ a o b = μ b := by unfold updM; rw [if_neg h]
theorem updM_updM {μ : Mu} {a : Addr} {o u : MO} : updM (updM μ a o) a u = updM μ a u := by
  funext b; unfold updM; by_cases h : b = a <;> simp [h]
/-- lists may have come, those there stay -/
noncomputable def Ext (μ μ' : Mu) : Prop := ∀ a o, μ a = some o → μ' a = some o
theorem Ext.refl (μ : Mu) : Ext μ μ := fun _ _ h => h
theorem Ext.trans {a b c : Mu} (h : Ext a b) (k : Ext b c) : Ext a c := fun x o q => k x o (h x o q)
theorem Ext.new {μ : Mu} {p : Addr} {o : MO} (h : μ p = none) : Ext μ (updM μ p o) := fun a u q => by
  rw [updM_ne]; exact q
  intro e; subst e; rw [h] at q; cases q
theorem Ext.free {μ μ' : Mu} {p : Addr} (e : Ext μ μ') (h : μ' p = none) : μ p = none := by
  cases q : μ p with
  | none => rfl
  | some o => rw [e p o q] at h; cases h
/-- all but the list at p -/
noncomputable def ExtB (p : Addr) (μ μ' : Mu) : Prop := ∀ a o, a ≠ p → μ a = some o → μ' a = some o
theorem ExtB.refl (p : Addr) (μ : Mu) : ExtB p μ μ := fun _ _ _ h => h
theorem ExtB.trans {p : Addr} {a b c : Mu} (h : ExtB p a b) (k : ExtB p b c) : ExtB p a c := fun x o n q => k x o n (h x o n q)
theorem Ext.b {μ μ' : Mu} (p : Addr) (e : Ext μ μ') : ExtB p μ μ' := fun a o _ q => e a o q
theorem ExtB.upd {μ : Mu} {p : Addr} {o : MO} : ExtB p μ (updM μ p o) := fun a u n q => by rw [updM_ne n]; exact q
theorem ne_free {μ : Mu} {p q : Addr} {o : MO} (h : μ p = some o) (k : μ q = none) : p ≠ q := by
  intro e; subst e; rw [h] at k; cases k

noncomputable abbrev St3 := List (Option D)
noncomputable def getI : St3 → Nat → Option D
  | [], _ => none
  | o :: _, 0 => o
  | _ :: r, i + 1 => getI r i
theorem getI_eq : ∀ (ρ : St3) (i : Nat), getI ρ i = (ρ[i]?).getD none
  | [], i => by simp [getI]
  | o :: _, 0 => by simp [getI]
  | _ :: r, i + 1 => by simp [getI, getI_eq r i]
noncomputable abbrev VK3 := D → Mu → Prop
noncomputable abbrev TE3 := St3 → Mu → VK3 → Prop
noncomputable abbrev TT3 := St3 → Mu → (Bool → Mu → Prop) → Prop
noncomputable abbrev TA3 := St3 → Mu → (List D → Mu → Prop) → Prop
structure Ends3 where
  nx : St3 → Mu → Prop
  rt : VK3
  bk : St3 → Mu → Prop := fun _ _ => False
  ct : St3 → Mu → Prop := fun _ _ => False
noncomputable abbrev TS3 := Ends3 → St3 → Mu → Prop
noncomputable abbrev R3 := D → D → Mu → VK3 → Prop
noncomputable abbrev Sp3 := List D → Mu → VK3 → Prop
noncomputable abbrev C3 := List D → Mu → VK3 → Prop
noncomputable abbrev TG3 := D → St3 → Mu → (St3 → Mu → Prop) → Prop
noncomputable abbrev TGs3 := List D → St3 → Mu → (St3 → Mu → Prop) → Prop
noncomputable abbrev TI3 := St3 → Mu → (List D → (Mu → Prop) → Mu → Prop) → Prop

/-! ### expressions -/
noncomputable def v3 (i : Nat) : TE3 := fun ρ μ Q => match getI ρ i with
  | some d => Q d μ
  | none => False
noncomputable def c3 (d : D) : TE3 := fun _ μ Q => Q d μ
noncomputable def o3 (r : R3) (ta tb : TE3) : TE3 := fun ρ μ Q => ta ρ μ fun x μ1 => tb ρ μ1 fun y μ2 => r x y μ2 Q
noncomputable def un3 (r : D → Mu → VK3 → Prop) (ta : TE3) : TE3 := fun ρ μ Q => ta ρ μ fun x μ1 => r x μ1 Q
noncomputable def b3 (t : TE3) : TT3 := fun ρ μ Q => t ρ μ fun d μ1 => match d with
  | .bl c => Q c μ1
  | _ => False
noncomputable def and3 (t u : TT3) : TT3 := fun ρ μ Q => t ρ μ fun c μ1 => if c = true then u ρ μ1 Q else Q false μ1
noncomputable def or3 (t u : TT3) : TT3 := fun ρ μ Q => t ρ μ fun c μ1 => if c = true then Q true μ1 else u ρ μ1 Q
noncomputable def not3 (t : TT3) : TT3 := fun ρ μ Q => t ρ μ fun c μ1 => Q (!c) μ1
noncomputable def andV3 (t u : TE3) : TE3 := fun ρ μ Q => t ρ μ fun d μ1 => match d with
  | .bl c => if c = true then u ρ μ1 Q else Q (.bl false) μ1
  | _ => False
noncomputable def orV3 (t u : TE3) : TE3 := fun ρ μ Q => t ρ μ fun d μ1 => match d with
  | .bl c => if c = true then Q (.bl true) μ1 else u ρ μ1 Q
  | _ => False
noncomputable def notV3 (t : TE3) : TE3 := fun ρ μ Q => t ρ μ fun d μ1 => match d with
  | .bl c => Q (.bl (!c)) μ1
  | _ => False
noncomputable def if3 (c : TT3) (t u : TE3) : TE3 := fun ρ μ Q => c ρ μ fun b μ1 => if b = true then t ρ μ1 Q else u ρ μ1 Q
noncomputable def nil3 : TA3 := fun _ μ Q => Q [] μ
noncomputable def cons3 (t : TE3) (u : TA3) : TA3 := fun ρ μ Q => t ρ μ fun d μ1 => u ρ μ1 fun ds μ2 => Q (d :: ds) μ2
noncomputable def tup3 (t : TA3) : TE3 := fun ρ μ Q => t ρ μ fun ds μ1 => ds.length ≤ sizeLine ∧ Q (.tup ds) μ1
noncomputable def lst3 (t : TA3) : TE3 := fun ρ μ Q => t ρ μ fun ds μ1 => ds.length ≤ sizeLine ∧ ∀ p, μ1 p = none → Q (.ref p) (updM μ1 p (.lst ds))
noncomputable def call3 (sp : Sp3) (t : TA3) : TE3 := fun ρ μ Q => t ρ μ fun ds μ1 => sp ds μ1 Q
noncomputable def mt3 (r : D → List D → Mu → VK3 → Prop) (to : TE3) (t : TA3) : TE3 := fun ρ μ Q => to ρ μ fun x μ1 => match x with
  | .ref p => match μ1 p with
    | some (.lst _) => t ρ μ1 fun ds μ2 => r (.ref p) ds μ2 Q
    | _ => False
  | _ => False

/-- a slice's parts -/
noncomputable abbrev TO3 := St3 → Mu → (Option Int → Mu → Prop) → Prop
noncomputable def np3 : TO3 := fun _ μ Q => Q none μ
noncomputable def pt3 (t : TE3) : TO3 := fun ρ μ Q => t ρ μ fun d μ1 => match d with
  | .int i => Q (some i) μ1
  | _ => False
noncomputable def sl3 (r : D → Option Int → Option Int → Mu → VK3 → Prop) (te : TE3) (tl th : TO3) : TE3 := fun ρ μ Q => te ρ μ fun x μ1 => tl ρ μ1 fun l μ2 => th ρ μ2 fun u μ3 => r x l u μ3 Q
/-- the place that a slice's bound means among n -/
noncomputable def sIx3 (n d : Nat) : Option Int → Nat
  | none => d
  | some v => if v < 0 then (v + (n : Int)).toNat else min v.toNat n
noncomputable def cut3 {α : Type} (xs : List α) (lo hi : Option Int) : List α := (xs.drop (sIx3 xs.length 0 lo)).take (sIx3 xs.length xs.length hi - sIx3 xs.length 0 lo)
noncomputable def slR : D → Option Int → Option Int → Mu → VK3 → Prop := fun x lo hi μ Q => match x with
  | .tup l => Q (.tup (cut3 l lo hi)) μ
  | .str z => z.length ≤ sizeLine ∧ Q (.str ⟨(cut3 z.cps.toList lo hi).toArray⟩) μ
  | .ref p => match μ p with
    | some (.lst l) => ∀ r, μ r = none → Q (.ref r) (updM μ r (.lst (cut3 l lo hi)))
    | _ => False
  | .fls l => ∀ r, μ r = none → Q (.ref r) (updM μ r (.lst (cut3 l lo hi)))
  | _ => False
/-! ### statements -/
noncomputable def next3 : TS3 := fun D ρ μ => D.nx ρ μ
noncomputable def never3 : TS3 := fun _ _ _ => False
noncomputable def brk3 : TS3 := fun D ρ μ => D.bk ρ μ
noncomputable def cnt3 : TS3 := fun D ρ μ => D.ct ρ μ
noncomputable def seq3 (t u : TS3) : TS3 := fun D ρ μ => t { D with nx := u D } ρ μ
noncomputable def drop3 (t : TE3) : TS3 := fun D ρ μ => t ρ μ fun _ μ1 => D.nx ρ μ1
noncomputable def ret3 (t : TE3) : TS3 := fun D ρ μ => t ρ μ D.rt
noncomputable def retN3 : TS3 := fun D _ μ => D.rt .non μ
noncomputable def ifs3 (c : TT3) (t u : TS3) : TS3 := fun D ρ μ => c ρ μ fun b μ1 => if b = true then t D ρ μ1 else u D ρ μ1
noncomputable def gn3 (i : Nat) : TG3 := fun d ρ μ Q => Q (ρ.set i (some d)) μ
noncomputable def gnil3 : TGs3 := fun ds ρ μ Q => match ds with
  | [] => Q ρ μ
  | _ => False
noncomputable def gcons3 (t : TG3) (u : TGs3) : TGs3 := fun ds ρ μ Q => match ds with
  | d :: r => t d ρ μ fun ρ1 μ1 => u r ρ1 μ1 Q
  | [] => False
noncomputable def gtup3 (n : Nat) (t : TGs3) : TG3 := fun d ρ μ Q => match d with
  | .tup l => l.length = n ∧ t l ρ μ Q
  | _ => False
noncomputable def set3 (i : Nat) (t : TE3) : TS3 := fun D ρ μ => t ρ μ fun d μ1 => D.nx (ρ.set i (some d)) μ1
noncomputable def asg3 (t : TE3) (g : TG3) : TS3 := fun D ρ μ => t ρ μ fun d μ1 => g d ρ μ1 D.nx
noncomputable def par3 (i j : Nat) (t : TA3) : TS3 := fun D ρ μ => t ρ μ fun ds μ1 => match ds with
  | [v, w] => D.nx ((ρ.set i (some v)).set j (some w)) μ1
  | _ => False
noncomputable def ixN (n : Nat) (i : Int) : Option Nat := if 0 ≤ i then (if i < n then some i.toNat else none) else if -(n : Int) ≤ i then some (i + n).toNat else none
noncomputable def atI {α : Type} (xs : List α) (i : Int) : Option α := (ixN xs.length i).bind fun j => xs[j]?
noncomputable def sub3 (to ti : TE3) : TG3 := fun d ρ μ Q => to ρ μ fun o μ1 => ti ρ μ1 fun i μ2 => match o, i with
  | .ref p, .int k => match μ2 p with
    | some (.lst xs) => match ixN xs.length k with
      | some j => Q ρ (updM μ2 p (.lst (xs.set j d)))
      | none => False
    | _ => False
  | _, _ => False
/-- a loop over items: S must stay true while they are walked -/
noncomputable def forS3 (S : Mu → Prop) (g : TG3) (tb : TS3) (D' : Ends3) : List D → St3 → Mu → Prop
  | [], ρ, μ => S μ ∧ D'.nx ρ μ
  | x :: r, ρ, μ => S μ ∧ ∃ N : St3 → Mu → Prop, (∀ ρ' μ', N ρ' μ' → forS3 S g tb D' r ρ' μ') ∧ g x ρ μ fun ρ1 μ1 => tb { D' with nx := N, ct := N, bk := D'.nx } ρ1 μ1
noncomputable def for3 (ti : TI3) (g : TG3) (tb : TS3) : TS3 := fun D' ρ μ => ti ρ μ fun l S μ1 => forS3 S g tb D' l ρ μ1
/-- a loop by what holds of the items still to come and the state -/
theorem for_inv {S : Mu → Prop} {g : TG3} {tb : TS3} {D' : Ends3} (W : List D → St3 → Mu → Prop) {l : List D} {ρ : St3} {μ : Mu} (h0 : W l ρ μ) (hS : ∀ l ρ μ, W l ρ μ → S μ) (hn : ∀ ρ μ, W [] ρ μ → D'.nx ρ μ)
    (hs : ∀ x r ρ μ, W (x :: r) ρ μ → g x ρ μ fun ρ1 μ1 => tb { D' with nx := W r, ct := W r, bk := D'.nx } ρ1 μ1) : forS3 S g tb D' l ρ μ := by
  induction l generalizing ρ μ with
  | nil => exact ⟨hS _ _ _ h0, hn _ _ h0⟩
  | cons x r ih => exact ⟨hS _ _ _ h0, W r, fun ρ' μ' q => ih q, hs x r ρ μ h0⟩
noncomputable def is3 (t : TE3) : TI3 := fun ρ μ R => t ρ μ fun d μ1 => match d with
  | .tup l => R l (fun _ => True) μ1
  | .fls l => R l (fun _ => True) μ1
  | .str z => R (z.cps.toList.map fun c => D.str ⟨#[c]⟩) (fun _ => True) μ1
  | .ref p => match μ1 p with
    | some (.lst l) => R l (fun μ => μ p = some (.lst l)) μ1
    | _ => False
  | _ => False
noncomputable def rngD (lo : Int) (n : Nat) : List D := (List.range n).map fun i => .int (lo + (i : Nat))
noncomputable def ir3 (t : TA3) : TI3 := fun ρ μ R => t ρ μ fun ds μ1 => match ds with
  | [.int j] => (-(2 ^ 62) ≤ j ∧ j < 2 ^ 62) ∧ R (rngD 0 j.toNat) (fun _ => True) μ1
  | _ => False
noncomputable def ir23 (t : TA3) : TI3 := fun ρ μ R => t ρ μ fun ds μ1 => match ds with
  | [.int i, .int j] => (-(2 ^ 62) ≤ i ∧ i < 2 ^ 62 ∧ -(2 ^ 62) ≤ j ∧ j < 2 ^ 62) ∧ R (rngD i (j - i).toNat) (fun _ => True) μ1
  | _ => False
/-- a comprehension's block, by what holds of the items to come, those made, the block's names and the lists -/
noncomputable def cbody (S : Mu → Prop) (p : Addr) (g : TG3) (tc : TT3) (te : TE3) (Q : VK3) (l : List D) (ρ0 : St3) (μ0 : Mu) : Prop :=
  ∃ W : List D → List D → St3 → Mu → Prop, W l [] ρ0 μ0 ∧ (∀ l ys ρ μ, W l ys ρ μ → S μ ∧ μ p = some (.lst ys)) ∧ (∀ ys ρ μ, W [] ys ρ μ → Q (.ref p) μ) ∧
    ∀ x r ys ρ μ, W (x :: r) ys ρ μ → ys.length < sizeLine ∧ g x ρ μ fun ρ1 μ1 => tc ρ1 μ1 fun b μ2 =>
      if b = true then te ρ1 μ2 fun d μ3 => μ3 p = some (.lst ys) ∧ W r (ys ++ [d]) ρ1 (updM μ3 p (.lst (ys ++ [d]))) else W r ys ρ1 μ2
/-- js: where the block's names come from -/
noncomputable def comp3 (js : List (Option Nat)) (ti : TI3) (g : TG3) (tc : TT3) (te : TE3) : TE3 := fun ρ μ Q => ti ρ μ fun l S μ1 => ∀ p, μ1 p = none → cbody S p g tc te Q l (js.map fun j => j.bind (getI ρ)) (updM μ1 p (.lst []))
noncomputable def tt3 : TT3 := fun _ μ Q => Q true μ
/-- [e for x in ..], each item a value that hangs on x alone -/
theorem comp_map {S : Mu → Prop} {p : Addr} {te : TE3} {Q : VK3} {l : List D} {o : Option D} {rest : St3} {μ : Mu} (f : D → D) (hp : μ p = none) (hl : l.length ≤ sizeLine) (hS : ∀ μ', Ext μ μ' → S μ')
    (hx : ∀ x ∈ l, ∀ μ' R, Ext μ μ' → (∀ μ2, Ext μ' μ2 → R (f x) μ2) → te (some x :: rest) μ' R) (hQ : ∀ μ', Ext μ μ' → μ' p = some (.lst (l.map f)) → Q (.ref p) μ') :
    cbody S p (gn3 0) tt3 te Q l (o :: rest) (updM μ p (.lst [])) := by
  refine ⟨fun r ys ρ μ' => Ext μ μ' ∧ μ' p = some (.lst ys) ∧ (∃ o', ρ = o' :: rest) ∧ ∃ a, a ++ r = l ∧ ys = a.map f, ?_, ?_, ?_, ?_⟩
  · exact ⟨Ext.new hp, updM_same, ⟨o, rfl⟩, [], rfl, rfl⟩
  · rintro r ys ρ μ' ⟨h1, h2, _⟩
    exact ⟨hS _ h1, h2⟩
  · rintro ys ρ μ' ⟨h1, h2, _, a, e, rfl⟩
    rw [List.append_nil] at e
    subst e
    exact hQ _ h1 h2
  · rintro x r ys ρ μ' ⟨h1, h2, ⟨o', rfl⟩, a, e, rfl⟩
    refine ⟨by rw [List.length_map]; rw [← e, List.length_append, List.length_cons] at hl; omega, ?_⟩
    show te (some x :: rest) μ' _
    refine hx x (by rw [← e]; simp) μ' _ h1 fun μ2 h3 => ⟨h3 _ _ h2, fun b u hb => ?_, updM_same, ⟨_, rfl⟩, a ++ [x], by simp [← e], by simp⟩
    rw [updM_ne (ne_free hb hp)]
    exact h3 _ _ (h1 _ _ hb)

/-! ### operations -/
noncomputable def CPow (i j : Int) : Prop := 0 ≤ j ∧ j ≤ 1000000 ∧ i.natAbs < 2 ^ 64
noncomputable def Big : Nat := 2 ^ 1000
noncomputable def CMul (i j : Int) : Prop := ((-(2 ^ 64) < i ∧ i < 2 ^ 64) ∨ (-(2 ^ 64) < j ∧ j < 2 ^ 64)) ∨ (i.natAbs < Big ∧ j.natAbs < Big)
noncomputable def int2 (C : Int → Int → Prop) (g : Int → Int → D) : R3 := fun x y μ Q => match x, y with
  | .int i, .int j => C i j ∧ Q (g i j) μ
  | _, _ => False
noncomputable def int20 (g : Int → Int → D) : R3 := fun x y μ Q => match x, y with
  | .int i, .int j => Q (g i j) μ
  | _, _ => False
noncomputable def subR : R3 := int20 fun i j => .int (i - j)
/-- * of ints; a tuple, a list so often -/
noncomputable def mulR : R3 := fun x y μ Q => match x, y with
  | .int i, .int j => CMul i j ∧ Q (.int (i * j)) μ
  | .tup l, .int k => ((-(2 ^ 62) ≤ k ∧ k < 2 ^ 62) ∧ l.length * k.toNat ≤ 1000000) ∧ Q (.tup (List.replicate k.toNat l).flatten) μ
  | .ref p, .int k => match μ p with
    | some (.lst l) => ((-(2 ^ 62) ≤ k ∧ k < 2 ^ 62) ∧ l.length * k.toNat ≤ 1000000) ∧ ∀ r, μ r = none → Q (.ref r) (updM μ r (.lst (List.replicate k.toNat l).flatten))
    | _ => False
  | _, _ => False
noncomputable def modR : R3 := int2 (fun _ j => 0 < j) fun i j => .int (i % j)
noncomputable def fdivR : R3 := int2 (fun _ j => 0 < j ∧ j < 2 ^ 80) fun i j => .int (i / j)
noncomputable def powR : R3 := int2 CPow fun i j => .int (i ^ j.toNat)
noncomputable def ltR : R3 := int20 fun i j => .bl (decide (i < j))
noncomputable def leR : R3 := int20 fun i j => .bl (decide (i ≤ j))
noncomputable def gtR : R3 := int20 fun i j => .bl (decide (j < i))
noncomputable def geR : R3 := int20 fun i j => .bl (decide (j ≤ i))
noncomputable def negR : D → Mu → VK3 → Prop := fun x μ Q => match x with
  | .int i => Q (.int (-i)) μ
  | _ => False
/-- + of ints, texts, lists, tuples -/
noncomputable def addR : R3 := fun x y μ Q => match x, y with
  | .int i, .int j => Q (.int (i + j)) μ
  | .str i, .str j => i.length + j.length ≤ sizeLine ∧ Q (.str (i ++ j)) μ
  | .ref p, .ref q => match μ p, μ q with
    | some (.lst xs), some (.lst ys) => xs.length + ys.length ≤ sizeLine ∧ ∀ r, μ r = none → Q (.ref r) (updM μ r (.lst (xs ++ ys)))
    | _, _ => False
  | .tup l, .tup m => l.length + m.length ≤ sizeLine ∧ Q (.tup (l ++ m)) μ
  | _, _ => False
/-- == of scalars of one kind, and of None with them -/
noncomputable def eqS : D → D → Option Bool
  | .int i, .int j => some (decide (i = j))
  | .bl i, .bl j => some (decide (i = j))
  | .str i, .str j => some (decide (i = j))
  | .non, .non => some true
  | .non, .int _ => some false
  | .int _, .non => some false
  | .non, .str _ => some false
  | .str _, .non => some false
  | .int _, .str _ => some false
  | .str _, .int _ => some false
  | _, _ => none
/- data without addresses -/
mutual
noncomputable def dat : D → Option PyData
  | .non => some .none
  | .bl b => some (.bool b)
  | .int i => some (.int i)
  | .str x => if PyData.strOk x = true then some (.str x) else none
  | .tup l => match dats l with
    | some ps => some (.tuple ps)
    | none => none
  | _ => none
noncomputable def dats : List D → Option (List PyData)
  | [] => some []
  | d :: r => match dat d with
    | some p => match dats r with
      | some ps => some (p :: ps)
      | none => none
    | none => none
end
/-- .. and a list of such, or of lists of such -/
noncomputable def datM (μ : Mu) : D → Option PyData
  | .ref p => match μ p with
    | some (.lst l) => match dats l with
      | some ps => some (.list ps)
      | none => none
    | _ => none
  | d => dat d
noncomputable def eqR : R3 := fun x y μ Q => match eqS x y with
  | some c => Q (.bl c) μ
  | none => match datM μ x, datM μ y with
    | some p, some q => (p.depth ≤ 64 ∧ q.depth ≤ 64) ∧ Q (.bl (PyData.eqv p q)) μ
    | _, _ => False
noncomputable def neR : R3 := fun x y μ Q => match eqS x y with
  | some c => Q (.bl (!c)) μ
  | none => match datM μ x, datM μ y with
    | some p, some q => (p.depth ≤ 64 ∧ q.depth ≤ 64) ∧ Q (.bl (!PyData.eqv p q)) μ
    | _, _ => False
theorem eqR_ii (i j : Int) (μ : Mu) (Q : VK3) : eqR (.int i) (.int j) μ Q = Q (.bl (decide (i = j))) μ := rfl
theorem eqR_ss (i j : Str) (μ : Mu) (Q : VK3) : eqR (.str i) (.str j) μ Q = Q (.bl (decide (i = j))) μ := rfl
theorem eqR_bb (i j : Bool) (μ : Mu) (Q : VK3) : eqR (.bl i) (.bl j) μ Q = Q (.bl (decide (i = j))) μ := rfl
theorem eqR_is (i : Int) (j : Str) (μ : Mu) (Q : VK3) : eqR (.int i) (.str j) μ Q = Q (.bl false) μ := rfl
theorem neR_ii (i j : Int) (μ : Mu) (Q : VK3) : neR (.int i) (.int j) μ Q = Q (.bl (!decide (i = j))) μ := rfl
theorem neR_ss (i j : Str) (μ : Mu) (Q : VK3) : neR (.str i) (.str j) μ Q = Q (.bl (!decide (i = j))) μ := rfl
theorem neR_bb (i j : Bool) (μ : Mu) (Q : VK3) : neR (.bl i) (.bl j) μ Q = Q (.bl (!decide (i = j))) μ := rfl
/-- == of data, x and y not both scalars -/
theorem eqR_dat {x y : D} {μ : Mu} {Q : VK3} {p q : PyData} (e : eqS x y = none) (h1 : datM μ x = some p) (h2 : datM μ y = some q) (d1 : p.depth ≤ 64) (d2 : q.depth ≤ 64) : eqR x y μ Q = Q (.bl (PyData.eqv p q)) μ := by
  unfold eqR; rw [e]; simp only [h1, h2, d1, d2, true_and, and_self]
theorem neR_dat {x y : D} {μ : Mu} {Q : VK3} {p q : PyData} (e : eqS x y = none) (h1 : datM μ x = some p) (h2 : datM μ y = some q) (d1 : p.depth ≤ 64) (d2 : q.depth ≤ 64) : neR x y μ Q = Q (.bl (!PyData.eqv p q)) μ := by
  unfold neR; rw [e]; simp only [h1, h2, d1, d2, true_and, and_self]
noncomputable def strs? : List D → Option (List Str)
  | [] => some []
  | .str x :: r => match strs? r with
    | some l => some (x :: l)
    | none => none
  | _ :: _ => none
/-- in, of data -/
noncomputable def inD (neg : Bool) : R3 := fun x y μ Q => match datM μ x, datM μ y with
  | some d, some (.list xs) => (d.depth ≤ 64 ∧ (PyData.list xs).depth ≤ 64) ∧ Q (.bl (if neg then !(xs.any fun e => PyData.eqv e d) else xs.any fun e => PyData.eqv e d)) μ
  | some d, some (.tuple xs) => (d.depth ≤ 64 ∧ (PyData.tuple xs).depth ≤ 64) ∧ Q (.bl (if neg then !(xs.any fun e => PyData.eqv e d) else xs.any fun e => PyData.eqv e d)) μ
  | _, _ => False
noncomputable def inR (neg : Bool) : R3 := fun x y μ Q => match x, y with
  | .str z, .tup l => match strs? l with
    | some zs => Q (.bl (if neg then !zs.contains z else zs.contains z)) μ
    | none => inD neg (.str z) (.tup l) μ Q
  | .str z, .str y => Q (.bl (if neg then !(!(Builtin.Str.occurrences y z 0 y.length 1).isEmpty) else !(Builtin.Str.occurrences y z 0 y.length 1).isEmpty)) μ
  | x, y => inD neg x y μ Q
noncomputable def ixR : R3 := fun x y μ Q => match x, y with
  | .tup l, .int i => match atI l i with
    | some d => Q d μ
    | none => False
  | .fls l, .int i => match atI l i with
    | some d => Q d μ
    | none => False
  | .ref p, .int i => match μ p with
    | some (.lst l) => match atI l i with
      | some d => Q d μ
      | none => False
    | _ => False
  | _, _ => False
noncomputable def lenR : C3 := fun ds μ Q => match ds with
  | [.tup l] => Q (.int l.length) μ
  | [.fls l] => Q (.int l.length) μ
  | [.str z] => z.length ≤ sizeLine ∧ Q (.int z.length) μ
  | [.ref p] => match μ p with
    | some (.lst l) => Q (.int l.length) μ
    | _ => False
  | _ => False
noncomputable def absR : C3 := fun ds μ Q => match ds with
  | [.int i] => Q (.int (if i < 0 then -i else i)) μ
  | _ => False
noncomputable def intR : C3 := fun ds μ Q => match ds with
  | [.int i] => Q (.int i) μ
  | [.bl b] => Q (.int (if b then 1 else 0)) μ
  | [.str z] => match PySem.intText? z with
    | some n => z.length ≤ 640 ∧ Q (.int n) μ
    | none => False
  | _ => False
/-- str(i) -/
noncomputable def strR : C3 := fun ds μ Q => match ds with
  | [.int i] => i.natAbs.log2 < 1920 ∧ Q (.str (toString i)) μ
  | _ => False
/-- a method of a text -/
noncomputable def smt3 (r : Str → List D → Mu → VK3 → Prop) (to : TE3) (t : TA3) : TE3 := fun ρ μ Q => to ρ μ fun x μ1 => match x with
  | .str z => t ρ μ1 fun ds μ2 => r z ds μ2 Q
  | _ => False
noncomputable def joinR : Str → List D → Mu → VK3 → Prop := fun z ds μ Q => match ds with
  | [.ref p] => match μ p with
    | some (.lst l) => match strs? l with
      | some ys => (z.length ≤ 16 ∧ (ys.map (·.length)).sum + ys.length ≤ 1048576) ∧ Q (.str (Str.join z ys)) μ
      | none => False
    | _ => False
  | _ => False
noncomputable def splitR : Str → List D → Mu → VK3 → Prop := fun z ds μ Q => match ds with
  | [.str y] => ((y.length == 0) = false ∧ z.length ≤ 1000000) ∧ ∀ r, μ r = none → Q (.ref r) (updM μ r (.lst ((Txt.split z y).map D.str)))
  | _ => False
noncomputable def startsR : Str → List D → Mu → VK3 → Prop := fun z ds μ Q => match ds with
  | [.str y] => Q (.bl (Txt.startswith z y)) μ
  | _ => False
/-- xs.pop() -/
noncomputable def pop3 (to : TE3) : TE3 := fun ρ μ Q => to ρ μ fun x μ1 => match x with
  | .ref p => match μ1 p with
    | some (.lst l) => match l.reverse with
      | d :: r => Q d (updM μ1 p (.lst r.reverse))
      | [] => False
    | _ => False
  | _ => False
/-- list(reversed(xs)) -/
noncomputable def lrev3 (to : TE3) : TE3 := fun ρ μ Q => cons3 to nil3 ρ μ fun ds μ1 => match ds with
  | [.ref p] => match μ1 p with
    | some (.lst l) => ∀ r, μ1 r = none → Q (.ref r) (updM μ1 r (.lst l.reverse))
    | _ => False
  | _ => False
noncomputable def tupR : C3 := fun ds μ Q => match ds with
  | [.tup l] => Q (.tup l) μ
  | [.ref p] => match μ p with
    | some (.lst l) => Q (.tup l) μ
    | _ => False
  | _ => False
noncomputable def ints? : List D → Option (List Int)
  | [] => some []
  | .int x :: r => match ints? r with
    | some l => some (x :: l)
    | none => none
  | _ :: _ => none
noncomputable def sumR : C3 := fun ds μ Q => match ds with
  | [.ref p] => match μ p with
    | some (.lst l) => match ints? l with
      | some ns => Q (.int ns.sum) μ
      | none => False
    | _ => False
  | _ => False
noncomputable def bls? : List D → Option (List Bool)
  | [] => some []
  | .bl x :: r => match bls? r with
    | some l => some (x :: l)
    | none => none
  | _ :: _ => none
/-- min of two pairs of ints -/
noncomputable def ltP (a b c d : Int) : Bool := if a = c then decide (b < d) else decide (a < c)
noncomputable def allR : C3 := fun ds μ Q => match ds with
  | [.ref p] => match μ p with
    | some (.lst l) => match bls? l with
      | some bs => Q (.bl (bs.all id)) μ
      | none => False
    | _ => False
  | _ => False
noncomputable def tyN (μ : Mu) : D → Option String
  | .int _ => some "int"
  | .bl _ => some "bool"
  | .str _ => some "str"
  | .tup _ => some "tuple"
  | .non => some "NoneType"
  | .ref p => match μ p with
    | some (.lst _) => some "list"
    | _ => none
  | _ => none
noncomputable def isIn (t T : String) : Option Bool :=
  if t = T then some true
  else if t = "bool" ∧ T = "int" then some true
  else if (t = "int" ∨ t = "str" ∨ t = "tuple" ∨ t = "bool" ∨ t = "NoneType" ∨ t = "list") ∧ (T = "int" ∨ T = "str" ∨ T = "tuple" ∨ T = "bool" ∨ T = "list") then some false
  else none
noncomputable def isiR : C3 := fun ds μ Q => match ds with
  | [d, .ty T] => match tyN μ d with
    | some t => match isIn t T with
      | some b => Q (.bl b) μ
      | none => False
    | none => False
  | _ => False
noncomputable def appR : D → List D → Mu → VK3 → Prop := fun x ds μ Q => match x, ds with
  | .ref p, [d] => match μ p with
    | some (.lst l) => l.length < sizeLine ∧ Q .non (updM μ p (.lst (l ++ [d])))
    | _ => False
  | _, _ => False
noncomputable def extR : D → List D → Mu → VK3 → Prop := fun x ds μ Q => match x, ds with
  | .ref p, [.ref q] => match μ p, μ q with
    | some (.lst l), some (.lst m) => l.length + m.length ≤ sizeLine ∧ Q .non (updM μ p (.lst (l ++ m)))
    | _, _ => False
  | _, _ => False
theorem atI0 {α : Type} {a : α} {r : List α} : atI (a :: r) 0 = some a := by
  unfold atI ixN; rw [if_pos (by decide), if_pos (by simp only [List.length_cons]; omega)]; rfl
theorem atI1 {α : Type} {a b : α} {r : List α} : atI (a :: b :: r) 1 = some b := by
  unfold atI ixN; rw [if_pos (by decide), if_pos (by simp only [List.length_cons]; omega)]; rfl
theorem atI2 {α : Type} {a b c : α} {r : List α} : atI (a :: b :: c :: r) 2 = some c := by
  unfold atI ixN; rw [if_pos (by decide), if_pos (by simp only [List.length_cons]; omega)]; rfl
theorem ixN0 {n : Nat} : ixN (n + 1) 0 = some 0 := by
  unfold ixN; rw [if_pos (by decide), if_pos (by omega)]; rfl
theorem ixN1 {n : Nat} : ixN (n + 1 + 1) 1 = some 1 := by
  unfold ixN; rw [if_pos (by decide), if_pos (by omega)]; rfl
theorem ixN2 {n : Nat} : ixN (n + 1 + 1 + 1) 2 = some 2 := by
  unfold ixN; rw [if_pos (by decide), if_pos (by omega)]; rfl
/-- an atI in bounds -/
theorem atI_in {α : Type} {l : List α} {i : Int} (h0 : 0 ≤ i) (h1 : i < l.length) : ∃ d, d ∈ l ∧ atI l i = some d := by
  have hn : i.toNat < l.length := by omega
  refine ⟨l[i.toNat], List.getElem_mem hn, ?_⟩
  unfold atI ixN
  rw [if_pos h0, if_pos h1]
  exact List.getElem?_eq_getElem hn
noncomputable def start3 (N : List Str) (ds : List D) : St3 := ds.map some ++ List.replicate (N.length - ds.length) none
end Pv

namespace Pv
open PySem L2
noncomputable abbrev Fg := PySem.W.Frag
/-- tuples and what is frozen stay as they are -/
structure Kp (H H' : Hp) : Prop where
  tup : ∀ b xs, H b = some (.tup xs) → H' b = some (.tup xs)
  frz : ∀ b o u, H b = some (.frz o u) → H' b = some (.frz o u)
theorem Kp.refl (H : Hp) : Kp H H := ⟨fun _ _ h => h, fun _ _ _ h => h⟩
theorem Kp.trans {a b c : Hp} (h : Kp a b) (k : Kp b c) : Kp a c := ⟨fun x xs q => k.tup x xs (h.tup x xs q), fun x o u q => k.frz x o u (h.frz x o u q)⟩
/-- a new object, or a list written -/
theorem Kp.new {H : Hp} {p : Addr} {o : HO} (h : H p = none) : Kp H (upd H p o) :=
  ⟨fun b xs q => by rw [upd_ne (ne_of_none q h)]; exact q, fun b o u q => by rw [upd_ne (ne_of_none q h)]; exact q⟩
theorem Kp.wr {H : Hp} {p : Addr} {o : HO} {xs : List V} (h : H p = some (.lst xs)) : Kp H (upd H p o) :=
  ⟨fun b ys q => by rw [upd_ne (ne_of q h (by intro z; cases z))]; exact q, fun b o u q => by rw [upd_ne (ne_of q h (by intro z; cases z))]; exact q⟩
/-- a list that is never written: frozen, or an object of the module -/
noncomputable def SqF (K : Fg) (H : Hp) (a : Addr) (xs : List V) : Prop :=
  (∃ o, H a = some (.frz o (.lst xs))) ∨ ∃ (o : Obj) (its : Array Value) (n : Nat), K.lookup a = some o ∧ o.cls = .type "list" ∧ o.dict = none ∧ o.data = .seq its n ∧ its.size ≤ sizeLine ∧ Vals xs its.toList
theorem SqF.l {K : Fg} {H : Hp} {a : Addr} {xs : List V} (h : SqF K H a xs) : SqL K H a xs := by
  rcases h with ⟨o, h⟩ | h
  · exact .inl (.inr ⟨o, h⟩)
  · exact .inr h
theorem SqF.mono {K : Fg} {H H' : Hp} {a : Addr} {xs : List V} (k : Kp H H') (h : SqF K H a xs) : SqF K H' a xs := by
  rcases h with ⟨o, h⟩ | h
  · exact .inl ⟨o, k.frz _ _ _ h⟩
  · exact .inr h
theorem SqT.mono {K : Fg} {H H' : Hp} {a : Addr} {xs : List V} (k : Kp H H') (h : SqT K H a xs) : SqT K H' a xs := by
  rcases h with h | h
  · rcases h with h | ⟨o, h⟩
    · exact .inl (.inl (k.tup _ _ h))
    · exact .inl (.inr ⟨o, k.frz _ _ _ h⟩)
  · exact .inr h
mutual
inductive RelD (K : Fg) (H : Hp) : D → V → Prop where
  | non : RelD K H .non .non
  | bl (b : Bool) : RelD K H (.bl b) (.bl b)
  | int (i : Int) : RelD K H (.int i) (.int i)
  | str (x : Str) : RelD K H (.str x) (.str x)
  | ref (a : Addr) : RelD K H (.ref a) (.ref a)
  | ty (n : String) : RelD K H (.ty n) (.ty n)
  | tup {a : Addr} {l : List D} {vs : List V} : SqT K H a vs → RelDs K H l vs → RelD K H (.tup l) (.ref a)
  | fls {a : Addr} {l : List D} {vs : List V} : SqF K H a vs → RelDs K H l vs → RelD K H (.fls l) (.ref a)
  | exc {a C : Addr} {c : Str} {ob : Obj} {u : HO} : H a = some (.frz ob u) → ob.cls = .ref C → PySem.W.nsIn K mainGlobals c = some (some (.ref C)) → RelD K H (.exc c) (.ref a)
inductive RelDs (K : Fg) (H : Hp) : List D → List V → Prop where
  | nil : RelDs K H [] []
  | cons {d : D} {v : V} {l : List D} {vs : List V} : RelD K H d v → RelDs K H l vs → RelDs K H (d :: l) (v :: vs)
end
mutual
theorem RelD.mono {K : Fg} {H H' : Hp} (k : Kp H H') : ∀ {d : D} {v : V}, RelD K H d v → RelD K H' d v
  | _, _, .non => .non
  | _, _, .bl b => .bl b
  | _, _, .int b => .int b
  | _, _, .str b => .str b
  | _, _, .ref b => .ref b
  | _, _, .ty b => .ty b
  | _, _, .tup h r => .tup (SqT.mono k h) (RelDs.mono k r)
  | _, _, .fls h r => .fls (SqF.mono k h) (RelDs.mono k r)
  | _, _, .exc h r1 r2 => .exc (k.frz _ _ _ h) r1 r2
theorem RelDs.mono {K : Fg} {H H' : Hp} (k : Kp H H') : ∀ {d : List D} {v : List V}, RelDs K H d v → RelDs K H' d v
  | _, _, .nil => .nil
  | _, _, .cons h r => .cons (RelD.mono k h) (RelDs.mono k r)
end
theorem RelDs.length {K : Fg} {H : Hp} : ∀ {l : List D} {vs : List V}, RelDs K H l vs → l.length = vs.length
  | _, _, .nil => rfl
  | _, _, .cons _ r => congrArg (· + 1) r.length
theorem RelDs.get {K : Fg} {H : Hp} : ∀ {l : List D} {vs : List V} {i : Nat} {d : D}, RelDs K H l vs → l[i]? = some d → ∃ v, vs[i]? = some v ∧ RelD K H d v
  | _, _, _, _, .nil, e => by simp at e
  | _, _, 0, _, .cons h _, e => by simp at e; subst e; exact ⟨_, rfl, h⟩
  | _, _, i + 1, d, .cons _ r, e => by
    obtain ⟨v, h1, h2⟩ := RelDs.get (i := i) (d := d) r (by simpa using e)
    exact ⟨v, by simpa using h1, h2⟩
theorem RelDs.append {K : Fg} {H : Hp} : ∀ {l m : List D} {vs us : List V}, RelDs K H l vs → RelDs K H m us → RelDs K H (l ++ m) (vs ++ us)
  | _, _, _, _, .nil, q => q
  | _, _, _, _, .cons h r, q => .cons h (RelDs.append r q)
theorem RelDs.set {K : Fg} {H : Hp} {d : D} {v : V} (hd : RelD K H d v) : ∀ {l : List D} {vs : List V} (i : Nat), RelDs K H l vs → RelDs K H (l.set i d) (vs.set i v)
  | _, _, _, .nil => .nil
  | _, _, 0, .cons _ r => .cons hd r
  | _, _, i + 1, .cons h r => .cons h (RelDs.set hd i r)
theorem RelDs.take {K : Fg} {H : Hp} : ∀ {l : List D} {vs : List V} (n : Nat), RelDs K H l vs → RelDs K H (l.take n) (vs.take n)
  | _, _, 0, r => by simp only [List.take_zero]; exact .nil
  | _, _, n + 1, .nil => by simp only [List.take_nil]; exact .nil
  | _, _, n + 1, .cons h r => by simp only [List.take_succ_cons]; exact .cons h (RelDs.take n r)
theorem RelDs.drop {K : Fg} {H : Hp} : ∀ {l : List D} {vs : List V} (n : Nat), RelDs K H l vs → RelDs K H (l.drop n) (vs.drop n)
  | _, _, 0, r => by simp only [List.drop_zero]; exact r
  | _, _, n + 1, .nil => by simp only [List.drop_nil]; exact .nil
  | _, _, n + 1, .cons h r => by simp only [List.drop_succ_cons]; exact RelDs.drop n r
theorem RelDs.rep {K : Fg} {H : Hp} {l : List D} {vs : List V} (r : RelDs K H l vs) : ∀ k : Nat, RelDs K H (List.replicate k l).flatten (List.replicate k vs).flatten
  | 0 => .nil
  | k + 1 => by rw [List.replicate_succ, List.replicate_succ, List.flatten_cons, List.flatten_cons]; exact r.append (RelDs.rep r k)
theorem RelDs.reverse {K : Fg} {H : Hp} : ∀ {l : List D} {vs : List V}, RelDs K H l vs → RelDs K H l.reverse vs.reverse
  | _, _, .nil => .nil
  | _, _, .cons h r => by rw [List.reverse_cons, List.reverse_cons]; exact (RelDs.reverse r).append (.cons h .nil)
inductive RelFs (K : Fg) (H : Hp) : List (Str × D) → List (Str × V) → Prop where
  | nil : RelFs K H [] []
  | cons {f : Str} {d : D} {v : V} {l : List (Str × D)} {vs : List (Str × V)} : RelD K H d v → RelFs K H l vs → RelFs K H ((f, d) :: l) ((f, v) :: vs)
theorem RelFs.mono {K : Fg} {H H' : Hp} (k : Kp H H') {l : List (Str × D)} {vs : List (Str × V)} (r : RelFs K H l vs) : RelFs K H' l vs := by
  induction r with
  | nil => exact .nil
  | cons h _ ih => exact .cons (h.mono k) ih
/-- the lists and objects that may be written -/
structure RelM (K : Fg) (μ : Mu) (H : Hp) : Prop where
  lst : ∀ p xs, μ p = some (.lst xs) → ∃ vs, H p = some (.lst vs) ∧ RelDs K H xs vs
  ins : ∀ p c fs, μ p = some (.ins c fs) → ∃ C dx vs, PySem.W.nsIn K mainGlobals c = some (some (.ref C)) ∧ H p = some (.ins C dx vs) ∧ H dx = some (.own p) ∧ RelFs K H fs vs
instance {K : Fg} {μ : Mu} {H : Hp} : CoeFun (RelM K μ H) (fun _ => ∀ p xs, μ p = some (.lst xs) → ∃ vs, H p = some (.lst vs) ∧ RelDs K H xs vs) := ⟨RelM.lst⟩
theorem RelM.free {K : Fg} {μ : Mu} {H : Hp} (m : RelM K μ H) {p : Addr} (h : H p = none) : μ p = none := by
  cases e : μ p with
  | none => rfl
  | some o =>
    cases o with
    | lst xs =>
      obtain ⟨vs, q, _⟩ := m.lst p xs e
      rw [h] at q; cases q
    | ins c fs =>
      obtain ⟨C, dx, vs, _, q, _⟩ := m.ins p c fs e
      rw [h] at q; cases q
theorem RelM.newT {K : Fg} {μ : Mu} {H : Hp} {p : Addr} {o : HO} (h : H p = none) (m : RelM K μ H) : RelM K μ (upd H p o) := by
  have ne : ∀ {q : Addr} {u : HO}, H q = some u → q ≠ p := fun {q u} e z => by subst z; rw [h] at e; cases e
  refine ⟨fun q xs e => ?_, fun q c fs e => ?_⟩
  · obtain ⟨vs, q1, r⟩ := m.lst q xs e
    exact ⟨vs, by rw [upd_ne (ne q1)]; exact q1, r.mono (Kp.new h)⟩
  · obtain ⟨C, dx, vs, n, q1, q2, r⟩ := m.ins q c fs e
    exact ⟨C, dx, vs, n, by rw [upd_ne (ne q1)]; exact q1, by rw [upd_ne (ne q2)]; exact q2, r.mono (Kp.new h)⟩
theorem RelM.newL {K : Fg} {μ : Mu} {H : Hp} {p : Addr} {xs : List D} {vs : List V} (h : H p = none) (r : RelDs K H xs vs) (m : RelM K μ H) : RelM K (updM μ p (.lst xs)) (upd H p (.lst vs)) := by
  have m' := m.newT (o := .lst vs) h
  refine ⟨fun q ys e => ?_, fun q c fs e => ?_⟩
  · by_cases z : q = p
    · subst z
      rw [updM_same] at e; cases e
      exact ⟨vs, upd_same, r.mono (Kp.new h)⟩
    · rw [updM_ne z] at e
      exact m'.lst q ys e
  · by_cases z : q = p
    · subst z
      rw [updM_same] at e; cases e
    · rw [updM_ne z] at e
      exact m'.ins q c fs e
theorem RelM.wr {K : Fg} {μ : Mu} {H : Hp} {p : Addr} {xs : List D} {vs ws : List V} (h : H p = some (.lst ws)) (r : RelDs K H xs vs) (m : RelM K μ H) : RelM K (updM μ p (.lst xs)) (upd H p (.lst vs)) := by
  refine ⟨fun q ys e => ?_, fun q c fs e => ?_⟩
  · by_cases z : q = p
    · subst z
      rw [updM_same] at e; cases e
      exact ⟨vs, upd_same, r.mono (Kp.wr h)⟩
    · rw [updM_ne z] at e
      rw [upd_ne z]
      obtain ⟨us, q1, r1⟩ := m.lst q ys e
      exact ⟨us, q1, r1.mono (Kp.wr h)⟩
  · by_cases z : q = p
    · subst z
      rw [updM_same] at e; cases e
    · rw [updM_ne z] at e
      obtain ⟨C, dx, us, n, q1, q2, r1⟩ := m.ins q c fs e
      refine ⟨C, dx, us, n, by rw [upd_ne z]; exact q1, ?_, r1.mono (Kp.wr h)⟩
      rw [upd_ne]
      · exact q2
      · intro y; subst y; rw [h] at q2; cases q2
/-- the frame -/
structure RSt (K : Fg) (H : Hp) (ρ : St3) (σ : St) : Prop where
  len : ρ.length = σ.length
  at' : ∀ i d, getI ρ i = some d → ∃ v, σ[i]? = some (some v) ∧ RelD K H d v
theorem RSt.mono {K : Fg} {H H' : Hp} {ρ : St3} {σ : St} (k : Kp H H') (s : RSt K H ρ σ) : RSt K H' ρ σ := ⟨s.len, fun i d e => let ⟨v, h, r⟩ := s.at' i d e; ⟨v, h, r.mono k⟩⟩
theorem getI_set : ∀ (ρ : St3) (i j : Nat) (d : Option D), getI (ρ.set i d) j = if i = j ∧ i < ρ.length then d else getI ρ j
  | [], i, j, d => by simp [getI]
  | o :: r, 0, 0, d => by simp [getI]
  | o :: r, 0, j + 1, d => by simp [getI]
  | o :: r, i + 1, 0, d => by simp [getI]
  | o :: r, i + 1, j + 1, d => by simp only [List.set_cons_succ, getI, getI_set r i j d, List.length_cons]; simp
theorem RSt.set {K : Fg} {H : Hp} {ρ : St3} {σ : St} {d : D} {v : V} (i : Nat) (r : RelD K H d v) (s : RSt K H ρ σ) : RSt K H (ρ.set i (some d)) (σ.set i (some v)) := by
  refine ⟨by simp [s.len], fun j e h => ?_⟩
  rw [getI_set] at h
  split at h
  · next c =>
    obtain ⟨rfl, c2⟩ := c
    cases h
    exact ⟨v, by rw [List.getElem?_set_self (by rw [← s.len]; exact c2)], r⟩
  · next c =>
    obtain ⟨u, q, r'⟩ := s.at' j e h
    have hj : j < σ.length := (List.getElem?_eq_some_iff.mp q).1
    by_cases z : i = j
    · subst z; exact absurd ⟨rfl, by rw [s.len]; exact hj⟩ c
    · exact ⟨u, by rw [List.getElem?_set_ne z]; exact q, r'⟩
theorem RSt.start {K : Fg} {H : Hp} {ds : List D} {vs : List V} (N : List Str) (r : RelDs K H ds vs) : RSt K H (start3 N ds) (L2.start N vs) := by
  have hl := r.length
  refine ⟨by simp [start3, L2.start, hl], fun i d e => ?_⟩
  rw [getI_eq] at e
  unfold start3 at e
  unfold L2.start
  by_cases c : i < ds.length
  · rw [List.getElem?_append_left (by simpa using c), List.getElem?_map] at e
    cases q : ds[i]? with
    | none => rw [q] at e; cases e
    | some d' =>
      rw [q] at e
      have e' : d' = d := by simpa using e
      subst e'
      obtain ⟨v, h1, h2⟩ := r.get q
      exact ⟨v, by rw [List.getElem?_append_left (by rw [List.length_map]; omega), List.getElem?_map, h1]; rfl, h2⟩
  · rw [List.getElem?_append_right (by simpa using c), List.getElem?_replicate] at e
    split at e <;> simp at e

/-! ### what a reading is worth: what is wanted of the value (Q3) leads to what is wanted below (Q) -/
noncomputable abbrev Ks (K : Fg) (H : Hp) (Q3 : VK3) (Q : VK) : Prop := ∀ d μ' v H', Q3 d μ' → Kp H H' → RelD K H' d v → RelM K μ' H' → Q v H'
theorem Ks.after {K : Fg} {H H1 : Hp} {Q3 : VK3} {Q : VK} (k : Ks K H Q3 Q) (e : Kp H H1) : Ks K H1 Q3 Q := fun d μ v H' q e' => k d μ v H' q (e.trans e')
noncomputable def RdE (K : Fg) (tv : TE) (t : TE3) : Prop := ∀ σ H Q ρ μ Q3, RSt K H ρ σ → RelM K μ H → t ρ μ Q3 → Ks K H Q3 Q → tv σ H Q
noncomputable def RE (X : Cx) (e : Expr) (t : TE3) : Prop := ∃ tv, PE X e tv ∧ RdE X.K tv t
noncomputable def RdT (K : Fg) (tv : TT) (t : TT3) : Prop := ∀ σ H Q ρ μ Q3, RSt K H ρ σ → RelM K μ H → t ρ μ Q3 → (∀ b μ' H', Q3 b μ' → Kp H H' → RelM K μ' H' → Q b H') → tv σ H Q
noncomputable def RT (X : Cx) (e : Expr) (t : TT3) : Prop := ∃ tv, PT X e tv ∧ RdT X.K tv t
noncomputable def RW (X : Cx) (e : Expr) (t : TT3) : Prop := ∃ tv, PW X e tv ∧ RdT X.K tv t
noncomputable def RdA (K : Fg) (tv : TA) (t : TA3) : Prop := ∀ σ H Q ρ μ Q3, RSt K H ρ σ → RelM K μ H → t ρ μ Q3 → (∀ ds μ' vs H', Q3 ds μ' → Kp H H' → RelDs K H' ds vs → RelM K μ' H' → Q vs H') → tv σ H Q
noncomputable def RA (X : Cx) (es : List Expr) (t : TA3) : Prop := ∃ tv, PA X es tv ∧ RdA X.K tv t
/-- the ends of a statement -/
structure KsD (K : Fg) (H : Hp) (D3 : Ends3) (D : Ends) : Prop where
  nx : ∀ ρ μ σ H', D3.nx ρ μ → Kp H H' → RSt K H' ρ σ → RelM K μ H' → D.nx σ H'
  bk : ∀ ρ μ σ H', D3.bk ρ μ → Kp H H' → RSt K H' ρ σ → RelM K μ H' → D.bk σ H'
  ct : ∀ ρ μ σ H', D3.ct ρ μ → Kp H H' → RSt K H' ρ σ → RelM K μ H' → D.ct σ H'
  rt : Ks K H D3.rt D.rt
theorem KsD.after {K : Fg} {H H1 : Hp} {D3 : Ends3} {D : Ends} (k : KsD K H D3 D) (e : Kp H H1) : KsD K H1 D3 D :=
  ⟨fun ρ μ σ H' q e' => k.nx ρ μ σ H' q (e.trans e'), fun ρ μ σ H' q e' => k.bk ρ μ σ H' q (e.trans e'), fun ρ μ σ H' q e' => k.ct ρ μ σ H' q (e.trans e'), k.rt.after e⟩
noncomputable def RdS (K : Fg) (tv : TS) (t : TS3) : Prop := ∀ σ H D ρ μ D3, RSt K H ρ σ → RelM K μ H → t D3 ρ μ → KsD K H D3 D → tv D σ H
noncomputable def RS (X : Cx) (st : Stmt) (t : TS3) : Prop := ∃ tv, PS X st tv ∧ RdS X.K tv t
noncomputable def RSs (X : Cx) (st : List Stmt) (t : TS3) : Prop := ∃ tv, PSs X st tv ∧ RdS X.K tv t
noncomputable def RdG (K : Fg) (tv : TG) (t : TG3) : Prop := ∀ v d σ H Q ρ μ Q3, RSt K H ρ σ → RelM K μ H → RelD K H d v → t d ρ μ Q3 → (∀ ρ' μ' σ' H', Q3 ρ' μ' → Kp H H' → RSt K H' ρ' σ' → RelM K μ' H' → Q σ' H') → tv v σ H Q
noncomputable def RG (X : Cx) (e : Expr) (t : TG3) : Prop := ∃ tv, PG X e tv ∧ RdG X.K tv t
/-- operations -/
noncomputable def RdO (K : Fg) (r : R2) (r3 : R3) : Prop := ∀ x y v u H Q μ Q3, RelM K μ H → RelD K H x v → RelD K H y u → r3 x y μ Q3 → Ks K H Q3 Q → r v u H Q
noncomputable def RO (X : Cx) (f : Value → Value → Sem Value) (r3 : R3) : Prop := ∃ r, OpR X f r ∧ RdO X.K r r3
noncomputable def RdU (K : Fg) (r : V → Hp → VK → Prop) (r3 : D → Mu → VK3 → Prop) : Prop := ∀ x v H Q μ Q3, RelM K μ H → RelD K H x v → r3 x μ Q3 → Ks K H Q3 Q → r v H Q
noncomputable def RU (X : Cx) (f : Value → Sem Value) (r3 : D → Mu → VK3 → Prop) : Prop := ∃ r, UnR X f r ∧ RdU X.K r r3
noncomputable def RdC (K : Fg) (r : List V → Hp → VK → Prop) (r3 : C3) : Prop := ∀ xs vs H Q μ Q3, RelM K μ H → RelDs K H xs vs → r3 xs μ Q3 → Ks K H Q3 Q → r vs H Q
noncomputable def RC (X : Cx) (f : Value) (r3 : C3) : Prop := ∃ r, CallR X f r ∧ RdC X.K r r3
noncomputable def RX (X : Cx) (r3 : R3) : Prop := ∃ r, IxR X r ∧ RdO X.K r r3
end Pv

namespace Pv
open PySem L2
section
variable {X : Cx} {a b c e : Expr} {ta tb tc te : TE3} {pos : Pos}
/-! ### names, constants -/
theorem re_var (i : Nat) {x : Str} (hN : X.N[i]? = some x := by rfl) (hv : Vis X.env.scope x := by first | exact Or.inl rfl | exact Or.inr (Or.inl rfl) | exact Or.inr (Or.inr rfl)) (hd : (x == ("__debug__" : Str)) = false := by decide)
    (hcd : (x == ("__classdict__" : Str)) = false := by decide) : RE X (.Name x pos) (v3 i) := by
  refine ⟨_, pe_var hN hv hd hcd, fun σ H Q ρ μ Q3 s m h k => ?_⟩
  unfold v3 at h
  cases q : getI ρ i with
  | none => rw [q] at h; exact h.elim
  | some d =>
    rw [q] at h
    obtain ⟨v, e, r⟩ := s.at' i d q
    exact ⟨v, e, k d μ v H h (Kp.refl H) r m⟩
theorem RdE.cst {K : Fg} {d : D} {v : V} (r : ∀ H, RelD K H d v) : RdE K (tC v) (c3 d) := fun σ H Q ρ μ Q3 s m h k => k d μ v H h (Kp.refl H) (r H) m
theorem re_int {i : Int} {j} : RE X (.Constant (.int i) j pos) (c3 (.int i)) := ⟨_, pe_int, RdE.cst fun _ => .int i⟩
theorem re_bl {i : Bool} {j} : RE X (.Constant (.bool i) j pos) (c3 (.bl i)) := ⟨_, pe_bl, RdE.cst fun _ => .bl i⟩
theorem re_non {j} : RE X (.Constant .none j pos) (c3 .non) := ⟨_, pe_non, RdE.cst fun _ => .non⟩
theorem re_str {x : Str} {j} : RE X (.Constant (.str x) j pos) (c3 (.str x)) := ⟨_, pe_str, RdE.cst fun _ => .str x⟩
/-- a name of the module that stands for a value -/
noncomputable def Gd (K : Fg) (mg : Str → Option Value) (x : Str) (d : D) : Prop := ∃ u v, mg x = some u ∧ RelV v u ∧ ∀ H, RelD K H d v
theorem re_g {x : Str} {d : D} (g : Gd X.K X.mg x d) (hg : Gl X x := by rfl) (hd : (x == ("__debug__" : Str)) = false := by decide) : RE X (.Name x pos) (c3 d) := by
  obtain ⟨u, v, hm, r, rd⟩ := g
  exact ⟨_, pe_glob hg hm r hd, RdE.cst rd⟩
theorem re_ty {x : Str} {T : String} (hm : X.mg x = none) (hv : bootBuiltins x = some (.type T)) (hg : Gl X x := by rfl) (hn : x ≠ "__name__" := by decide) (hd : (x == ("__debug__" : Str)) = false := by decide) : RE X (.Name x pos) (c3 (.ty T)) :=
  ⟨_, pe_bltn hg hm hv (show RelV (.ty T) (.type T) from rfl) hn hd, RdE.cst fun _ => .ty T⟩
/-! ### operators -/
theorem re_op {op : Operator} {r3 : R3} (ho : RO X (binaryOp op) r3) (ha : RE X a ta) (hb : RE X b tb) : RE X (.BinOp a op b pos) (o3 r3 ta tb) := by
  obtain ⟨r, po, ro⟩ := ho
  obtain ⟨va, pa, ra⟩ := ha
  obtain ⟨vb, pb, rb⟩ := hb
  exact ⟨_, pe_op po pa pb, fun σ H Q ρ μ Q3 s m h k => ra σ H _ ρ μ _ s m h fun x μ1 v H1 h1 k1 r1 m1 => rb σ H1 _ ρ μ1 _ (s.mono k1) m1 h1 fun y μ2 u H2 h2 k2 r2 m2 =>
    ro x y v u H2 Q μ2 Q3 m2 (r1.mono k2) r2 h2 (k.after (k1.trans k2))⟩
theorem re_un {op : UnaryOp} {r3 : D → Mu → VK3 → Prop} (ho : RU X (unaryOp op) r3) (ha : RE X a ta) : RE X (.UnaryOp op a pos) (un3 r3 ta) := by
  obtain ⟨r, po, ro⟩ := ho
  obtain ⟨va, pa, ra⟩ := ha
  exact ⟨_, pe_un po pa, fun σ H Q ρ μ Q3 s m h k => ra σ H _ ρ μ _ s m h fun x μ1 v H1 h1 k1 r1 m1 => ro x v H1 Q μ1 Q3 m1 r1 h1 (k.after k1)⟩
theorem RdE.op {K : Fg} {r : R2} {r3 : R3} {va vb : TE} (ra : RdE K va ta) (rb : RdE K vb tb) (ro : RdO K r r3) : RdE K (tOp r va vb) (o3 r3 ta tb) := fun σ H Q ρ μ Q3 s m h k =>
  ra σ H _ ρ μ _ s m h fun x μ1 v H1 h1 k1 r1 m1 => rb σ H1 _ ρ μ1 _ (s.mono k1) m1 h1 fun y μ2 u H2 h2 k2 r2 m2 => ro x y v u H2 Q μ2 Q3 m2 (r1.mono k2) r2 h2 (k.after (k1.trans k2))
theorem RdT.test {K : Fg} {va : TE} (ra : RdE K va ta) : RdT K (tTest va) (b3 ta) := fun σ H Q ρ μ Q3 s m h k => by
  refine ra σ H _ ρ μ _ s m h fun d μ1 v H1 h1 k1 r1 m1 => ?_
  cases r1 with
  | bl c => exact ⟨c, rfl, k c μ1 H1 h1 k1 m1⟩
  | _ => exact False.elim h1
theorem re_cmp {op : CmpOp} {r3 : R3} (ho : RO X (compareOp op) r3) (ha : RE X a ta) (hb : RE X b tb) (hm : behindInMarks op b = false := by first | exact nomark _ | with_unfolding_all rfl) : RE X (.Compare a [op] [b] pos) (o3 r3 ta tb) := by
  obtain ⟨r, po, ro⟩ := ho
  obtain ⟨va, pa, ra⟩ := ha
  obtain ⟨vb, pb, rb⟩ := hb
  exact ⟨_, pe_cmpR po pa pb hm, ra.op rb ro⟩
theorem rt_cmp {op : CmpOp} {r3 : R3} (ho : RO X (compareOp op) r3) (ha : RE X a ta) (hb : RE X b tb) (hm : behindInMarks op b = false := by first | exact nomark _ | with_unfolding_all rfl) : RT X (.Compare a [op] [b] pos) (b3 (o3 r3 ta tb)) := by
  obtain ⟨r, po, ro⟩ := ho
  obtain ⟨va, pa, ra⟩ := ha
  obtain ⟨vb, pb, rb⟩ := hb
  exact ⟨_, pt_cmpR po pa pb hm, RdT.test (ra.op rb ro)⟩
theorem rt_val (ha : RE X a ta) (he : ∀ whole, isTrue a X.env whole = (do let v ← whole; standAt a.pos; holding [v] (truthy v)) := by intro _; rfl) : RT X a (b3 ta) := by
  obtain ⟨va, pa, ra⟩ := ha
  exact ⟨_, pt_val pa he, RdT.test ra⟩
variable {tA tB' : TT3} {rest : List Expr}
theorem RW.pt (h : RW X a tA) : RT X a tA := let ⟨t, p, r⟩ := h; ⟨t, p.pt, r⟩
theorem rw_pt (h : RW X a tA) : RT X a tA := h.pt
theorem rw_and1 (h : RT X a tA) : RW X (.BoolOp .And [a] pos) tA := let ⟨t, p, r⟩ := h; ⟨t, pw_and1 p, r⟩
theorem rw_or1 (h : RT X a tA) : RW X (.BoolOp .Or [a] pos) tA := let ⟨t, p, r⟩ := h; ⟨t, pw_or1 p, r⟩
theorem rw_and (ha : RT X a tA) (hb : RW X (.BoolOp .And (b :: rest) pos) tB') : RW X (.BoolOp .And (a :: b :: rest) pos) (and3 tA tB') := by
  obtain ⟨va, pa, ra⟩ := ha
  obtain ⟨vb, pb, rb⟩ := hb
  refine ⟨_, pw_and pa pb, fun σ H Q ρ μ Q3 s m h k => ra σ H _ ρ μ _ s m h fun c μ1 H1 h1 k1 m1 => ?_⟩
  cases c with
  | true => exact rb σ H1 Q ρ μ1 Q3 (s.mono k1) m1 h1 fun b μ' H' q e => k b μ' H' q (k1.trans e)
  | false => exact k _ _ _ h1 k1 m1
theorem rw_or (ha : RT X a tA) (hb : RW X (.BoolOp .Or (b :: rest) pos) tB') : RW X (.BoolOp .Or (a :: b :: rest) pos) (or3 tA tB') := by
  obtain ⟨va, pa, ra⟩ := ha
  obtain ⟨vb, pb, rb⟩ := hb
  refine ⟨_, pw_or pa pb, fun σ H Q ρ μ Q3 s m h k => ra σ H _ ρ μ _ s m h fun c μ1 H1 h1 k1 m1 => ?_⟩
  cases c with
  | true => exact k _ _ _ h1 k1 m1
  | false => exact rb σ H1 Q ρ μ1 Q3 (s.mono k1) m1 h1 fun b μ' H' q e => k b μ' H' q (k1.trans e)
theorem rt_not (ha : RT X a tA) : RT X (.UnaryOp .Not a pos) (not3 tA) := by
  obtain ⟨va, pa, ra⟩ := ha
  exact ⟨_, pt_not pa, fun σ H Q ρ μ Q3 s m h k => ra σ H _ ρ μ _ s m h fun c μ1 H1 h1 k1 m1 => k _ _ _ h1 k1 m1⟩
theorem re_one {op} (h : RE X a ta) : RE X (.BoolOp op [a] pos) ta := let ⟨t, p, r⟩ := h; ⟨t, pe_one p, r⟩
theorem re_and (ha : RE X a ta) (hb : RE X (.BoolOp .And (b :: rest) pos) tb) : RE X (.BoolOp .And (a :: b :: rest) pos) (andV3 ta tb) := by
  obtain ⟨va, pa, ra⟩ := ha
  obtain ⟨vb, pb, rb⟩ := hb
  refine ⟨_, pe_and pa pb, fun σ H Q ρ μ Q3 s m h k => ra σ H _ ρ μ _ s m h fun d μ1 v H1 h1 k1 r1 m1 => ?_⟩
  cases r1 with
  | bl c =>
    refine ⟨c, rfl, ?_⟩
    cases c with
    | true => exact rb σ H1 Q ρ μ1 Q3 (s.mono k1) m1 h1 (k.after k1)
    | false => exact k _ _ _ _ h1 k1 (.bl _) m1
  | _ => exact False.elim h1
theorem re_not (ha : RE X a ta) : RE X (.UnaryOp .Not a pos) (notV3 ta) := by
  obtain ⟨va, pa, ra⟩ := ha
  refine ⟨_, pe_not pa, fun σ H Q ρ μ Q3 s m h k => ra σ H _ ρ μ _ s m h fun d μ1 v H1 h1 k1 r1 m1 => ?_⟩
  cases r1 with
  | bl c => exact ⟨c, rfl, k _ _ _ _ h1 k1 (.bl _) m1⟩
  | _ => exact False.elim h1
theorem re_if (hc : RT X c tA) (ha : RE X a ta) (hb : RE X b tb) : RE X (.IfExp c a b pos) (if3 tA ta tb) := by
  obtain ⟨vc, pc, rc⟩ := hc
  obtain ⟨va, pa, ra⟩ := ha
  obtain ⟨vb, pb, rb⟩ := hb
  refine ⟨_, pe_ifExp pc pa pb, fun σ H Q ρ μ Q3 s m h k => rc σ H _ ρ μ _ s m h fun c μ1 H1 h1 k1 m1 => ?_⟩
  cases c with
  | true => exact ra σ H1 Q ρ μ1 Q3 (s.mono k1) m1 h1 (k.after k1)
  | false => exact rb σ H1 Q ρ μ1 Q3 (s.mono k1) m1 h1 (k.after k1)
/-! ### argument lists, displays -/
variable {es : List Expr} {t : TA3}
theorem ra_nil : RA X [] nil3 := ⟨_, pa_nil, fun σ H Q ρ μ Q3 s m h k => k [] μ [] H h (Kp.refl H) .nil m⟩
theorem ra_cons (ha : RE X e te) (hr : RA X es t) (hs : starEach (e :: es) X.env = (false, eval e X.env) :: starEach es X.env := by rfl) : RA X (e :: es) (cons3 te t) := by
  obtain ⟨va, pa, ra⟩ := ha
  obtain ⟨vb, pb, rb⟩ := hr
  exact ⟨_, pa_cons pa pb hs, fun σ H Q ρ μ Q3 s m h k => ra σ H _ ρ μ _ s m h fun d μ1 v H1 h1 k1 r1 m1 => rb σ H1 _ ρ μ1 _ (s.mono k1) m1 h1 fun ds μ2 vs H2 h2 k2 r2 m2 =>
    k _ _ _ _ h2 (k1.trans k2) (.cons (r1.mono k2) r2) m2⟩
theorem re_tup {x1} (h : RA X es t) : RE X (.Tuple es x1 pos) (tup3 t) := by
  obtain ⟨va, pa, ra⟩ := h
  refine ⟨_, pe_tup pa, fun σ H Q ρ μ Q3 s m h k => ra σ H _ ρ μ _ s m h fun ds μ1 vs H1 h1 k1 r1 m1 => ⟨by rw [← r1.length]; exact h1.1, fun p hp => ?_⟩⟩
  exact k _ _ _ _ h1.2 (k1.trans (Kp.new hp)) (.tup (SqT.of upd_same) (r1.mono (Kp.new hp))) (m1.newT hp)
theorem re_lst (h : RA X es t) : RE X (.List es pos) (lst3 t) := by
  obtain ⟨va, pa, ra⟩ := h
  refine ⟨_, pe_lst pa, fun σ H Q ρ μ Q3 s m h k => ra σ H _ ρ μ _ s m h fun ds μ1 vs H1 h1 k1 r1 m1 => ⟨by rw [← r1.length]; exact h1.1, fun p hp => ?_⟩⟩
  exact k _ _ _ _ (h1.2 p (m1.free hp)) (k1.trans (Kp.new hp)) (.ref p) (m1.newL hp r1)
/-! ### statements -/
variable {st : Stmt} {sts : List Stmt} {t3 u3 : TS3}
theorem rss_nil : RSs X [] next3 := ⟨_, pss_nil, fun σ H D ρ μ D3 s m h k => k.nx ρ μ σ H h (Kp.refl H) s m⟩
theorem rss_one (h : RS X st t3) : RSs X [st] t3 := let ⟨t, p, r⟩ := h; ⟨t, pss_one p, r⟩
theorem rss_cons (h1 : RS X st t3) (h2 : RSs X sts u3) : RSs X (st :: sts) (seq3 t3 u3) := by
  obtain ⟨va, pa, ra⟩ := h1
  obtain ⟨vb, pb, rb⟩ := h2
  refine ⟨_, pss_cons pa pb, fun σ H D ρ μ D3 s m h k => ra σ H _ ρ μ _ s m h ⟨fun ρ1 μ1 σ1 H1 h1 k1 s1 m1 => rb σ1 H1 D ρ1 μ1 D3 s1 m1 h1 (k.after k1), k.bk, k.ct, k.rt⟩⟩
theorem rs_never : RS X st never3 := ⟨_, ps_never, fun σ H D ρ μ D3 s m h k => h⟩
theorem rs_expr (he : RE X e te) (hs : swapsWith e none pos.line X.env = pure false := by rfl) : RS X (.Expr e pos) (drop3 te) := by
  obtain ⟨va, pa, ra⟩ := he
  exact ⟨_, ps_expr pa hs, fun σ H D ρ μ D3 s m h k => ra σ H _ ρ μ _ s m h fun d μ1 v H1 h1 k1 r1 m1 => k.nx ρ μ1 σ H1 h1 k1 (s.mono k1) m1⟩
theorem rs_ret (he : RE X e te) : RS X (.Return (some e) pos) (ret3 te) := by
  obtain ⟨va, pa, ra⟩ := he
  exact ⟨_, ps_ret pa, fun σ H D ρ μ D3 s m h k => ra σ H _ ρ μ _ s m h k.rt⟩
theorem rs_if {as bs : List Stmt} (hc : RT X c tA) (ha : RSs X as t3) (hb : RSs X bs u3) : RS X (.If c as bs pos) (ifs3 tA t3 u3) := by
  obtain ⟨vc, pc, rc⟩ := hc
  obtain ⟨va, pa, ra⟩ := ha
  obtain ⟨vb, pb, rb⟩ := hb
  refine ⟨_, ps_if pc pa pb, fun σ H D ρ μ D3 s m h k => rc σ H _ ρ μ _ s m h fun c μ1 H1 h1 k1 m1 => ?_⟩
  cases c with
  | true => exact ra σ H1 D ρ μ1 D3 (s.mono k1) m1 h1 (k.after k1)
  | false => exact rb σ H1 D ρ μ1 D3 (s.mono k1) m1 h1 (k.after k1)
/-! ### targets -/
theorem rg_name {i : Nat} {x : Str} (hN : X.N.Nodup) (hi : X.N[i]? = some x := by rfl) (hx : Loc X.env.scope x := by first | exact Or.inl rfl | exact Or.inr rfl) (hf : X.fn x = true ∨ X.env.scope.names.lookup x = some .local := by first | exact .inl rfl | exact .inr rfl) :
    RG X (.Name x pos) (gn3 i) := ⟨_, pg_name hN hi hx hf, fun v d σ H Q ρ μ Q3 s m r h k => k _ _ _ _ h (Kp.refl H) (s.set i r) m⟩
theorem rs_set {i : Nat} {x : Str} {pos' : Pos} (hN : X.N.Nodup) (he : RE X e te) (hi : X.N[i]? = some x := by rfl) (hx : Loc X.env.scope x := by first | exact Or.inl rfl | exact Or.inr rfl) (hs : swapsWith e (some (.Name x pos')) pos.line X.env = pure false := by rfl)
    (hf : X.fn x = true ∨ X.env.scope.names.lookup x = some .local := by first | exact .inl rfl | exact .inr rfl) : RS X (.Assign [.Name x pos'] e pos) (set3 i te) := by
  obtain ⟨va, pa, ra⟩ := he
  exact ⟨_, ps_set hN hi hx pa hs hf, fun σ H D ρ μ D3 s m h k => ra σ H _ ρ μ _ s m h fun d μ1 v H1 h1 k1 r1 m1 => k.nx _ _ _ _ h1 k1 ((s.mono k1).set i r1) m1⟩
theorem rs_asg {tg : Expr} {g : TG3} (he : RE X e te) (hg : RG X tg g) (hs : swapsWithSole [tg] e pos.line X.env = pure false := by rfl) (hw : swappedStores [tg] e X.env = pure none := by rfl)
    (h1 : (assignEach [tg] X.env).map (·.2) = [assign tg X.env] := by rfl) : RS X (.Assign [tg] e pos) (asg3 te g) := by
  obtain ⟨va, pa, ra⟩ := he
  obtain ⟨vg, pg, rg⟩ := hg
  exact ⟨_, ps_asg pa pg hs hw h1, fun σ H D ρ μ D3 s m h k => ra σ H _ ρ μ _ s m h fun d μ1 v H1 h1 k1 r1 m1 => rg v d σ H1 _ ρ μ1 _ (s.mono k1) m1 r1 h1 fun ρ' μ' σ' H' q e => k.nx ρ' μ' σ' H' q (k1.trans e)⟩
theorem ixN_eq (n : Nat) (i : Int) : L2.ixN n i = ixN n i := rfl
theorem rg_sub {o i : Expr} {to ti : TE3} (ho : RE X o to) (hi : RE X i ti)
    (ha : ∀ v, assign (.Subscript o i pos) X.env v = (do
      let ov ← holding [v] (eval o X.env)
      let iv ← holding [v, ov] (eval i X.env)
      standAt pos
      holding [v, ov, iv] (setItem ov iv v)
      release [v, ov, iv] []) := by intro _; rfl) : RG X (.Subscript o i pos) (sub3 to ti) := by
  obtain ⟨va, pa, ra⟩ := ho
  obtain ⟨vb, pb, rb⟩ := hi
  refine ⟨_, pg_sub pa pb set_list ha, fun v d σ H Q ρ μ Q3 s m r h k => ra σ H _ ρ μ _ s m h fun o' μ1 ov H1 h1 k1 r1 m1 => rb σ H1 _ ρ μ1 _ (s.mono k1) m1 h1 fun i' μ2 iv H2 h2 k2 r2 m2 => ?_⟩
  cases r1 with
  | ref p =>
    cases r2 with
    | int kk =>
      dsimp only at h2
      cases e : μ2 p with
      | none => rw [e] at h2; exact h2.elim
      | some oo =>
        cases oo with
        | ins _ _ => rw [e] at h2; exact h2.elim
        | lst xs =>
          rw [e] at h2
          dsimp only at h2
          cases e2 : ixN xs.length kk with
          | none => rw [e2] at h2; exact h2.elim
          | some j =>
            rw [e2] at h2
            obtain ⟨vs, hv, rv⟩ := m2 p xs e
            have kk' := k1.trans k2
            refine ⟨p, vs, kk, j, rfl, rfl, hv, by rw [← rv.length]; exact e2, k _ _ _ _ h2 (kk'.trans (Kp.wr hv)) (s.mono (kk'.trans (Kp.wr hv))) (m2.wr hv (rv.set (r.mono kk') j))⟩
    | _ => exact False.elim h2
  | _ => cases r2 <;> exact False.elim h2
end
end Pv

namespace Pv
open PySem PySem.Spec PyProof.Rows L2
/-! ### what is walked -/
/-- the iterator hands out the items of l as long as S holds of the lists -/
noncomputable def ItOk (K : Fg) (J : It) (l : List D) (S : Mu → Prop) (H0 : Hp) : Prop := ∀ i H μ, Kp H0 H → RelM K μ H → S μ →
  (∀ d, l[i]? = some d → J.go i H ∧ ∀ x H2, J.yld i H x H2 → Kp H H2 ∧ RelM K μ H2 ∧ RelD K H2 d x) ∧ (l.length ≤ i → J.stop i H)
noncomputable def RdI (K : Fg) (wi : TI) (ti : TI3) : Prop := ∀ σ H R ρ μ R3, RSt K H ρ σ → RelM K μ H → ti ρ μ R3 → (∀ l S μ' J H', R3 l S μ' → Kp H H' → RelM K μ' H' → ItOk K J l S H' → R J H') → wi σ H R
noncomputable def RI (X : Cx) (tg iter : Expr) (ti : TI3) : Prop := ∃ wi, PI X tg iter wi ∧ RdI X.K wi ti
section
variable {X : Cx} {tg iter a b c e : Expr} {ta tb te : TE3} {pos : Pos}
/-- the signs of a text -/
noncomputable def Its (z : Str) : It := ⟨fun i _ => i < z.cps.size, fun i H x H' => H' = H ∧ ∃ c, z.cps[i]? = some c ∧ x = .str ⟨#[c]⟩, fun i _ => z.cps.size ≤ i⟩
theorem turn_str {P : Program} {w : World} {K : Fg} {tg : Expr} (T : String) (x : Str) (t : Tok) (it : Addr)
    (hT : ["enumerate", "zip", "dict_itemiterator", "dict_reverseitemiterator", "odict_iterator", "itertools.zip_longest", "itertools.pairwise"].contains T = false)
    (W : ∀ A : Around, A.handled = none → Walks P w A it [it] [it] x.cps.size (SignAt x) (fun i h => h.IsStrIter it T x t i))
    (sf : ∀ (A : Around) (i : Nat) (s : Shared) (Q : Value → Shared → Prop) (E : Value → Shared → Prop), s.heap.IsStrIter it T x t i → Q (.ref it) s → wpAny (model P w) A (pyIter (.ref it)) Q E s) :
    Turn P w K tg (Its x) [it] it (fun i h => h.IsStrIter it T x t i ∧ i ≤ x.cps.size) where
  mem := by simp
  obj := fun i h st b hb => by
    have e : b = it := by simpa using hb
    subst e
    obtain ⟨⟨o, e, c, d⟩, _⟩ := st
    exact ⟨o, e, fun v z => by rw [d] at z; cases z⟩
  keep := fun i h h' st k => by
    obtain ⟨⟨o, e, c, d⟩, l⟩ := st
    exact ⟨⟨o, k it (by simp) o e, c, d⟩, l⟩
  item := by
    intro X hP hw hK hc i pins s σ H E I hf st hg
    subst hP hw hK
    obtain ⟨f0, f1, f2, f3, f4, f5⟩ := hf it (by simp)
    refine (W X.A (I.ok.hd hc)).item i s _ E hg st.1 fun v h' tk hP hst' hk => ?_
    obtain ⟨c, u, ec, rfl⟩ := hP
    have I1 : Inv X pins σ H { s with heap := h', toks := tk } := I.turned (t' := tk) (fun b o hb e => hk b o (by simpa using hb) e) f0 f1 f3 f4 f5
    obtain ⟨o, e, c1, d⟩ := id hst'
    exact ⟨_, rfl, go_of (s := { s with heap := h', toks := tk }) e c1 d hT ⟨.str ⟨#[c]⟩, H, I1, ⟨u, rfl⟩, ⟨rfl, c, ec, rfl⟩, ⟨hst', hg⟩, fun b hb => (hf b hb).1⟩⟩
  done := by
    intro X hP hw hK hc i pins s σ H E I hf st hg
    subst hP hw hK
    have hg' : x.cps.size ≤ i := hg
    obtain ⟨f0, f1, f2, f3, f4, f5⟩ := hf it (by simp)
    have e1 : i = x.cps.size := Nat.le_antisymm st.2 hg'
    subst e1
    exact (W X.A (I.ok.hd hc)).done s _ E st.1 fun h' tk hk => ⟨rfl, I.turned (t' := tk) (fun b o hb e => hk b o (by simpa using hb) e) f0 f1 f3 f4 f5⟩
  self := fun A i s Q E st h => sf A i s Q E st.1 h
/-- a list or a tuple -/
noncomputable def iSeq (K : Fg) (tl : TE) : TI := fun σ H R => tl σ H fun x H1 => (∃ z, x = .str z ∧ R (Its z) H1) ∨ ∃ a, x = .ref a ∧ (((∃ xs, SqL K H1 a xs) ∧ R (Itl K a) H1) ∨ ((∃ xs, SqT K H1 a xs) ∧ R (Itt K a) H1))
theorem pi_seq {l : Expr} {tl : TE} (hl : PE X l tl) : PI X tg l (iSeq X.K tl) := by
  intro pins s σ H R I h
  refine thn (hl pins s σ H _ I h) fun v s1 ⟨x, H1, I1, r1, q1⟩ => ?_
  have fp : ∀ b ∈ [s1.heap.objs.size], FpOk X pins H1 b := fun b hb => by
    have e : b = s1.heap.objs.size := by simpa using hb
    subst e
    exact I1.fpOk (Nat.le_refl _) (I1.hok.fresh (Nat.le_refl _))
  rcases q1 with ⟨z, e, q⟩ | ⟨a, e, q⟩
  · subst e
    obtain ⟨t, rfl⟩ := r1
    cases ha : z.cps.all (· < 128)
    · refine wpAny_pyIter_wide ha ?_
      exact ⟨s1.heap.objs.size, [s1.heap.objs.size], _, _, H1, rfl, I1.kept (t' := s1.toks) fun b o e => Heap.get?_push_of_some _ e, turn_str "str_iterator" z t _ (by decide) (fun A hA => Walks.strWide hA _ z t) (fun _ _ _ _ _ st h => wpAny_pyIter_striter_wide st h), ⟨⟨_, Heap.get?_push_size _ rfl, rfl, rfl⟩, Nat.zero_le _⟩, fp, q⟩
    · refine wpAny_pyIter_ascii ha ?_
      exact ⟨s1.heap.objs.size, [s1.heap.objs.size], _, _, H1, rfl, I1.kept (t' := s1.toks) fun b o e => Heap.get?_push_of_some _ e, turn_str "str_ascii_iterator" z t _ (by decide) (fun A hA => Walks.strAscii hA _ z t) (fun _ _ _ _ _ st h => wpAny_pyIter_striter_ascii st h), ⟨⟨_, Heap.get?_push_size _ rfl, rfl, rfl⟩, Nat.zero_le _⟩, fp, q⟩
  subst e
  cases r1
  rcases q with ⟨⟨xs, hq⟩, q⟩ | ⟨⟨xs, hq⟩, q⟩
  · obtain ⟨its, rv, p, hz⟩ := I1.list hq
    refine wpAny_pyIter_list p.isList ?_
    exact ⟨s1.heap.objs.size, [s1.heap.objs.size], _, _, H1, rfl, I1.kept (t' := s1.toks) fun b o e => Heap.get?_push_of_some _ e, turn_list a _, ⟨_, Heap.get?_push_size _ rfl, rfl, rfl⟩, fp, q⟩
  · obtain ⟨its, rv, p, hz⟩ := I1.tuple hq
    refine wpAny_pyIter_tuple (show s1.heap.IsTuple a its.toArray from p) ?_
    exact ⟨s1.heap.objs.size, [s1.heap.objs.size], _, _, H1, rfl, I1.kept (t' := s1.toks) fun b o e => Heap.get?_push_of_some _ e, turn_tuple a _, ⟨_, Heap.get?_push_size _ rfl, rfl, rfl⟩, fp, q⟩
theorem itok_tup {K : Fg} {H0 : Hp} {a : Addr} {l : List D} {vs : List V} (h : SqT K H0 a vs) (r : RelDs K H0 l vs) : ItOk K (Itt K a) l (fun _ => True) H0 := fun i H μ k m _ => by
  refine ⟨fun d e => ?_, fun hl => ⟨vs, SqT.mono k h, by rw [← r.length]; exact hl⟩⟩
  obtain ⟨v, e1, r1⟩ := r.get e
  refine ⟨⟨vs, v, SqT.mono k h, e1⟩, fun x H2 y => ?_⟩
  obtain ⟨rfl, y⟩ := y
  have e2 := y vs (SqT.mono k h)
  rw [e1] at e2; cases e2
  exact ⟨Kp.refl _, m, r1.mono k⟩
theorem itok_fls {K : Fg} {H0 : Hp} {a : Addr} {l : List D} {vs : List V} (h : SqF K H0 a vs) (r : RelDs K H0 l vs) : ItOk K (Itl K a) l (fun _ => True) H0 := fun i H μ k m _ => by
  refine ⟨fun d e => ?_, fun hl => ⟨vs, (SqF.mono k h).l, by rw [← r.length]; exact hl⟩⟩
  obtain ⟨v, e1, r1⟩ := r.get e
  refine ⟨⟨vs, v, (SqF.mono k h).l, e1⟩, fun x H2 y => ?_⟩
  obtain ⟨rfl, y⟩ := y
  have e2 := y vs (SqF.mono k h).l
  rw [e1] at e2; cases e2
  exact ⟨Kp.refl _, m, r1.mono k⟩
theorem itok_lst {K : Fg} {H0 : Hp} {a : Addr} {l : List D} : ItOk K (Itl K a) l (fun μ => μ a = some (.lst l)) H0 := fun i H μ k m s => by
  obtain ⟨vs, h, r⟩ := m a l s
  refine ⟨fun d e => ?_, fun hl => ⟨vs, SqL.of h, by rw [← r.length]; exact hl⟩⟩
  obtain ⟨v, e1, r1⟩ := r.get e
  refine ⟨⟨vs, v, SqL.of h, e1⟩, fun x H2 y => ?_⟩
  obtain ⟨rfl, y⟩ := y
  have e2 := y vs (SqL.of h)
  rw [e1] at e2; cases e2
  exact ⟨Kp.refl _, m, r1⟩
theorem itok_str {K : Fg} {H0 : Hp} (z : Str) : ItOk K (Its z) (z.cps.toList.map fun c => D.str ⟨#[c]⟩) (fun _ => True) H0 := fun i H μ k m _ => by
  refine ⟨fun d e => ?_, fun hl => by show z.cps.size ≤ i; simpa using hl⟩
  rw [List.getElem?_map, Array.getElem?_toList] at e
  cases ec : z.cps[i]? with
  | none => rw [ec] at e; cases e
  | some c =>
    rw [ec] at e
    cases e
    refine ⟨?_, fun x H2 y => ?_⟩
    · show i < z.cps.size
      rcases Nat.lt_or_ge i z.cps.size with h | h
      · exact h
      · rw [Array.getElem?_eq_none h] at ec; cases ec
    · obtain ⟨rfl, c', ec', rfl⟩ := y
      rw [ec] at ec'; cases ec'
      exact ⟨Kp.refl _, m, .str _⟩
theorem ri_seq (ha : RE X a ta) : RI X tg a (is3 ta) := by
  obtain ⟨va, pa, ra⟩ := ha
  refine ⟨_, pi_seq pa, fun σ H R ρ μ R3 s m h k => ra σ H _ ρ μ _ s m h fun d μ1 v H1 h1 k1 r1 m1 => ?_⟩
  cases r1 with
  | str z => exact .inl ⟨z, rfl, k _ _ _ _ _ h1 k1 m1 (itok_str z)⟩
  | tup hq rs => exact .inr ⟨_, rfl, .inr ⟨⟨_, hq⟩, k _ _ _ _ _ h1 k1 m1 (itok_tup hq rs)⟩⟩
  | fls hq rs => exact .inr ⟨_, rfl, .inl ⟨⟨_, hq.l⟩, k _ _ _ _ _ h1 k1 m1 (itok_fls hq rs)⟩⟩
  | ref p =>
    dsimp only at h1
    cases e : μ1 p with
    | none => rw [e] at h1; exact h1.elim
    | some oo =>
      cases oo with
      | ins _ _ => rw [e] at h1; exact h1.elim
      | lst xs =>
        rw [e] at h1
        obtain ⟨vs, hv, rv⟩ := m1 p xs e
        exact .inr ⟨_, rfl, .inl ⟨⟨_, SqL.of hv⟩, k _ _ _ _ _ h1 k1 m1 itok_lst⟩⟩
  | _ => exact False.elim h1
theorem rngD_get (lo : Int) (n i : Nat) : (rngD lo n)[i]? = if i < n then some (.int (lo + i)) else none := by
  unfold rngD
  rw [List.getElem?_map]
  by_cases h : i < n
  · rw [List.getElem?_range h, if_pos h]; rfl
  · rw [List.getElem?_eq_none (by simpa using h), if_neg h]; rfl
theorem rngD_len (lo : Int) (n : Nat) : (rngD lo n).length = n := by simp [rngD]
theorem itok_rng {K : Fg} {H0 : Hp} (lo : Int) (n : Nat) : ItOk K (Itr lo n) (rngD lo n) (fun _ => True) H0 := fun i H μ k m _ => by
  refine ⟨fun d e => ?_, fun hl => by rw [rngD_len] at hl; exact hl⟩
  rw [rngD_get] at e
  split at e
  · next h =>
    cases e
    refine ⟨h, fun x H2 y => ?_⟩
    obtain ⟨rfl, rfl⟩ := y
    exact ⟨Kp.refl _, m, .int _⟩
  · cases e
theorem ri_range1 {p : Pos} (hm : X.mg "range" = none) (ha : RE X a ta) (hg : Gl X "range" := by rfl) (hs : starEach [a] X.env = [(false, eval a X.env)] := by rfl) : RI X tg (.Call (.Name "range" p) [a] [] pos) (ir3 (cons3 ta nil3)) := by
  obtain ⟨va, pa, ra⟩ := ra_cons ha ra_nil hs
  refine ⟨_, pi_range1 hg hm pa hs, fun σ H R ρ μ R3 s m h k => ra σ H _ ρ μ _ s m h fun ds μ1 vs H1 h1 k1 r1 m1 => ?_⟩
  cases r1 with
  | nil => exact False.elim h1
  | cons r1 r2 =>
    cases r2 with
    | cons _ _ => cases r1 <;> exact False.elim h1
    | nil =>
      cases r1 with
      | int j => exact ⟨j, rfl, h1.1.1, h1.1.2, k _ _ _ _ _ h1.2 k1 m1 (itok_rng _ _)⟩
      | _ => exact False.elim h1
/-! ### for, while -/
theorem rs_for {body : List Stmt} {ti : TI3} {g : TG3} {tb : TS3} (hp : PassesOwn (model X.prog X.w) X.A X.env X.xe) (hc : X.calm = true) (hi : RI X tg iter ti) (hg : RG X tg g) (hb : RSs X body tb)
    (hs : ∀ x, foldedSetIterable iter X.env x = pure x := by intro _; rfl) : RS X (.For tg iter body [] pos) (for3 ti g tb) := by
  obtain ⟨wi, pi, ri⟩ := hi
  obtain ⟨vg, pg, rg⟩ := hg
  obtain ⟨vb, pb, rb⟩ := hb
  refine ⟨_, ps_for hp hc pi pg pb hs, fun σ H D ρ μ D3 s m h k => ri σ H _ ρ μ _ s m h fun l S μ1 J H1 h1 k1 m1 ok => ?_⟩
  refine ⟨fun i n σ2 H2 => n = l.length - i ∧ i ≤ l.length ∧ ∃ ρ2 μ2, RSt X.K H2 ρ2 σ2 ∧ RelM X.K μ2 H2 ∧ Kp H1 H2 ∧ forS3 S g tb D3 (l.drop i) ρ2 μ2, ⟨l.length, rfl, Nat.zero_le _, ρ, μ1, s.mono k1, m1, Kp.refl _, h1⟩, ?_⟩
  rintro i n σ2 H2 ⟨rfl, hi, ρ2, μ2, s2, m2, k2, h2⟩
  by_cases hlt : i < l.length
  · rw [List.drop_eq_getElem_cons hlt] at h2
    obtain ⟨hS, N, hN, h2⟩ := h2
    obtain ⟨ok1, _⟩ := ok i H2 μ2 k2 m2 hS
    obtain ⟨go, yl⟩ := ok1 l[i] (List.getElem?_eq_getElem hlt)
    refine .inr ⟨go, fun σ3 H3 => ∃ ρ3 μ3, N ρ3 μ3 ∧ RSt X.K H3 ρ3 σ3 ∧ RelM X.K μ3 H3 ∧ Kp H1 H3, fun σ3 H3 ⟨ρ3, μ3, hn, s3, m3, k3⟩ => ⟨l.length - (i + 1), by omega, rfl, hlt, ρ3, μ3, s3, m3, k3, hN _ _ hn⟩, fun x H3 y => ?_⟩
    obtain ⟨k3, m3, r3⟩ := yl x H3 y
    refine rg x l[i] σ2 H3 _ ρ2 μ2 _ (s2.mono k3) m3 r3 h2 fun ρ4 μ4 σ4 H4 h4 k4 s4 m4 => ?_
    have k14 : Kp H1 H4 := k2.trans (k3.trans k4)
    exact rb σ4 H4 _ ρ4 μ4 _ s4 m4 h4 ⟨fun ρ5 μ5 σ5 H5 h5 k5 s5 m5 => ⟨ρ5, μ5, h5, s5, m5, k14.trans k5⟩, fun ρ5 μ5 σ5 H5 h5 k5 s5 m5 => k.nx _ _ _ _ h5 (k1.trans (k14.trans k5)) s5 m5,
      fun ρ5 μ5 σ5 H5 h5 k5 s5 m5 => ⟨ρ5, μ5, h5, s5, m5, k14.trans k5⟩, fun d μ5 v H5 h5 k5 r5 m5 => k.rt _ _ _ _ h5 (k1.trans (k14.trans k5)) r5 m5⟩
  · have e : i = l.length := by omega
    subst e
    rw [List.drop_length] at h2
    obtain ⟨hS, h2⟩ := h2
    exact .inl ⟨(ok _ H2 μ2 k2 m2 hS).2 (Nat.le_refl _), k.nx _ _ _ _ h2 (k1.trans k2) s2 m2⟩
/-! ### calls -/
noncomputable def lift (K : Fg) (sp : Sp3) : Sp := fun vs H Q _ => ∃ ds μ Q3, RelDs K H ds vs ∧ RelM K μ H ∧ sp ds μ Q3 ∧ Ks K H Q3 Q
/-- a def of the text keeps a promise (k: frames) -/
noncomputable def Cal (P : Program) (w : World) (K : Fg) (mg : Str → Option Value) (base : Heap) (k : Nat) (x : Str) (ps : List Str) (sp : Sp3) : Prop :=
  ∃ f fd, FnOk P w K mg base CX0 k f fd ps (lift K sp) ∧ mg x = some (.ref f) ∧ PySem.W.keepIn K (.ref f) = true ∧ Binds K fd ps []
theorem Cal.mono {P : Program} {w : World} {K : Fg} {mg : Str → Option Value} {base : Heap} {j k : Nat} {x : Str} {ps : List Str} {sp : Sp3} (c : Cal P w K mg base j x ps sp) (h : j ≤ k) : Cal P w K mg base k x ps sp := by
  obtain ⟨f, fd, F, r⟩ := c
  exact ⟨f, fd, F.mono h, r⟩
variable {es : List Expr} {t : TA3} {x : Str} {p : Pos}
theorem re_call {k : Nat} {ps : List Str} {sp : Sp3} (c : Cal X.prog X.w X.K X.mg X.base k x ps sp) (hr : Room k X.A) (ha : RA X (e :: es) t) (hg : Gl X x := by rfl) (hdb : (x == ("__debug__" : Str)) = false := by decide)
    (he : starEach (e :: es) X.env = (false, eval e X.env) :: starEach es X.env := by rfl) (hpl : (backTo pos (starEach es X.env)).any (·.1) = false := by rfl) : RE X (.Call (.Name x p) (e :: es) [] pos) (call3 sp t) := by
  obtain ⟨f, fd, F, hm, hk, hb⟩ := c
  obtain ⟨va, pa, ra⟩ := ha
  refine ⟨_, pe_call F hr hg hm hk hb .nil pass0 pa hdb he hpl, fun σ H Q ρ μ Q3 s m h k => ra σ H _ ρ μ _ s m h fun ds μ1 vs H1 h1 k1 r1 m1 => ?_⟩
  rw [List.append_nil]
  exact ⟨ds, μ1, Q3, r1, m1, h1, k.after k1⟩
theorem re_callB {r : C3} {id : String} (hc : RC X (.builtin id) r) (hm : X.mg x = none) (hv : bootBuiltins x = some (.builtin id)) (ha : RA X (e :: es) t) (hg : Gl X x := by rfl) (hn : x ≠ "__name__" := by decide) (hdb : (x == ("__debug__" : Str)) = false := by decide)
    (he : starEach (e :: es) X.env = (false, eval e X.env) :: starEach es X.env := by rfl) (hpl : (backTo pos (starEach es X.env)).any (·.1) = false := by rfl) : RE X (.Call (.Name x p) (e :: es) [] pos) (call3 r t) := by
  obtain ⟨r', pc, rc⟩ := hc
  obtain ⟨va, pa, ra⟩ := ha
  exact ⟨_, pe_callB pc hg hm hv pa hn hdb he hpl, fun σ H Q ρ μ Q3 s m h k => ra σ H _ ρ μ _ s m h fun ds μ1 vs H1 h1 k1 r1 m1 => rc ds vs H1 Q μ1 Q3 m1 r1 h1 (k.after k1)⟩
theorem re_callTy {r : C3} {T : String} (hc : RC X (.type T) r) (hm : X.mg x = none) (hv : bootBuiltins x = some (.type T)) (ha : RA X (e :: es) t) (hg : Gl X x := by rfl) (hn : x ≠ "__name__" := by decide) (hdb : (x == ("__debug__" : Str)) = false := by decide)
    (he : starEach (e :: es) X.env = (false, eval e X.env) :: starEach es X.env := by rfl) (hpl : (backTo pos (starEach es X.env)).any (·.1) = false := by rfl) : RE X (.Call (.Name x p) (e :: es) [] pos) (call3 r t) := by
  obtain ⟨r', pc, rc⟩ := hc
  obtain ⟨va, pa, ra⟩ := ha
  exact ⟨_, pe_callTy pc hg hm hv pa hn hdb he hpl, fun σ H Q ρ μ Q3 s m h k => ra σ H _ ρ μ _ s m h fun ds μ1 vs H1 h1 k1 r1 m1 => rc ds vs H1 Q μ1 Q3 m1 r1 h1 (k.after k1)⟩
theorem re_ix {r3 : R3} (hx : RX X r3) (ha : RE X a ta) (hb : RE X b tb) (hs : PlainIx b := by intro _ _; rfl) : RE X (.Subscript a b pos) (o3 r3 ta tb) := by
  obtain ⟨r, po, ro⟩ := hx
  obtain ⟨va, pa, ra⟩ := ha
  obtain ⟨vb, pb, rb⟩ := hb
  exact ⟨_, pe_ix po pa pb hs, ra.op rb ro⟩
end
/-! ### a def -/
section
variable {P : Program} {w : World} {K : Fg} {mg : Str → Option Value} {base : Heap}
theorem fnok_of {x : Str} {st : Stmt} {f : Addr} {fd : FuncData} {N ps : List Str} {k : Nat} {sp : Sp3} {t : TS3} (F : Fun K x x st f fd) (S : FnScope N ps (defScope st))
    (len : ∀ ds μ Q, sp ds μ Q → ds.length = ps.length)
    (body : ∀ (cdv : Value) (A : Around) (outer : List Env) (s : Shared) (H : Hp) (E : XK), Room k (A.deeper (envOfC x (defScope st) s.heap.objs.size f cdv)) → RSs (cxOf CX0 P w K mg base N x (defScope st) f cdv A outer s H E).nox (defBody st) t)
    (rd : ∀ ds μ Q, sp ds μ Q → t { nx := fun _ μ' => Q .non μ', rt := Q } (start3 N ds) μ) : FnOk P w K mg base CX0 (k + 1) f fd ps (lift K sp) := by
  refine F.ok S (fun vs H Q E h => ?_) (fun cdv A outer s H vs Q E hr h => ?_)
  · obtain ⟨ds, μ, Q3, r, m, q, ks⟩ := h
    rw [← r.length]; exact len _ _ _ q
  · obtain ⟨ds, μ, Q3, r, m, q, ks⟩ := h
    obtain ⟨tv, p, rt⟩ := body cdv A outer s H E hr
    exact ⟨tv, p, rt _ H _ _ μ _ (RSt.start N r) m (rd ds μ Q3 q) ⟨fun ρ μ' σ H' h' k' s' m' => ks _ _ _ _ h' k' .non m', fun ρ μ' σ H' h' => False.elim h', fun ρ μ' σ H' h' => False.elim h', ks⟩⟩
theorem cal_of {x : Str} {st : Stmt} {f : Addr} {fd : FuncData} {N ps : List Str} {k : Nat} {sp : Sp3} {t : TS3} (F : Fun K x x st f fd) (hm : mg x = some (.ref f)) (hb : Binds K fd ps []) (S : FnScope N ps (defScope st))
    (len : ∀ ds μ Q, sp ds μ Q → ds.length = ps.length)
    (body : ∀ (cdv : Value) (A : Around) (outer : List Env) (s : Shared) (H : Hp) (E : XK), Room k (A.deeper (envOfC x (defScope st) s.heap.objs.size f cdv)) → RSs (cxOf CX0 P w K mg base N x (defScope st) f cdv A outer s H E).nox (defBody st) t)
    (rd : ∀ ds μ Q, sp ds μ Q → t { nx := fun _ μ' => Q .non μ', rt := Q } (start3 N ds) μ) : Cal P w K mg base (k + 1) x ps sp :=
  ⟨f, fd, fnok_of F S len body rd, hm, F.kp, hb⟩
/-- a promise that asks nothing can be asked of nobody -/
theorem cal_zero {x : Str} {st : Stmt} {f : Addr} {fd : FuncData} {ps : List Str} {sp : Sp3} (F : Fun K x x st f fd) (hm : mg x = some (.ref f)) (hb : Binds K fd ps []) (no : ∀ ds μ Q, ¬ sp ds μ Q) : Cal P w K mg base 0 x ps sp := by
  have no' : ∀ vs H Q E, ¬ lift K sp vs H Q E := fun vs H Q E ⟨ds, μ, Q3, _, _, q, _⟩ => no _ _ _ q
  exact ⟨f, fd, ⟨fun vs H Q E h => absurd h (no' vs H Q E), fun A outer s H args us vs Q E _ _ _ _ h => absurd h (no' vs H Q E)⟩, hm, F.kp, hb⟩
end
end Pv

namespace Pv
open PySem PySem.Spec PyProof.Rows L2
section
variable {X : Cx}
/-! ### ints -/
theorem RdO.i0 {K : Fg} {g3 : Int → Int → D} {g : Int → Int → V} (hg : ∀ i j H, RelD K H (g3 i j) (g i j)) : RdO K (rI0 g) (int20 g3) := fun x y v u H Q μ Q3 m rx ry h k => by
  cases rx with
  | int i =>
    cases ry with
    | int j => exact ⟨i, j, rfl, rfl, k _ _ _ _ h (Kp.refl _) (hg i j H) m⟩
    | _ => exact False.elim h
  | _ => cases ry <;> exact False.elim h
theorem RdO.i2 {K : Fg} {C : Int → Int → Prop} {g3 : Int → Int → D} {g : Int → Int → V} (hg : ∀ i j H, RelD K H (g3 i j) (g i j)) : RdO K (rI C g) (int2 C g3) := fun x y v u H Q μ Q3 m rx ry h k => by
  cases rx with
  | int i =>
    cases ry with
    | int j => exact ⟨i, j, rfl, rfl, h.1, k _ _ _ _ h.2 (Kp.refl _) (hg i j H) m⟩
    | _ => exact False.elim h
  | _ => cases ry <;> exact False.elim h
theorem q_sub : RO X (binaryOp .Sub) subR := ⟨_, op_sub, RdO.i0 fun _ _ _ => .int _⟩
theorem q_mod : RO X (binaryOp .Mod) modR := ⟨_, op_mod, RdO.i2 fun _ _ _ => .int _⟩
theorem q_pow : RO X (binaryOp .Pow) powR := ⟨_, op_pow, RdO.i2 fun _ _ _ => .int _⟩
theorem log2_lt {n k : Nat} (hk : 0 < k) (h : n < 2 ^ k) : n.log2 < k := by
  rcases Nat.eq_zero_or_pos n with h0 | hp
  · rw [h0]; simpa using hk
  · exact (Nat.log2_lt (Nat.ne_of_gt hp)).mpr h
theorem op_fdivB : OpR X (binaryOp .FloorDiv) (rI (fun _ j => 0 < j ∧ j < 2 ^ 80) fun i j => .int (i / j)) := opI fun i j _ _ _ _ _ hc q => by
  have h1 : (0 : Int) < j := hc.1
  have h2 : j < 2 ^ 80 := hc.2
  refine floordiv_int (by omega) (by rw [Int.fdiv_eq_ediv_of_nonneg i (by omega)]; exact q) (.inl (PyProof.noPylong_of_log2 ?_))
  have h3 : j.natAbs < 2 ^ 80 := by omega
  exact Nat.lt_trans (log2_lt (by decide) h3) (by decide)
theorem q_fdiv : RO X (binaryOp .FloorDiv) fdivR := ⟨_, op_fdivB, RdO.i2 fun _ _ _ => .int _⟩
theorem CMul.mulok {i j : Int} (h : CMul i j) : IntMulOk i j := by
  rcases h with h | ⟨h1, h2⟩
  · exact L2.CMul.ok h
  · unfold IntMulOk
    intro e
    rw [Bool.and_eq_true] at e
    have e2 := e.2
    unfold Builtin.Int.intTooBig at e2
    have hb : ∀ x : Int, x.natAbs < Big → Builtin.Int.intBits x ≤ 1000 := fun x hx => by
      unfold Builtin.Int.intBits
      split
      · exact Nat.zero_le _
      · exact log2_lt (by decide) hx
    have b1 := hb i h1
    have b2 := hb j h2
    have e3 := of_decide_eq_true e2
    have e4 : (2000 : Nat) < bitsLine := by decide
    omega
theorem op_mulB : OpR X (binaryOp .Mult) (rI CMul fun i j => .int (i * j)) := opI fun _ _ _ _ _ _ _ hc q => mul_int q hc.mulok
theorem q_neg : RU X (unaryOp .USub) negR := ⟨_, un_neg, fun x v H Q μ Q3 m r h k => by
  cases r with
  | int i => exact ⟨i, rfl, k _ _ _ _ h (Kp.refl _) (.int _) m⟩
  | _ => exact False.elim h⟩
theorem q_lt : RO X (compareOp .Lt) ltR := ⟨_, op_lt, RdO.i0 fun _ _ _ => .bl _⟩
theorem q_le : RO X (compareOp .LtE) leR := ⟨_, op_le, RdO.i0 fun _ _ _ => .bl _⟩
theorem q_gt : RO X (compareOp .Gt) gtR := ⟨_, op_gt, RdO.i0 fun _ _ _ => .bl _⟩
theorem q_ge : RO X (compareOp .GtE) geR := ⟨_, op_ge, RdO.i0 fun _ _ _ => .bl _⟩
/-! ### + -/
/-- t + u, any -/
noncomputable def rCatA (K : Fg) : R2 := fun x y H Q => ∃ a b xs ys, x = .ref a ∧ y = .ref b ∧ SqT K H a xs ∧ SqT K H b ys ∧ xs.length + ys.length ≤ sizeLine ∧
  (xs = [] → Q (.ref b) H) ∧ (ys = [] → Q (.ref a) H) ∧ (∀ p, H p = none → Q (.ref p) (upd H p (.tup (xs ++ ys))))
theorem op_catA : OpR X (binaryOp .Add) (rCatA X.K) := by
  intro pins s σ H x y v u Q I rx ry h
  obtain ⟨a, b, xs, ys, rfl, rfl, ha, hb, hz, q1, q2, q3⟩ := h
  by_cases hx : xs = []
  · cases rx
    cases ry
    obtain ⟨its, r, ht, _⟩ := I.tuple ha
    obtain ⟨its2, r2, ht2, _⟩ := I.tuple hb
    have hi : its = [] := by subst hx; cases r; rfl
    obtain ⟨⟨cls, dd, data, sl⟩, ho, hc, n, hd⟩ := id ht
    obtain ⟨⟨cls2, dd2, data2, sl2⟩, ho2, hc2, n2, hd2⟩ := id ht2
    simp only at hc hd hc2 hd2
    subst hc hd hc2 hd2
    exact concat_meets ⟨_, ho, rfl⟩ ⟨_, ho2, rfl⟩ noFill_tuple_add seq_tuple_add PySem.F.slot_tuple_add PySem.F.entry_tuple_add (PySem.F.args_tuple_add_2 _ _)
      (tuple_addW0 a b its.toArray its2.toArray n n2 dd dd2 sl sl2 (by simp [hi])) ⟨ho, ho2, ⟨.ref b, H, I, rfl, q1 hx⟩⟩
  · exact op_catT pins s σ H _ _ v u Q I rx ry ⟨a, b, xs, ys, rfl, rfl, ha, hb, hx, hz, q2, fun _ => q3⟩
theorem q_add : RO X (binaryOp .Add) addR := by
  refine ⟨_, (op_add.or op_add_str).or (op_cat.or op_catA), fun x y v u H Q μ Q3 m rx ry h k => ?_⟩
  cases rx with
  | int i =>
    cases ry with
    | int j => exact .inl (.inl ⟨i, j, rfl, rfl, k _ _ _ _ h (Kp.refl _) (.int _) m⟩)
    | _ => exact False.elim h
  | str i =>
    cases ry with
    | str j => exact .inl (.inr ⟨i, j, rfl, rfl, h.1, k _ _ _ _ h.2 (Kp.refl _) (.str _) m⟩)
    | _ => exact False.elim h
  | ref p =>
    cases ry with
    | ref q =>
      dsimp only [addR] at h
      cases e : μ p with
      | none => rw [e] at h; exact h.elim
      | some oo =>
        cases oo with
        | ins _ _ => rw [e] at h; exact h.elim
        | lst xs =>
          cases e2 : μ q with
          | none => rw [e, e2] at h; exact h.elim
          | some o2 =>
            cases o2 with
            | ins _ _ => rw [e, e2] at h; exact h.elim
            | lst ys =>
              rw [e, e2] at h
              obtain ⟨vs, hv, rv⟩ := m p xs e
              obtain ⟨us, hu, ru⟩ := m q ys e2
              refine .inr (.inl ⟨p, q, vs, us, rfl, rfl, hv, hu, by rw [← rv.length, ← ru.length]; exact h.1, fun t ht => ?_⟩)
              exact k _ _ _ _ (h.2 t (m.free ht)) (Kp.new ht) (.ref t) (m.newL ht (rv.append ru))
    | _ => exact False.elim h
  | tup hq rs =>
    cases ry with
    | tup hq2 rs2 =>
      rename_i a l vs b l2 us
      refine .inr (.inr ⟨a, b, vs, us, rfl, rfl, hq, hq2, by rw [← rs.length, ← rs2.length]; exact h.1, fun e => ?_, fun e => ?_, fun t ht => ?_⟩)
      · subst e; cases rs
        exact k _ _ _ _ h.2 (Kp.refl _) (.tup hq2 rs2) m
      · subst e; cases rs2
        have h2 := h.2
        rw [List.append_nil] at h2
        exact k _ _ _ _ h2 (Kp.refl _) (.tup hq rs) m
      · exact k _ _ _ _ h.2 (Kp.new ht) (.tup (SqT.of upd_same) ((rs.append rs2).mono (Kp.new ht))) (m.newT ht)
    | _ => exact False.elim h
  | _ => cases ry <;> exact False.elim h
/-! ### a[i] -/
theorem RelDs.atI {K : Fg} {H : Hp} {l : List D} {vs : List V} {i : Int} {d : D} (r : RelDs K H l vs) (e : Pv.atI l i = some d) : ∃ v, L2.atI vs i = some v ∧ RelD K H d v := by
  unfold Pv.atI at e
  unfold L2.atI
  rw [ixN_eq, ← r.length]
  cases q : ixN l.length i with
  | none => rw [q] at e; cases e
  | some j =>
    rw [q] at e
    exact r.get e
theorem q_ix : RX X ixR := by
  refine ⟨_, ix_list.or ix_tup, fun x y v u H Q μ Q3 m rx ry h k => ?_⟩
  cases ry with
  | int i =>
    cases rx with
    | tup hq rs =>
      rename_i a l vs
      dsimp only [ixR] at h
      cases e : Pv.atI l i with
      | none => rw [e] at h; exact h.elim
      | some d =>
        rw [e] at h
        obtain ⟨w, e1, r1⟩ := rs.atI e
        exact .inr ⟨a, vs, i, w, rfl, rfl, hq, e1, k _ _ _ _ h (Kp.refl _) r1 m⟩
    | fls hq rs =>
      rename_i a l vs
      dsimp only [ixR] at h
      cases e : Pv.atI l i with
      | none => rw [e] at h; exact h.elim
      | some d =>
        rw [e] at h
        obtain ⟨w, e1, r1⟩ := rs.atI e
        exact .inl ⟨a, vs, i, w, rfl, rfl, hq.l, e1, k _ _ _ _ h (Kp.refl _) r1 m⟩
    | ref p =>
      dsimp only [ixR] at h
      cases e0 : μ p with
      | none => rw [e0] at h; exact h.elim
      | some oo =>
        cases oo with
        | ins _ _ => rw [e0] at h; exact h.elim
        | lst l =>
          rw [e0] at h
          dsimp only at h
          obtain ⟨vs, hv, rs⟩ := m p l e0
          cases e : Pv.atI l i with
          | none => rw [e] at h; exact h.elim
          | some d =>
            rw [e] at h
            obtain ⟨w, e1, r1⟩ := rs.atI e
            exact .inl ⟨p, vs, i, w, rfl, rfl, SqL.of hv, e1, k _ _ _ _ h (Kp.refl _) r1 m⟩
    | _ => exact False.elim h
  | _ => cases rx <;> exact False.elim h
/-! ### in a tuple of texts -/
theorem strs_rel {K : Fg} {H : Hp} : ∀ {l : List D} {vs : List V} {zs : List Str}, RelDs K H l vs → strs? l = some zs → vs = zs.map V.str
  | _, _, zs, .nil, e => by simp [strs?] at e; subst e; rfl
  | _, _, zs, .cons h r, e => by
    cases h with
    | str x =>
      simp only [strs?] at e
      split at e
      · next ys e1 =>
        simp only [Option.some.injEq] at e
        subst e
        rw [strs_rel r e1]; rfl
      · cases e
    | _ => simp [strs?] at e
theorem inV_strs (z : Str) (zs : List Str) : inV (.str z) (zs.map V.str) = zs.contains z := by
  unfold inV
  rw [List.any_map]
  induction zs with
  | nil => rfl
  | cons y r ih =>
    rw [List.any_cons, ih, List.contains_cons]
    congr 1
    show (y == z) = (z == y)
    rw [Bool.eq_iff_iff, beq_iff_eq, beq_iff_eq]
    exact eq_comm
theorem flat_strs (zs : List Str) : (zs.map V.str).all flatV = true := by
  rw [List.all_map, List.all_eq_true]; intro _ _; rfl
/-! ### built-in functions -/
theorem q_len : RC X (.builtin "len") lenR := by
  refine ⟨_, call_len_seq.or call_len_str, fun xs vs H Q μ Q3 m r h k => ?_⟩
  cases r with
  | nil => exact False.elim h
  | cons r1 r2 =>
    cases r2 with
    | cons _ _ => cases r1 <;> exact False.elim h
    | nil =>
      cases r1 with
      | tup hq rs =>
        rename_i a l vs
        refine .inl ⟨a, vs, rfl, .inr hq, ?_⟩
        rw [← rs.length]
        exact k _ _ _ _ h (Kp.refl _) (.int _) m
      | fls hq rs =>
        rename_i a l vs
        refine .inl ⟨a, vs, rfl, .inl hq.l, ?_⟩
        rw [← rs.length]
        exact k _ _ _ _ h (Kp.refl _) (.int _) m
      | str z => exact .inr ⟨z, rfl, h.1, k _ _ _ _ h.2 (Kp.refl _) (.int _) m⟩
      | ref p =>
        dsimp only [lenR] at h
        cases e : μ p with
        | none => rw [e] at h; exact h.elim
        | some oo =>
          cases oo with
          | ins _ _ => rw [e] at h; exact h.elim
          | lst l =>
            rw [e] at h
            obtain ⟨vs, hv, rs⟩ := m p l e
            refine .inl ⟨p, vs, rfl, .inl (SqL.of hv), ?_⟩
            rw [← rs.length]
            exact k _ _ _ _ h (Kp.refl _) (.int _) m
      | _ => exact False.elim h
theorem q_abs : RC X (.builtin "abs") absR := by
  refine ⟨_, call_abs, fun xs vs H Q μ Q3 m r h k => ?_⟩
  cases r with
  | nil => exact False.elim h
  | cons r1 r2 =>
    cases r2 with
    | cons _ _ => cases r1 <;> exact False.elim h
    | nil =>
      cases r1 with
      | int i => exact ⟨i, rfl, k _ _ _ _ h (Kp.refl _) (.int _) m⟩
      | _ => exact False.elim h
end
end Pv

namespace Pv
open PySem PySem.Spec PyProof.Rows L2
section
variable {X : Cx} {pins : List (Addr × Obj)} {σ : L2.St} {H : Hp} {s : Shared}
/-! ### == -/
mutual
theorem reads_of (I : Inv X pins σ H s) : ∀ {d : D} {v : V} {p : PyData} {u : Value}, RelD X.K H d v → dat d = some p → RelV v u → ∃ as, Reads s.heap u p as
  | _, _, p, u, .non, e, r => by simp only [dat, Option.some.injEq] at e; subst e; cases r; exact ⟨_, Reads.none⟩
  | _, _, p, u, .bl b, e, r => by simp only [dat, Option.some.injEq] at e; subst e; cases r; exact ⟨_, Reads.bool b⟩
  | _, _, p, u, .int i, e, r => by simp only [dat, Option.some.injEq] at e; subst e; obtain ⟨t, rfl⟩ := r; exact ⟨_, Reads.int i t⟩
  | _, _, p, u, .str x, e, r => by
    simp only [dat] at e
    split at e
    · simp only [Option.some.injEq] at e; subst e; obtain ⟨t, rfl⟩ := r; exact ⟨_, Reads.str x t⟩
    · cases e
  | _, _, p, u, .ref a, e, r => by simp [dat] at e
  | _, _, p, u, .ty n, e, r => by simp [dat] at e
  | _, _, p, u, .fls _ _, e, r => by simp [dat] at e
  | _, _, p, u, .exc _ _ _, e, r => by simp [dat] at e
  | _, _, p, u, .tup hq rs, e, r => by
    simp only [dat] at e
    split at e
    · next ps e1 =>
      simp only [Option.some.injEq] at e; subst e
      cases r
      obtain ⟨its, rv, ⟨o, ho, hc, n, hd⟩, hz⟩ := I.tuple hq
      obtain ⟨as, q⟩ := readsAll_of I rs e1 rv
      exact ⟨_, Reads.tuple ho hc hd (by simpa using q)⟩
    · cases e
theorem readsAll_of (I : Inv X pins σ H s) : ∀ {l : List D} {vs : List V} {ps : List PyData} {us : List Value}, RelDs X.K H l vs → dats l = some ps → Vals vs us → ∃ as, ReadsAll s.heap us ps as
  | _, _, ps, us, .nil, e, r => by simp only [dats, Option.some.injEq] at e; subst e; cases r; exact ⟨_, ReadsAll.nil⟩
  | _, _, ps, us, .cons h rs, e, r => by
    simp only [dats] at e
    split at e
    · next p e1 =>
      split at e
      · next qs e2 =>
        simp only [Option.some.injEq] at e; subst e
        cases r with
        | cons r1 r2 =>
          obtain ⟨as, q1⟩ := reads_of I h e1 r1
          obtain ⟨bs, q2⟩ := readsAll_of I rs e2 r2
          exact ⟨_, ReadsAll.cons q1 q2⟩
      · cases e
    · cases e
end
theorem readsM_of (I : Inv X pins σ H s) {μ : Mu} (m : RelM X.K μ H) {d : D} {v : V} {p : PyData} {u : Value} (h : RelD X.K H d v) (e : datM μ d = some p) (r : RelV v u) : ∃ as, Reads s.heap u p as := by
  cases h with
  | ref a =>
    simp only [datM] at e
    split at e
    · next l e0 =>
      split at e
      · next ps e1 =>
        simp only [Option.some.injEq] at e; subst e
        cases r
        obtain ⟨vs, hv, rs⟩ := m a l e0
        obtain ⟨its, rv, pl, hz⟩ := I.list (SqL.of hv)
        obtain ⟨o, ho, hc, n, hd⟩ := pl.isList
        obtain ⟨as, q⟩ := readsAll_of I rs e1 rv
        exact ⟨_, Reads.list ho hc hd (by simpa using q)⟩
      · cases e
    · cases e
  | non => exact reads_of I .non e r
  | bl b => exact reads_of I (.bl b) e r
  | int i => exact reads_of I (.int i) e r
  | str x => exact reads_of I (.str x) e r
  | ty n => exact reads_of I (.ty n) e r
  | tup hq rs => exact reads_of I (.tup hq rs) e r
  | fls hq rs => exact reads_of I (.fls hq rs) e r
  | exc a1 a2 a3 => simp [datM, dat] at e
mutual
theorem canLay_dat : ∀ (d : D) (p : PyData), dat d = some p → p.canLay0 = true
  | .non, p, e => by simp only [dat, Option.some.injEq] at e; subst e; rfl
  | .bl b, p, e => by simp only [dat, Option.some.injEq] at e; subst e; rfl
  | .int b, p, e => by simp only [dat, Option.some.injEq] at e; subst e; rfl
  | .str x, p, e => by
    simp only [dat] at e
    split at e
    · next h => simp only [Option.some.injEq] at e; subst e; exact h
    · cases e
  | .tup l, p, e => by
    simp only [dat] at e
    split at e
    · next ps e1 => simp only [Option.some.injEq] at e; subst e; simp only [PyData.canLay0]; exact canLay_dats l ps e1
    · cases e
  | .fls _, p, e => by simp [dat] at e
  | .ref _, p, e => by simp [dat] at e
  | .ty _, p, e => by simp [dat] at e
theorem canLay_dats : ∀ (l : List D) (ps : List PyData), dats l = some ps → PyData.canLayAll0 ps = true
  | [], ps, e => by simp only [dats, Option.some.injEq] at e; subst e; rfl
  | d :: r, ps, e => by
    simp only [dats] at e
    split at e
    · next p e1 =>
      split at e
      · next qs e2 =>
        simp only [Option.some.injEq] at e; subst e
        simp only [PyData.canLayAll0, Bool.and_eq_true]
        exact ⟨canLay_dat d p e1, canLay_dats r qs e2⟩
      · cases e
    · cases e
end
theorem canLay_datM {μ : Mu} {d : D} {p : PyData} (e : datM μ d = some p) : p.canLay0 = true := by
  cases d with
  | ref a =>
    simp only [datM] at e
    split at e
    · next l e0 =>
      split at e
      · next ps e1 => simp only [Option.some.injEq] at e; subst e; simp only [PyData.canLay0]; exact canLay_dats l ps e1
      · cases e
    · cases e
  | non => exact canLay_dat _ p e
  | bl b => exact canLay_dat _ p e
  | int i => exact canLay_dat _ p e
  | str x => exact canLay_dat _ p e
  | ty n => exact canLay_dat _ p e
  | tup l => exact canLay_dat _ p e
  | fls l => exact canLay_dat _ p e
  | exc c => simp [datM, dat] at e
theorem shaped_of {μ : Mu} {d : D} {p : PyData} (e : datM μ d = some p) (h : p.depth ≤ 64) : PySem.SeqAt.shaped p = true := by
  unfold PySem.SeqAt.shaped
  rw [canLay_datM e, decide_eq_true h]; rfl
/-- == of data -/
noncomputable def rEqD (K : Fg) (neg : Bool) : R2 := fun x y H Q => ∃ d e μ p q, RelM K μ H ∧ RelD K H d x ∧ RelD K H e y ∧ datM μ d = some p ∧ datM μ e = some q ∧ p.depth ≤ 64 ∧ q.depth ≤ 64 ∧ Q (.bl (if neg then !PyData.eqv p q else PyData.eqv p q)) H
theorem op_eqD (hu : X.A.units + 64 < cLine) : OpR X (compareOp .Eq) (rEqD X.K false) := by
  intro pins s σ H x y v u Q I rx ry h
  obtain ⟨d, e, μ, p, q, m, rd, re, e1, e2, h1, h2, k⟩ := h
  obtain ⟨as, q1⟩ := readsM_of I m rd e1 rx
  obtain ⟨bs, q2⟩ := readsM_of I m re e2 ry
  exact eq_dataH q1 q2 (shaped_of e1 h1) (shaped_of e2 h2) hu ⟨.bl _, H, I, rfl, k⟩
theorem op_neD (hu : X.A.units + 64 < cLine) : OpR X (compareOp .NotEq) (rEqD X.K true) := by
  intro pins s σ H x y v u Q I rx ry h
  obtain ⟨d, e, μ, p, q, m, rd, re, e1, e2, h1, h2, k⟩ := h
  obtain ⟨as, q1⟩ := readsM_of I m rd e1 rx
  obtain ⟨bs, q2⟩ := readsM_of I m re e2 ry
  exact ne_dataH q1 q2 (shaped_of e1 h1) (shaped_of e2 h2) hu ⟨.bl _, H, I, rfl, k⟩
theorem eqS_v {K : Fg} {H : Hp} {x y : D} {v u : V} {c : Bool} (rx : RelD K H x v) (ry : RelD K H y u) (e : eqS x y = some c) : scal v u = true ∧ decide (v = u) = c := by
  cases rx <;> cases ry <;> first | (cases e; done) | (cases e; exact ⟨rfl, rfl⟩) | (cases e; refine ⟨rfl, ?_⟩; simp)
theorem hu64 {A : Around} {k : Nat} (hr : Room k A) : A.units + 64 < cLine := by have := hr.un; omega
/-- in, of data -/
noncomputable def rInD (K : Fg) (neg : Bool) : R2 := fun x y H Q => ∃ d e μ p xs, ∃ b : Bool, RelM K μ H ∧ RelD K H d x ∧ RelD K H e y ∧ datM μ d = some p ∧ datM μ e = some (if b then .list xs else .tuple xs) ∧ p.depth ≤ 64 ∧ (if b then PyData.list xs else PyData.tuple xs).depth ≤ 64 ∧
  Q (.bl (if neg then !(xs.any fun e => PyData.eqv e p) else xs.any fun e => PyData.eqv e p)) H
theorem op_inD (hu : X.A.units + 65 < cLine) : OpR X (compareOp .In) (rInD X.K false) := by
  intro pins s σ H x y v u Q I rx ry h
  obtain ⟨d, e, μ, p, xs, b, m, rd, re, e1, e2, h1, h2, k⟩ := h
  obtain ⟨as, q1⟩ := readsM_of I m rd e1 rx
  obtain ⟨bs, q2⟩ := readsM_of I m re e2 ry
  cases b
  · exact PySem.SeqAt.in_tuple_reads q2 q1 (PySem.SeqAt.canLay_of_shaped (shaped_of e2 h2)) (PySem.SeqAt.canLay_of_shaped (shaped_of e1 h1)) (room_in_shaped (shaped_of e1 h1) hu) ⟨.bl _, H, I, rfl, k⟩
  · exact PySem.SeqAt.in_list_reads q2 q1 (PySem.SeqAt.canLay_of_shaped (shaped_of e2 h2)) (PySem.SeqAt.canLay_of_shaped (shaped_of e1 h1)) (room_in_shaped (shaped_of e1 h1) hu) ⟨.bl _, H, I, rfl, k⟩
theorem op_notInD (hu : X.A.units + 65 < cLine) : OpR X (compareOp .NotIn) (rInD X.K true) := by
  intro pins s σ H x y v u Q I rx ry h
  obtain ⟨d, e, μ, p, xs, b, m, rd, re, e1, e2, h1, h2, k⟩ := h
  obtain ⟨as, q1⟩ := readsM_of I m rd e1 rx
  obtain ⟨bs, q2⟩ := readsM_of I m re e2 ry
  cases b
  · exact PySem.SeqAt.notIn_tuple_reads q2 q1 (PySem.SeqAt.canLay_of_shaped (shaped_of e2 h2)) (PySem.SeqAt.canLay_of_shaped (shaped_of e1 h1)) (room_in_shaped (shaped_of e1 h1) hu) ⟨.bl _, H, I, rfl, k⟩
  · exact PySem.SeqAt.notIn_list_reads q2 q1 (PySem.SeqAt.canLay_of_shaped (shaped_of e2 h2)) (PySem.SeqAt.canLay_of_shaped (shaped_of e1 h1)) (room_in_shaped (shaped_of e1 h1) hu) ⟨.bl _, H, I, rfl, k⟩
theorem hu65 {A : Around} {k : Nat} (hr : Room k A) : A.units + 65 < cLine := by have := hr.un; omega
theorem inD_v {K : Fg} {neg : Bool} {x y : D} {v u : V} {H : Hp} {Q : VK} {μ : Mu} {Q3 : VK3} (m : RelM K μ H) (rx : RelD K H x v) (ry : RelD K H y u) (h : inD neg x y μ Q3) (k : Ks K H Q3 Q) : rInD K neg v u H Q := by
  unfold inD at h
  split at h
  · next d xs e1 e2 => exact ⟨x, y, μ, d, xs, true, m, rx, ry, e1, e2, h.1.1, h.1.2, k _ _ _ _ h.2 (Kp.refl _) (.bl _) m⟩
  · next d xs e1 e2 => exact ⟨x, y, μ, d, xs, false, m, rx, ry, e1, e2, h.1.1, h.1.2, k _ _ _ _ h.2 (Kp.refl _) (.bl _) m⟩
  · exact h.elim
theorem RdO.inn {K : Fg} {neg : Bool} : RdO K (fun x y H Q => (rIn K neg x y H Q ∨ ∃ i j, x = .str i ∧ y = .str j ∧ Q (.bl (if neg then !(!(Builtin.Str.occurrences j i 0 j.length 1).isEmpty) else !(Builtin.Str.occurrences j i 0 j.length 1).isEmpty)) H) ∨ rInD K neg x y H Q) (inR neg) := fun x y v u H Q μ Q3 m rx ry h k => by
  unfold inR at h
  split at h
  · next z l =>
    cases e : strs? l with
    | none => rw [e] at h; exact .inr (inD_v m rx ry h k)
    | some zs =>
      rw [e] at h
      cases rx
      cases ry with
      | tup hq rs =>
        rename_i a vs
        have ev := strs_rel rs e
        refine .inl <| .inl ⟨a, vs, rfl, .inr hq, rfl, by rw [ev]; exact flat_strs zs, ?_⟩
        rw [ev, inV_strs]
        exact k _ _ _ _ h (Kp.refl _) (.bl _) m
  · next z y =>
    cases rx
    cases ry
    exact .inl <| .inr ⟨z, y, rfl, rfl, k _ _ _ _ h (Kp.refl _) (.bl _) m⟩
  · exact .inr (inD_v m rx ry h k)
theorem q_in (hu : X.A.units + 65 < cLine) : RO X (compareOp .In) (inR false) := ⟨_, (op_in_seq.or op_in_str).or (op_inD hu), RdO.inn⟩
theorem q_notin (hu : X.A.units + 65 < cLine) : RO X (compareOp .NotIn) (inR true) := ⟨_, (op_notIn_seq.or op_notIn_str).or (op_notInD hu), RdO.inn⟩
theorem q_eq (hu : X.A.units + 64 < cLine) : RO X (compareOp .Eq) eqR := by
  refine ⟨_, op_eq.or (op_eqD hu), fun x y v u H Q μ Q3 m rx ry h k => ?_⟩
  unfold eqR at h
  cases e : eqS x y with
  | some c =>
    rw [e] at h
    obtain ⟨h1, h2⟩ := eqS_v rx ry e
    refine .inl ⟨h1, ?_⟩
    rw [h2]
    exact k _ _ _ _ h (Kp.refl _) (.bl _) m
  | none =>
    rw [e] at h
    dsimp only at h
    cases e1 : datM μ x with
    | none => rw [e1] at h; exact h.elim
    | some p =>
      cases e2 : datM μ y with
      | none => rw [e1, e2] at h; exact h.elim
      | some q =>
        rw [e1, e2] at h
        exact .inr ⟨x, y, μ, p, q, m, rx, ry, e1, e2, h.1.1, h.1.2, k _ _ _ _ h.2 (Kp.refl _) (.bl _) m⟩
theorem q_ne (hu : X.A.units + 64 < cLine) : RO X (compareOp .NotEq) neR := by
  refine ⟨_, op_ne.or (op_neD hu), fun x y v u H Q μ Q3 m rx ry h k => ?_⟩
  unfold neR at h
  cases e : eqS x y with
  | some c =>
    rw [e] at h
    obtain ⟨h1, h2⟩ := eqS_v rx ry e
    refine .inl ⟨h1, ?_⟩
    rw [h2]
    exact k _ _ _ _ h (Kp.refl _) (.bl _) m
  | none =>
    rw [e] at h
    dsimp only at h
    cases e1 : datM μ x with
    | none => rw [e1] at h; exact h.elim
    | some p =>
      cases e2 : datM μ y with
      | none => rw [e1, e2] at h; exact h.elim
      | some q =>
        rw [e1, e2] at h
        exact .inr ⟨x, y, μ, p, q, m, rx, ry, e1, e2, h.1.1, h.1.2, k _ _ _ _ h.2 (Kp.refl _) (.bl _) m⟩
/-! ### isinstance -/
theorem isi_tab (K : Fg) : ∀ t ∈ ["int", "str", "tuple", "bool", "NoneType", "list"], ∀ T ∈ ["int", "str", "tuple", "bool", "list"], PySem.W.kitOne K (.type t) (.type T) = some (t == T || (t == "bool" && T == "int")) := by
  intro t ht T hT
  simp only [List.mem_cons, List.not_mem_nil, or_false] at ht hT
  rcases ht with rfl | rfl | rfl | rfl | rfl | rfl <;> rcases hT with rfl | rfl | rfl | rfl | rfl <;> with_unfolding_all rfl
theorem isIn_k {K : Fg} {t T : String} {b : Bool} (e : isIn t T = some b) (ht : t ∈ ["int", "str", "tuple", "bool", "NoneType", "list"]) (hT : T ∈ ["int", "str", "tuple", "bool", "list"]) : PySem.W.kitOne K (.type t) (.type T) = some b := by
  rw [isi_tab K t ht T hT]
  simp only [List.mem_cons, List.not_mem_nil, or_false] at ht hT
  rcases ht with rfl | rfl | rfl | rfl | rfl | rfl <;> rcases hT with rfl | rfl | rfl | rfl | rfl <;> simp [isIn] at e <;> subst e <;> rfl
theorem isIn_T {t T : String} {b : Bool} (e : isIn t T = some b) (ht : t ∈ ["int", "str", "tuple", "bool", "NoneType", "list"]) : T ∈ ["int", "str", "tuple", "bool", "list"] ∨ (t = T ∧ b = true) := by
  unfold isIn at e
  simp only [List.mem_cons, List.not_mem_nil, or_false] at ht ⊢
  split at e
  · next h => simp only [Option.some.injEq] at e; exact .inr ⟨h, e.symm⟩
  · split at e
    · next h => rw [h.2]; simp
    · split at e
      · next h => rcases h.2 with rfl | rfl | rfl | rfl | rfl <;> simp
      · cases e
theorem kit_same (K : Fg) (t : String) : PySem.W.kitOne K (.type t) (.type t) = some true := by
  unfold PySem.W.kitOne
  rw [if_pos (by simp)]
noncomputable def rIsi (K : Fg) : List V → Hp → VK → Prop := fun xs H Q => ∃ d v μ t T b, xs = [v, .ty T] ∧ RelM K μ H ∧ RelD K H d v ∧ tyN μ d = some t ∧ isIn t T = some b ∧ Q (.bl b) H
theorem call_isi : CallR X (.builtin "isinstance") (rIsi X.K) := by
  intro pins s σ H xs us Q I r h
  obtain ⟨d, v, μ, t, T, b, rfl, m, rd, e1, e2, q⟩ := h
  obtain ⟨u, w', rfl, rx, ry⟩ := vals2 r
  cases ry
  have fin : ∀ tk, EP X pins σ Q (.bool b) { s with toks := tk } := fun tk => ⟨.bl b, H, I.tok tk, rfl, q⟩
  have hk : ∀ t', t' ∈ ["int", "str", "tuple", "bool", "NoneType", "list"] → isIn t' T = some b → PySem.W.kitOne X.K (.type t') (.type T) = some b := fun t' h1 h2 => by
    rcases isIn_T h2 h1 with z | ⟨rfl, rfl⟩
    · exact isIn_k h2 h1 z
    · exact kit_same _ _
  cases rd with
  | non => simp only [tyN, Option.some.injEq] at e1; subst e1; cases rx; exact PySem.W.kia_one PySem.W.kitx_none I.kIn True.intro (hk _ (by simp) e2) (fun z => nomatch z) fin
  | bl y => simp only [tyN, Option.some.injEq] at e1; subst e1; cases rx; exact PySem.W.kia_one PySem.W.kitx_bool I.kIn True.intro (hk _ (by simp) e2) (fun z => nomatch z) fin
  | int i => simp only [tyN, Option.some.injEq] at e1; subst e1; obtain ⟨tk, rfl⟩ := rx; exact PySem.W.kia_one PySem.W.kitx_int I.kIn True.intro (hk _ (by simp) e2) (fun z => nomatch z) fin
  | str y => simp only [tyN, Option.some.injEq] at e1; subst e1; obtain ⟨tk, rfl⟩ := rx; exact PySem.W.kia_one PySem.W.kitx_str I.kIn True.intro (hk _ (by simp) e2) (fun z => nomatch z) fin
  | tup hq rs =>
    simp only [tyN, Option.some.injEq] at e1; subst e1; cases rx
    obtain ⟨its, rv, ⟨o, ho, hc, _⟩, hz⟩ := I.tuple hq
    exact PySem.W.kia_one PySem.W.kitx_tuple I.kIn ⟨o, ho, hc⟩ (hk _ (by simp) e2) (fun z => nomatch z) fin
  | ref p =>
    simp only [tyN] at e1
    split at e1
    · next l e0 =>
      simp only [Option.some.injEq] at e1; subst e1; cases rx
      obtain ⟨vs, hv, rs⟩ := m p l e0
      obtain ⟨its, rv, pl, hz⟩ := I.list (SqL.of hv)
      obtain ⟨o, ho, hc, _⟩ := pl.isList
      exact PySem.W.kia_one PySem.W.kitx_list I.kIn ⟨o, ho, hc⟩ (hk _ (by simp) e2) (fun z => nomatch z) fin
    · cases e1
  | ty n => simp [tyN] at e1
  | fls _ _ => simp [tyN] at e1
  | exc _ _ _ => simp [tyN] at e1
theorem q_isi : RC X (.builtin "isinstance") isiR := by
  refine ⟨_, call_isi, fun xs vs H Q μ Q3 m r h k => ?_⟩
  cases r with
  | nil => exact False.elim h
  | cons r1 r2 =>
    cases r2 with
    | nil => exact False.elim h
    | cons r2 r3 =>
      cases r3 with
      | cons _ _ => cases r2 <;> exact False.elim h
      | nil =>
        cases r2 with
        | ty T =>
          rename_i d v
          dsimp only [isiR] at h
          cases e : tyN μ d with
          | none => rw [e] at h; exact h.elim
          | some t =>
            rw [e] at h
            dsimp only at h
            cases e2 : isIn t T with
            | none => rw [e2] at h; exact h.elim
            | some b =>
              rw [e2] at h
              exact ⟨d, v, μ, t, T, b, rfl, m, r1, e, e2, k _ _ _ _ h (Kp.refl _) (.bl _) m⟩
        | _ => exact False.elim h
/-! ### methods of lists -/
variable {o e : Expr} {es : List Expr} {to : TE3} {t : TA3} {apos cpos : Pos}
end
end Pv

namespace Pv
open PySem PySem.Spec PyProof.Rows L2
/-! ### a comprehension: a block of its own within the body -/
noncomputable abbrev compCx (X : Cx) (NN : List Str) (scope : Scope) (cl : List (Str × Addr)) (C : Addr) (fp : List Addr) (s₀ : Shared) (H₀ : Hp) (pn : List (Addr × Obj)) : Cx :=
  { X with N := NN, s₀ := s₀, H₀ := H₀, env := compEnvC scope cl C X.env, outer := X.stack, ex := fp, fn := fun _ => false, pn := pn, xe := fun _ _ => False }
structure CompSc (X : Cx) (NN : List Str) (scope : Scope) (cl : List (Str × Addr)) (js : List (Option Nat)) : Prop where
  clos : closureFor scope X.env = pure cl
  cell : ∀ y ∈ scope.names, y.2 ≠ .cell
  kind : scope.kind = .function
  names : ∀ y ∈ scope.names, y.2 = .local → scope.names.lookup y.1 = some .local
  sub : ∀ x c, cl.lookup x = some c → X.env.cells.lookup x = some c
  has : ∀ x, ((relabel scope X.env).names.lookup x = some .cell ∨ (relabel scope X.env).names.lookup x = some .free) → ∃ c, cl.lookup x = some c
  len : js.length = NN.length
  out : ∀ (i j : Nat), js[i]? = some (some j) → ∃ x, NN[i]? = some x ∧ X.N[j]? = some x ∧ Vis X.env.scope x ∧ X.env.scope.names.lookup x ≠ some .local ∧ ((relabel scope X.env).names.lookup x = some .cell ∨ (relabel scope X.env).names.lookup x = some .free)
theorem lookup_mem {α : Type} {x : Str} {k : α} : ∀ {l : List (Str × α)}, l.lookup x = some k → (x, k) ∈ l
  | [], h => by simp at h
  | (n, k') :: r, h => by
    rw [List.lookup_cons] at h
    split at h
    · next e => simp only [Option.some.injEq] at h; subst h; rw [eq_of_beq e]; exact List.mem_cons_self
    · exact List.mem_cons_of_mem _ (lookup_mem h)
/-- no name of the body's is used in it -/
theorem CompSc.closed {X : Cx} {NN : List Str} {scope : Scope} (hf : ∀ y ∈ scope.names, y.2 ≠ .free) (hc : ∀ y ∈ scope.names, y.2 ≠ .cell) (hk : scope.kind = .function) (hn : ∀ y ∈ scope.names, y.2 = .local → scope.names.lookup y.1 = some .local) :
    CompSc X NN scope [] (NN.map fun _ => none) where
  clos := closureFor_none hf
  cell := hc
  kind := hk
  names := hn
  sub := fun x c h => by simp at h
  has := fun x h => by
    exfalso
    have e : (relabel scope X.env).names = scope.names := map_eq_self (l := scope.names) (fun y hy => by
      obtain ⟨n, k⟩ := y
      have : (k == NameKind.free) = false := by simpa using hf _ hy
      simp [this])
    rw [e] at h
    rcases h with h | h
    · exact hc _ (lookup_mem h) rfl
    · exact hf _ (lookup_mem h) rfl
  len := by simp
  out := fun i j h => by
    rw [List.getElem?_map] at h
    cases q : NN[i]? with
    | none => rw [q] at h; cases h
    | some y => rw [q] at h; simp at h
noncomputable def initV (js : List (Option Nat)) (σ : L2.St) : L2.St := js.map fun j => j.bind fun j => (σ[j]?).bind id
/-- the tests -/
noncomputable def PTs (X : Cx) (ifs : List Expr) (t : TT) : Prop := ∀ (pins : List (Addr × Obj)) (s : Shared) (σ : L2.St) (H : Hp) (Q : Bool → Hp → Prop), Inv X pins σ H s → t σ H Q →
  wpAny (model X.prog X.w) X.A (forIn ifs true fun c r => if r = true then do let ok ← isTrue c X.env (eval c X.env); pure (ForInStep.yield ok) else pure (ForInStep.yield r)) (TP X pins σ Q) X.xe s
theorem pts_nil {X : Cx} : PTs X [] (fun _ H Q => Q true H) := fun _ _ _ H _ I h => wpAny_tests_nil ⟨H, I, h⟩
noncomputable def tComp (js : List (Option Nat)) (wi : TI) (g : TG) (tc : TT) (te : TE) : TE := fun σ H Q => wi σ H fun J H1 => ∀ p, H1 p = none →
  ∃ W : Nat → Nat → L2.St → Hp → Prop, (∃ m, W 0 m (initV js σ) (upd H1 p (.lst []))) ∧ ∀ i m σ' H', W i m σ' H' →
    ((J.stop i H' ∧ Q (.ref p) H') ∨ (J.go i H' ∧ ∀ x H2, J.yld i H' x H2 → g x σ' H2 fun σ3 H3 => tc σ3 H3 fun b H4 =>
      if b = true then te σ3 H4 fun y H5 => ∃ ys, H5 p = some (.lst ys) ∧ ys.length < sizeLine ∧ ∃ m', m' < m ∧ W (i + 1) m' σ3 (upd H5 p (.lst (ys ++ [y]))) else ∃ m', m' < m ∧ W (i + 1) m' σ3 H4))
section
variable {X : Cx} {NN : List Str} {scope : Scope} {cl : List (Str × Addr)} {js : List (Option Nat)}
theorem comp_ok {pins : List (Addr × Obj)} {σ : L2.St} {H : Hp} {s : Shared} {fp : List Addr} {pn : List (Addr × Obj)} (hc : X.calm = true) (S : CompSc X NN scope cl js) (I : Inv X pins σ H s) (f : ∀ b ∈ fp, FpOk X pins H b ∧ b < s.heap.objs.size) :
    (compCx X NN scope cl s.heap.objs.size fp s H pn).Ok where
  mod := I.ok.mod
  kind := S.kind
  glob := I.ok.glob
  blt := I.ok.blt
  above := Nat.le_refl _
  inj := fun x y c h1 h2 => I.ok.inj x y c (S.sub x c h1) (S.sub y c h2)
  has := fun x h => S.has x h
  cab := fun x c h => by cases h
  hd := fun _ => I.ok.hd hc
  frames := I.ok.frames
  stk := .inl rfl
  exf := fun b hb => ⟨Nat.ne_of_lt (f b hb).2, fun x c e => (f b hb).1.2.2.2.2.1 x c (S.sub x c e)⟩
  bs := I.bs
  bsz := Nat.le_trans I.ok.bsz I.sz
  noex := fun b o e hb => by
    rcases (f b hb).1.2.2.2.1 with z | z
    · exact I.ok.noex b o e z
    · exact absurd (Nat.lt_of_lt_of_le (Heap.lt_size e) (Nat.le_trans I.ok.bsz z)) (Nat.lt_irrefl _)
  exfs := fun b hb hfs => by
    rcases List.mem_cons.mp (I.stkSub b hfs) with z | z
    · exact (f b hb).1.2.1 z
    · exact (f b hb).1.2.2.1 z
  funs := I.stack
  frf := I.stkFree
theorem initV_get {js : List (Option Nat)} {σ : L2.St} {i : Nat} {v : V} (h : (initV js σ)[i]? = some (some v)) : ∃ j, js[i]? = some (some j) ∧ σ[j]? = some (some v) := by
  unfold initV at h
  rw [List.getElem?_map] at h
  cases q : js[i]? with
  | none => rw [q] at h; cases h
  | some o =>
    rw [q] at h
    cases o with
    | none => simp at h
    | some j =>
      refine ⟨j, rfl, ?_⟩
      simp only [Option.map_some, Option.bind_some, Option.some.injEq] at h
      cases e : σ[j]? with
      | none => rw [e] at h; simp at h
      | some w => rw [e] at h; simp only [Option.bind_some, id] at h; rw [h]
theorem comp_inv0 {pins : List (Addr × Obj)} {σ : L2.St} {H : Hp} {s : Shared} {fp : List Addr} {h₁ : Heap} {m : Str → Option Value} {tk : Nat} (hc : X.calm = true) (S : CompSc X NN scope cl js) (I : Inv X pins σ H s) (f : ∀ b ∈ fp, FpOk X pins H b ∧ b < s.heap.objs.size)
    (hn : h₁.Ns s.heap.objs.size m) (k : ∀ b u, s.heap.get? b = some u → h₁.get? b = some u) : Inv (compCx X NN scope cl s.heap.objs.size fp s H (X.pn ++ pins)) [] (initV js σ) H { s with heap := h₁, toks := tk } where
  ok := comp_ok hc S I f
  os := rfl
  bare := I.bare
  base := Un.kept k
  loc := by
    refine ⟨m, hn, fun i x v h1 h2 h3 => ?_⟩
    obtain ⟨j, e1, e2⟩ := initV_get h2
    obtain ⟨y, q1, q2, q3, q4, q5⟩ := S.out i j e1
    have q1' : NN[i]? = some x := h1
    rw [q1] at q1'; cases q1'
    obtain ⟨mX, _, hl⟩ := I.loc
    obtain ⟨u, r, l⟩ := hl j x v q2 e2 q3
    refine ⟨u, r, .inr ⟨q5, ?_⟩⟩
    rcases l with ⟨z, _⟩ | ⟨_, c, hc', hcell⟩
    · exact absurd z q4
    · obtain ⟨c', hc2⟩ := S.has x q5
      have e := S.sub x c' hc2
      rw [hc'] at e; cases e
      obtain ⟨o, ho, hd⟩ := hcell
      exact ⟨c, hc2, o, k _ _ ho, hd⟩
  cell := fun x c e => by
    obtain ⟨v, o, ho, hd⟩ := I.cell x c (S.sub x c e)
    exact ⟨v, o, k _ _ ho, hd⟩
  free := I.hok.fresh (Nat.le_refl _)
  freeC := fun x c e => I.freeC x c (S.sub x c e)
  pin := fun p hp => by
    have hp' : p ∈ X.pn ++ pins := by simpa using hp
    obtain ⟨h1, h2, h3, h4, h5⟩ := I.pin p hp'
    refine ⟨k _ _ h1, h2, Nat.ne_of_lt (Heap.lt_size h1), fun z => ?_, h5⟩
    rcases List.mem_cons.mp (I.stkSub _ z) with z | z
    · exact h3 z
    · exact h4 z
  hok := I.hok.kept k
  len := by show (initV js σ).length = NN.length; unfold initV; rw [List.length_map]; exact S.len
theorem pe_comp {elt target iter : Expr} {ifs : List Expr} {pos : Pos} {wi : TI} {g : TG} {tc : TT} {te : TE} (hc : X.calm = true) (S : CompSc X NN scope cl js) (hi : PI X target iter wi)
    (hg : ∀ C fp s₀ H₀ pn, PG (compCx X NN scope cl C fp s₀ H₀ pn) target g) (ht : ∀ C fp s₀ H₀ pn, PTs (compCx X NN scope cl C fp s₀ H₀ pn) ifs tc) (he : ∀ C fp s₀ H₀ pn, PE (compCx X NN scope cl C fp s₀ H₀ pn) elt te)
    (hs : ∀ x, foldedSetIterable iter X.env x = pure x) : PE X (.ListComp elt [⟨target, iter, ifs, 0⟩] scope pos) (tComp js wi g tc te) := by
  intro pins s σ H Q I h
  rw [eval_ListComp]
  refine wpAny_comprehension_free (use := none) rfl hs S.clos S.kind S.names (thn (hi pins s σ H _ I h) fun xv s1 h1 => thn h1 fun itv s2 h2 => ?_)
  obtain ⟨it, fp, tn, J, H2, rfl, I2, T, st2, f2, hW⟩ := h2
  refine wpAny_newObj_type (wpAny_newFunctionEnv S.cell (by intro y hy; simp at hy) (fun h₁ hns₁ hsb₁ => ?_) S.kind)
  dsimp only at hns₁ hsb₁ ⊢
  have hD : H2 s2.heap.objs.size = none := I2.hok.fresh (Nat.le_refl _)
  have I3 : Inv X pins σ (upd H2 s2.heap.objs.size (.lst [])) { s2 with heap := s2.heap.push { cls := .type "list", dict := none, data := .seq ([] : List Value).toArray } } :=
    I2.lnew (t' := s2.toks) (its := []) .nil (by rw [sizeLine_eq]; decide)
  generalize hsD : ({ s2 with heap := s2.heap.push { cls := .type "list", dict := none, data := .seq ([] : List Value).toArray } } : Shared) = sD at I3
  have eh : sD.heap = s2.heap.push { cls := .type "list", dict := none, data := .seq ([] : List Value).toArray } := by rw [← hsD]
  have es : ∀ (h : Heap) (tk : Nat), ({ s2 with heap := h, toks := tk } : Shared) = { sD with heap := h, toks := tk } := fun h tk => by rw [← hsD]
  have hsz : s2.heap.objs.size < sD.heap.objs.size := by rw [eh, Heap.size_push]; exact Nat.lt_succ_self _
  rw [← eh] at hns₁ hsb₁ ⊢
  generalize hp0 : s2.heap.objs.size = p0 at *
  have up : ∀ b u, s2.heap.get? b = some u → sD.heap.get? b = some u := fun b u e => by rw [eh]; exact Heap.get?_push_of_some _ e
  have k : ∀ b u, sD.heap.get? b = some u → h₁.get? b = some u := fun b u e => hsb₁.extBut b u (Nat.ne_of_lt (Heap.lt_size e)) (Heap.get?_push_of_some _ e)
  have f3 : ∀ b ∈ fp, FpOk X pins (upd H2 p0 (.lst [])) b ∧ b < sD.heap.objs.size := fun b hb => by
    obtain ⟨o, ho, _⟩ := T.obj 0 _ st2 b hb
    have hlt : b < p0 := by rw [← hp0]; exact Heap.lt_size ho
    refine ⟨⟨?_, (f2 b hb).2⟩, Nat.lt_trans hlt hsz⟩
    rw [upd_ne (Nat.ne_of_lt hlt)]; exact (f2 b hb).1
  obtain ⟨W, ⟨m0, w0⟩, turn⟩ := hW p0 hD
  have I4 := comp_inv0 (tk := s2.toks + ([] : List (Str × Value)).length) hc S I3 f3 hns₁ k
  have st4 : tn 0 h₁ := T.keep 0 _ _ st2 fun b _ o e => k b o (up b o e)
  rw [es]
  generalize hX' : compCx X NN scope cl sD.heap.objs.size fp sD (upd H2 p0 (.lst [])) (X.pn ++ pins) = X' at I4
  have a1 : X'.env = compEnvC scope cl sD.heap.objs.size X.env := by rw [← hX']
  have a2 : X'.prog = X.prog := by rw [← hX']
  have a3 : X'.w = X.w := by rw [← hX']
  have a4 : X'.A = X.A := by rw [← hX']
  have a5 : X'.K = X.K := by rw [← hX']
  have a6 : X'.calm = true := by rw [← hX']; exact hc
  have a7 : X'.xe = fun _ _ => False := by rw [← hX']
  have a8 : X'.ex = fp := by rw [← hX']
  have T' : Turn X'.prog X'.w X'.K target J fp it tn := by rw [a2, a3, a5]; exact T
  have hg' : PG X' target g := by rw [← hX']; exact hg _ _ _ _ _
  have ht' : PTs X' ifs tc := by rw [← hX']; exact ht _ _ _ _ _
  have he' : PE X' elt te := by rw [← hX']; exact he _ _ _ _ _
  have fin : ∀ {σ' : L2.St} {H' : Hp} {s' : Shared}, Inv X' [] σ' H' s' → Q (.ref p0) H' → compPost (model X.prog X.w) X.A X.xe none (EP X pins σ Q) (.ref p0) sD.heap.objs.size (.ok .next) s' := fun {σ' H' s'} I' q => by
    obtain ⟨m', hn', _⟩ := I'.loc
    rw [a1] at hn'
    refine ⟨m', hn', fun h' sb => ?_⟩
    have u : Un (frs X.stack) fp (upd H2 p0 (.lst [])) H' sD.heap s'.heap := by
      have := I'.base
      rw [← hX'] at this
      exact this
    have hch : ∀ b ∈ fp, (b ∈ X.ex ∨ X.s₀.heap.objs.size ≤ b) ∧ b ≠ X.env.locals ∧ (∀ x c, X.env.cells.lookup x = some c → c ≠ b) ∧ ∀ p ∈ X.pn ++ pins, p.1 ≠ b := fun b hb => by
      obtain ⟨_, z1, _, z3, z4, z5⟩ := (f3 b hb).1
      exact ⟨z3, z1, z4, z5⟩
    have os' : s'.os = sD.os := by
      have := I'.os
      rw [← hX'] at this
      exact this
    have hok' : HOk X.prog X.w H' s'.heap := by
      have := I'.hok
      rw [← hX'] at this
      exact this
    have I5 : Inv X pins σ H' s' := I3.call' os' u hok' I'.bare hch
    have hC : H' sD.heap.objs.size = none := by
      have := I'.free
      rw [a1] at this
      exact this
    refine ⟨.ref p0, H', I5.turned (t' := s'.toks) (it := sD.heap.objs.size) (fun b o hb e => sb.extBut b o hb e) hC (Nat.ne_of_gt I3.lt) (.inr I3.sz) (fun x c e => ?_) (fun p hp => ?_), rfl, q⟩
    · obtain ⟨v, o, ho, _⟩ := I3.cell x c e
      exact Nat.ne_of_lt (Heap.lt_size ho)
    · exact Nat.ne_of_lt (Heap.lt_size (I3.pin p hp).1)
  have fp4 : ∀ {H' : Hp}, (∀ b ∈ fp, H' b = none) → ∀ b ∈ fp, FpOk X' [] H' b := fun hn b hb => by
    obtain ⟨_, z1, z2, z3, z4, z5⟩ := (f3 b hb).1
    rw [← hX']
    refine ⟨hn b hb, Nat.ne_of_lt (f3 b hb).2, fun z => ?_, .inl hb, fun x c e => z4 x c (S.sub x c e), fun p hp => z5 p (by simpa using hp)⟩
    rcases List.mem_cons.mp (I3.stkSub _ z) with z | z
    · exact z1 z
    · exact z2 z
  have loop : ∀ s₃ : Shared, Inv X' [] (initV js σ) (upd H2 p0 (.lst [])) s₃ → tn 0 s₃.heap →
      codeAny (model X.prog X.w) X.A (.compLoop (.ListComp elt [⟨target, iter, ifs, 0⟩] scope pos) 0 (.ref it) (.ref p0) (compEnvC scope cl sD.heap.objs.size X.env)) (compPost (model X.prog X.w) X.A X.xe none (EP X pins σ Q) (.ref p0) sD.heap.objs.size) s₃ := by
    intro s₃ I₃ st₃
    refine codeAny_loop rfl (fun n s' => ∃ i σ' H', Inv X' [] σ' H' s' ∧ tn i s'.heap ∧ (∀ b ∈ fp, H' b = none) ∧ W i n σ' H') (fun n s' hI => ?_) m0 ⟨0, initV js σ, _, I₃, st₃, fun b hb => (f3 b hb).1.1, w0⟩
    obtain ⟨i, σ3, H3, J3, st3, fr3, w3⟩ := hI
    have tr := turn i n σ3 H3 w3
    show wpAny _ X.A ((compTurn (.ListComp elt [⟨target, iter, ifs, 0⟩] scope pos) 0 (.ref it) (.ref p0) (compEnvC scope cl sD.heap.objs.size X.env)).onRaise (fun x => do noteFrame x (compEnvC scope cl sD.heap.objs.size X.env); theTreesLotGoes x)) _ _ s'
    refine wpAny_noted ?_
    rw [compTurn_list, ← a1, ← a2, ← a3, ← a4]
    have nof : ∀ {α : Type} {t : Sem α} {Q' : α → Shared → Prop} {s'' : Shared} {E : Value → Shared → Prop}, wpAny (model X'.prog X'.w) X'.A t Q' X'.xe s'' → wpAny (model X'.prog X'.w) X'.A t Q' E s'' := fun h => wpAny_mono h (fun _ _ q => q) fun _ _ z => by rw [a7] at z; exact z.elim
    rcases tr with ⟨stop, qn⟩ | ⟨go, step⟩
    · refine wpAny_bind (wpAny_standAt (wpAny_bind (nof (thn (T'.done X' rfl rfl rfl a6 i [] s' σ3 H3 X'.xe J3 (fp4 fr3) st3 stop) fun r s4 ⟨hr, J4⟩ => ?_))))
      subst hr
      exact wpAny_pure (fin J4 qn)
    · refine wpAny_bind (wpAny_standAt (wpAny_bind (nof (thn (T'.item X' rfl rfl rfl a6 i [] s' σ3 H3 X'.xe J3 (fp4 fr3) st3 go) fun r s4 ⟨u, hr, h4⟩ => ?_))))
      subst hr
      refine wpAny_bind (nof (thn h4 fun _ s5 ⟨x, H5, I5, r5, y5, st5, fr5⟩ => ?_))
      have I5' := I5.pinned (fp4 fr5) (T.obj _ _ st5)
      refine wpAny_bind (nof (thn (hg' _ s5 σ3 H5 x u _ I5' r5 (step x H5 y5)) fun _ s6 ⟨σ6, H6, I6, q6⟩ => ?_))
      refine wpAny_bind (nof (thn (ht' _ s6 σ6 H6 _ I6 q6) fun ok s7 ⟨H7, I7, q7⟩ => ?_))
      have again : ∀ {s8 : Shared} {σ8 : L2.St} {H8 : Hp}, Inv X' ([] ++ pinsAt fp s5.heap) σ8 H8 s8 → (∃ m', m' < n ∧ W (i + 1) m' σ8 H8) → ∃ m, m < n ∧ ∃ i σ' H', Inv X' [] σ' H' s8 ∧ tn i s8.heap ∧ (∀ b ∈ fp, H' b = none) ∧ W i m σ' H' := fun {s8 σ8 H8} I8 ⟨m', hm, w8⟩ => by
        refine ⟨m', hm, i + 1, σ8, H8, I8.unpinned, T.keep _ _ _ st5 fun b hb o e => (I8.pin (b, o) (List.mem_append_right _ (List.mem_append_right _ (mem_pinsAt hb e)))).1, fun b hb => ?_, w8⟩
        obtain ⟨o, e, d⟩ := T.obj _ _ st5 b hb
        exact (I8.pin (b, o) (List.mem_append_right _ (List.mem_append_right _ (mem_pinsAt hb e)))).2.1
      cases ok with
      | false => exact wpAny_pure ⟨rfl, again I7 q7⟩
      | true =>
        refine wpAny_bind (wpAny_bind (nof (thn (he' _ s7 σ6 H7 _ I7 q7) fun xv s8 ⟨y, H8, I8, r8, ys, q8, hlen, q9⟩ => wpAny_bind (nof ?_))))
        refine thn (mt_append (X := X') _ s8 σ6 H8 (.ref p0) [y] (.ref p0) [xv] (fun v H9 => v = .non ∧ H9 = upd H8 p0 (.lst (ys ++ [y]))) I8 rfl (.cons r8 .nil) ⟨p0, ys, y, rfl, rfl, q8, hlen, rfl, rfl⟩) fun rv s9 ⟨v9, H9, I9, _, _, e9⟩ => ?_
        subst e9
        exact wpAny_pure (wpAny_pure ⟨rfl, again I9 q9⟩)
  exact codeAny_compStart_list (loop _ I4 st4) (T.self X.A 0 _ _ _ st4 (loop _ I4 st4))
end
end Pv

namespace Pv
open PySem PySem.Spec PyProof.Rows L2
theorem bz_len : bootBuiltins "len" = some (.builtin "len") := by decide +kernel
theorem bz_abs : bootBuiltins "abs" = some (.builtin "abs") := by decide +kernel
theorem bz_isinstance : bootBuiltins "isinstance" = some (.builtin "isinstance") := by decide +kernel
theorem bz_tuple : bootBuiltins "tuple" = some (.type "tuple") := by decide +kernel
theorem bz_int : bootBuiltins "int" = some (.type "int") := by decide +kernel
theorem bz_bool : bootBuiltins "bool" = some (.type "bool") := by decide +kernel
theorem bz_list : bootBuiltins "list" = some (.type "list") := by decide +kernel
theorem bz_all : bootBuiltins "all" = some (.builtin "all") := by decide +kernel
theorem bz_min : bootBuiltins "min" = some (.builtin "min") := by decide +kernel
theorem bz_max : bootBuiltins "max" = some (.builtin "max") := by decide +kernel
theorem bz_range : bootBuiltins "range" = some (.type "range") := by decide +kernel
noncomputable def RTs (X : Cx) (ifs : List Expr) (t : TT3) : Prop := ∃ tv, PTs X ifs tv ∧ RdT X.K tv t
theorem rts_nil {X : Cx} : RTs X [] tt3 := ⟨_, pts_nil, fun σ H Q ρ μ Q3 s m h k => k _ _ _ h (Kp.refl _) m⟩
theorem init_rel {K : Fg} {H : Hp} {ρ : St3} {σ : L2.St} (s : RSt K H ρ σ) (js : List (Option Nat)) : RSt K H (js.map fun j => j.bind (getI ρ)) (initV js σ) := by
  refine ⟨by simp [initV], fun i d e => ?_⟩
  rw [getI_eq, List.getElem?_map] at e
  unfold initV
  rw [List.getElem?_map]
  cases q : js[i]? with
  | none => rw [q] at e; cases e
  | some o =>
    rw [q] at e
    cases o with
    | none => simp at e
    | some j =>
      have e' : getI ρ j = some d := by simpa using e
      obtain ⟨v, h1, h2⟩ := s.at' j d e'
      exact ⟨v, by simp [h1], h2⟩
theorem RdE.comp {K : Fg} {js : List (Option Nat)} {wi : TI} {g : TG} {tc : TT} {te : TE} {ti : TI3} {g3 : TG3} {tc3 : TT3} {te3 : TE3} (ri : RdI K wi ti) (rg : RdG K g g3) (rt : RdT K tc tc3) (re : RdE K te te3) : RdE K (tComp js wi g tc te) (comp3 js ti g3 tc3 te3) := by
  intro σ H Q ρ μ Q3 s m h k
  refine ri σ H _ ρ μ _ s m h fun l S μ1 J H1 h1 k1 m1 ok p hp => ?_
  obtain ⟨W, w0, hS, hn, hs⟩ := h1 p (m1.free hp)
  have kn : Kp H1 (upd H1 p (.lst [])) := Kp.new hp
  refine ⟨fun i n σ2 H2 => n = l.length - i ∧ i ≤ l.length ∧ ∃ ρ2 μ2 ys, RSt K H2 ρ2 σ2 ∧ RelM K μ2 H2 ∧ Kp H1 H2 ∧ W (l.drop i) ys ρ2 μ2, ⟨l.length, rfl, Nat.zero_le _, _, _, [], (init_rel (s.mono k1) js).mono kn, m1.newL hp .nil, kn, w0⟩, ?_⟩
  rintro i n σ2 H2 ⟨rfl, hi, ρ2, μ2, ys, s2, m2, k2, w2⟩
  obtain ⟨hS2, hp2⟩ := hS _ _ _ _ w2
  by_cases hlt : i < l.length
  · rw [List.drop_eq_getElem_cons hlt] at w2
    obtain ⟨hz, h2⟩ := hs _ _ _ _ _ w2
    obtain ⟨ok1, _⟩ := ok i H2 μ2 k2 m2 hS2
    obtain ⟨go, yl⟩ := ok1 l[i] (List.getElem?_eq_getElem hlt)
    refine .inr ⟨go, fun x H3 y => ?_⟩
    obtain ⟨k3, m3, r3⟩ := yl x H3 y
    refine rg x l[i] σ2 H3 _ ρ2 μ2 _ (s2.mono k3) m3 r3 h2 fun ρ4 μ4 σ4 H4 h4 k4 s4 m4 => ?_
    refine rt σ4 H4 _ ρ4 μ4 _ s4 m4 h4 fun b μ5 H5 h5 k5 m5 => ?_
    have k15 : Kp H1 H5 := k2.trans (k3.trans (k4.trans k5))
    cases b with
    | false => exact ⟨l.length - (i + 1), by omega, rfl, hlt, ρ4, μ5, ys, s4.mono k5, m5, k15, h5⟩
    | true =>
      refine re σ4 H5 _ ρ4 μ5 _ (s4.mono k5) m5 h5 fun d μ6 v H6 h6 k6 r6 m6 => ?_
      obtain ⟨vs, hv, rv⟩ := m6 p ys h6.1
      refine ⟨vs, hv, by rw [← rv.length]; exact hz, l.length - (i + 1), by omega, rfl, hlt, ρ4, _, _, ((s4.mono k5).mono k6).mono (Kp.wr hv), m6.wr hv (rv.append (.cons r6 .nil)), (k15.trans k6).trans (Kp.wr hv), h6.2⟩
  · have e : i = l.length := by omega
    subst e
    rw [List.drop_length] at w2
    exact .inl ⟨(ok _ H2 μ2 k2 m2 hS2).2 (Nat.le_refl _), k _ _ _ _ (hn _ _ _ w2) (k1.trans k2) (.ref p) m2⟩
section
variable {X : Cx} {elt target iter : Expr} {ifs : List Expr} {pos : Pos} {ti : TI3} {g : TG3} {tc : TT3} {te : TE3} {NN : List Str} {scope : Scope} {cl : List (Str × Addr)} {js : List (Option Nat)}
theorem re_compG (hc : X.calm = true) (S : CompSc X NN scope cl js) (hi : RI X target iter ti) (hg : ∀ C fp s₀ H₀ pn, RG (compCx X NN scope cl C fp s₀ H₀ pn) target g)
    (ht : ∀ C fp s₀ H₀ pn, RTs (compCx X NN scope cl C fp s₀ H₀ pn) ifs tc) (he : ∀ C fp s₀ H₀ pn, RE (compCx X NN scope cl C fp s₀ H₀ pn) elt te)
    (hs : ∀ x, foldedSetIterable iter X.env x = pure x) : RE X (.ListComp elt [⟨target, iter, ifs, 0⟩] scope pos) (comp3 js ti g tc te) := by
  obtain ⟨wi, pi, ri⟩ := hi
  -- one reading for all blocks: the union of theirs
  let gU : TG := fun v σ H Q => ∀ (r : TG3), r = g → ∃ d ρ μ Q3, RSt X.K H ρ σ ∧ RelM X.K μ H ∧ RelD X.K H d v ∧ g d ρ μ Q3 ∧ (∀ ρ' μ' σ' H', Q3 ρ' μ' → Kp H H' → RSt X.K H' ρ' σ' → RelM X.K μ' H' → Q σ' H')
  let tU : TT := fun σ H Q => ∃ ρ μ Q3, RSt X.K H ρ σ ∧ RelM X.K μ H ∧ tc ρ μ Q3 ∧ (∀ b μ' H', Q3 b μ' → Kp H H' → RelM X.K μ' H' → Q b H')
  let eU : TE := fun σ H Q => ∃ ρ μ Q3, RSt X.K H ρ σ ∧ RelM X.K μ H ∧ te ρ μ Q3 ∧ Ks X.K H Q3 Q
  have hg' : ∀ C fp s₀ H₀ pn, PG (compCx X NN scope cl C fp s₀ H₀ pn) target gU := fun C fp s₀ H₀ pn => by
    obtain ⟨tv, p, r⟩ := hg C fp s₀ H₀ pn
    intro pins s σ H v u Q I rv h
    obtain ⟨d, ρ, μ, Q3, a1, a2, a3, a4, a5⟩ := h g rfl
    exact p pins s σ H v u Q I rv (r v d σ H Q ρ μ Q3 a1 a2 a3 a4 a5)
  have ht' : ∀ C fp s₀ H₀ pn, PTs (compCx X NN scope cl C fp s₀ H₀ pn) ifs tU := fun C fp s₀ H₀ pn => by
    obtain ⟨tv, p, r⟩ := ht C fp s₀ H₀ pn
    intro pins s σ H Q I h
    obtain ⟨ρ, μ, Q3, a1, a2, a3, a4⟩ := h
    exact p pins s σ H Q I (r σ H Q ρ μ Q3 a1 a2 a3 a4)
  have he' : ∀ C fp s₀ H₀ pn, PE (compCx X NN scope cl C fp s₀ H₀ pn) elt eU := fun C fp s₀ H₀ pn => by
    obtain ⟨tv, p, r⟩ := he C fp s₀ H₀ pn
    intro pins s σ H Q I h
    obtain ⟨ρ, μ, Q3, a1, a2, a3, a4⟩ := h
    exact p pins s σ H Q I (r σ H Q ρ μ Q3 a1 a2 a3 a4)
  exact ⟨_, pe_comp hc S pi hg' ht' he' hs, RdE.comp ri (fun v d σ H Q ρ μ Q3 a1 a2 a3 a4 a5 _ _ => ⟨d, ρ, μ, Q3, a1, a2, a3, a4, a5⟩) (fun σ H Q ρ μ Q3 a1 a2 a3 a4 => ⟨ρ, μ, Q3, a1, a2, a3, a4⟩) (fun σ H Q ρ μ Q3 a1 a2 a3 a4 => ⟨ρ, μ, Q3, a1, a2, a3, a4⟩)⟩
/-- no name of the body's is used within -/
theorem re_comp (hf : ∀ y ∈ scope.names, y.2 ≠ .free) (hcl : ∀ y ∈ scope.names, y.2 ≠ .cell) (hn : ∀ y ∈ scope.names, y.2 = .local → scope.names.lookup y.1 = some .local) (hi : RI X target iter ti) (hg : ∀ C fp s₀ H₀ pn, RG (compCx X NN scope [] C fp s₀ H₀ pn) target g)
    (ht : ∀ C fp s₀ H₀ pn, RTs (compCx X NN scope [] C fp s₀ H₀ pn) ifs tc) (he : ∀ C fp s₀ H₀ pn, RE (compCx X NN scope [] C fp s₀ H₀ pn) elt te) (hc : X.calm = true := by rfl) (hk : scope.kind = .function := by rfl)
    (hs : ∀ x, foldedSetIterable iter X.env x = pure x := by intro _; rfl) : RE X (.ListComp elt [⟨target, iter, ifs, 0⟩] scope pos) (comp3 (NN.map fun _ => none) ti g tc te) :=
  re_compG hc (CompSc.closed hf hcl hk hn) hi hg ht he hs
end
end Pv

namespace Pv
open PySem PySem.Spec PyProof.Rows L2
/-! ### the module's constants -/
mutual
inductive TupK (K : Fg) : List D → Addr → Prop where
  | mk {a : Addr} {l : List D} {its : Array Value} {n : Nat} {od : Option Addr} {sl : Array (Option Value)} : K.lookup a = some ⟨.type "tuple", od, .seq its n, sl⟩ → its.size ≤ sizeLine → ItK K l its.toList → TupK K l a
inductive ItK (K : Fg) : List D → List Value → Prop where
  | nil : ItK K [] []
  | int {i : Int} {t : Tok} {l : List D} {us : List Value} : ItK K l us → ItK K (.int i :: l) (.int i t :: us)
  | str {x : Str} {t : Tok} {l : List D} {us : List Value} : ItK K l us → ItK K (.str x :: l) (.str x t :: us)
  | bl {b : Bool} {l : List D} {us : List Value} : ItK K l us → ItK K (.bl b :: l) (.bool b :: us)
  | tup {a : Addr} {l' l : List D} {us : List Value} : TupK K l' a → ItK K l us → ItK K (.tup l' :: l) (.ref a :: us)
end
mutual
theorem TupK.rel {K : Fg} : ∀ {l : List D} {a : Addr}, TupK K l a → ∀ H, RelD K H (.tup l) (.ref a)
  | _, _, .mk h1 h2 h3, H => by
    obtain ⟨vs, r, rd⟩ := h3.rel
    exact .tup (.inr ⟨_, _, _, h1, rfl, rfl, h2, r⟩) (rd H)
theorem ItK.rel {K : Fg} : ∀ {l : List D} {us : List Value}, ItK K l us → ∃ vs, Vals vs us ∧ ∀ H, RelDs K H l vs
  | _, _, .nil => ⟨[], .nil, fun _ => .nil⟩
  | _, _, .int h => let ⟨vs, r, rd⟩ := h.rel; ⟨_, .cons (show RelV (.int _) _ from ⟨_, rfl⟩) r, fun H => .cons (.int _) (rd H)⟩
  | _, _, .str h => let ⟨vs, r, rd⟩ := h.rel; ⟨_, .cons (show RelV (.str _) _ from ⟨_, rfl⟩) r, fun H => .cons (.str _) (rd H)⟩
  | _, _, .bl h => let ⟨vs, r, rd⟩ := h.rel; ⟨_, .cons (show RelV (.bl _) _ from rfl) r, fun H => .cons (.bl _) (rd H)⟩
  | _, _, .tup h0 h => let ⟨vs, r, rd⟩ := h.rel; ⟨_, .cons (show RelV (.ref _) _ from rfl) r, fun H => .cons (h0.rel H) (rd H)⟩
end
section
variable {K : Fg} {h : Heap} {mg : Str → Option Value} {x : Str}
theorem gd_int {i : Int} {t : Tok} (X : K.In h) (G : h.Ns mainGlobals mg) (e : PySem.W.nsIn K mainGlobals x = some (some (.int i t))) : Gd K mg x (.int i) := ⟨_, .int i, PySem.W.mg_of X G e, ⟨_, rfl⟩, fun _ => .int i⟩
theorem gd_tup {a : Addr} {l : List D} (X : K.In h) (G : h.Ns mainGlobals mg) (e : PySem.W.nsIn K mainGlobals x = some (some (.ref a))) (r : TupK K l a) : Gd K mg x (.tup l) := ⟨_, .ref a, PySem.W.mg_of X G e, rfl, fun H => r.rel H⟩
end
/-! ### the law's own call -/
theorem ints_rels {K : Fg} {H : Hp} : ∀ ns : List Int, RelDs K H (ns.map D.int) (ns.map V.int)
  | [] => .nil
  | n :: r => .cons (.int n) (ints_rels r)
theorem law_lift {K : Fg} {H : Hp} {a : Addr} {ns : List Int} {sp : Sp3} (hO : Only H) (hS : SqL K H a (ns.map V.int)) (h : sp [.fls (ns.map D.int)] (fun _ => none) (fun d _ => d = .bl true)) :
    lift K sp [.ref a] H (fun v _ => v = .bl true) fun _ _ _ => False := by
  have hF : SqF K H a (ns.map V.int) := by
    rcases hS with (h1 | ⟨o, h1⟩) | h1
    · rcases hO a with z | ⟨o, xs, z⟩
      · rw [h1] at z; cases z
      · rw [h1] at z; cases z
    · exact .inl ⟨o, h1⟩
    · exact .inr h1
  refine ⟨_, _, _, .cons (.fls hF (ints_rels ns)) .nil, (⟨fun p xs e => (by cases e), fun p c fs e => (by cases e)⟩), h, fun d μ' v H' q _ r _ => ?_⟩
  subst q
  cases r
  rfl
end Pv

namespace Pv
open PySem PySem.Spec PyProof.Rows L2
open PySem.AutoSeq1 (wpAny_loadPart')
/-! ### a tuple so often -/
theorem tuple_mulW0 (l : Addr) (items : Array Value) (n : Nat) (dd : Option Addr) (sl : Array (Option Value)) (x : Int) (u : Tok) (hc0 : (decide (x < -(2 ^ 63)) || decide (x ≥ 2 ^ 63)) = false) (hc1 : (items.isEmpty || x == 1) = true) :
    Meets (Builtin.«tuple.__mul__» ⟨[.ref l, .int x u], []⟩) (fun _ R s => s.heap.get? l = some { cls := .type "tuple", dict := dd, data := .seq items n, slots := sl } ∧ R (.ok (.ret (.ref l))) s) :=
  .of_wp fun prog w A R s h => by
    obtain ⟨hp, g, d, tk, os⟩ := s; obtain ⟨hl, h⟩ := h
    have f1 := AutoSeq1.idx_int
    have f2 := AutoSeq1.sub_tuple_tuple
    wp_walk using wpAny_loadPart' hl
    refine wpAny_ite_false (decide_eq_false (by rw [hc0]; exact Bool.false_ne_true)) ?_
    wp_walk using wpAny_loadPart' hl
    exact ⟨_, rfl, h⟩
theorem tuple_mulW1 (l : Addr) (items : Array Value) (n : Nat) (dd : Option Addr) (sl : Array (Option Value)) (x : Int) (u : Tok) (hc0 : (decide (x < -(2 ^ 63)) || decide (x ≥ 2 ^ 63)) = false) (hc1 : (items.isEmpty || x == 1) = false) (hc2 : (decide (x ≤ 0) || items.isEmpty) = true) :
    Meets (Builtin.«tuple.__mul__» ⟨[.ref l, .int x u], []⟩) (fun _ R s => s.heap.get? l = some { cls := .type "tuple", dict := dd, data := .seq items n, slots := sl } ∧ R (.ok (.ret (.ref s.heap.objs.size))) { s with heap := s.heap.push { cls := .type "tuple", data := .seq #[] } }) :=
  .of_wp fun prog w A R s h => by
    obtain ⟨hp, g, d, tk, os⟩ := s; obtain ⟨hl, h⟩ := h
    have f1 := AutoSeq1.idx_int
    have f2 := AutoSeq1.sub_tuple_tuple
    wp_walk using wpAny_loadPart' hl
    refine wpAny_ite_false (decide_eq_false (by rw [hc0]; exact Bool.false_ne_true)) ?_
    wp_walk using wpAny_loadPart' hl
    exact ⟨_, rfl, h⟩
theorem tuple_mulW2 (l : Addr) (items : Array Value) (n : Nat) (dd : Option Addr) (sl : Array (Option Value)) (x : Int) (u : Tok) (hc0 : (decide (x < -(2 ^ 63)) || decide (x ≥ 2 ^ 63)) = false) (hc1 : (items.isEmpty || x == 1) = false) (hc2 : (decide (x ≤ 0) || items.isEmpty) = false)
    (hc3 : ¬ ((items.size : Int) * x > (2 ^ 63 - 1) / 8)) (hc4 : Builtin.Tuple.tupleTooMany ((items.size : Int) * x) = false) (hz : ((List.replicate x.toNat items).foldl (· ++ ·) #[]).size ≤ sizeLine) :
    Meets (Builtin.«tuple.__mul__» ⟨[.ref l, .int x u], []⟩) (fun _ R s => s.heap.get? l = some { cls := .type "tuple", dict := dd, data := .seq items n, slots := sl } ∧ R (.ok (.ret (.ref s.heap.objs.size))) { s with heap := s.heap.push { cls := .type "tuple", data := .seq ((List.replicate x.toNat items).foldl (· ++ ·) #[]) } }) :=
  .of_wp fun prog w A R s h => by
    obtain ⟨hp, g, d, tk, os⟩ := s; obtain ⟨hl, h⟩ := h
    have f1 := AutoSeq1.idx_int
    have f2 := AutoSeq1.sub_tuple_tuple
    wp_walk using wpAny_loadPart' hl
    refine wpAny_ite_false (decide_eq_false (by rw [hc0]; exact Bool.false_ne_true)) ?_
    wp_walk using wpAny_loadPart' hl
    refine wpAny_ite_false (decide_eq_false hc3) ?_
    wp_walk using wpAny_loadPart' hl
    all_goals try (refine wpAny_ite_false (decide_eq_false (by rw [hc4]; exact Bool.false_ne_true)) ?_)
    have hsz : ((List.replicate x.toNat items).foldl (· ++ ·) #[]).size ≤ sizeLine := hz
    wp_walk using wpAny_loadPart' hl
    exact ⟨_, rfl, h⟩

theorem noFill_tupleMul : fillsNumberSlot (.type "tuple") "mul" = pure false :=
  PySem.fillsNumberSlot_seq (id := "tuple.__mul__") (r := some (.builtin "tuple.__rmul__")) F.slot_tuple_mul.lookup (by decide +kernel) F.slot_tuple_rmul.lookup (by decide +kernel)
theorem repeat_tupleMul : seqRepeat? (.type "tuple") = pure (some (.builtin "tuple.__mul__")) := by
  unfold seqRepeat?
  rw [PySem.seqSlot_of F.slot_tuple_mul.lookup (T := "tuple") (name := "__mul__") (id := "tuple.__mul__") (by decide +kernel), PySem.seqSlot_of F.slot_tuple_rmul.lookup (T := "tuple") (name := "__rmul__") (id := "tuple.__rmul__") (by decide +kernel)]
  rfl
theorem int_rmul_tuple (a : Int) (t : Tok) (l : Addr) (its : Array Value) (n : Nat) (dd : Option Addr) (sl : Array (Option Value)) :
    Meets (Builtin.«int.__rmul__» ⟨[.int a t, .ref l], []⟩) (fun _ R s => s.heap.get? l = some ⟨.type "tuple", dd, .seq its n, sl⟩ ∧ R (.ok (.ret .notImplemented)) s) :=
  .of_wp fun prog w A R s h => by
    obtain ⟨hp, g, d, tk, os⟩ := s
    obtain ⟨hl, h⟩ := h
    wp_walk using wpAny_loadPart' hl
    exact ⟨_, rfl, h⟩
section
variable {X : Cx}
noncomputable def rRepT (K : Fg) : R2 := fun x y H Q => ∃ a k xs, x = .ref a ∧ y = .int k ∧ SqT K H a xs ∧ -(2 ^ 62) ≤ k ∧ k < 2 ^ 62 ∧ xs.length * k.toNat ≤ 1000000 ∧ (xs = [] ∨ k = 1 → Q (.ref a) H) ∧ ∀ p, H p = none → Q (.ref p) (upd H p (.tup (List.replicate k.toNat xs).flatten))
theorem op_repT : OpR X (binaryOp .Mult) (rRepT X.K) := by
  intro pins s σ H x y v u Q I rx ry h
  obtain ⟨a, k, xs, rfl, rfl, hq, h1, h2, hz, q1, q2⟩ := h
  cases rx
  obtain ⟨t, rfl⟩ := ry
  obtain ⟨its, r, ⟨⟨cls, dd, data, sl⟩, ho, hc, n, hd⟩, hl⟩ := I.tuple hq
  simp only at hc hd
  subst hc hd
  have hlen : its.length = xs.length := r.length.symm
  have c0 : (decide (k < -(2 ^ 63)) || decide (k ≥ 2 ^ 63)) = false := by
    rw [decide_eq_false (by omega), decide_eq_false (by omega)]; rfl
  refine wpAny_binaryOp_repeat_ref (T := "tuple") (U := "int") (by decide) ⟨_, ho, rfl⟩ (fun s' => typeIs_int s' k t) noFill_tupleMul F.fills_int_mul F.slot_int_rmul repeat_tupleMul F.slot_int_index.lookup
    (call_meets F.slot_int_rmul (typeIs_int s k t) F.entry_int_rmul (F.args_int_rmul_2 _ _) (int_rmul_tuple k t a its.toArray n dd sl) ⟨ho, rfl, ⟨_, ho, rfl⟩, ?_⟩)
  by_cases e1 : xs = [] ∨ k = 1
  · refine call_meets F.slot_tuple_mul ⟨_, ho, rfl⟩ F.entry_tuple_mul (F.args_tuple_mul_2 _ _) (tuple_mulW0 a its.toArray n dd sl k t c0 ?_) ⟨ho, ⟨.ref a, H, I, rfl, q1 e1⟩⟩
    rcases e1 with e1 | e1
    · subst e1; cases r; rfl
    · subst e1; simp
  · have hne : its ≠ [] := fun z => e1 (.inl (by subst z; cases r; rfl))
    have hk1 : k ≠ 1 := fun z => e1 (.inr z)
    have c1 : (its.toArray.isEmpty || k == 1) = false := by simp [hne, hk1]
    have hf : H s.heap.objs.size = none := I.hok.fresh (Nat.le_refl _)
    by_cases e2 : k ≤ 0
    · have hk0 : k.toNat = 0 := by omega
      refine call_meets F.slot_tuple_mul ⟨_, ho, rfl⟩ F.entry_tuple_mul (F.args_tuple_mul_2 _ _) (tuple_mulW1 a its.toArray n dd sl k t c0 c1 (by simp [e2])) ⟨ho, ?_⟩
      refine ⟨.ref _, upd H s.heap.objs.size (.tup []), I.laid (t' := s.toks) (fun b ob q => Heap.get?_push_of_some _ q) (Nat.le_refl _) ⟨by rw [sizeLine_eq]; decide, [], .nil, IsTup.new _ _⟩, rfl, ?_⟩
      have := q2 _ hf
      rw [hk0] at this
      exact this
    · have fr : List.foldl (· ++ ·) #[] (List.replicate k.toNat its.toArray) = (List.replicate k.toNat its).flatten.toArray := by
        have := foldl_rep its k.toNat []
        rw [List.nil_append] at this
        exact this
      have hb : (1000000 : Nat) ≤ sizeLine := by rw [sizeLine_eq]; decide
      have hm : (its.toArray.size : Int) * k ≤ 1000000 := by
        rw [List.size_toArray, hlen]
        have : ((xs.length * k.toNat : Nat) : Int) ≤ 1000000 := by omega
        rw [Int.natCast_mul, Int.toNat_of_nonneg (by omega)] at this
        exact this
      have hsz : (List.replicate k.toNat its).flatten.length ≤ sizeLine := by rw [len_rep, Nat.mul_comm, hlen]; omega
      refine call_meets F.slot_tuple_mul ⟨_, ho, rfl⟩ F.entry_tuple_mul (F.args_tuple_mul_2 _ _) (tuple_mulW2 a its.toArray n dd sl k t c0 c1 (by simp [hne]; omega) (by omega) ?_ (by rw [fr, List.size_toArray]; exact hsz)) ⟨ho, ?_⟩
      · unfold Builtin.Tuple.tupleTooMany
        rw [decide_eq_false (by omega)]
      · rw [fr]
        refine ⟨.ref _, upd H s.heap.objs.size (.tup (List.replicate k.toNat xs).flatten), I.laid (t' := s.toks) (fun b ob q => Heap.get?_push_of_some _ q) (Nat.le_refl _) ⟨?_, _, r.rep k.toNat, IsTup.new _ _⟩, rfl, q2 _ hf⟩
        rw [len_rep, Nat.mul_comm]; omega
theorem q_mul : RO X (binaryOp .Mult) mulR := by
  refine ⟨_, op_mulB.or (op_repT.or op_rep), fun x y v u H Q μ Q3 m rx ry h k => ?_⟩
  cases ry with
  | int j =>
    cases rx with
    | int i => exact .inl ⟨i, j, rfl, rfl, h.1, k _ _ _ _ h.2 (Kp.refl _) (.int _) m⟩
    | tup hq rs =>
      rename_i a l vs
      refine .inr (.inl ⟨a, j, vs, rfl, rfl, hq, h.1.1.1, h.1.1.2, by rw [← rs.length]; exact h.1.2, fun e => ?_, fun p hp => ?_⟩)
      · rcases e with e | e
        · subst e; cases rs
          have h2 := h.2
          have e : (List.replicate j.toNat ([] : List D)).flatten = [] := by simp
          rw [e] at h2
          exact k _ _ _ _ h2 (Kp.refl _) (.tup hq .nil) m
        · subst e
          have h2 := h.2
          have e : (List.replicate (1 : Int).toNat l).flatten = l := by simp
          rw [e] at h2
          exact k _ _ _ _ h2 (Kp.refl _) (.tup hq rs) m
      · exact k _ _ _ _ h.2 (Kp.new hp) (.tup (SqT.of upd_same) ((rs.rep _).mono (Kp.new hp))) (m.newT hp)
    | ref p =>
      dsimp only [mulR] at h
      cases e : μ p with
      | none => rw [e] at h; exact h.elim
      | some oo =>
        cases oo with
        | ins _ _ => rw [e] at h; exact h.elim
        | lst l =>
          rw [e] at h
          obtain ⟨vs, hv, rv⟩ := m p l e
          have hb : (1000000 : Nat) ≤ sizeLine := by rw [sizeLine_eq]; decide
          refine .inr (.inr ⟨p, j, vs, rfl, rfl, hv, by have := h.1.1.1; omega, by have := h.1.1.2; omega, by rw [← rv.length]; exact Nat.le_trans h.1.2 hb, fun t ht => ?_⟩)
          exact k _ _ _ _ (h.2 t (m.free ht)) (Kp.new ht) (.ref t) (m.newL ht (rv.rep _))
    | _ => exact False.elim h
  | _ => cases rx <;> exact False.elim h
theorem call_intS : CallR X (.type "int") (fun xs H Q => ∃ z n, xs = [.str z] ∧ PySem.intText? z = some n ∧ z.length ≤ 640 ∧ Q (.int n) H) := by
  intro pins s σ H xs us Q I r h
  obtain ⟨z, n, rfl, e, hl, q⟩ := h
  obtain ⟨u, rfl, t, rfl⟩ := vals1 r
  exact PySem.W.KIN.call_text e hl ⟨.int n, H, I.tok _, ⟨_, rfl⟩, q⟩
theorem q_int : RC X (.type "int") intR := by
  refine ⟨_, call_int1.or call_intS, fun xs vs H Q μ Q3 m r h k => ?_⟩
  cases r with
  | nil => exact False.elim h
  | cons r1 r2 =>
    cases r2 with
    | cons _ _ => cases r1 <;> exact False.elim h
    | nil =>
      cases r1 with
      | int i => exact .inl (.inl ⟨i, rfl, k _ _ _ _ h (Kp.refl _) (.int _) m⟩)
      | bl b => exact .inl (.inr ⟨b, rfl, k _ _ _ _ h (Kp.refl _) (.int _) m⟩)
      | str z =>
        dsimp only [intR] at h
        cases e : PySem.intText? z with
        | none => rw [e] at h; exact h.elim
        | some n =>
          rw [e] at h
          exact .inr ⟨z, n, rfl, e, h.1, k _ _ _ _ h.2 (Kp.refl _) (.int _) m⟩
      | _ => exact False.elim h
/-! ### all, any of a list of truths -/
theorem bls_rel {K : Fg} {H : Hp} : ∀ {l : List D} {vs : List V} {bs : List Bool}, RelDs K H l vs → bls? l = some bs → vs = bs.map V.bl
  | _, _, bs, .nil, e => by simp [bls?] at e; subst e; rfl
  | _, _, bs, .cons h r, e => by
    cases h with
    | bl x =>
      simp only [bls?] at e
      split at e
      · next ys e1 =>
        simp only [Option.some.injEq] at e
        subst e
        rw [bls_rel r e1]; rfl
      · cases e
    | _ => simp [bls?] at e
theorem vals_bls : ∀ {bs : List Bool} {us : List Value}, Vals (bs.map V.bl) us → us = bs.map Value.bool
  | [], _, r => by cases r; rfl
  | b :: bs, _, r => by
    cases r with
    | cons r1 r2 => cases r1; rw [vals_bls r2]; rfl
theorem truth_bls (prog : Program) (w : World) (A : Around) (bs : List Bool) : TruthOf prog w A (fun i v => (bs.map Value.bool).toArray[i]? = some v) (fun i => bs.getD i false) := by
  intro i v s Q E hP hQ
  have hP' : (bs.map Value.bool)[i]? = some v := by simpa using hP
  rw [List.getElem?_map] at hP'
  cases e : bs[i]? with
  | none => rw [e] at hP'; cases hP'
  | some b =>
    rw [e] at hP'
    simp only [Option.map_some, Option.some.injEq] at hP'
    subst hP'
    refine wpAny_truthy_bool ?_
    have : bs.getD i false = b := by rw [List.getD_eq_getElem?_getD, e]; rfl
    dsimp only at hQ
    rw [this] at hQ
    exact hQ
theorem range_all (bs : List Bool) : (List.range bs.length).all (fun i => bs.getD i false) = bs.all id := by
  rw [Bool.eq_iff_iff, List.all_eq_true, List.all_eq_true]
  constructor
  · intro h x hx
    obtain ⟨i, hi, rfl⟩ := List.mem_iff_getElem.mp hx
    have := h i (List.mem_range.mpr hi)
    rw [List.getD_eq_getElem?_getD, List.getElem?_eq_getElem hi] at this
    exact this
  · intro h i hi
    have hi' := List.mem_range.mp hi
    rw [List.getD_eq_getElem?_getD, List.getElem?_eq_getElem hi']
    exact h _ (List.getElem_mem hi')
theorem call_allL (hc : X.calm = true) : CallR X (.builtin "all") (fun xs H Q => ∃ (p : Addr) (bs : List Bool), xs = [.ref p] ∧ SqL X.K H p (bs.map V.bl) ∧ Q (.bl (bs.all id)) H) := by
  intro pins s σ H xs us Q I r h
  obtain ⟨p, bs, rfl, hq, q⟩ := h
  obtain ⟨u, rfl, rx⟩ := vals1 r
  cases rx
  obtain ⟨its, r', pl, hz⟩ := I.list hq
  have eu := vals_bls r'
  subst eu
  refine call_all_walk (wpAny_pyIter_list pl.isList ?_)
  have hlt : p < s.heap.objs.size := by obtain ⟨o, ho, _⟩ := pl.isList; exact Heap.lt_size ho
  refine ⟨_, _, _, _, _, _, _, rfl, Walks.list (A := X.A.in1) (I.ok.hd hc) _ p (Nat.ne_of_lt hlt) _, ⟨⟨_, Heap.get?_push_size _ rfl, rfl, rfl⟩, pl.isList.at fun o e => Heap.get?_push_of_some _ e⟩, truth_bls _ _ _ bs, fun h' tk hk => ?_⟩
  have e : (bs.map Value.bool).toArray.size = bs.length := by simp
  rw [e, range_all]
  refine ⟨.bl _, H, I.kept (t' := tk) fun b o eb => hk b o ?_ (Heap.get?_push_of_some _ eb), rfl, q⟩
  intro z
  rw [List.mem_singleton] at z
  rw [z] at eb
  exact absurd (Heap.lt_size eb) (Nat.lt_irrefl _)
theorem RdC.bools {K : Fg} {f : List Bool → Bool} {r3 : C3} (hr : ∀ ds μ Q3, r3 ds μ Q3 → ∃ p l bs, ds = [.ref p] ∧ μ p = some (.lst l) ∧ bls? l = some bs ∧ Q3 (.bl (f bs)) μ) :
    RdC K (fun xs H Q => ∃ (p : Addr) (bs : List Bool), xs = [.ref p] ∧ SqL K H p (bs.map V.bl) ∧ Q (.bl (f bs)) H) r3 := fun xs vs H Q μ Q3 m r h k => by
  obtain ⟨p, l, bs, rfl, e, e1, q⟩ := hr _ _ _ h
  cases r with
  | cons r1 r2 =>
    cases r2
    cases r1
    obtain ⟨us, hv, rs⟩ := m p l e
    have ev := bls_rel rs e1
    subst ev
    exact ⟨p, bs, rfl, SqL.of hv, k _ _ _ _ q (Kp.refl _) (.bl _) m⟩
theorem q_all (hc : X.calm = true := by rfl) : RC X (.builtin "all") allR := by
  refine ⟨_, call_allL hc, RdC.bools fun ds μ Q3 h => ?_⟩
  unfold allR at h
  split at h
  · split at h
    · next p _ l e =>
      split at h
      · next bs e1 => exact ⟨p, l, bs, rfl, e, e1, h⟩
      · exact h.elim
    · exact h.elim
  · exact h.elim
end
end Pv

namespace Pv
open PySem PySem.Spec PyProof.Rows L2
/-! ### a comprehension that uses names of the body -/
noncomputable def closL (cells : List (Str × Addr)) : List (Str × NameKind) → List (Str × Addr) → List (Str × Addr)
  | [], acc => acc
  | (n, k) :: r, acc => if k == .free then closL cells r ((n, (cells.lookup n).getD 0) :: acc) else closL cells r acc
theorem closureFor_eq {scope : Scope} {env : Env} (h : ∀ y ∈ scope.names, y.2 = .free → (env.cells.lookup y.1).isSome = true) : closureFor scope env = pure (closL env.cells scope.names []) := by
  unfold closureFor
  have key : ∀ (l : List (Str × NameKind)) (acc : List (Str × Addr)), (∀ y ∈ l, y.2 = .free → (env.cells.lookup y.1).isSome = true) →
      (forIn l acc (fun x r => if (x.2 == NameKind.free) = true then do let c ← cellOf env x.1; pure (ForInStep.yield ((x.1, c) :: r)) else pure (ForInStep.yield r)) : Sem (List (Str × Addr))) = pure (closL env.cells l acc) := by
    intro l
    induction l with
    | nil => intro acc _; rfl
    | cons y r ih =>
      intro acc hl
      obtain ⟨n, k⟩ := y
      rw [List.forIn_cons]
      have ih' := fun a => ih a fun z hz => hl z (List.mem_cons_of_mem _ hz)
      by_cases hk : k = .free
      · subst hk
        have hs := hl (n, .free) (List.mem_cons_self ..) rfl
        obtain ⟨c, hc⟩ := Option.isSome_iff_exists.mp hs
        have ec : cellOf env n = pure c := by unfold cellOf; rw [hc]
        simp only [closL, ec, pure_bind, beq_self_eq_true, if_true, hc, Option.getD_some]
        exact ih' _
      · have hk' : (k == NameKind.free) = false := by simpa using hk
        simp only [closL, hk', Bool.false_eq_true, if_false, pure_bind]
        exact ih' _
  have := key scope.names [] h
  refine Eq.trans ?_ this
  refine Eq.trans (bind_pure (forIn scope.names ([] : List (Str × Addr)) _ : Sem (List (Str × Addr)))) ?_
  congr 1
theorem closL_sub {cells : List (Str × Addr)} {x : Str} {c : Addr} : ∀ (l : List (Str × NameKind)) (acc : List (Str × Addr)), (∀ y ∈ l, y.2 = .free → (cells.lookup y.1).isSome = true) → (acc.lookup x = some c → cells.lookup x = some c) →
    (closL cells l acc).lookup x = some c → cells.lookup x = some c
  | [], acc, _, ha, h => ha h
  | (n, k) :: r, acc, hl, ha, h => by
    unfold closL at h
    split at h
    · next hk =>
      refine closL_sub r _ (fun z hz => hl z (List.mem_cons_of_mem _ hz)) (fun h2 => ?_) h
      rw [List.lookup_cons] at h2
      split at h2
      · next e =>
        have e' : x = n := eq_of_beq e
        subst e'
        obtain ⟨c', hc⟩ := Option.isSome_iff_exists.mp (hl (x, k) (List.mem_cons_self ..) (eq_of_beq hk))
        rw [hc] at h2
        simp only [Option.getD_some, Option.some.injEq] at h2
        rw [hc, h2]
      · exact ha h2
    · exact closL_sub r acc (fun z hz => hl z (List.mem_cons_of_mem _ hz)) ha h
theorem closL_has {cells : List (Str × Addr)} {x : Str} : ∀ (l : List (Str × NameKind)) (acc : List (Str × Addr)), ((∃ c, acc.lookup x = some c) ∨ (x, NameKind.free) ∈ l) → ∃ c, (closL cells l acc).lookup x = some c
  | [], acc, h => by
    rcases h with h | h
    · exact h
    · cases h
  | (n, k) :: r, acc, h => by
    unfold closL
    split
    · next hk =>
      refine closL_has r _ ?_
      by_cases e : x = n
      · subst e
        left
        exact ⟨(cells.lookup x).getD 0, by rw [List.lookup_cons]; simp⟩
      · rcases h with ⟨c, h⟩ | h
        · left
          refine ⟨c, ?_⟩
          rw [List.lookup_cons]
          have : (x == n) = false := by simpa using e
          rw [this]; exact h
        · right
          rcases List.mem_cons.mp h with h | h
          · exact absurd (congrArg Prod.fst h) e
          · exact h
    · next hk =>
      refine closL_has r acc ?_
      rcases h with h | h
      · exact .inl h
      · rcases List.mem_cons.mp h with h | h
        · cases h; exact absurd rfl hk
        · exact .inr h
/-- free names are cells of the body: js tells where they lie among the body's names -/
theorem CompSc.free {X : Cx} {NN : List Str} {scope : Scope} {js : List (Option Nat)} (hcell : ∀ y ∈ scope.names, y.2 ≠ .cell) (hk : scope.kind = .function) (hfn : X.env.scope.kind = .function)
    (hn : ∀ y ∈ scope.names, y.2 = .local → scope.names.lookup y.1 = some .local) (hfree : ∀ y ∈ scope.names, y.2 = .free → X.env.scope.names.lookup y.1 = some .cell) (hlook : ∀ y ∈ scope.names, y.2 = .free → scope.names.lookup y.1 = some .free)
    (hcl : ∀ x, X.env.scope.names.lookup x = some .cell → (X.env.cells.lookup x).isSome = true) (len : js.length = NN.length)
    (hout : ∀ i ∈ List.range js.length, ∀ j, js.getD i none = some j → ∃ x, NN[i]? = some x ∧ X.N[j]? = some x ∧ scope.names.lookup x = some .free) :
    CompSc X NN scope (closL X.env.cells scope.names []) js where
  clos := closureFor_eq fun y hy e => hcl _ (hfree y hy e)
  cell := hcell
  kind := hk
  names := hn
  sub := fun x c h => closL_sub scope.names [] (fun y hy e => hcl _ (hfree y hy e)) (fun h => by simp at h) h
  has := fun x h => by
    refine closL_has scope.names [] (.inr ?_)
    have hm : ∃ k, (x, k) ∈ scope.names ∧ (k = .free ∨ k = .cell) := by
      have key : ∀ kk, (relabel scope X.env).names.lookup x = some kk → (kk = .cell ∨ kk = .free) → ∃ k, (x, k) ∈ scope.names ∧ (k = .free ∨ k = .cell) := fun kk hkk hc => by
        have hmem := lookup_mem hkk
        obtain ⟨⟨n, k⟩, hy, e⟩ := List.mem_map.mp hmem
        dsimp only at e
        split at e
        · next hq =>
          cases e
          simp only [Bool.and_eq_true] at hq
          exact ⟨k, hy, .inl (by simpa using hq.1.1)⟩
        · cases e
          exact ⟨kk, hy, hc.symm⟩
      rcases h with h | h
      · exact key _ h (.inl rfl)
      · exact key _ h (.inr rfl)
    obtain ⟨k, hk1, hk2⟩ := hm
    rcases hk2 with rfl | rfl
    · exact hk1
    · exact absurd rfl (hcell _ hk1)
  len := len
  out := fun i j h => by
    have hi : i < js.length := by
      rcases Nat.lt_or_ge i js.length with z | z
      · exact z
      · rw [List.getElem?_eq_none z] at h; cases h
    obtain ⟨x, e1, e2, e3⟩ := hout i (List.mem_range.mpr hi) j (by rw [List.getD_eq_getElem?_getD, h]; rfl)
    have hf := hfree (x, .free) (lookup_mem e3) rfl
    refine ⟨x, e1, e2, .inr (.inl hf), by rw [hf]; simp, ?_⟩
    left
    have key : ∀ (l : List (Str × NameKind)), l.lookup x = some .free → (l.map fun (n, k) => if (k == NameKind.free && X.env.scope.kind == .function && X.env.kindOf n == some .cell) then (n, NameKind.cell) else (n, k)).lookup x = some .cell := fun l => by
      induction l with
      | nil => intro h; simp at h
      | cons y r ih =>
        obtain ⟨n, k⟩ := y
        intro h
        rw [List.lookup_cons] at h
        rw [List.map_cons, List.lookup_cons]
        by_cases e : x = n
        · subst e
          simp only [beq_self_eq_true, Option.some.injEq] at h
          subst h
          have hkind : (X.env.kindOf x == some NameKind.cell) = true := by
            show (X.env.scope.names.lookup x == some NameKind.cell) = true
            rw [hf]; rfl
          simp [hfn, hkind]
        · have e' : (x == n) = false := by simpa using e
          rw [e'] at h
          have ih' := ih h
          by_cases hq : (k == NameKind.free && X.env.scope.kind == ScopeKind.function && X.env.kindOf n == some NameKind.cell) = true
          · simp only [hq, if_true, e']; exact ih'
          · simp only [hq, Bool.false_eq_true, if_false, e']; exact ih'
    exact key _ e3
/-- for a comprehension in the body of a def -/
theorem comp_sc {CX : CXT} {P : Program} {w : World} {K : Fg} {mg : Str → Option Value} {base : Heap} {N : List Str} {qual : Str} {sc : Scope} {f : Addr} {cdv : Value} {A : Around} {outer : List Env} {s : Shared} {H : Hp} {E : XK} {NN : List Str} {scope : Scope} {js : List (Option Nat)}
    (hcell : ∀ y ∈ scope.names, y.2 ≠ .cell := by decide +kernel) (hk : scope.kind = .function := by rfl) (hfn : sc.kind = .function := by rfl)
    (hn : ∀ y ∈ scope.names, y.2 = .local → scope.names.lookup y.1 = some .local := by decide +kernel) (hfree : ∀ y ∈ scope.names, y.2 = .free → sc.names.lookup y.1 = some .cell := by decide +kernel)
    (hlook : ∀ y ∈ scope.names, y.2 = .free → scope.names.lookup y.1 = some .free := by decide +kernel) (len : js.length = NN.length := by rfl)
    (hout : ∀ i ∈ List.range js.length, ∀ j ∈ (js.getD i none).toList, ∃ x ∈ NN[i]?.toList, N[j]? = some x ∧ scope.names.lookup x = some .free := by decide +kernel) :
    CompSc (cxOf CX P w K mg base N qual sc f cdv A outer s H E).nox NN scope (closL (cxOf CX P w K mg base N qual sc f cdv A outer s H E).nox.env.cells scope.names []) js :=
  CompSc.free (X := (cxOf CX P w K mg base N qual sc f cdv A outer s H E).nox) hcell hk hfn hn hfree hlook (fun x h => by
    obtain ⟨c, hc⟩ := cell_has (n := _) h
    exact Option.isSome_iff_exists.mpr ⟨c, hc⟩) len fun i hi j hj => by
      obtain ⟨x, h1, h2, h3⟩ := hout i hi j (by rw [hj]; simp)
      exact ⟨x, by simpa using h1, h2, h3⟩
end Pv

namespace Pv
open PySem
/-- x is None -/
noncomputable def isN : D → Bool
  | .non => true
  | _ => false
noncomputable def isNR (neg : Bool) : R3 := fun x y μ Q => match y with
  | .non => Q (.bl (if neg then !isN x else isN x)) μ
  | _ => False
/-- max of two ints -/
noncomputable def maxR : C3 := fun ds μ Q => match ds with
  | [.int i, .int j] => Q (.int (if j > i then j else i)) μ
  | _ => False
/-- min of two ints -/
noncomputable def min2R : C3 := fun ds μ Q => match ds with
  | [.int i, .int j] => Q (.int (if j < i then j else i)) μ
  | _ => False
/-- a < b < c -/
noncomputable def ch3 (r r' : R3) (ta tb tc : TE3) : TE3 := fun ρ μ Q => ta ρ μ fun x μ1 => tb ρ μ1 fun y μ2 => r x y μ2 fun d μ3 => match d with
  | .bl true => tc ρ μ3 fun z μ4 => r' y z μ4 Q
  | .bl false => Q (.bl false) μ3
  | _ => False
end Pv

namespace Pv
open PySem PySem.Spec PyProof.Rows L2
section
variable {X : Cx}
theorem isN_v {K : Fg} {H : Hp} {x : D} {v : V} (r : RelD K H x v) : decide (v = .non) = isN x := by
  cases r <;> simp [isN]
theorem q_isN : RO X (compareOp .Is) (isNR false) := by
  refine ⟨_, op_isN, fun x y v u H Q μ Q3 m rx ry h k => ?_⟩
  cases ry with
  | non =>
    refine ⟨rfl, ?_⟩
    rw [isN_v rx]
    exact k _ _ _ _ h (Kp.refl _) (.bl _) m
  | _ => exact False.elim h
theorem q_max (hc : X.calm = true) : RC X (.builtin "max") maxR := by
  refine ⟨_, call_max2 hc, fun xs vs H Q μ Q3 m r h k => ?_⟩
  cases r with
  | nil => exact False.elim h
  | cons r1 r2 =>
    cases r1 with
    | int i =>
      cases r2 with
      | nil => exact False.elim h
      | cons r2 r3 =>
        cases r2 with
        | int j =>
          cases r3 with
          | nil => exact ⟨i, j, rfl, k _ _ _ _ h (Kp.refl _) (.int _) m⟩
          | cons _ _ => exact False.elim h
        | _ => exact False.elim h
    | _ => exact False.elim h
theorem q_min2 (hc : X.calm = true) : RC X (.builtin "min") min2R := by
  refine ⟨_, call_min2 hc, fun xs vs H Q μ Q3 m r h k => ?_⟩
  cases r with
  | nil => exact False.elim h
  | cons r1 r2 =>
    cases r1 with
    | int i =>
      cases r2 with
      | nil => exact False.elim h
      | cons r2 r3 =>
        cases r2 with
        | int j =>
          cases r3 with
          | nil => exact ⟨i, j, rfl, k _ _ _ _ h (Kp.refl _) (.int _) m⟩
          | cons _ _ => exact False.elim h
        | _ => exact False.elim h
    | _ => exact False.elim h
theorem re_chain {a b c : Expr} {ta tb tc : TE3} {op op' : CmpOp} {r r' : R3} {pos : Pos} (ho : RO X (compareOp op) r) (ho' : RO X (compareOp op') r') (ha : RE X a ta) (hb : RE X b tb) (hc : RE X c tc)
    (hm : lastMarks [op, op'] [b, c] = false := by with_unfolding_all rfl) : RE X (.Compare a [op, op'] [b, c] pos) (ch3 r r' ta tb tc) := by
  obtain ⟨o, po, ro⟩ := ho
  obtain ⟨o', po', ro'⟩ := ho'
  obtain ⟨va, pa, ra⟩ := ha
  obtain ⟨vb, pb, rb⟩ := hb
  obtain ⟨vc, pc, rc⟩ := hc
  refine ⟨_, pe_chain po po' pa pb pc hm, fun σ H Q ρ μ Q3 s m h k => ra σ H _ ρ μ _ s m h fun x μ1 v H1 h1 k1 r1 m1 => rb σ H1 _ ρ μ1 _ (s.mono k1) m1 h1 fun y μ2 u H2 h2 k2 r2 m2 =>
    ro x y v u H2 _ μ2 _ m2 (r1.mono k2) r2 h2 fun d μ3 z H3 h3 k3 r3 m3 => ?_⟩
  cases r3 with
  | bl e =>
    cases e with
    | false => exact ⟨false, rfl, k _ _ _ _ h3 (k1.trans (k2.trans k3)) (.bl _) m3⟩
    | true =>
      refine ⟨true, rfl, ?_⟩
      show vc σ H3 _
      exact rc σ H3 _ ρ μ3 _ (((s.mono k1).mono k2).mono k3) m3 h3 fun w μ4 x4 H4 h4 k4 r4 m4 => ro' y w u x4 H4 Q μ4 Q3 m4 (r2.mono (k3.trans k4)) r4 h4 (k.after (k1.trans (k2.trans (k3.trans k4))))
  | _ => exact False.elim h3
end
end Pv

namespace Pv
open PySem
/-- min of two ints, of two pairs of ints, of a list of ints -/
noncomputable def mnR : C3 := fun ds μ Q => match ds with
  | [.int i, .int j] => Q (.int (if j < i then j else i)) μ
  | [.tup [.int a, .int b], .tup [.int c, .int d]] => Q (if ltP c d a b then .tup [.int c, .int d] else .tup [.int a, .int b]) μ
  | [.ref p] => match μ p with
    | some (.lst l) => match ints? l with
      | some ns => 0 < ns.length ∧ ∀ m, m ∈ ns → (∀ a, a ∈ ns → m ≤ a) → Q (.int m) μ
      | none => False
    | _ => False
  | _ => False
noncomputable def mxR : C3 := fun ds μ Q => match ds with
  | [.int i, .int j] => Q (.int (if j > i then j else i)) μ
  | [.ref p] => match μ p with
    | some (.lst l) => match ints? l with
      | some ns => 0 < ns.length ∧ ∀ m, m ∈ ns → (∀ a, a ∈ ns → a ≤ m) → Q (.int m) μ
      | none => False
    | _ => False
  | _ => False
theorem mnR_ii (i j : Int) (μ : Mu) (Q : VK3) : mnR [.int i, .int j] μ Q = Q (.int (if j < i then j else i)) μ := propext ⟨fun h => h, fun h => h⟩
theorem mnR_pp (a b c d : Int) (μ : Mu) (Q : VK3) : mnR [.tup [.int a, .int b], .tup [.int c, .int d]] μ Q = Q (if ltP c d a b then .tup [.int c, .int d] else .tup [.int a, .int b]) μ := propext ⟨fun h => h, fun h => h⟩
theorem mxR_ii (i j : Int) (μ : Mu) (Q : VK3) : mxR [.int i, .int j] μ Q = Q (.int (if j > i then j else i)) μ := propext ⟨fun h => h, fun h => h⟩
/-- list(range(n)) -/
noncomputable def lrng3 (to : TE3) : TE3 := fun ρ μ Q => cons3 to nil3 ρ μ fun ds μ1 => match ds with
  | [.int j] => ((-(2 ^ 62) ≤ j ∧ j < 2 ^ 62) ∧ j ≤ 2 ^ 24) ∧ ∀ r, μ1 r = none → Q (.ref r) (updM μ1 r (.lst (rngD 0 j.toNat)))
  | _ => False
/-! ### objects -/
noncomputable def putD (f : Str) (v : D) : List (Str × D) → List (Str × D)
  | [] => [(f, v)]
  | (g, x) :: r => if g = f then (g, v) :: r else (g, x) :: putD f v r
/-- o.f, o an object of the class c -/
noncomputable def fld3 (t : TE3) (c f : Str) : TE3 := fun ρ μ Q => t ρ μ fun d μ1 => match d with
  | .ref p => match μ1 p with
    | some (.ins c' fs) => c' = c ∧ (match fs.lookup f with
      | some v => Q v μ1
      | none => False)
    | _ => False
  | _ => False
/-- o.f = e -/
noncomputable def sfld3 (to tv : TE3) (c f : Str) : TS3 := fun D' ρ μ => tv ρ μ fun y μ1 => to ρ μ1 fun d μ2 => match d with
  | .ref p => match μ2 p with
    | some (.ins c' fs) => (c' = c ∧ fs.length < 1000) ∧ D'.nx ρ (updM μ2 p (.ins c (putD f y fs)))
    | _ => False
  | _ => False
/-- C(..) -/
noncomputable def make3 (c : Str) (sp : Sp3) (t : TA3) : TE3 := fun ρ μ Q => t ρ μ fun ds μ1 => ∀ p, μ1 p = none → sp (.ref p :: ds) (updM μ1 p (.ins c [])) (fun v μ2 => v = .non ∧ Q (.ref p) μ2)
/-- o.m(..) -/
noncomputable def meth3 (c m : Str) (sp : Sp3) (to : TE3) (t : TA3) : TE3 := fun ρ μ Q => to ρ μ fun d μ1 => match d with
  | .ref p => match μ1 p with
    | some (.ins c' fs) => (c' = c ∧ fs.lookup m = none) ∧ t ρ μ1 fun ds μ2 => sp (.ref p :: ds) μ2 Q
    | _ => False
  | _ => False
end Pv

namespace Pv
open PySem PySem.Spec PyProof.Rows L2
section
variable {X : Cx}
theorem RC.or {f : Value} {R1 R2 : C3} (h1 : RC X f R1) (h2 : RC X f R2) : RC X f (fun ds μ Q => R1 ds μ Q ∨ R2 ds μ Q) := by
  obtain ⟨c1, p1, r1⟩ := h1
  obtain ⟨c2, p2, r2⟩ := h2
  exact ⟨fun xs H Q => c1 xs H Q ∨ c2 xs H Q, fun pins s σ H xs us Q I r h => h.elim (p1 pins s σ H xs us Q I r) (p2 pins s σ H xs us Q I r),
    fun xs vs H Q μ Q3 m r h k => h.elim (fun h => .inl (r1 xs vs H Q μ Q3 m r h k)) fun h => .inr (r2 xs vs H Q μ Q3 m r h k)⟩
theorem RC.le {f : Value} {R1 R2 : C3} (h : RC X f R1) (e : ∀ ds μ Q, R2 ds μ Q → R1 ds μ Q) : RC X f R2 := by
  obtain ⟨c1, p1, r1⟩ := h
  exact ⟨c1, p1, fun xs vs H Q μ Q3 m r h k => r1 xs vs H Q μ Q3 m r (e _ _ _ h) k⟩
end
section
variable {X : Cx} {e : Expr} {te : TE3} {p p2 pos pos2 : Pos}
noncomputable def tLrng (ta : TA) : TE := fun σ H Q => ta σ H fun xs H1 => ∃ j : Int, xs = [.int j] ∧ (-(2 ^ 62) ≤ j ∧ j < 2 ^ 62 ∧ j ≤ 2 ^ 24) ∧ ∀ r, H1 r = none → Q (.ref r) (upd H1 r (.lst ((List.range j.toNat).map fun i => V.int (0 + (i : Nat)))))
theorem items_rng {acc : Array Value} {n : Nat} (h : ItemsOf (fun i v => ∃ t, v = .int (0 + (i : Int) * 1) t) acc n) : ∃ us : List Value, acc = us.toArray ∧ Vals ((List.range n).map fun i => V.int (0 + (i : Nat))) us := by
  obtain ⟨h0, h2⟩ := h
  refine ⟨acc.toList, by simp, ?_⟩
  have key : ∀ (l : List Value) (k : Nat), (∀ i v, l[i]? = some v → ∃ t, v = Value.int (0 + ((k + i : Nat) : Int) * 1) t) → Vals ((List.range' k l.length).map fun i => V.int (0 + (i : Nat))) l := by
    intro l
    induction l with
    | nil => intro k _; exact .nil
    | cons v l ih =>
      intro k hk
      rw [List.length_cons, List.range'_succ, List.map_cons]
      refine .cons ?_ (ih (k + 1) fun i v' e => ?_)
      · obtain ⟨t, e⟩ := hk 0 v rfl
        exact ⟨t, by rw [e]; congr 1; omega⟩
      · obtain ⟨t, e'⟩ := hk (i + 1) v' (by simpa using e)
        exact ⟨t, by rw [e']; congr 1; omega⟩
  have := key acc.toList 0 fun i v e => by
    obtain ⟨t, e'⟩ := h2 i v (by simpa using e)
    exact ⟨t, by rw [e']; congr 1; omega⟩
  rw [Array.length_toList, h0, ← List.range_eq_range'] at this
  exact this
theorem pe_lrng {ta : TA} (hc : X.calm = true) (hg : Gl X "list") (hm : X.mg "list" = none) (hg2 : Gl X "range") (hm2 : X.mg "range" = none) (ha : PA X [e] ta)
    (hs : starEach [e] X.env = [(false, eval e X.env)] := by rfl)
    (hs2 : starEach [.Call (.Name "range" p2) [e] [] pos2] X.env = [(false, eval (.Call (.Name "range" p2) [e] [] pos2) X.env)] := by rfl) :
    PE X (.Call (.Name "list" p) [.Call (.Name "range" p2) [e] [] pos2] [] pos) (tLrng ta) := by
  intro pins s σ H Q I h
  refine Call_ (ld_blt I hg hm bz_list (PyProof.Rows.callWith_type1 ?_ hs2 rfl))
  rw [hs2]
  show wpAny _ _ (spliced ((false, eval (.Call (.Name "range" p2) [e] [] pos2) X.env) :: backTo pos (starEach [] X.env))) _ _ s
  refine Calls.spliced_cons ?_
  refine Call_ (ld_blt I hg2 hm2 bz_range (PyProof.Rows.callWith_type1 (thn (ha pos2 pins s σ H _ I h) fun us s1 ⟨vs, H1, I1, r1, q1⟩ => ?_) hs rfl))
  obtain ⟨j, e1, ⟨j1, j2, j3⟩, k⟩ := q1
  subst e1
  cases r1 with
  | cons r rr =>
    cases rr
    obtain ⟨t, rfl⟩ := r
    refine call_range_1 ?_
    refine Calls.spliced_nil ?_
    have hsz' : Builtin.Range.rangeSize 0 j 1 = ((j.toNat : Nat) : Int) := by rw [rangeSize_one]; split <;> omega
    refine call_list_range (I.ok.hd hc) (IsRange.new ..) (small_one (by decide) (by decide) j1 j2) hsz' (by omega) fun h' tk acc' c' hk hS' hacc => ?_
    obtain ⟨us, rfl, rv⟩ := items_rng hacc
    have hk2 : ∀ b o, s1.heap.get? b = some o → h'.get? b = some o := fun b o e => hk b o (Heap.get?_push_of_some _ e)
    refine ⟨.ref _, _, I1.laid (t' := tk) hk2 (show s1.heap.objs.size ≤ _ by simp only [Heap.size_push]; exact Nat.le_succ _) (show ObjOk X.prog X.w _ h' _ (.lst _) from ⟨?_, us, c', rv, hS'⟩), rfl, k _ (I1.hok.fresh (by simp only [Heap.size_push]; exact Nat.le_succ _))⟩
    rw [List.length_map, List.length_range]
    have : (2 : Nat) ^ 24 ≤ sizeLine := by decide
    omega
theorem RelDs_rng {K : Fg} {H : Hp} : ∀ (l : List Nat), RelDs K H (l.map fun i => D.int (0 + (i : Nat))) (l.map fun i => V.int (0 + (i : Nat)))
  | [] => .nil
  | x :: r => .cons (.int _) (RelDs_rng r)
theorem re_lrng (he : RE X e te) (hm : X.mg "list" = none) (hm2 : X.mg "range" = none) (hc : X.calm = true := by rfl) (hg : Gl X "list" := by rfl) (hg2 : Gl X "range" := by rfl) (hs : starEach [e] X.env = [(false, eval e X.env)] := by rfl)
    (hs2 : starEach [.Call (.Name "range" p2) [e] [] pos2] X.env = [(false, eval (.Call (.Name "range" p2) [e] [] pos2) X.env)] := by rfl) :
    RE X (.Call (.Name "list" p) [.Call (.Name "range" p2) [e] [] pos2] [] pos) (lrng3 te) := by
  obtain ⟨va, pa, ra⟩ := ra_cons he ra_nil hs
  refine ⟨_, pe_lrng hc hg hm hg2 hm2 pa hs hs2, fun σ H Q ρ μ Q3 s m h k => ra σ H _ ρ μ _ s m h fun ds μ1 vs H1 h1 k1 r1 m1 => ?_⟩
  cases r1 with
  | nil => exact False.elim h1
  | cons r1 r2 =>
    cases r2 with
    | cons _ _ => cases r1 <;> exact False.elim h1
    | nil =>
      cases r1 with
      | int j =>
        dsimp only at h1
        exact ⟨j, rfl, ⟨h1.1.1.1, h1.1.1.2, h1.1.2⟩, fun r hr => k _ _ _ _ (h1.2 r (m1.free hr)) (k1.trans (Kp.new hr)) (.ref r) (m1.newL hr (RelDs_rng _))⟩
      | _ => exact False.elim h1
end
end Pv

namespace Pv
open PySem PySem.Spec PyProof.Rows L2 PySem.Calls
theorem Kp.wrI {H : Hp} {p : Addr} {o : HO} {C dx : Addr} {fs : List (Str × V)} (h : H p = some (.ins C dx fs)) : Kp H (upd H p o) :=
  ⟨fun b ys q => by rw [upd_ne (ne_of q h (by intro z; cases z))]; exact q, fun b o u q => by rw [upd_ne (ne_of q h (by intro z; cases z))]; exact q⟩
theorem RelFs.put {K : Fg} {H : Hp} {f : Str} {d : D} {v : V} (r : RelD K H d v) {l : List (Str × D)} {vs : List (Str × V)} (h : RelFs K H l vs) : RelFs K H (putD f d l) (putF f v vs) := by
  induction h with
  | nil => exact .cons r .nil
  | @cons g d' v' l' vs' h1 h2 ih =>
    simp only [putD, putF]
    split
    · exact .cons r h2
    · exact .cons h1 ih
theorem RelFs.get {K : Fg} {H : Hp} {f : Str} {l : List (Str × D)} {vs : List (Str × V)} (h : RelFs K H l vs) {d : D} (e : l.lookup f = some d) : ∃ v, vs.lookup f = some v ∧ RelD K H d v := by
  induction h with
  | nil => cases e
  | @cons g d' v' l' vs' h1 h2 ih =>
    simp only [List.lookup] at e ⊢
    split at e
    · next q => cases e; exact ⟨v', rfl, h1⟩
    · next q => exact ih e
theorem RelFs.no {K : Fg} {H : Hp} {f : Str} {l : List (Str × D)} {vs : List (Str × V)} (h : RelFs K H l vs) (e : l.lookup f = none) : vs.lookup f = none := by
  induction h with
  | nil => rfl
  | @cons g d' v' l' vs' h1 h2 ih =>
    simp only [List.lookup] at e ⊢
    split at e
    · cases e
    · next q => exact ih e
theorem RelFs.len {K : Fg} {H : Hp} {l : List (Str × D)} {vs : List (Str × V)} (h : RelFs K H l vs) : l.length = vs.length := by
  induction h with
  | nil => rfl
  | cons _ _ ih => simp only [List.length_cons, ih]
theorem RelM.wrI {K : Fg} {μ : Mu} {H : Hp} {p : Addr} {c : Str} {C dx : Addr} {fs : List (Str × D)} {vs ws : List (Str × V)} (n : PySem.W.nsIn K mainGlobals c = some (some (.ref C))) (h : H p = some (.ins C dx ws)) (hx : H dx = some (.own p)) (r : RelFs K H fs vs) (m : RelM K μ H) :
    RelM K (updM μ p (.ins c fs)) (upd H p (.ins C dx vs)) := by
  refine ⟨fun q ys e => ?_, fun q c' gs e => ?_⟩
  · by_cases z : q = p
    · subst z; rw [updM_same] at e; cases e
    · rw [updM_ne z] at e
      rw [upd_ne z]
      obtain ⟨us, q1, r1⟩ := m.lst q ys e
      exact ⟨us, q1, r1.mono (Kp.wrI h)⟩
  · by_cases z : q = p
    · subst z
      rw [updM_same] at e; cases e
      refine ⟨C, dx, vs, n, upd_same, ?_, r.mono (Kp.wrI h)⟩
      rw [upd_ne]
      · exact hx
      · intro y; subst y; rw [h] at hx; cases hx
    · rw [updM_ne z] at e
      obtain ⟨C', dx', us, n', q1, q2, r1⟩ := m.ins q c' gs e
      refine ⟨C', dx', us, n', by rw [upd_ne z]; exact q1, ?_, r1.mono (Kp.wrI h)⟩
      rw [upd_ne]
      · exact q2
      · intro y; subst y; rw [h] at q2; cases q2
theorem RelM.newI {K : Fg} {μ : Mu} {H : Hp} {x dx : Addr} {c : Str} {C : Addr} (n : PySem.W.nsIn K mainGlobals c = some (some (.ref C))) (h : H x = none) (hd : H dx = none) (hne : dx ≠ x) (m : RelM K μ H) :
    RelM K (updM μ x (.ins c [])) (upd (upd H dx (.own x)) x (.ins C dx [])) := by
  have m1 := m.newT (o := .own x) hd
  have h1 : upd H dx (.own x) x = none := by rw [upd_ne (Ne.symm hne)]; exact h
  have m2 := m1.newT (o := .ins C dx []) h1
  refine ⟨fun q ys e => ?_, fun q c' gs e => ?_⟩
  · by_cases z : q = x
    · subst z; rw [updM_same] at e; cases e
    · rw [updM_ne z] at e; exact m2.lst q ys e
  · by_cases z : q = x
    · subst z
      rw [updM_same] at e; cases e
      exact ⟨C, dx, [], n, upd_same, by rw [upd_ne hne, upd_same], .nil⟩
    · rw [updM_ne z] at e; exact m2.ins q c' gs e
/-- a class of the module whose objects are made and read here -/
structure ObjC (K : Fg) (c : Str) (C : Addr) : Prop where
  ns : PySem.W.nsIn K mainGlobals c = some (some (.ref C))
  cl : Cls K C
section
variable {X : Cx} {e o value : Expr} {te to tv : TE3} {c f m : Str} {C : Addr} {pos pos' p apos : Pos} {es : List Expr} {t : TA3} {x : Str}
theorem re_fld (he : RE X e te) (oc : ObjC X.K c C) (na : NoAttr X.K C f) (hb : attributeBase e f X.env (eval e X.env) = eval e X.env := by rfl) : RE X (.Attribute e f pos) (fld3 te c f) := by
  obtain ⟨va, pa, ra⟩ := he
  refine ⟨_, pe_fld pa hb, fun σ H Q ρ μ Q3 s mm h k => ra σ H _ ρ μ _ s mm h fun d μ1 v H1 h1 k1 r1 m1 => ?_⟩
  cases r1 with
  | ref q =>
    dsimp only at h1
    cases e0 : μ1 q with
    | none => rw [e0] at h1; exact h1.elim
    | some oo =>
      cases oo with
      | lst _ => rw [e0] at h1; exact h1.elim
      | ins c' fs =>
        rw [e0] at h1
        obtain ⟨rfl, h2⟩ := h1
        obtain ⟨C', dx, vs, n, q1, q2, r⟩ := m1.ins q _ fs e0
        rw [oc.ns] at n
        cases n
        cases e1 : fs.lookup f with
        | none => rw [e1] at h2; exact h2.elim
        | some d =>
          rw [e1] at h2
          obtain ⟨v, l, rv⟩ := r.get e1
          exact ⟨q, C, dx, vs, v, rfl, q1, oc.cl, na, l, k _ _ _ _ h2 k1 rv m1⟩
  | _ => exact False.elim h1
theorem rs_fld (ho : RE X o to) (hv : RE X value tv) (oc : ObjC X.K c C) (na : NoAttr X.K C f) (hs : swapsWith value (some (.Attribute o f pos')) pos.line X.env = pure false := by rfl) : RS X (.Assign [.Attribute o f pos'] value pos) (sfld3 to tv c f) := by
  obtain ⟨va, pa, ra⟩ := ho
  obtain ⟨vb, pb, rb⟩ := hv
  refine ⟨_, ps_fld pa pb hs, fun σ H D ρ μ D3 s mm h kd => rb σ H _ ρ μ _ s mm h fun y μ1 u H1 h1 k1 r1 m1 => ra σ H1 _ ρ μ1 _ (s.mono k1) m1 h1 fun d μ2 v H2 h2 k2 r2 m2 => ?_⟩
  cases r2 with
  | ref q =>
    dsimp only at h2
    cases e0 : μ2 q with
    | none => rw [e0] at h2; exact h2.elim
    | some oo =>
      cases oo with
      | lst _ => rw [e0] at h2; exact h2.elim
      | ins c' fs =>
        rw [e0] at h2
        obtain ⟨⟨rfl, hl⟩, h3⟩ := h2
        obtain ⟨C', dx, vs, n, q1, q2, r⟩ := m2.ins q _ fs e0
        have n0 := n
        rw [oc.ns] at n
        cases n
        refine ⟨q, C, dx, vs, rfl, q1, oc.cl, na, by rw [← r.len]; exact hl, ?_⟩
        have kw : Kp H2 (upd H2 q (.ins C dx (putF f u vs))) := Kp.wrI q1
        exact kd.nx _ _ _ _ h3 (k1.trans (k2.trans kw)) (((s.mono k1).mono k2).mono kw) (m2.wrI n0 q1 q2 (r.put (r1.mono k2)))
  | _ => exact False.elim h2
/-- a method's promise -/
noncomputable def CalT (P : Program) (w : World) (K : Fg) (mg : Str → Option Value) (base : Heap) (k : Nat) (C : Addr) (m : Str) (ps : List Str) (sp : Sp3) : Prop :=
  ∃ f fd, FnOk P w K mg base CX0 k f fd ps (lift K sp) ∧ PySem.W.findIn K (.ref C) m = some (some (.ref f)) ∧ PySem.W.isFn K (.ref f) = true ∧ PySem.W.keepIn K (.ref f) = true ∧ Binds K fd ps []
theorem re_make {k : Nat} {ps : List Str} {sp : Sp3} (oc : ObjC X.K x C) (mk : PySem.W.makesIn X.K C = true) (kp : PySem.W.keepIn X.K (.ref C) = true) (cf : CalT X.prog X.w X.K X.mg X.base k C "__init__" ps sp) (hm : X.mg x = some (.ref C)) (hr : Room (k + 1) X.A) (ha : RA X (e :: es) t)
    (hg : Gl X x := by rfl) (hdb : (x == ("__debug__" : Str)) = false := by decide) (he : starEach (e :: es) X.env = (false, eval e X.env) :: starEach es X.env := by rfl) (hpl : (backTo pos (starEach es X.env)).any (·.1) = false := by rfl) :
    RE X (.Call (.Name x p) (e :: es) [] pos) (make3 x sp t) := by
  obtain ⟨f, fd, F, h1, h2, h3, hb⟩ := cf
  obtain ⟨va, pa, ra⟩ := ha
  refine ⟨_, pe_make ⟨mk, h1, h2, kp⟩ F hr hg hm hb .nil pass0 pa hdb he hpl, fun σ H Q ρ μ Q3 s mm h kk => ra σ H _ ρ μ _ s mm h fun ds μ1 vs H1 g1 k1 r1 m1 y dy n1 n2 n3 => ?_⟩
  rw [List.append_nil]
  have kA : Kp H1 (upd H1 dy (.own y)) := Kp.new n2
  have n1' : upd H1 dy (.own y) y = none := by rw [upd_ne (Ne.symm n3)]; exact n1
  have kB : Kp (upd H1 dy (.own y)) (upd (upd H1 dy (.own y)) y (.ins C dy [])) := Kp.new n1'
  refine ⟨_, _, _, .cons (.ref y) ((r1.mono kA).mono kB), m1.newI oc.ns n1 n2 n3, g1 y (m1.free n1), fun d μ2 v H2 q k2 r2 m2 => ?_⟩
  obtain ⟨rfl, q2⟩ := q
  cases r2
  exact ⟨rfl, kk _ _ _ _ q2 (k1.trans (kA.trans (kB.trans k2))) (.ref y) m2⟩
theorem re_meth {k : Nat} {ps : List Str} {sp : Sp3} {pl : Sem Bool} (ho : RE X o to) (oc : ObjC X.K c C) (cf : CalT X.prog X.w X.K X.mg X.base k C m ps sp) (hr : Room k X.A) (ha : RA X (e :: es) t)
    (hst : starEach (e :: es) X.env = (false, eval e X.env) :: starEach es X.env := by rfl) (hpl : (backTo pos (starEach es X.env)).any (·.1) = false := by rfl)
    (ht : eval (.Call (.Attribute o m apos) (e :: es) [] pos) X.env = (do
      let ov ← eval o X.env
      standAt apos.atName
      let (f, first) ← holding [ov] (getMethod ov m pl)
      callWith pos f first (backTo pos (starEach (e :: es) X.env)) (backToKw pos (keywordEach [] X.env))) := by rfl) :
    RE X (.Call (.Attribute o m apos) (e :: es) [] pos) (meth3 c m sp to t) := by
  obtain ⟨f, fd, F, h1, h2, h3, hb⟩ := cf
  obtain ⟨va, pa, ra⟩ := ho
  obtain ⟨vb, pb, rb⟩ := ha
  refine ⟨_, pe_meth (pl := pl) pa oc.cl ⟨h1, h2, h3⟩ F hr hb .nil pass0 pb hst hpl ht, fun σ H Q ρ μ Q3 s mm h kk => ra σ H _ ρ μ _ s mm h fun d μ1 v H1 g1 k1 r1 m1 => ?_⟩
  cases r1 with
  | ref q =>
    dsimp only at g1
    cases e0 : μ1 q with
    | none => rw [e0] at g1; exact g1.elim
    | some oo =>
      cases oo with
      | lst _ => rw [e0] at g1; exact g1.elim
      | ins c' fs =>
        rw [e0] at g1
        obtain ⟨⟨rfl, hl⟩, g2⟩ := g1
        obtain ⟨C', dx, vs, n, q1, q2, r⟩ := m1.ins q _ fs e0
        rw [oc.ns] at n
        cases n
        refine ⟨q, dx, vs, rfl, q1, r.no hl, rb σ H1 _ ρ μ1 _ (s.mono k1) m1 g2 fun ds μ2 us H2 g3 k2 r2 m2 => ?_⟩
        rw [List.append_nil]
        exact ⟨_, _, _, .cons (.ref q) r2, m2, g3, kk.after (k1.trans k2)⟩
  | _ => exact False.elim g1
theorem re_meth0 {k : Nat} {ps : List Str} {sp : Sp3} {pl : Sem Bool} (ho : RE X o to) (oc : ObjC X.K c C) (cf : CalT X.prog X.w X.K X.mg X.base k C m ps sp) (hr : Room k X.A)
    (ht : eval (.Call (.Attribute o m apos) [] [] pos) X.env = (do
      let ov ← eval o X.env
      standAt apos.atName
      let (f, first) ← holding [ov] (getMethod ov m pl)
      callWith pos f first (backTo pos (starEach [] X.env)) (backToKw pos (keywordEach [] X.env))) := by rfl) :
    RE X (.Call (.Attribute o m apos) [] [] pos) (meth3 c m sp to nil3) := by
  obtain ⟨f, fd, F, h1, h2, h3, hb⟩ := cf
  obtain ⟨va, pa, ra⟩ := ho
  refine ⟨_, pe_meth0 (pl := pl) pa oc.cl ⟨h1, h2, h3⟩ F hr hb .nil pass0 ht, fun σ H Q ρ μ Q3 s mm h kk => ra σ H _ ρ μ _ s mm h fun d μ1 v H1 g1 k1 r1 m1 => ?_⟩
  cases r1 with
  | ref q =>
    dsimp only at g1
    cases e0 : μ1 q with
    | none => rw [e0] at g1; exact g1.elim
    | some oo =>
      cases oo with
      | lst _ => rw [e0] at g1; exact g1.elim
      | ins c' fs =>
        rw [e0] at g1
        obtain ⟨⟨rfl, hl⟩, g2⟩ := g1
        obtain ⟨C', dx, vs, n, q1, q2, r⟩ := m1.ins q _ fs e0
        rw [oc.ns] at n
        cases n
        refine ⟨q, dx, vs, rfl, q1, r.no hl, ?_⟩
        exact ⟨_, _, _, .cons (.ref q) .nil, m1, g2, kk.after k1⟩
  | _ => exact False.elim g1
end
section
variable {P : Program} {w : World} {K : Fg} {mg : Str → Option Value} {base : Heap}
theorem CalT.mono {j k : Nat} {C : Addr} {m : Str} {ps : List Str} {sp : Sp3} (c : CalT P w K mg base j C m ps sp) (h : j ≤ k) : CalT P w K mg base k C m ps sp := by
  obtain ⟨f, fd, F, r⟩ := c
  exact ⟨f, fd, F.mono h, r⟩
theorem calT_of {x qual : Str} {st : Stmt} {f C : Addr} {fd : FuncData} {N ps : List Str} {k : Nat} {sp : Sp3} {t : TS3} (F : Fun K x qual st f fd) (hf : PySem.W.findIn K (.ref C) x = some (some (.ref f))) (hi : PySem.W.isFn K (.ref f) = true) (hb : Binds K fd ps []) (S : FnScope N ps (defScope st))
    (len : ∀ ds μ Q, sp ds μ Q → ds.length = ps.length)
    (body : ∀ (cdv : Value) (A : Around) (outer : List Env) (s : Shared) (H : Hp) (E : XK), Room k (A.deeper (envOfC qual (defScope st) s.heap.objs.size f cdv)) → RSs (cxOf CX0 P w K mg base N qual (defScope st) f cdv A outer s H E).nox (defBody st) t)
    (rd : ∀ ds μ Q, sp ds μ Q → t { nx := fun _ μ' => Q .non μ', rt := Q } (start3 N ds) μ) : CalT P w K mg base (k + 1) C x ps sp := by
  refine ⟨f, fd, Fun.ok F S (fun vs H Q E h => ?_) fun cdv A outer s H vs Q E hr h => ?_, hf, hi, F.kp, hb⟩
  · obtain ⟨ds, μ, Q3, r, m, q, ks⟩ := h
    rw [← r.length]; exact len _ _ _ q
  · obtain ⟨ds, μ, Q3, r, m, q, ks⟩ := h
    obtain ⟨tv, p, rt⟩ := body cdv A outer s H E hr
    exact ⟨tv, p, rt _ H _ _ μ _ (RSt.start N r) m (rd ds μ Q3 q) ⟨fun ρ μ' σ H' h' k' s' m' => ks _ _ _ _ h' k' .non m', fun ρ μ' σ H' h' => False.elim h', fun ρ μ' σ H' h' => False.elim h', ks⟩⟩
end
end Pv

/-! range(a, b) of any whole numbers -/
namespace L2
open PySem PySem.Spec PyProof.Rows
theorem turn_lrange {P : Program} {w : World} {K : PySem.W.Frag} {tg : Expr} (it : Addr) (lo : Int) (n : Nat) : Turn P w K tg (Itr lo n) [it] it (fun i h => IsLongIter h it (lo + (i : Nat) * 1) ((n : Int) - (i : Nat)) 1) where
  mem := by simp
  obj := fun i h st b hb => by
    have e : b = it := by simpa using hb
    subst e
    exact ⟨_, st, fun v z => by
      have z' : Data.fields _ = Data.cell v := z
      cases z'⟩
  keep := fun i h h' st k => k it (by simp) _ st
  item := by
    intro X hP hw hK hc i pins s σ H E I hf st hg
    subst hP hw hK
    obtain ⟨f0, f1, f2, f3, f4, f5⟩ := hf it (by simp)
    have W := Walks.longrange (prog := X.prog) (w := X.w) (I.ok.hd hc) it lo 1 n
    refine W.item i s _ _ hg st fun v h' tk hv st' kk => ?_
    obtain ⟨t, rfl⟩ := hv
    have I1 : Inv X pins σ H { s with heap := h', toks := tk } := I.turned (fun b o hb e => kk b o (by simpa using hb) e) f0 f1 f3 f4 f5
    refine ⟨_, rfl, go_of (s := { s with heap := h', toks := tk }) (n := "longrange_iterator") st' rfl rfl (by decide) ⟨.int (lo + i), H, I1, ⟨t, ?_⟩, ⟨rfl, rfl⟩, st', fun b hb => (hf b hb).1⟩⟩
    rw [Int.mul_one]
  done := by
    intro X hP hw hK hc i pins s σ H E I hf st hg
    subst hP hw hK
    obtain ⟨f0, f1, f2, f3, f4, f5⟩ := hf it (by simp)
    exact wpAny_pyNext_long_end (I.ok.hd hc) st (by have : n ≤ i := hg; omega) fun h' eb => ⟨rfl, I.turned (t' := s.toks) (fun b o hb e => eb b o hb e) f0 f1 f3 f4 f5⟩
  self := fun _ _ _ _ _ st h => wpAny_pyIter_longiter st h
section
variable {X : Cx} {tg : Expr}
theorem range_itL {pins : List (Addr × Obj)} {σ : St} {H : Hp} {s : Shared} {R : It → Hp → Prop} {E : Value → Shared → Prop} {lo hi : Int} {t u v : Tok} {tk : Nat} (I : Inv X pins σ H s)
    (q : R (Itr lo (hi - lo).toNat) H) : wpAny (model X.prog X.w) X.A (pyIter (.ref s.heap.objs.size)) (PIE X pins σ tg R) E { s with heap := s.heap.push { cls := .type "range", data := .fields #[.int lo t, .int hi u, .int 1 v] }, toks := tk } := by
  have I1 : Inv X pins σ H { s with heap := s.heap.push { cls := .type "range", data := .fields #[.int lo t, .int hi u, .int 1 v] }, toks := tk } := I.kept fun b o e => Heap.get?_push_of_some _ e
  have e1 : lo + ((0 : Nat) : Int) * 1 = lo := by simp
  have e2 : (((hi - lo).toNat : Nat) : Int) - ((0 : Nat) : Int) = Builtin.Range.rangeSize lo hi 1 := by rw [rangeSize_one]; split <;> omega
  cases hs : Builtin.Range.small lo hi 1 with
  | true =>
    refine wpAny_pyIter_range (IsRange.new ..) hs ?_
    refine ⟨(s.heap.push { cls := .type "range", data := .fields #[.int lo t, .int hi u, .int 1 v] }).objs.size, [(s.heap.push { cls := .type "range", data := .fields #[.int lo t, .int hi u, .int 1 v] }).objs.size], _, _, H, rfl,
      I1.kept (t' := tk) fun b o e => Heap.get?_push_of_some _ e, turn_range _ lo (hi - lo).toNat, ?_, fun b hb => ?_, q⟩
    · show IsRangeIter _ _ (lo + ((0 : Nat) : Int) * 1) ((((hi - lo).toNat : Nat) : Int) - ((0 : Nat) : Int)) 1
      rw [e1, e2]
      exact Heap.get?_push_size _ rfl
    · have e : b = (s.heap.push { cls := .type "range", data := .fields #[.int lo t, .int hi u, .int 1 v] }).objs.size := by simpa using hb
      subst e
      exact I1.fpOk (Nat.le_refl _) (I1.hok.fresh (Nat.le_refl _))
  | false =>
    refine wpAny_pyIter_longrange (IsRange.new ..) hs ?_
    refine ⟨(s.heap.push { cls := .type "range", data := .fields #[.int lo t, .int hi u, .int 1 v] }).objs.size, [(s.heap.push { cls := .type "range", data := .fields #[.int lo t, .int hi u, .int 1 v] }).objs.size], _, _, H, rfl,
      I1.kept (t' := tk) fun b o e => Heap.get?_push_of_some _ e, turn_lrange _ lo (hi - lo).toNat, ?_, fun b hb => ?_, q⟩
    · show IsLongIter _ _ (lo + ((0 : Nat) : Int) * 1) ((((hi - lo).toNat : Nat) : Int) - ((0 : Nat) : Int)) 1
      rw [e1, e2]
      exact Heap.get?_push_size _ rfl
    · have e : b = (s.heap.push { cls := .type "range", data := .fields #[.int lo t, .int hi u, .int 1 v] }).objs.size := by simpa using hb
      subst e
      exact I1.fpOk (Nat.le_refl _) (I1.hok.fresh (Nat.le_refl _))
noncomputable def iRngL (ta : TA) : TI := fun σ H R => ta σ H fun vs H1 => ∃ i j : Int, vs = [.int i, .int j] ∧ R (Itr i (j - i).toNat) H1
theorem pi_rangeL {a b : Expr} {ta : TA} {p pos : Pos} (hg : Gl X "range") (hm : X.mg "range" = none) (ha : PA X [a, b] ta) (hs : starEach [a, b] X.env = [(false, eval a X.env), (false, eval b X.env)] := by rfl) (hs2 : starEach [b] X.env = [(false, eval b X.env)] := by rfl) :
    PI X tg (.Call (.Name "range" p) [a, b] [] pos) (iRngL ta) := by
  intro pins s σ H R I h
  refine Call_ (ld_blt I hg hm boot_range (PyProof.Rows.callWith_type1 (thn (ha pos pins s σ H _ I h) fun us s1 ⟨vs, H1, I1, r1, q1⟩ => ?_) (by rw [hs, hs2]) (by rw [hs2]; rfl)))
  obtain ⟨i, j, e, q⟩ := q1
  subst e
  cases r1 with
  | cons r rr =>
    cases rr with
    | cons r' rr =>
      cases rr
      obtain ⟨t, rfl⟩ := r
      obtain ⟨t', rfl⟩ := r'
      exact call_range_2 (range_itL I1 q)
end
end L2
namespace Pv
open PySem L2
noncomputable def irL3 (t : TA3) : TI3 := fun ρ μ R => t ρ μ fun ds μ1 => match ds with
  | [.int i, .int j] => R (rngD i (j - i).toNat) (fun _ => True) μ1
  | _ => False
section
variable {X : Cx} {a b tg : Expr} {ta tb : TE3} {pos : Pos}
theorem ri_rangeL {p : Pos} (hm : X.mg "range" = none) (ha : RE X a ta) (hb : RE X b tb) (hg : Gl X "range" := by rfl) (hs : starEach [a, b] X.env = [(false, eval a X.env), (false, eval b X.env)] := by rfl) (hs2 : starEach [b] X.env = [(false, eval b X.env)] := by rfl) :
    RI X tg (.Call (.Name "range" p) [a, b] [] pos) (irL3 (cons3 ta (cons3 tb nil3))) := by
  obtain ⟨va, pa, ra⟩ := ra_cons ha (ra_cons hb ra_nil hs2) (by rw [hs, hs2])
  refine ⟨_, pi_rangeL hg hm pa hs hs2, fun σ H R ρ μ R3 s m h k => ra σ H _ ρ μ _ s m h fun ds μ1 vs H1 h1 k1 r1 m1 => ?_⟩
  cases r1 with
  | nil => exact False.elim h1
  | cons r1 r2 =>
    cases r1 with
    | int i =>
      cases r2 with
      | nil => exact False.elim h1
      | cons r2 r3 =>
        cases r2 with
        | int j =>
          cases r3 with
          | nil => exact ⟨i, j, rfl, k _ _ _ _ _ h1 k1 m1 (itok_rng _ _)⟩
          | cons _ _ => exact False.elim h1
        | _ => exact False.elim h1
    | _ => exact False.elim h1
end
end Pv

namespace Mw
/-- a pen -/
noncomputable abbrev Pen := Int × Int × Int
noncomputable def cs (h : Int) : Int := if h = 0 then 1 else if h = 2 then -1 else 0
noncomputable def sn (h : Int) : Int := if h = 1 then 1 else if h = 3 then -1 else 0
noncomputable def led (p q : Pen) : Pen := (p.1 + q.1 * cs p.2.2 - q.2.1 * sn p.2.2, p.2.1 + q.1 * sn p.2.2 + q.2.1 * cs p.2.2, (p.2.2 + q.2.2) % 4)
noncomputable def st : Pen := (0, 0, 0)
noncomputable def Hd (p : Pen) : Prop := p.2.2 = 0 ∨ p.2.2 = 1 ∨ p.2.2 = 2 ∨ p.2.2 = 3
theorem hd_st : Hd st := .inl rfl
theorem hd_led (p q : Pen) : Hd (led p q) := by
  unfold Hd led
  have h1 := Int.emod_nonneg (p.2.2 + q.2.2) (show (4 : Int) ≠ 0 by decide)
  have h2 := Int.emod_lt_of_pos (p.2.2 + q.2.2) (show (0 : Int) < 4 by decide)
  dsimp only
  omega
theorem led_st {p : Pen} (h : Hd p) : led p st = p := by
  obtain ⟨x, y, k⟩ := p
  unfold Hd at h
  dsimp only at h
  rcases h with rfl | rfl | rfl | rfl <;> simp [led, st, cs, sn]
theorem st_led {p : Pen} (h : Hd p) : led st p = p := by
  obtain ⟨x, y, k⟩ := p
  unfold Hd at h
  dsimp only at h
  rcases h with rfl | rfl | rfl | rfl <;> simp [led, st, cs, sn]
theorem cs_add {a b : Int} (h : a = 0 ∨ a = 1 ∨ a = 2 ∨ a = 3) (h' : b = 0 ∨ b = 1 ∨ b = 2 ∨ b = 3) : cs ((a + b) % 4) = cs a * cs b - sn a * sn b := by
  rcases h with rfl | rfl | rfl | rfl <;> rcases h' with rfl | rfl | rfl | rfl <;> rfl
theorem sn_add {a b : Int} (h : a = 0 ∨ a = 1 ∨ a = 2 ∨ a = 3) (h' : b = 0 ∨ b = 1 ∨ b = 2 ∨ b = 3) : sn ((a + b) % 4) = sn a * cs b + cs a * sn b := by
  rcases h with rfl | rfl | rfl | rfl <;> rcases h' with rfl | rfl | rfl | rfl <;> rfl
theorem led_assoc {p q : Pen} (r : Pen) (h : Hd p) (h' : Hd q) : led (led p q) r = led p (led q r) := by
  have e1 := cs_add h h'
  have e2 := sn_add h h'
  have e3 : ∀ a b c : Int, ((a + b) % 4 + c) % 4 = (a + (b + c) % 4) % 4 := fun a b c => by rw [Int.emod_add_emod, Int.add_emod_emod, Int.add_assoc]
  refine Prod.ext ?_ (Prod.ext ?_ (e3 _ _ _))
  · show p.1 + q.1 * cs p.2.2 - q.2.1 * sn p.2.2 + r.1 * cs ((p.2.2 + q.2.2) % 4) - r.2.1 * sn ((p.2.2 + q.2.2) % 4) = p.1 + (q.1 + r.1 * cs q.2.2 - r.2.1 * sn q.2.2) * cs p.2.2 - (q.2.1 + r.1 * sn q.2.2 + r.2.1 * cs q.2.2) * sn p.2.2
    rw [e1, e2]
    grind
  · show p.2.1 + q.1 * sn p.2.2 + q.2.1 * cs p.2.2 + r.1 * sn ((p.2.2 + q.2.2) % 4) + r.2.1 * cs ((p.2.2 + q.2.2) % 4) = p.2.1 + (q.1 + r.1 * cs q.2.2 - r.2.1 * sn q.2.2) * sn p.2.2 + (q.2.1 + r.1 * sn q.2.2 + r.2.1 * cs q.2.2) * cs p.2.2
    rw [e1, e2]
    grind
/-- n times -/
noncomputable def pw (p : Pen) : Nat → Pen
  | 0 => st
  | n + 1 => led (pw p n) p
theorem hd_pw (p : Pen) : ∀ n, Hd (pw p n)
  | 0 => hd_st
  | n + 1 => hd_led _ _
theorem pw_add {p : Pen} (h : Hd p) (m : Nat) : ∀ n, pw p (m + n) = led (pw p m) (pw p n)
  | 0 => (led_st (hd_pw p m)).symm
  | n + 1 => by
    show led (pw p (m + n)) p = led (pw p m) (led (pw p n) p)
    rw [pw_add h m n, led_assoc p (hd_pw p m) (hd_pw p n)]
theorem pw_mul {p : Pen} (h : Hd p) (m : Nat) : ∀ n, pw p (m * n) = pw (pw p m) n
  | 0 => rfl
  | n + 1 => by
    rw [Nat.mul_succ, pw_add h, pw_mul h m n]
    rfl
theorem pw_four {p : Pen} (h : Hd p) (h0 : p.2.2 ≠ 0) : pw p 4 = st := by
  obtain ⟨x, y, k⟩ := p
  unfold Hd at h
  dsimp only at h h0
  rcases h with rfl | rfl | rfl | rfl
  · exact absurd rfl h0
  all_goals (simp [pw, led, st, cs, sn] <;> omega)
theorem pw_zero {p : Pen} (h0 : p.2.2 = 0) : ∀ n : Nat, pw p n = (p.1 * n, p.2.1 * n, 0)
  | 0 => by simp [pw, st]
  | n + 1 => by
    show led (pw p n) p = _
    rw [pw_zero h0 n]
    obtain ⟨x, y, k⟩ := p
    dsimp only at h0
    subst h0
    simp [led, cs, sn, Int.mul_add]
/-- the program's reckoning of n times -/
noncomputable def rep (p : Pen) (n : Int) : Pen := if p.2.2 = 0 then (p.1 * n, p.2.1 * n, 0) else pw p (n % 4).toNat
theorem pw_mod {p : Pen} (h : Hd p) (h0 : p.2.2 ≠ 0) (n : Nat) : pw p n = pw p (n % 4) := by
  have e : n = 4 * (n / 4) + n % 4 := by omega
  have z : ∀ k, pw st k = st := fun k => by
    induction k with
    | zero => rfl
    | succ k ih => show led (pw st k) st = st; rw [ih]; exact led_st hd_st
  conv => lhs; rw [e]
  rw [pw_add h, pw_mul h, pw_four h h0, z, st_led (hd_pw _ _)]
theorem rep_pw {p : Pen} (h : Hd p) {n : Int} (hn : 0 ≤ n) : rep p n = pw p n.toNat := by
  unfold rep
  by_cases h0 : p.2.2 = 0
  · rw [if_pos h0, pw_zero h0, Int.toNat_of_nonneg hn]
  · rw [if_neg h0, pw_mod h h0 n.toNat]
    congr 1
    omega
theorem hd_rep {p : Pen} (h : Hd p) {n : Int} (hn : 0 ≤ n) : Hd (rep p n) := by rw [rep_pw h hn]; exact hd_pw _ _
/-- a deed -/
inductive Dd where
  | go (n : Int) | jump (n : Int) | turn (n : Int) | times (n : Int) (w : List Dd)
mutual
noncomputable def cnt : Dd → Nat
  | .times _ w => 1 + cnts w
  | _ => 1
noncomputable def cnts : List Dd → Nat
  | [] => 0
  | d :: r => cnt d + cnts r
end
mutual
noncomputable def dep : Dd → Nat
  | .times _ w => 1 + deps w
  | _ => 0
noncomputable def deps : List Dd → Nat
  | [] => 0
  | d :: r => max (dep d) (deps r)
end
noncomputable def G : Int := 99999999999999999999
mutual
noncomputable def okd : Dd → Prop
  | .go n => 0 ≤ n ∧ n ≤ G
  | .jump n => -G ≤ n ∧ n ≤ G
  | .turn n => -G ≤ n ∧ n ≤ G
  | .times n w => (0 ≤ n ∧ n ≤ G) ∧ oks w
noncomputable def oks : List Dd → Prop
  | [] => True
  | d :: r => okd d ∧ oks r
end
mutual
noncomputable def pd : Dd → Pen
  | .go n => (n, 0, 0)
  | .jump n => (n, 0, 0)
  | .turn n => (0, 0, n % 4)
  | .times n w => rep (pb w) n
noncomputable def pb : List Dd → Pen
  | [] => st
  | d :: r => led (pd d) (pb r)
end
mutual
theorem hd_pd : ∀ d, okd d → Hd (pd d)
  | .go n, _ => .inl rfl
  | .jump n, _ => .inl rfl
  | .turn n, _ => by
    unfold Hd pd
    have h1 := Int.emod_nonneg n (show (4 : Int) ≠ 0 by decide)
    have h2 := Int.emod_lt_of_pos n (show (0 : Int) < 4 by decide)
    dsimp only
    omega
  | .times n w, h => by
    simp only [pd]
    simp only [okd] at h
    exact hd_rep (hd_pb w) h.1.1
theorem hd_pb : ∀ w, Hd (pb w)
  | [] => by simp only [pb]; exact hd_st
  | d :: r => by simp only [pb]; exact hd_led _ _
end
/-! how great the numbers become -/
theorem G_pos : (0 : Int) < G := by decide
theorem Gp_nn (e : Nat) : (0 : Int) ≤ G ^ e := Int.pow_nonneg (Int.le_of_lt G_pos)
theorem Gp_step (e : Nat) : G ^ e ≤ G ^ (e + 1) := by
  rw [Int.pow_succ]
  have h := Gp_nn e
  have h1 : (1 : Int) ≤ G := by decide
  calc G ^ e = G ^ e * 1 := (Int.mul_one _).symm
    _ ≤ G ^ e * G := Int.mul_le_mul_of_nonneg_left h1 h
theorem Gp_mono {a b : Nat} (h : a ≤ b) : G ^ a ≤ G ^ b := by
  induction b with
  | zero =>
    have : a = 0 := by omega
    subst this; exact Int.le_refl _
  | succ b ih =>
    by_cases hab : a = b + 1
    · subst hab; exact Int.le_refl _
    · exact Int.le_trans (ih (by omega)) (Gp_step b)
noncomputable def bd (c e : Nat) : Int := (c : Int) * G ^ (e + 1)
theorem bd_one {c e : Nat} (h : 1 ≤ c) : G ≤ bd c e := by
  unfold bd
  have h1 : (1 : Int) * G ^ 1 ≤ (c : Int) * G ^ (e + 1) := Int.le_trans (Int.mul_le_mul_of_nonneg_right (by omega) (Gp_nn 1)) (Int.mul_le_mul_of_nonneg_left (Gp_mono (by omega)) (by omega))
  have h2 : (1 : Int) * G ^ 1 = G := by rw [Int.one_mul, Int.pow_succ, Int.pow_zero, Int.one_mul]
  omega
theorem bd_mono {c c' e e' : Nat} (hc : c ≤ c') (he : e ≤ e') : bd c e ≤ bd c' e' :=
  Int.le_trans (Int.mul_le_mul_of_nonneg_right (by omega) (Gp_nn _)) (Int.mul_le_mul_of_nonneg_left (Gp_mono (by omega)) (by omega))
theorem bd_big : bd 100 10 < 2 ^ 1000 := by decide +kernel
theorem nat_big {x : Int} {c e : Nat} (h0 : 0 ≤ x) (h : x ≤ bd c e) (hc : c ≤ 100) (he : e ≤ 10) : x.natAbs < 2 ^ 1000 := by
  have h1 := Int.le_trans h (bd_mono hc he)
  have h2 := bd_big
  have h3 : ((x.natAbs : Nat) : Int) < ((2 ^ 1000 : Nat) : Int) := by
    rw [Int.natAbs_of_nonneg h0]
    exact Int.lt_of_le_of_lt h1 (by rw [Int.natCast_pow]; exact h2)
  exact Int.ofNat_lt.mp h3
end Mw

namespace Mw
/-! how far a pen comes -/
noncomputable def ab (x : Int) : Int := if x < 0 then -x else x
noncomputable def pm (p : Pen) : Int := max (ab p.1) (ab p.2.1)
theorem pm_le {p : Pen} {b : Int} : pm p ≤ b ↔ (-b ≤ p.1 ∧ p.1 ≤ b) ∧ (-b ≤ p.2.1 ∧ p.2.1 ≤ b) := by
  unfold pm ab
  split <;> split <;> omega
theorem pm_nn (p : Pen) : 0 ≤ pm p := by unfold pm ab; split <;> split <;> omega
theorem pm_led {p q : Pen} (h : Hd p) {a b : Int} (ha : pm p ≤ a) (hb : pm q ≤ b) : pm (led p q) ≤ a + b := by
  rw [pm_le] at ha hb ⊢
  obtain ⟨x, y, k⟩ := p
  obtain ⟨x', y', k'⟩ := q
  unfold Hd at h
  dsimp only at h ha hb
  rcases h with rfl | rfl | rfl | rfl <;> simp [led, cs, sn] <;> omega
theorem pm_pw {p : Pen} {b : Int} (hb : pm p ≤ b) : ∀ n : Nat, pm (pw p n) ≤ n * b
  | 0 => by simp [pw, st, pm, ab]
  | n + 1 => by
    have := pm_led (hd_pw p n) (pm_pw hb n) hb
    show pm (led (pw p n) p) ≤ _
    rw [Int.natCast_add, Int.add_mul]
    omega
theorem pm_rep {p : Pen} (h : Hd p) {n b : Int} (hn : 0 ≤ n) (hb : pm p ≤ b) : pm (rep p n) ≤ (n + 3) * b := by
  have h0 := Int.le_trans (pm_nn p) hb
  unfold rep
  split
  · rw [pm_le] at hb ⊢
    dsimp only
    have e : (n + 3) * b = n * b + 3 * b := Int.add_mul ..
    have a1 : p.1 * n ≤ b * n := Int.mul_le_mul_of_nonneg_right hb.1.2 hn
    have a2 : -b * n ≤ p.1 * n := Int.mul_le_mul_of_nonneg_right hb.1.1 hn
    have a3 : p.2.1 * n ≤ b * n := Int.mul_le_mul_of_nonneg_right hb.2.2 hn
    have a4 : -b * n ≤ p.2.1 * n := Int.mul_le_mul_of_nonneg_right hb.2.1 hn
    have e2 : b * n = n * b := Int.mul_comm ..
    have e3 : -b * n = -(b * n) := Int.neg_mul ..
    omega
  · have h1 := pm_pw hb (n % 4).toNat
    have h2 : (((n % 4).toNat : Nat) : Int) * b ≤ (n + 3) * b := Int.mul_le_mul_of_nonneg_right (by omega) h0
    omega
noncomputable def G2 : Int := 200000000000000000000
noncomputable def pbd (c e : Nat) : Int := (c : Int) * G2 ^ (e + 1)
theorem G2p_nn (e : Nat) : (0 : Int) ≤ G2 ^ e := Int.pow_nonneg (by decide)
theorem G2p_mono {a b : Nat} (h : a ≤ b) : G2 ^ a ≤ G2 ^ b := by
  induction b with
  | zero =>
    have : a = 0 := by omega
    subst this; exact Int.le_refl _
  | succ b ih =>
    by_cases hab : a = b + 1
    · subst hab; exact Int.le_refl _
    · refine Int.le_trans (ih (by omega)) ?_
      rw [Int.pow_succ]
      calc G2 ^ b = G2 ^ b * 1 := (Int.mul_one _).symm
        _ ≤ G2 ^ b * G2 := Int.mul_le_mul_of_nonneg_left (by decide) (G2p_nn b)
theorem pbd_nn (c e : Nat) : 0 ≤ pbd c e := Int.mul_nonneg (by omega) (G2p_nn _)
theorem pbd_mono {c c' e e' : Nat} (hc : c ≤ c') (he : e ≤ e') : pbd c e ≤ pbd c' e' :=
  Int.le_trans (Int.mul_le_mul_of_nonneg_right (by omega) (G2p_nn _)) (Int.mul_le_mul_of_nonneg_left (G2p_mono (by omega)) (by omega))
theorem pbd_add {c c' e e' : Nat} : pbd c e + pbd c' e' ≤ pbd (c + c') (max e e') := by
  have h1 : pbd c e ≤ pbd c (max e e') := pbd_mono (Nat.le_refl _) (by omega)
  have h2 : pbd c' e' ≤ pbd c' (max e e') := pbd_mono (Nat.le_refl _) (by omega)
  have e3 : pbd (c + c') (max e e') = pbd c (max e e') + pbd c' (max e e') := by
    unfold pbd
    rw [Int.natCast_add, Int.add_mul]
  omega
theorem pbd_one : G ≤ pbd 1 0 := by decide
mutual
theorem pm_pd : ∀ d, okd d → pm (pd d) ≤ pbd (cnt d) (dep d)
  | .go n, h => by
    simp only [okd] at h
    simp only [pd, cnt, dep]
    have := pbd_one
    rw [pm_le]; dsimp only; omega
  | .jump n, h => by
    simp only [okd] at h
    simp only [pd, cnt, dep]
    have := pbd_one
    rw [pm_le]; dsimp only; omega
  | .turn n, h => by
    simp only [pd, cnt, dep]
    have := pbd_nn 1 0
    rw [pm_le]; dsimp only; omega
  | .times n w, h => by
    simp only [okd] at h
    simp only [pd, cnt, dep]
    have h1 := pm_rep (hd_pb w) h.1.1 (pm_pb w h.2)
    have h2 : (n + 3) * pbd (cnts w) (deps w) ≤ G2 * pbd (cnts w) (deps w) := Int.mul_le_mul_of_nonneg_right (by have := h.1.2; unfold G at this; unfold G2; omega) (pbd_nn _ _)
    have h3 : G2 * pbd (cnts w) (deps w) = pbd (cnts w) (1 + deps w) := by
      unfold pbd
      rw [Int.mul_left_comm, show 1 + deps w + 1 = (deps w + 1) + 1 by omega, Int.pow_succ G2 (deps w + 1), Int.mul_comm G2]
    have h4 : pbd (cnts w) (1 + deps w) ≤ pbd (1 + cnts w) (1 + deps w) := pbd_mono (by omega) (Nat.le_refl _)
    omega
theorem pm_pb : ∀ w, oks w → pm (pb w) ≤ pbd (cnts w) (deps w)
  | [], h => by simp only [pb, cnts, deps]; exact Int.le_trans (by decide) (pbd_nn _ _)
  | d :: r, h => by
    simp only [oks] at h
    simp only [pb, cnts, deps]
    have := pm_led (hd_pd d h.1) (pm_pd d h.1) (pm_pb r h.2)
    have := pbd_add (c := cnt d) (c' := cnts r) (e := dep d) (e' := deps r)
    omega
end
theorem pbd_big : pbd 100 8 < 2 ^ 1000 := by decide +kernel
theorem pm_big {p : Pen} {c e : Nat} (h : pm p ≤ pbd c e) (hc : c ≤ 100) (he : e ≤ 8) : p.1.natAbs < 2 ^ 1000 ∧ p.2.1.natAbs < 2 ^ 1000 := by
  have h1 := Int.le_trans h (pbd_mono hc he)
  have h2 := pbd_big
  rw [pm_le] at h1
  have key : ∀ x : Int, -(pbd 100 8) ≤ x → x ≤ pbd 100 8 → x.natAbs < 2 ^ 1000 := fun x a b => by
    have h3 : ((x.natAbs : Nat) : Int) < ((2 ^ 1000 : Nat) : Int) := by
      have : ((x.natAbs : Nat) : Int) ≤ pbd 100 8 := by omega
      exact Int.lt_of_le_of_lt this (by rw [Int.natCast_pow]; exact h2)
    exact Int.ofNat_lt.mp h3
  exact ⟨key _ h1.1.1 h1.1.2, key _ h1.2.1 h1.2.2⟩
end Mw

namespace Mw
/-! strokes: (x, y, way); moved and turned by a pen -/
noncomputable abbrev Stk := Int × Int × Int
noncomputable abbrev Bx := Int × Int × Int × Int
noncomputable def mn (i j : Int) : Int := if j < i then j else i
noncomputable def mx (i j : Int) : Int := if j > i then j else i
theorem mn_spec (i j : Int) : mn i j ≤ i ∧ mn i j ≤ j ∧ (mn i j = i ∨ mn i j = j) := by unfold mn; split <;> omega
noncomputable def bor : Option Bx → Option Bx → Option Bx
  | none, o => o
  | some b, none => some b
  | some a, some b => some (mn a.1 b.1, mn a.2.1 b.2.1, mx a.2.2.1 b.2.2.1, mx a.2.2.2 b.2.2.2)
noncomputable def bfr (p : Pen) : Option Bx → Option Bx
  | none => none
  | some b => some (mn (led p (b.1, b.2.1, 0)).1 (led p (b.2.2.1, b.2.2.2, 0)).1, mn (led p (b.1, b.2.1, 0)).2.1 (led p (b.2.2.1, b.2.2.2, 0)).2.1,
      mx (led p (b.1, b.2.1, 0)).1 (led p (b.2.2.1, b.2.2.2, 0)).1, mx (led p (b.1, b.2.1, 0)).2.1 (led p (b.2.2.1, b.2.2.2, 0)).2.1)
noncomputable def brs (b : Option Bx) (p : Pen) (o : Option Bx) (ks : List Int) : Option Bx := ks.foldl (fun w k => bor w (bfr (rep p k) b)) o
noncomputable def outer (p : Pen) (n : Int) : List Int := if p.2.2 = 0 then [0, n - 1] else (List.range (mn n 4).toNat).map fun i => (0 : Int) + (i : Nat)
mutual
noncomputable def bxd : Dd → Option Bx
  | .go n => if n = 0 then none else some (0, 0, n, 0)
  | .jump _ => none
  | .turn _ => none
  | .times n w => if n = 0 then none else brs (bxa w none st) (pb w) none (outer (pb w) n)
noncomputable def bxa : List Dd → Option Bx → Pen → Option Bx
  | [], o, _ => o
  | d :: r, o, p => bxa r (bor o (bfr p (bxd d))) (led p (pd d))
end
end Mw

namespace Pv
open PySem
noncomputable abbrev k_MOST_DEEDS : D := .int 30
noncomputable abbrev k_MOST_DEEP : D := .int 4
noncomputable abbrev k_GREATEST_NUMBER : D := .int 99999999999999999999
noncomputable abbrev k_PLAIN_KINDS : D := .tup [.str "go", .str "jump", .str "turn"]
noncomputable abbrev k_KINDS_FROM_NOUGHT : D := .tup [.str "go", .str "times"]
noncomputable abbrev k_START : D := .tup [.int 0, .int 0, .int 0]
noncomputable abbrev k_AHEAD : D := .tup [.tup [.int 1, .int 0], .tup [.int 0, .int 1], .tup [.int (-1), .int 0], .tup [.int 0, .int (-1)]]
noncomputable abbrev k_WAYS : D := .tup [.int 0, .int 1]
noncomputable abbrev k_MOST_LOOKED_AT : D := .int 1000
noncomputable def N_check_word : List Str := ["word"]
noncomputable def t_check_word (sp_checked_count : Sp3) : TS3 :=
  (drop3 (call3 sp_checked_count (cons3 (v3 0) (cons3 (c3 (.int 0)) nil3))))
noncomputable def N_checked_count : List Str := ["word", "depth", "count", "deed"]
noncomputable def t_checked_count (sp_checked_deed_count : Sp3) : TS3 :=
  (seq3 (ifs3 (not3 (b3 (call3 isiR (cons3 (v3 0) (cons3 (c3 (.ty "tuple")) nil3))))) never3 next3) (seq3 (ifs3 (b3 (o3 gtR (v3 1) (c3 k_MOST_DEEP))) never3 next3) (seq3 (set3 2 (c3 (.int 0))) (seq3 (for3 (is3 (v3 0)) (gn3 3) (seq3 (set3 2 (o3 addR (v3 2) (call3 sp_checked_deed_count (cons3 (v3 3) (cons3 (v3 1) nil3))))) (ifs3 (b3 (o3 gtR (v3 2) (c3 k_MOST_DEEDS))) never3 next3))) (ret3 (v3 2))))))
noncomputable def N_checked_deed_count : List Str := ["deed", "depth"]
noncomputable def t_checked_deed_count (sp_check_number : Sp3) (sp_checked_count : Sp3) : TS3 :=
  (seq3 (ifs3 (not3 (b3 (call3 isiR (cons3 (v3 0) (cons3 (c3 (.ty "tuple")) nil3))))) never3 next3) (seq3 (ifs3 (and3 (b3 (o3 eqR (call3 lenR (cons3 (v3 0) nil3)) (c3 (.int 2)))) (b3 (o3 (inR false) (o3 ixR (v3 0) (c3 (.int 0))) (c3 k_PLAIN_KINDS)))) (seq3 (drop3 (call3 sp_check_number (cons3 (o3 ixR (v3 0) (c3 (.int 0))) (cons3 (o3 ixR (v3 0) (c3 (.int 1))) nil3)))) (ret3 (c3 (.int 1)))) next3) (seq3 (ifs3 (and3 (b3 (o3 eqR (call3 lenR (cons3 (v3 0) nil3)) (c3 (.int 3)))) (b3 (o3 eqR (o3 ixR (v3 0) (c3 (.int 0))) (c3 (.str "times"))))) (seq3 (drop3 (call3 sp_check_number (cons3 (o3 ixR (v3 0) (c3 (.int 0))) (cons3 (o3 ixR (v3 0) (c3 (.int 1))) nil3)))) (ret3 (o3 addR (c3 (.int 1)) (call3 sp_checked_count (cons3 (o3 ixR (v3 0) (c3 (.int 2))) (cons3 (o3 addR (v3 1) (c3 (.int 1))) nil3)))))) next3) never3)))
noncomputable def N_check_number : List Str := ["kind", "number"]
noncomputable def t_check_number : TS3 :=
  (seq3 (ifs3 (not3 (b3 (call3 isiR (cons3 (v3 1) (cons3 (c3 (.ty "int")) nil3))))) never3 next3) (seq3 (ifs3 (b3 (o3 gtR (call3 absR (cons3 (v3 1) nil3)) (c3 k_GREATEST_NUMBER))) never3 next3) (ifs3 (and3 (b3 (o3 ltR (v3 1) (c3 (.int 0)))) (b3 (o3 (inR false) (v3 0) (c3 k_KINDS_FROM_NOUGHT)))) never3 next3)))
noncomputable def N_led : List Str := ["pen", "part", "ahead", "x", "y"]
noncomputable def t_led : TS3 :=
  (seq3 (set3 2 (o3 ixR (c3 k_AHEAD) (o3 ixR (v3 0) (c3 (.int 2))))) (seq3 (set3 3 (o3 subR (o3 addR (o3 ixR (v3 0) (c3 (.int 0))) (o3 mulR (o3 ixR (v3 1) (c3 (.int 0))) (o3 ixR (v3 2) (c3 (.int 0))))) (o3 mulR (o3 ixR (v3 1) (c3 (.int 1))) (o3 ixR (v3 2) (c3 (.int 1)))))) (seq3 (set3 4 (o3 addR (o3 addR (o3 ixR (v3 0) (c3 (.int 1))) (o3 mulR (o3 ixR (v3 1) (c3 (.int 0))) (o3 ixR (v3 2) (c3 (.int 1))))) (o3 mulR (o3 ixR (v3 1) (c3 (.int 1))) (o3 ixR (v3 2) (c3 (.int 0)))))) (ret3 (tup3 (cons3 (v3 3) (cons3 (v3 4) (cons3 (o3 modR (o3 addR (o3 ixR (v3 0) (c3 (.int 2))) (o3 ixR (v3 1) (c3 (.int 2)))) (c3 (.int 4))) nil3))))))))
noncomputable def N_pen_behind : List Str := ["word", "pen", "deed"]
noncomputable def t_pen_behind (sp_led : Sp3) (sp_pen_behind_deed : Sp3) : TS3 :=
  (seq3 (set3 1 (c3 k_START)) (seq3 (for3 (is3 (v3 0)) (gn3 2) (set3 1 (call3 sp_led (cons3 (v3 1) (cons3 (call3 sp_pen_behind_deed (cons3 (v3 2) nil3)) nil3))))) (ret3 (v3 1))))
noncomputable def N_pen_behind_deed : List Str := ["deed"]
noncomputable def t_pen_behind_deed (sp_pen_behind : Sp3) (sp_pen_repeated : Sp3) : TS3 :=
  (seq3 (ifs3 (b3 (o3 eqR (o3 ixR (v3 0) (c3 (.int 0))) (c3 (.str "turn")))) (ret3 (tup3 (cons3 (c3 (.int 0)) (cons3 (c3 (.int 0)) (cons3 (o3 modR (o3 ixR (v3 0) (c3 (.int 1))) (c3 (.int 4))) nil3))))) next3) (seq3 (ifs3 (b3 (o3 eqR (o3 ixR (v3 0) (c3 (.int 0))) (c3 (.str "times")))) (ret3 (call3 sp_pen_repeated (cons3 (call3 sp_pen_behind (cons3 (o3 ixR (v3 0) (c3 (.int 2))) nil3)) (cons3 (o3 ixR (v3 0) (c3 (.int 1))) nil3)))) next3) (ret3 (tup3 (cons3 (o3 ixR (v3 0) (c3 (.int 1))) (cons3 (c3 (.int 0)) (cons3 (c3 (.int 0)) nil3)))))))
noncomputable def N_pen_repeated : List Str := ["part", "number", "pen", "doing"]
noncomputable def t_pen_repeated (sp_led : Sp3) : TS3 :=
  (seq3 (ifs3 (b3 (o3 eqR (o3 ixR (v3 0) (c3 (.int 2))) (c3 (.int 0)))) (ret3 (tup3 (cons3 (o3 mulR (o3 ixR (v3 0) (c3 (.int 0))) (v3 1)) (cons3 (o3 mulR (o3 ixR (v3 0) (c3 (.int 1))) (v3 1)) (cons3 (c3 (.int 0)) nil3))))) next3) (seq3 (set3 2 (c3 k_START)) (seq3 (for3 (ir3 (cons3 (o3 modR (v3 1) (c3 (.int 4))) nil3)) (gn3 3) (set3 2 (call3 sp_led (cons3 (v3 2) (cons3 (v3 0) nil3))))) (ret3 (v3 2)))))
noncomputable def N_check_stroke : List Str := ["stroke"]
noncomputable def t_check_stroke : TS3 :=
  (ifs3 (or3 (b3 (o3 neR (call3 lenR (cons3 (v3 0) nil3)) (c3 (.int 3)))) (b3 (o3 (inR true) (o3 ixR (v3 0) (c3 (.int 2))) (c3 k_WAYS)))) never3 next3)
noncomputable def N_ends_of : List Str := ["stroke"]
noncomputable def t_ends_of : TS3 :=
  (seq3 (ifs3 (b3 (o3 eqR (o3 ixR (v3 0) (c3 (.int 2))) (c3 (.int 0)))) (ret3 (tup3 (cons3 (tup3 (cons3 (o3 ixR (v3 0) (c3 (.int 0))) (cons3 (o3 ixR (v3 0) (c3 (.int 1))) nil3))) (cons3 (tup3 (cons3 (o3 addR (o3 ixR (v3 0) (c3 (.int 0))) (c3 (.int 1))) (cons3 (o3 ixR (v3 0) (c3 (.int 1))) nil3))) nil3)))) next3) (ret3 (tup3 (cons3 (tup3 (cons3 (o3 ixR (v3 0) (c3 (.int 0))) (cons3 (o3 ixR (v3 0) (c3 (.int 1))) nil3))) (cons3 (tup3 (cons3 (o3 ixR (v3 0) (c3 (.int 0))) (cons3 (o3 addR (o3 ixR (v3 0) (c3 (.int 1))) (c3 (.int 1))) nil3))) nil3)))))
noncomputable def N_box_of : List Str := ["word"]
noncomputable def t_box_of (sp_check_word : Sp3) (sp_word_box : Sp3) : TS3 :=
  (seq3 (drop3 (call3 sp_check_word (cons3 (v3 0) nil3))) (ret3 (call3 sp_word_box (cons3 (v3 0) nil3))))
noncomputable def N_word_box : List Str := ["word", "box", "pen", "deed"]
noncomputable def t_word_box (sp_box_from : Sp3) (sp_box_round : Sp3) (sp_deed_box : Sp3) (sp_led : Sp3) (sp_pen_behind_deed : Sp3) : TS3 :=
  (seq3 (set3 1 (c3 .non)) (seq3 (set3 2 (c3 k_START)) (seq3 (for3 (is3 (v3 0)) (gn3 3) (seq3 (set3 1 (call3 sp_box_round (cons3 (v3 1) (cons3 (call3 sp_box_from (cons3 (v3 2) (cons3 (call3 sp_deed_box (cons3 (v3 3) nil3)) nil3))) nil3)))) (set3 2 (call3 sp_led (cons3 (v3 2) (cons3 (call3 sp_pen_behind_deed (cons3 (v3 3) nil3)) nil3)))))) (ret3 (v3 1)))))
noncomputable def N_deed_box : List Str := ["deed"]
noncomputable def t_deed_box (sp_box_repeated : Sp3) (sp_pen_behind : Sp3) (sp_word_box : Sp3) : TS3 :=
  (seq3 (ifs3 (b3 (o3 eqR (o3 ixR (v3 0) (c3 (.int 1))) (c3 (.int 0)))) (ret3 (c3 .non)) next3) (seq3 (ifs3 (b3 (o3 eqR (o3 ixR (v3 0) (c3 (.int 0))) (c3 (.str "go")))) (ret3 (tup3 (cons3 (c3 (.int 0)) (cons3 (c3 (.int 0)) (cons3 (o3 ixR (v3 0) (c3 (.int 1))) (cons3 (c3 (.int 0)) nil3)))))) next3) (seq3 (ifs3 (b3 (o3 eqR (o3 ixR (v3 0) (c3 (.int 0))) (c3 (.str "times")))) (ret3 (call3 sp_box_repeated (cons3 (call3 sp_word_box (cons3 (o3 ixR (v3 0) (c3 (.int 2))) nil3)) (cons3 (call3 sp_pen_behind (cons3 (o3 ixR (v3 0) (c3 (.int 2))) nil3)) (cons3 (o3 ixR (v3 0) (c3 (.int 1))) nil3))))) next3) (ret3 (c3 .non)))))
noncomputable def N_box_repeated : List Str := ["box", "part", "number", "whole", "doing"]
noncomputable def t_box_repeated (sp_box_from : Sp3) (sp_box_round : Sp3) (sp_outermost_doings : Sp3) (sp_pen_repeated : Sp3) : TS3 :=
  (seq3 (set3 3 (c3 .non)) (seq3 (for3 (is3 (call3 sp_outermost_doings (cons3 (v3 1) (cons3 (v3 2) nil3)))) (gn3 4) (set3 3 (call3 sp_box_round (cons3 (v3 3) (cons3 (call3 sp_box_from (cons3 (call3 sp_pen_repeated (cons3 (v3 1) (cons3 (v3 4) nil3))) (cons3 (v3 0) nil3))) nil3))))) (ret3 (v3 3))))
noncomputable def N_outermost_doings : List Str := ["part", "number"]
noncomputable def t_outermost_doings : TS3 :=
  (seq3 (ifs3 (b3 (o3 eqR (o3 ixR (v3 0) (c3 (.int 2))) (c3 (.int 0)))) (ret3 (lst3 (cons3 (c3 (.int 0)) (cons3 (o3 subR (v3 1) (c3 (.int 1))) nil3)))) next3) (ret3 (lrng3 (call3 min2R (cons3 (v3 1) (cons3 (c3 (.int 4)) nil3))))))
noncomputable def N_box_round : List Str := ["one", "other", "least"]
noncomputable def t_box_round : TS3 :=
  (seq3 (ifs3 (b3 (o3 (isNR false) (v3 0) (c3 .non))) (ret3 (v3 1)) next3) (seq3 (ifs3 (b3 (o3 (isNR false) (v3 1) (c3 .non))) (ret3 (v3 0)) next3) (seq3 (set3 2 (tup3 (cons3 (call3 min2R (cons3 (o3 ixR (v3 0) (c3 (.int 0))) (cons3 (o3 ixR (v3 1) (c3 (.int 0))) nil3))) (cons3 (call3 min2R (cons3 (o3 ixR (v3 0) (c3 (.int 1))) (cons3 (o3 ixR (v3 1) (c3 (.int 1))) nil3))) nil3)))) (ret3 (o3 addR (v3 2) (tup3 (cons3 (call3 maxR (cons3 (o3 ixR (v3 0) (c3 (.int 2))) (cons3 (o3 ixR (v3 1) (c3 (.int 2))) nil3))) (cons3 (call3 maxR (cons3 (o3 ixR (v3 0) (c3 (.int 3))) (cons3 (o3 ixR (v3 1) (c3 (.int 3))) nil3))) nil3))))))))
noncomputable def N_box_from : List Str := ["pen", "box", "corner", "other", "least"]
noncomputable def t_box_from (sp_led : Sp3) : TS3 :=
  (seq3 (ifs3 (b3 (o3 (isNR false) (v3 1) (c3 .non))) (ret3 (c3 .non)) next3) (seq3 (set3 2 (call3 sp_led (cons3 (v3 0) (cons3 (tup3 (cons3 (o3 ixR (v3 1) (c3 (.int 0))) (cons3 (o3 ixR (v3 1) (c3 (.int 1))) (cons3 (c3 (.int 0)) nil3)))) nil3)))) (seq3 (set3 3 (call3 sp_led (cons3 (v3 0) (cons3 (tup3 (cons3 (o3 ixR (v3 1) (c3 (.int 2))) (cons3 (o3 ixR (v3 1) (c3 (.int 3))) (cons3 (c3 (.int 0)) nil3)))) nil3)))) (seq3 (set3 4 (tup3 (cons3 (call3 min2R (cons3 (o3 ixR (v3 2) (c3 (.int 0))) (cons3 (o3 ixR (v3 3) (c3 (.int 0))) nil3))) (cons3 (call3 min2R (cons3 (o3 ixR (v3 2) (c3 (.int 1))) (cons3 (o3 ixR (v3 3) (c3 (.int 1))) nil3))) nil3)))) (ret3 (o3 addR (v3 4) (tup3 (cons3 (call3 maxR (cons3 (o3 ixR (v3 2) (c3 (.int 0))) (cons3 (o3 ixR (v3 3) (c3 (.int 0))) nil3))) (cons3 (call3 maxR (cons3 (o3 ixR (v3 2) (c3 (.int 1))) (cons3 (o3 ixR (v3 3) (c3 (.int 1))) nil3))) nil3)))))))))
noncomputable def N_drawn_often : List Str := ["word", "stroke"]
noncomputable def t_drawn_often (sp_Look___init__ : Sp3) (sp_check_stroke : Sp3) (sp_check_word : Sp3) (sp_often_in_word : Sp3) : TS3 :=
  (seq3 (drop3 (call3 sp_check_word (cons3 (v3 0) nil3))) (seq3 (drop3 (call3 sp_check_stroke (cons3 (v3 1) nil3))) (ret3 (call3 sp_often_in_word (cons3 (v3 0) (cons3 (c3 k_START) (cons3 (make3 "Look" sp_Look___init__ (cons3 (v3 1) nil3)) nil3)))))))
noncomputable def N_often_in_word : List Str := ["word", "pen", "look", "often", "here", "deed"]
noncomputable def t_often_in_word (sp_led : Sp3) (sp_often_in_deed : Sp3) (sp_pen_behind_deed : Sp3) : TS3 :=
  (seq3 (set3 3 (c3 (.int 0))) (seq3 (set3 4 (v3 1)) (seq3 (for3 (is3 (v3 0)) (gn3 5) (seq3 (set3 3 (o3 addR (v3 3) (call3 sp_often_in_deed (cons3 (v3 5) (cons3 (v3 4) (cons3 (v3 2) nil3)))))) (set3 4 (call3 sp_led (cons3 (v3 4) (cons3 (call3 sp_pen_behind_deed (cons3 (v3 5) nil3)) nil3)))))) (ret3 (v3 3)))))
noncomputable def N_often_in_deed : List Str := ["deed", "pen", "look"]
noncomputable def t_often_in_deed (sp_Look_is_within : Sp3) (sp_box_from : Sp3) (sp_deed_box : Sp3) (sp_often_in_times : Sp3) : TS3 :=
  (seq3 (ifs3 (b3 (o3 eqR (o3 ixR (v3 0) (c3 (.int 0))) (c3 (.str "times")))) (ret3 (call3 sp_often_in_times (cons3 (o3 ixR (v3 0) (c3 (.int 1))) (cons3 (o3 ixR (v3 0) (c3 (.int 2))) (cons3 (v3 1) (cons3 (v3 2) nil3)))))) next3) (ret3 (if3 (b3 (meth3 "Look" "is_within" sp_Look_is_within (v3 2) (cons3 (call3 sp_box_from (cons3 (v3 1) (cons3 (call3 sp_deed_box (cons3 (v3 0) nil3)) nil3))) nil3))) (c3 (.int 1)) (c3 (.int 0)))))
noncomputable def N_often_in_times : List Str := ["number", "word", "pen", "look", "part", "box", "often", "span", "doing", "start"]
noncomputable def t_often_in_times_r5 (sp_Look_count_doing : Sp3) (sp_Look_is_within : Sp3) (sp_box_from : Sp3) (sp_doings_like : Sp3) (sp_doings_to_ask : Sp3) (sp_led : Sp3) (sp_often_in_word : Sp3) (sp_pen_behind : Sp3) (sp_pen_repeated : Sp3) (sp_word_box : Sp3) : TS3 :=
  (ret3 (v3 6))
noncomputable def t_often_in_times_r4 (sp_Look_count_doing : Sp3) (sp_Look_is_within : Sp3) (sp_box_from : Sp3) (sp_doings_like : Sp3) (sp_doings_to_ask : Sp3) (sp_led : Sp3) (sp_often_in_word : Sp3) (sp_pen_behind : Sp3) (sp_pen_repeated : Sp3) (sp_word_box : Sp3) : TS3 :=
  (seq3 (for3 (irL3 (cons3 (o3 ixR (v3 7) (c3 (.int 0))) (cons3 (o3 ixR (v3 7) (c3 (.int 1))) nil3))) (gn3 8) (seq3 (set3 9 (call3 sp_led (cons3 (v3 2) (cons3 (call3 sp_pen_repeated (cons3 (v3 4) (cons3 (v3 8) nil3))) nil3)))) (ifs3 (b3 (meth3 "Look" "is_within" sp_Look_is_within (v3 3) (cons3 (call3 sp_box_from (cons3 (v3 9) (cons3 (v3 5) nil3))) nil3))) (seq3 (drop3 (meth3 "Look" "count_doing" sp_Look_count_doing (v3 3) nil3)) (set3 6 (o3 addR (v3 6) (o3 mulR (call3 sp_doings_like (cons3 (v3 8) (cons3 (v3 0) (cons3 (v3 4) nil3)))) (call3 sp_often_in_word (cons3 (v3 1) (cons3 (v3 9) (cons3 (v3 3) nil3)))))))) next3))) (t_often_in_times_r5 sp_Look_count_doing sp_Look_is_within sp_box_from sp_doings_like sp_doings_to_ask sp_led sp_often_in_word sp_pen_behind sp_pen_repeated sp_word_box))
noncomputable def t_often_in_times_r3 (sp_Look_count_doing : Sp3) (sp_Look_is_within : Sp3) (sp_box_from : Sp3) (sp_doings_like : Sp3) (sp_doings_to_ask : Sp3) (sp_led : Sp3) (sp_often_in_word : Sp3) (sp_pen_behind : Sp3) (sp_pen_repeated : Sp3) (sp_word_box : Sp3) : TS3 :=
  (seq3 (set3 7 (call3 sp_doings_to_ask (cons3 (v3 0) (cons3 (v3 4) (cons3 (v3 2) (cons3 (v3 5) (cons3 (v3 3) nil3))))))) (t_often_in_times_r4 sp_Look_count_doing sp_Look_is_within sp_box_from sp_doings_like sp_doings_to_ask sp_led sp_often_in_word sp_pen_behind sp_pen_repeated sp_word_box))
noncomputable def t_often_in_times_r2 (sp_Look_count_doing : Sp3) (sp_Look_is_within : Sp3) (sp_box_from : Sp3) (sp_doings_like : Sp3) (sp_doings_to_ask : Sp3) (sp_led : Sp3) (sp_often_in_word : Sp3) (sp_pen_behind : Sp3) (sp_pen_repeated : Sp3) (sp_word_box : Sp3) : TS3 :=
  (seq3 (set3 6 (c3 (.int 0))) (t_often_in_times_r3 sp_Look_count_doing sp_Look_is_within sp_box_from sp_doings_like sp_doings_to_ask sp_led sp_often_in_word sp_pen_behind sp_pen_repeated sp_word_box))
noncomputable def t_often_in_times_r1 (sp_Look_count_doing : Sp3) (sp_Look_is_within : Sp3) (sp_box_from : Sp3) (sp_doings_like : Sp3) (sp_doings_to_ask : Sp3) (sp_led : Sp3) (sp_often_in_word : Sp3) (sp_pen_behind : Sp3) (sp_pen_repeated : Sp3) (sp_word_box : Sp3) : TS3 :=
  (seq3 (set3 5 (call3 sp_word_box (cons3 (v3 1) nil3))) (t_often_in_times_r2 sp_Look_count_doing sp_Look_is_within sp_box_from sp_doings_like sp_doings_to_ask sp_led sp_often_in_word sp_pen_behind sp_pen_repeated sp_word_box))
noncomputable def t_often_in_times (sp_Look_count_doing : Sp3) (sp_Look_is_within : Sp3) (sp_box_from : Sp3) (sp_doings_like : Sp3) (sp_doings_to_ask : Sp3) (sp_led : Sp3) (sp_often_in_word : Sp3) (sp_pen_behind : Sp3) (sp_pen_repeated : Sp3) (sp_word_box : Sp3) : TS3 :=
  (seq3 (set3 4 (call3 sp_pen_behind (cons3 (v3 1) nil3))) (t_often_in_times_r1 sp_Look_count_doing sp_Look_is_within sp_box_from sp_doings_like sp_doings_to_ask sp_led sp_often_in_word sp_pen_behind sp_pen_repeated sp_word_box))
noncomputable def N_doings_to_ask : List Str := ["number", "part", "pen", "box", "look", "first", "second", "x_span", "y_span"]
noncomputable def t_doings_to_ask_r7 (sp_box_from : Sp3) (sp_led : Sp3) (sp_span_of_doings : Sp3) : TS3 :=
  (ret3 (tup3 (cons3 (call3 maxR (cons3 (o3 ixR (v3 7) (c3 (.int 0))) (cons3 (o3 ixR (v3 8) (c3 (.int 0))) nil3))) (cons3 (call3 min2R (cons3 (o3 ixR (v3 7) (c3 (.int 1))) (cons3 (o3 ixR (v3 8) (c3 (.int 1))) nil3))) nil3))))
noncomputable def t_doings_to_ask_r6 (sp_box_from : Sp3) (sp_led : Sp3) (sp_span_of_doings : Sp3) : TS3 :=
  (seq3 (set3 8 (call3 sp_span_of_doings (cons3 (v3 0) (cons3 (o3 ixR (v3 5) (c3 (.int 1))) (cons3 (o3 ixR (v3 5) (c3 (.int 3))) (cons3 (o3 subR (o3 ixR (v3 6) (c3 (.int 1))) (o3 ixR (v3 5) (c3 (.int 1)))) (cons3 (o3 ixR (fld3 (v3 4) "Look" "least") (c3 (.int 1))) (cons3 (o3 ixR (fld3 (v3 4) "Look" "greatest") (c3 (.int 1))) nil3)))))))) (t_doings_to_ask_r7 sp_box_from sp_led sp_span_of_doings))
noncomputable def t_doings_to_ask_r5 (sp_box_from : Sp3) (sp_led : Sp3) (sp_span_of_doings : Sp3) : TS3 :=
  (seq3 (set3 7 (call3 sp_span_of_doings (cons3 (v3 0) (cons3 (o3 ixR (v3 5) (c3 (.int 0))) (cons3 (o3 ixR (v3 5) (c3 (.int 2))) (cons3 (o3 subR (o3 ixR (v3 6) (c3 (.int 0))) (o3 ixR (v3 5) (c3 (.int 0)))) (cons3 (o3 ixR (fld3 (v3 4) "Look" "least") (c3 (.int 0))) (cons3 (o3 ixR (fld3 (v3 4) "Look" "greatest") (c3 (.int 0))) nil3)))))))) (t_doings_to_ask_r6 sp_box_from sp_led sp_span_of_doings))
noncomputable def t_doings_to_ask_r4 (sp_box_from : Sp3) (sp_led : Sp3) (sp_span_of_doings : Sp3) : TS3 :=
  (seq3 (set3 6 (call3 sp_box_from (cons3 (call3 sp_led (cons3 (v3 2) (cons3 (v3 1) nil3))) (cons3 (v3 3) nil3)))) (t_doings_to_ask_r5 sp_box_from sp_led sp_span_of_doings))
noncomputable def t_doings_to_ask_r3 (sp_box_from : Sp3) (sp_led : Sp3) (sp_span_of_doings : Sp3) : TS3 :=
  (seq3 (set3 5 (call3 sp_box_from (cons3 (v3 2) (cons3 (v3 3) nil3)))) (t_doings_to_ask_r4 sp_box_from sp_led sp_span_of_doings))
noncomputable def t_doings_to_ask_r2 (sp_box_from : Sp3) (sp_led : Sp3) (sp_span_of_doings : Sp3) : TS3 :=
  (seq3 (ifs3 (b3 (o3 neR (o3 ixR (v3 1) (c3 (.int 2))) (c3 (.int 0)))) (ret3 (tup3 (cons3 (c3 (.int 0)) (cons3 (call3 min2R (cons3 (v3 0) (cons3 (c3 (.int 4)) nil3))) nil3)))) next3) (t_doings_to_ask_r3 sp_box_from sp_led sp_span_of_doings))
noncomputable def t_doings_to_ask_r1 (sp_box_from : Sp3) (sp_led : Sp3) (sp_span_of_doings : Sp3) : TS3 :=
  (seq3 (ifs3 (b3 (o3 eqR (v3 1) (c3 k_START))) (ret3 (tup3 (cons3 (c3 (.int 0)) (cons3 (call3 min2R (cons3 (v3 0) (cons3 (c3 (.int 1)) nil3))) nil3)))) next3) (t_doings_to_ask_r2 sp_box_from sp_led sp_span_of_doings))
noncomputable def t_doings_to_ask (sp_box_from : Sp3) (sp_led : Sp3) (sp_span_of_doings : Sp3) : TS3 :=
  (seq3 (ifs3 (b3 (o3 (isNR false) (v3 3) (c3 .non))) (ret3 (tup3 (cons3 (c3 (.int 0)) (cons3 (c3 (.int 0)) nil3)))) next3) (t_doings_to_ask_r1 sp_box_from sp_led sp_span_of_doings))
noncomputable def N_span_of_doings : List Str := ["number", "low", "high", "shift", "least", "greatest", "first", "last"]
noncomputable def t_span_of_doings (sp_span_of_doings : Sp3) : TS3 :=
  (seq3 (ifs3 (b3 (o3 ltR (v3 3) (c3 (.int 0)))) (ret3 (call3 sp_span_of_doings (cons3 (v3 0) (cons3 (un3 negR (v3 2)) (cons3 (un3 negR (v3 1)) (cons3 (un3 negR (v3 3)) (cons3 (un3 negR (v3 5)) (cons3 (un3 negR (v3 4)) nil3)))))))) next3) (seq3 (ifs3 (b3 (o3 eqR (v3 3) (c3 (.int 0)))) (ret3 (if3 (and3 (b3 (o3 leR (v3 1) (v3 4))) (b3 (o3 leR (v3 5) (v3 2)))) (tup3 (cons3 (c3 (.int 0)) (cons3 (v3 0) nil3))) (tup3 (cons3 (c3 (.int 0)) (cons3 (c3 (.int 0)) nil3))))) next3) (seq3 (set3 6 (un3 negR (o3 fdivR (o3 subR (v3 2) (v3 5)) (v3 3)))) (seq3 (set3 7 (o3 fdivR (o3 subR (v3 4) (v3 1)) (v3 3))) (ret3 (tup3 (cons3 (call3 maxR (cons3 (c3 (.int 0)) (cons3 (v3 6) nil3))) (cons3 (call3 min2R (cons3 (v3 0) (cons3 (o3 addR (v3 7) (c3 (.int 1))) nil3))) nil3))))))))
noncomputable def N_doings_like : List Str := ["doing", "number", "part"]
noncomputable def t_doings_like : TS3 :=
  (seq3 (ifs3 (b3 (o3 eqR (v3 2) (c3 k_START))) (ret3 (v3 1)) next3) (seq3 (ifs3 (b3 (o3 neR (o3 ixR (v3 2) (c3 (.int 2))) (c3 (.int 0)))) (ret3 (o3 fdivR (o3 addR (o3 subR (v3 1) (v3 0)) (c3 (.int 3))) (c3 (.int 4)))) next3) (ret3 (c3 (.int 1)))))
noncomputable def N__law_state : List Str := ["script", "k", "cell"]
noncomputable def t__law_state : TS3 :=
  (seq3 (set3 2 (c3 (.int 0))) (seq3 (ifs3 (b3 (o3 ltR (v3 1) (call3 lenR (cons3 (v3 0) nil3)))) (set3 2 (o3 ixR (v3 0) (v3 1))) next3) (seq3 (ifs3 (b3 (o3 geR (v3 2) (o3 powR (c3 (.int 10)) (c3 (.int 18))))) (ret3 (lst3 (cons3 (o3 subR (v3 2) (o3 powR (c3 (.int 10)) (c3 (.int 18)))) (cons3 (c3 (.int 1)) nil3)))) next3) (ret3 (lst3 (cons3 (o3 modR (o3 addR (v3 2) (o3 mulR (c3 (.int 7919)) (v3 1))) (c3 (.int 2147483647))) (cons3 (c3 (.int 0)) nil3)))))))
noncomputable def N__law_take : List Str := ["state", "many", "found", "mixed"]
noncomputable def t__law_take_r5 : TS3 :=
  (ret3 (o3 modR (o3 fdivR (v3 3) (c3 (.int 8))) (v3 1)))
noncomputable def t__law_take_r4 : TS3 :=
  (seq3 (set3 3 (o3 modR (o3 addR (o3 mulR (v3 3) (v3 3)) (o3 mulR (c3 (.int 39373)) (v3 3))) (c3 (.int 2147483587)))) (t__law_take_r5))
noncomputable def t__law_take_r3 : TS3 :=
  (seq3 (set3 3 (o3 modR (o3 addR (o3 mulR (o3 ixR (v3 0) (c3 (.int 0))) (o3 ixR (v3 0) (c3 (.int 0)))) (o3 mulR (c3 (.int 16807)) (o3 ixR (v3 0) (c3 (.int 0))))) (c3 (.int 2147483629)))) (t__law_take_r4))
noncomputable def t__law_take_r2 : TS3 :=
  (seq3 (asg3 (o3 modR (o3 addR (o3 mulR (o3 ixR (v3 0) (c3 (.int 0))) (c3 (.int 48271))) (c3 (.int 69621))) (c3 (.int 2147483647))) (sub3 (v3 0) (c3 (.int 0)))) (t__law_take_r3))
noncomputable def t__law_take_r1 : TS3 :=
  (seq3 (asg3 (c3 (.int 0)) (sub3 (v3 0) (c3 (.int 1)))) (t__law_take_r2))
noncomputable def t__law_take : TS3 :=
  (seq3 (ifs3 (and3 (b3 (o3 eqR (o3 ixR (v3 0) (c3 (.int 1))) (c3 (.int 1)))) (b3 (o3 gtR (o3 ixR (v3 0) (c3 (.int 0))) (c3 (.int 0))))) (seq3 (set3 2 (o3 modR (o3 ixR (v3 0) (c3 (.int 0))) (v3 1))) (seq3 (asg3 (o3 fdivR (o3 ixR (v3 0) (c3 (.int 0))) (v3 1)) (sub3 (v3 0) (c3 (.int 0)))) (ret3 (v3 2)))) next3) (t__law_take_r1))
noncomputable def N__law_whole : List Str := ["found"]
noncomputable def t__law_whole : TS3 :=
  (ret3 (andV3 (call3 isiR (cons3 (v3 0) (cons3 (c3 (.ty "int")) nil3))) (notV3 (call3 isiR (cons3 (v3 0) (cons3 (c3 (.ty "bool")) nil3))))))
noncomputable def N__law_is_row : List Str := ["found", "due"]
noncomputable def t__law_is_row (sp__law_whole : Sp3) : TS3 :=
  (seq3 (ifs3 (or3 (b3 (o3 (isNR false) (v3 1) (c3 .non))) (b3 (o3 (isNR false) (v3 0) (c3 .non)))) (ret3 (andV3 (o3 (isNR false) (v3 0) (c3 .non)) (o3 (isNR false) (v3 1) (c3 .non)))) next3) (ret3 (andV3 (call3 isiR (cons3 (v3 0) (cons3 (c3 (.ty "tuple")) nil3))) (andV3 (o3 eqR (v3 0) (v3 1)) (call3 allR (cons3 (comp3 [none] (is3 (v3 0)) (gn3 0) tt3 (call3 sp__law_whole (cons3 (v3 0) nil3))) nil3))))))
noncomputable def N_law : List Str := ["script", "state", "wide", "high", "step", "row", "deeds", "at", "level", "due", "side", "ring", "seen", "over"]
noncomputable def t_law_r17 (sp__law_is_row : Sp3) (sp__law_state : Sp3) (sp__law_take : Sp3) (sp_box_of : Sp3) (sp_drawn_often : Sp3) : TS3 :=
  (ret3 (o3 eqR (call3 sp_drawn_often (cons3 (v3 13) (cons3 (tup3 (cons3 (v3 7) (cons3 (c3 (.int 0)) (cons3 (c3 (.int 0)) nil3)))) nil3))) (o3 mulR (v3 3) (call3 intR (cons3 (ch3 leR ltR (c3 (.int 0)) (v3 7) (v3 2)) nil3)))))
noncomputable def t_law_r16 (sp__law_is_row : Sp3) (sp__law_state : Sp3) (sp__law_take : Sp3) (sp_box_of : Sp3) (sp_drawn_often : Sp3) : TS3 :=
  (seq3 (ifs3 (not3 (b3 (call3 sp__law_is_row (cons3 (call3 sp_box_of (cons3 (v3 13) nil3)) (cons3 (tup3 (cons3 (c3 (.int 0)) (cons3 (c3 (.int 0)) (cons3 (v3 2) (cons3 (c3 (.int 0)) nil3))))) nil3))))) (ret3 (c3 (.bl false))) next3) (t_law_r17 sp__law_is_row sp__law_state sp__law_take sp_box_of sp_drawn_often))
noncomputable def t_law_r15 (sp__law_is_row : Sp3) (sp__law_state : Sp3) (sp__law_take : Sp3) (sp_box_of : Sp3) (sp_drawn_often : Sp3) : TS3 :=
  (seq3 (set3 13 (tup3 (cons3 (tup3 (cons3 (c3 (.str "times")) (cons3 (v3 3) (cons3 (tup3 (cons3 (v3 5) (cons3 (tup3 (cons3 (c3 (.str "jump")) (cons3 (o3 subR (c3 (.int 0)) (v3 2)) nil3))) nil3))) nil3)))) nil3))) (t_law_r16 sp__law_is_row sp__law_state sp__law_take sp_box_of sp_drawn_often))
noncomputable def t_law_r14 (sp__law_is_row : Sp3) (sp__law_state : Sp3) (sp__law_take : Sp3) (sp_box_of : Sp3) (sp_drawn_often : Sp3) : TS3 :=
  (seq3 (ifs3 (b3 (o3 neR (comp3 [none, some 11] (is3 (v3 12)) (gn3 0) tt3 (call3 sp_drawn_often (cons3 (v3 1) (cons3 (v3 0) nil3)))) (comp3 [none, some 3] (ir3 (cons3 (c3 (.int 4)) nil3)) (gn3 0) tt3 (o3 fdivR (o3 addR (o3 subR (v3 1) (v3 0)) (c3 (.int 3))) (c3 (.int 4)))))) (ret3 (c3 (.bl false))) next3) (t_law_r15 sp__law_is_row sp__law_state sp__law_take sp_box_of sp_drawn_often))
noncomputable def t_law_r13 (sp__law_is_row : Sp3) (sp__law_state : Sp3) (sp__law_take : Sp3) (sp_box_of : Sp3) (sp_drawn_often : Sp3) : TS3 :=
  (seq3 (set3 12 (lst3 (cons3 (tup3 (cons3 (c3 (.int 0)) (cons3 (c3 (.int 0)) (cons3 (c3 (.int 0)) nil3)))) (cons3 (tup3 (cons3 (v3 10) (cons3 (c3 (.int 0)) (cons3 (c3 (.int 1)) nil3)))) (cons3 (tup3 (cons3 (o3 subR (v3 10) (c3 (.int 1))) (cons3 (v3 10) (cons3 (c3 (.int 0)) nil3)))) (cons3 (tup3 (cons3 (c3 (.int 0)) (cons3 (o3 subR (v3 10) (c3 (.int 1))) (cons3 (c3 (.int 1)) nil3)))) nil3)))))) (t_law_r14 sp__law_is_row sp__law_state sp__law_take sp_box_of sp_drawn_often))
noncomputable def t_law_r12 (sp__law_is_row : Sp3) (sp__law_state : Sp3) (sp__law_take : Sp3) (sp_box_of : Sp3) (sp_drawn_often : Sp3) : TS3 :=
  (seq3 (set3 11 (tup3 (cons3 (tup3 (cons3 (c3 (.str "times")) (cons3 (v3 3) (cons3 (tup3 (cons3 (tup3 (cons3 (c3 (.str "go")) (cons3 (v3 10) nil3))) (cons3 (tup3 (cons3 (c3 (.str "turn")) (cons3 (c3 (.int 1)) nil3))) nil3))) nil3)))) nil3))) (t_law_r13 sp__law_is_row sp__law_state sp__law_take sp_box_of sp_drawn_often))
noncomputable def t_law_r11 (sp__law_is_row : Sp3) (sp__law_state : Sp3) (sp__law_take : Sp3) (sp_box_of : Sp3) (sp_drawn_often : Sp3) : TS3 :=
  (seq3 (set3 10 (o3 addR (c3 (.int 1)) (call3 sp__law_take (cons3 (v3 1) (cons3 (o3 ixR (lst3 (cons3 (c3 (.int 3)) (cons3 (o3 powR (c3 (.int 10)) (c3 (.int 9))) nil3))) (call3 sp__law_take (cons3 (v3 1) (cons3 (c3 (.int 2)) nil3)))) nil3))))) (t_law_r12 sp__law_is_row sp__law_state sp__law_take sp_box_of sp_drawn_often))
noncomputable def t_law_r10 (sp__law_is_row : Sp3) (sp__law_state : Sp3) (sp__law_take : Sp3) (sp_box_of : Sp3) (sp_drawn_often : Sp3) : TS3 :=
  (seq3 (ifs3 (or3 (b3 (o3 neR (call3 sp_drawn_often (cons3 (v3 6) (cons3 (tup3 (cons3 (v3 7) (cons3 (o3 mulR (v3 8) (v3 4)) (cons3 (c3 (.int 0)) nil3)))) nil3))) (v3 9))) (b3 (o3 neR (call3 sp_drawn_often (cons3 (v3 6) (cons3 (tup3 (cons3 (v3 7) (cons3 (o3 mulR (v3 8) (v3 4)) (cons3 (c3 (.int 1)) nil3)))) nil3))) (c3 (.int 0))))) (ret3 (c3 (.bl false))) next3) (t_law_r11 sp__law_is_row sp__law_state sp__law_take sp_box_of sp_drawn_often))
noncomputable def t_law_r9 (sp__law_is_row : Sp3) (sp__law_state : Sp3) (sp__law_take : Sp3) (sp_box_of : Sp3) (sp_drawn_often : Sp3) : TS3 :=
  (seq3 (set3 9 (call3 intR (cons3 (andV3 (ch3 leR ltR (c3 (.int 0)) (v3 7) (v3 2)) (ch3 leR ltR (c3 (.int 0)) (v3 8) (v3 3))) nil3))) (t_law_r10 sp__law_is_row sp__law_state sp__law_take sp_box_of sp_drawn_often))
noncomputable def t_law_r8 (sp__law_is_row : Sp3) (sp__law_state : Sp3) (sp__law_take : Sp3) (sp_box_of : Sp3) (sp_drawn_often : Sp3) : TS3 :=
  (seq3 (set3 8 (o3 ixR (lst3 (cons3 (c3 (.int 0)) (cons3 (o3 subR (v3 3) (c3 (.int 1))) (cons3 (v3 3) (cons3 (un3 negR (c3 (.int 1))) (cons3 (o3 fdivR (v3 3) (c3 (.int 2))) nil3)))))) (call3 sp__law_take (cons3 (v3 1) (cons3 (c3 (.int 5)) nil3))))) (t_law_r9 sp__law_is_row sp__law_state sp__law_take sp_box_of sp_drawn_often))
noncomputable def t_law_r7 (sp__law_is_row : Sp3) (sp__law_state : Sp3) (sp__law_take : Sp3) (sp_box_of : Sp3) (sp_drawn_often : Sp3) : TS3 :=
  (seq3 (set3 7 (o3 ixR (lst3 (cons3 (c3 (.int 0)) (cons3 (o3 subR (v3 2) (c3 (.int 1))) (cons3 (v3 2) (cons3 (un3 negR (c3 (.int 1))) (cons3 (o3 fdivR (v3 2) (c3 (.int 2))) nil3)))))) (call3 sp__law_take (cons3 (v3 1) (cons3 (c3 (.int 5)) nil3))))) (t_law_r8 sp__law_is_row sp__law_state sp__law_take sp_box_of sp_drawn_often))
noncomputable def t_law_r6 (sp__law_is_row : Sp3) (sp__law_state : Sp3) (sp__law_take : Sp3) (sp_box_of : Sp3) (sp_drawn_often : Sp3) : TS3 :=
  (seq3 (ifs3 (not3 (b3 (call3 sp__law_is_row (cons3 (call3 sp_box_of (cons3 (v3 6) nil3)) (cons3 (tup3 (cons3 (c3 (.int 0)) (cons3 (c3 (.int 0)) (cons3 (v3 2) (cons3 (o3 mulR (o3 subR (v3 3) (c3 (.int 1))) (v3 4)) nil3))))) nil3))))) (ret3 (c3 (.bl false))) next3) (t_law_r7 sp__law_is_row sp__law_state sp__law_take sp_box_of sp_drawn_often))
noncomputable def t_law_r5 (sp__law_is_row : Sp3) (sp__law_state : Sp3) (sp__law_take : Sp3) (sp_box_of : Sp3) (sp_drawn_often : Sp3) : TS3 :=
  (seq3 (set3 6 (tup3 (cons3 (tup3 (cons3 (c3 (.str "times")) (cons3 (v3 3) (cons3 (tup3 (cons3 (v3 5) (cons3 (tup3 (cons3 (c3 (.str "jump")) (cons3 (o3 subR (c3 (.int 0)) (v3 2)) nil3))) (cons3 (tup3 (cons3 (c3 (.str "turn")) (cons3 (c3 (.int 1)) nil3))) (cons3 (tup3 (cons3 (c3 (.str "jump")) (cons3 (v3 4) nil3))) (cons3 (tup3 (cons3 (c3 (.str "turn")) (cons3 (un3 negR (c3 (.int 1))) nil3))) nil3)))))) nil3)))) nil3))) (t_law_r6 sp__law_is_row sp__law_state sp__law_take sp_box_of sp_drawn_often))
noncomputable def t_law_r4 (sp__law_is_row : Sp3) (sp__law_state : Sp3) (sp__law_take : Sp3) (sp_box_of : Sp3) (sp_drawn_often : Sp3) : TS3 :=
  (seq3 (set3 5 (tup3 (cons3 (c3 (.str "times")) (cons3 (v3 2) (cons3 (tup3 (cons3 (tup3 (cons3 (c3 (.str "go")) (cons3 (c3 (.int 1)) nil3))) nil3)) nil3))))) (t_law_r5 sp__law_is_row sp__law_state sp__law_take sp_box_of sp_drawn_often))
noncomputable def t_law_r3 (sp__law_is_row : Sp3) (sp__law_state : Sp3) (sp__law_take : Sp3) (sp_box_of : Sp3) (sp_drawn_often : Sp3) : TS3 :=
  (seq3 (set3 4 (o3 addR (c3 (.int 1)) (call3 sp__law_take (cons3 (v3 1) (cons3 (c3 (.int 4)) nil3))))) (t_law_r4 sp__law_is_row sp__law_state sp__law_take sp_box_of sp_drawn_often))
noncomputable def t_law_r2 (sp__law_is_row : Sp3) (sp__law_state : Sp3) (sp__law_take : Sp3) (sp_box_of : Sp3) (sp_drawn_often : Sp3) : TS3 :=
  (seq3 (set3 3 (o3 addR (c3 (.int 1)) (call3 sp__law_take (cons3 (v3 1) (cons3 (o3 ixR (lst3 (cons3 (c3 (.int 4)) (cons3 (o3 powR (c3 (.int 10)) (c3 (.int 9))) (cons3 (o3 powR (c3 (.int 10)) (c3 (.int 19))) nil3)))) (call3 sp__law_take (cons3 (v3 1) (cons3 (c3 (.int 3)) nil3)))) nil3))))) (t_law_r3 sp__law_is_row sp__law_state sp__law_take sp_box_of sp_drawn_often))
noncomputable def t_law_r1 (sp__law_is_row : Sp3) (sp__law_state : Sp3) (sp__law_take : Sp3) (sp_box_of : Sp3) (sp_drawn_often : Sp3) : TS3 :=
  (seq3 (set3 2 (o3 addR (c3 (.int 1)) (call3 sp__law_take (cons3 (v3 1) (cons3 (o3 ixR (lst3 (cons3 (c3 (.int 4)) (cons3 (o3 powR (c3 (.int 10)) (c3 (.int 9))) (cons3 (o3 powR (c3 (.int 10)) (c3 (.int 19))) nil3)))) (call3 sp__law_take (cons3 (v3 1) (cons3 (c3 (.int 3)) nil3)))) nil3))))) (t_law_r2 sp__law_is_row sp__law_state sp__law_take sp_box_of sp_drawn_often))
noncomputable def t_law (sp__law_is_row : Sp3) (sp__law_state : Sp3) (sp__law_take : Sp3) (sp_box_of : Sp3) (sp_drawn_often : Sp3) : TS3 :=
  (seq3 (set3 1 (call3 sp__law_state (cons3 (v3 0) (cons3 (c3 (.int 0)) nil3)))) (t_law_r1 sp__law_is_row sp__law_state sp__law_take sp_box_of sp_drawn_often))
noncomputable def N_Look___init__ : List Str := ["self", "stroke", "ends"]
noncomputable def t_Look___init__ (sp_ends_of : Sp3) : TS3 :=
  (seq3 (set3 2 (call3 sp_ends_of (cons3 (v3 1) nil3))) (seq3 (sfld3 (v3 0) (o3 ixR (v3 2) (c3 (.int 0))) "Look" "least") (seq3 (sfld3 (v3 0) (o3 ixR (v3 2) (c3 (.int 1))) "Look" "greatest") (sfld3 (v3 0) (c3 k_MOST_LOOKED_AT) "Look" "left"))))
noncomputable def N_Look_is_within : List Str := ["self", "box", "low"]
noncomputable def t_Look_is_within : TS3 :=
  (seq3 (ifs3 (b3 (o3 (isNR false) (v3 1) (c3 .non))) (ret3 (c3 (.bl false))) next3) (seq3 (set3 2 (andV3 (o3 leR (o3 ixR (v3 1) (c3 (.int 0))) (o3 ixR (fld3 (v3 0) "Look" "least") (c3 (.int 0)))) (o3 leR (o3 ixR (v3 1) (c3 (.int 1))) (o3 ixR (fld3 (v3 0) "Look" "least") (c3 (.int 1)))))) (ret3 (andV3 (v3 2) (andV3 (o3 leR (o3 ixR (fld3 (v3 0) "Look" "greatest") (c3 (.int 0))) (o3 ixR (v3 1) (c3 (.int 2)))) (o3 leR (o3 ixR (fld3 (v3 0) "Look" "greatest") (c3 (.int 1))) (o3 ixR (v3 1) (c3 (.int 3)))))))))
noncomputable def N_Look_count_doing : List Str := ["self"]
noncomputable def t_Look_count_doing : TS3 :=
  (seq3 (ifs3 (b3 (o3 eqR (fld3 (v3 0) "Look" "left") (c3 (.int 0)))) never3 next3) (sfld3 (v3 0) (o3 subR (fld3 (v3 0) "Look" "left") (c3 (.int 1))) "Look" "left"))
end Pv

namespace Pv
open PySem Mw
theorem kn_go_jump : ((("go" : Str) = ("jump" : Str)) = False) := eq_false (by decide)
theorem kn_go_turn : ((("go" : Str) = ("turn" : Str)) = False) := eq_false (by decide)
theorem kn_go_times : ((("go" : Str) = ("times" : Str)) = False) := eq_false (by decide)
theorem kn_jump_go : ((("jump" : Str) = ("go" : Str)) = False) := eq_false (by decide)
theorem kn_jump_turn : ((("jump" : Str) = ("turn" : Str)) = False) := eq_false (by decide)
theorem kn_jump_times : ((("jump" : Str) = ("times" : Str)) = False) := eq_false (by decide)
theorem kn_turn_go : ((("turn" : Str) = ("go" : Str)) = False) := eq_false (by decide)
theorem kn_turn_jump : ((("turn" : Str) = ("jump" : Str)) = False) := eq_false (by decide)
theorem kn_turn_times : ((("turn" : Str) = ("times" : Str)) = False) := eq_false (by decide)
theorem kn_times_go : ((("times" : Str) = ("go" : Str)) = False) := eq_false (by decide)
theorem kn_times_jump : ((("times" : Str) = ("jump" : Str)) = False) := eq_false (by decide)
theorem kn_times_turn : ((("times" : Str) = ("turn" : Str)) = False) := eq_false (by decide)
theorem kp_go : (["go", "jump", "turn"] : List Str).contains "go" = true := by decide
theorem kp_jump : (["go", "jump", "turn"] : List Str).contains "jump" = true := by decide
theorem kp_turn : (["go", "jump", "turn"] : List Str).contains "turn" = true := by decide
theorem kp_times : (["go", "jump", "turn"] : List Str).contains "times" = false := by decide
theorem kz_go : (["go", "times"] : List Str).contains "go" = true := by decide
theorem kz_jump : (["go", "times"] : List Str).contains "jump" = false := by decide
theorem kz_turn : (["go", "times"] : List Str).contains "turn" = false := by decide
theorem kz_times : (["go", "times"] : List Str).contains "times" = true := by decide
theorem cst0 : ((0 : Nat) : Int) = 0 := rfl
theorem cst1 : ((1 : Nat) : Int) = 1 := rfl
theorem cst2 : ((2 : Nat) : Int) = 2 := rfl
theorem cst3 : ((3 : Nat) : Int) = 3 := rfl
mutual
noncomputable def enc : Dd → D
  | .go n => .tup [.str "go", .int n]
  | .jump n => .tup [.str "jump", .int n]
  | .turn n => .tup [.str "turn", .int n]
  | .times n w => .tup [.str "times", .int n, .tup (encs w)]
noncomputable def encs : List Dd → List D
  | [] => []
  | d :: r => enc d :: encs r
end
noncomputable def spNum : Sp3 := fun ds μ Q => ∃ (kind : Str) (n : Int), ds = [.str kind, .int n] ∧ -G ≤ n ∧ n ≤ G ∧ ((kind = "go" ∨ kind = "times") → 0 ≤ n) ∧ Q .non μ
theorem rd_check_number (ds : List D) (μ : Mu) (Q : VK3) (h : spNum ds μ Q) : t_check_number { nx := fun _ μ' => Q .non μ', rt := Q } (start3 N_check_number ds) μ := by
  obtain ⟨kind, n, rfl, h1, h2, h3, q⟩ := h
  unfold G at h1 h2
  simp only [Pv.seq3, Pv.next3, Pv.never3, Pv.brk3, Pv.cnt3, Pv.drop3, Pv.ret3, Pv.retN3, Pv.ifs3, Pv.gn3, Pv.gnil3, Pv.gcons3, Pv.gtup3, Pv.set3, Pv.asg3, Pv.par3, Pv.sub3, Pv.for3, Pv.is3, Pv.ir3, Pv.ir23, Pv.v3, Pv.c3, Pv.o3, Pv.un3, Pv.b3, Pv.and3, Pv.or3, Pv.not3, Pv.andV3, Pv.orV3, Pv.notV3, Pv.if3, Pv.nil3, Pv.cons3, Pv.tup3, Pv.lst3, Pv.call3, Pv.mt3, Pv.comp3, Pv.tt3, Pv.getI, List.set_cons_zero, List.set_cons_succ, Pv.int2, Pv.int20, Pv.subR, Pv.mulR, Pv.intR, Pv.sl3, Pv.np3, Pv.pt3, Pv.slR, Pv.modR, Pv.fdivR, Pv.powR, Pv.ltR, Pv.leR, Pv.gtR, Pv.geR, Pv.negR, Pv.addR, Pv.eqR_ii, Pv.eqR_ss, Pv.eqR_bb, Pv.eqR_is, Pv.neR_ii, Pv.neR_ss, Pv.neR_bb, Pv.inR, Pv.ixR, Pv.lenR, Pv.absR, Pv.tupR, Pv.sumR, Pv.tyN, Pv.isIn, Pv.isiR, Pv.appR, Pv.extR, Pv.smt3, Pv.joinR, Pv.splitR, Pv.startsR, Pv.pop3, Pv.lrev3, Pv.strR, Pv.start3, List.map_cons, List.map_nil, List.cons_append, List.nil_append, List.length_cons, List.length_nil, List.replicate, Pv.atI0, Pv.atI1, Pv.atI2, Nat.reduceAdd, Nat.reduceSub, Nat.zero_add, reduceIte, Pv.strs?, Bool.not_true, Bool.not_false, Bool.false_eq_true, if_false, if_true, decide_eq_true_eq, Bool.not_eq_true', decide_eq_false_iff_not, Pv.ixN0, Pv.ixN1, Pv.ixN2, true_and, and_true, Pv.cst0, Pv.cst1, Pv.cst2, Pv.cst3, Int.reduceEq, Option.bind_none, Option.bind_some, Pv.kn_go_jump, Pv.kn_go_turn, Pv.kn_go_times, Pv.kn_jump_go, Pv.kn_jump_turn, Pv.kn_jump_times, Pv.kn_turn_go, Pv.kn_turn_jump, Pv.kn_turn_times, Pv.kn_times_go, Pv.kn_times_jump, Pv.kn_times_turn, Pv.kp_go, Pv.kp_jump, Pv.kp_turn, Pv.kp_times, Pv.kz_go, Pv.kz_jump, Pv.kz_turn, Pv.kz_times, t_check_number, N_check_number]
  rw [if_neg (by omega)]
  split
  · split
    · next h5 =>
      have h6 : kind = "go" ∨ kind = "times" := by simpa using h5
      have := h3 h6
      omega
    · exact q
  · exact q
/-- checked_deed_count, at words of depth less than j -/
noncomputable def spDeed (j : Nat) : Sp3 := fun ds μ Q => ∃ (d : Dd) (k : Int), ds = [enc d, .int k] ∧ okd d ∧ dep d < j ∧ k + dep d ≤ 4 ∧ cnt d ≤ 30 ∧ Q (.int (cnt d)) μ
noncomputable def spCount (j : Nat) : Sp3 := fun ds μ Q => ∃ (w : List Dd) (k : Int), ds = [.tup (encs w), .int k] ∧ oks w ∧ deps w < j ∧ k + deps w ≤ 4 ∧ cnts w ≤ 30 ∧ Q (.int (cnts w)) μ
theorem rd_checked_deed_count (j : Nat) (ds : List D) (μ : Mu) (Q : VK3) (h : spDeed (j + 1) ds μ Q) : t_checked_deed_count spNum (spCount j) { nx := fun _ μ' => Q .non μ', rt := Q } (start3 N_checked_deed_count ds) μ := by
  obtain ⟨d, k, rfl, h1, h2, h3, h4, q⟩ := h
  cases d
  case go n => simp only [okd] at h1; exact ⟨_, n, rfl, by omega, by omega, fun _ => h1.1, q⟩
  case jump n => simp only [okd] at h1; exact ⟨_, n, rfl, by omega, by omega, by simp only [Pv.kn_go_jump, Pv.kn_go_turn, Pv.kn_go_times, Pv.kn_jump_go, Pv.kn_jump_turn, Pv.kn_jump_times, Pv.kn_turn_go, Pv.kn_turn_jump, Pv.kn_turn_times, Pv.kn_times_go, Pv.kn_times_jump, Pv.kn_times_turn, Pv.kp_go, Pv.kp_jump, Pv.kp_turn, Pv.kp_times, Pv.kz_go, Pv.kz_jump, Pv.kz_turn, Pv.kz_times]; simp, q⟩
  case turn n => simp only [okd] at h1; exact ⟨_, n, rfl, by omega, by omega, by simp only [Pv.kn_go_jump, Pv.kn_go_turn, Pv.kn_go_times, Pv.kn_jump_go, Pv.kn_jump_turn, Pv.kn_jump_times, Pv.kn_turn_go, Pv.kn_turn_jump, Pv.kn_turn_times, Pv.kn_times_go, Pv.kn_times_jump, Pv.kn_times_turn, Pv.kp_go, Pv.kp_jump, Pv.kp_turn, Pv.kp_times, Pv.kz_go, Pv.kz_jump, Pv.kz_turn, Pv.kz_times]; simp, q⟩
  case times n w =>
    simp only [okd, dep, cnt] at h1 h2 h3 h4 q
    refine ⟨_, n, rfl, by omega, by omega, fun _ => h1.1.1, w, k + 1, rfl, h1.2, by omega, by omega, by omega, ?_⟩
    have e : ((1 + cnts w : Nat) : Int) = 1 + (cnts w : Int) := by omega
    rw [e] at q
    exact q
theorem rd_checked_count (j : Nat) (ds : List D) (μ : Mu) (Q : VK3) (h : spCount j ds μ Q) : t_checked_count (spDeed j) { nx := fun _ μ' => Q .non μ', rt := Q } (start3 N_checked_count ds) μ := by
  obtain ⟨w, k, rfl, h1, h2, h3, h4, q⟩ := h
  simp only [Pv.seq3, Pv.next3, Pv.never3, Pv.brk3, Pv.cnt3, Pv.drop3, Pv.ret3, Pv.retN3, Pv.ifs3, Pv.gn3, Pv.gnil3, Pv.gcons3, Pv.gtup3, Pv.set3, Pv.asg3, Pv.par3, Pv.sub3, Pv.for3, Pv.is3, Pv.ir3, Pv.ir23, Pv.v3, Pv.c3, Pv.o3, Pv.un3, Pv.b3, Pv.and3, Pv.or3, Pv.not3, Pv.andV3, Pv.orV3, Pv.notV3, Pv.if3, Pv.nil3, Pv.cons3, Pv.tup3, Pv.lst3, Pv.call3, Pv.mt3, Pv.comp3, Pv.tt3, Pv.getI, List.set_cons_zero, List.set_cons_succ, Pv.int2, Pv.int20, Pv.subR, Pv.mulR, Pv.intR, Pv.sl3, Pv.np3, Pv.pt3, Pv.slR, Pv.modR, Pv.fdivR, Pv.powR, Pv.ltR, Pv.leR, Pv.gtR, Pv.geR, Pv.negR, Pv.addR, Pv.eqR_ii, Pv.eqR_ss, Pv.eqR_bb, Pv.eqR_is, Pv.neR_ii, Pv.neR_ss, Pv.neR_bb, Pv.inR, Pv.ixR, Pv.lenR, Pv.absR, Pv.tupR, Pv.sumR, Pv.tyN, Pv.isIn, Pv.isiR, Pv.appR, Pv.extR, Pv.smt3, Pv.joinR, Pv.splitR, Pv.startsR, Pv.pop3, Pv.lrev3, Pv.strR, Pv.start3, List.map_cons, List.map_nil, List.cons_append, List.nil_append, List.length_cons, List.length_nil, List.replicate, Pv.atI0, Pv.atI1, Pv.atI2, Nat.reduceAdd, Nat.reduceSub, Nat.zero_add, reduceIte, Pv.strs?, Bool.not_true, Bool.not_false, Bool.false_eq_true, if_false, if_true, decide_eq_true_eq, Bool.not_eq_true', decide_eq_false_iff_not, Pv.ixN0, Pv.ixN1, Pv.ixN2, true_and, and_true, Pv.cst0, Pv.cst1, Pv.cst2, Pv.cst3, Int.reduceEq, Option.bind_none, Option.bind_some, Pv.kn_go_jump, Pv.kn_go_turn, Pv.kn_go_times, Pv.kn_jump_go, Pv.kn_jump_turn, Pv.kn_jump_times, Pv.kn_turn_go, Pv.kn_turn_jump, Pv.kn_turn_times, Pv.kn_times_go, Pv.kn_times_jump, Pv.kn_times_turn, Pv.kp_go, Pv.kp_jump, Pv.kp_turn, Pv.kp_times, Pv.kz_go, Pv.kz_jump, Pv.kz_turn, Pv.kz_times, t_checked_count, N_checked_count]
  rw [if_neg (by omega)]
  refine for_inv (fun l ρ μ' => μ' = μ ∧ ∃ (r : List Dd) (c : Nat) (dd : Option D), l = encs r ∧ ρ = [some (.tup (encs w)), some (.int k), some (.int c), dd] ∧ oks r ∧ deps r ≤ deps w ∧ c + cnts r = cnts w) ?_ (fun _ _ _ _ => trivial) ?_ ?_
  · exact ⟨rfl, w, 0, none, rfl, rfl, h1, Nat.le_refl _, by omega⟩
  · rintro ρ μ' ⟨rfl, r, c, dd, e, rfl, _, _, e2⟩
    cases r with
    | nil =>
      simp only [cnts] at e2
      simp only [Pv.seq3, Pv.next3, Pv.never3, Pv.brk3, Pv.cnt3, Pv.drop3, Pv.ret3, Pv.retN3, Pv.ifs3, Pv.gn3, Pv.gnil3, Pv.gcons3, Pv.gtup3, Pv.set3, Pv.asg3, Pv.par3, Pv.sub3, Pv.for3, Pv.is3, Pv.ir3, Pv.ir23, Pv.v3, Pv.c3, Pv.o3, Pv.un3, Pv.b3, Pv.and3, Pv.or3, Pv.not3, Pv.andV3, Pv.orV3, Pv.notV3, Pv.if3, Pv.nil3, Pv.cons3, Pv.tup3, Pv.lst3, Pv.call3, Pv.mt3, Pv.comp3, Pv.tt3, Pv.getI, List.set_cons_zero, List.set_cons_succ, Pv.int2, Pv.int20, Pv.subR, Pv.mulR, Pv.intR, Pv.sl3, Pv.np3, Pv.pt3, Pv.slR, Pv.modR, Pv.fdivR, Pv.powR, Pv.ltR, Pv.leR, Pv.gtR, Pv.geR, Pv.negR, Pv.addR, Pv.eqR_ii, Pv.eqR_ss, Pv.eqR_bb, Pv.eqR_is, Pv.neR_ii, Pv.neR_ss, Pv.neR_bb, Pv.inR, Pv.ixR, Pv.lenR, Pv.absR, Pv.tupR, Pv.sumR, Pv.tyN, Pv.isIn, Pv.isiR, Pv.appR, Pv.extR, Pv.smt3, Pv.joinR, Pv.splitR, Pv.startsR, Pv.pop3, Pv.lrev3, Pv.strR, Pv.start3, List.map_cons, List.map_nil, List.cons_append, List.nil_append, List.length_cons, List.length_nil, List.replicate, Pv.atI0, Pv.atI1, Pv.atI2, Nat.reduceAdd, Nat.reduceSub, Nat.zero_add, reduceIte, Pv.strs?, Bool.not_true, Bool.not_false, Bool.false_eq_true, if_false, if_true, decide_eq_true_eq, Bool.not_eq_true', decide_eq_false_iff_not, Pv.ixN0, Pv.ixN1, Pv.ixN2, true_and, and_true, Pv.cst0, Pv.cst1, Pv.cst2, Pv.cst3, Int.reduceEq, Option.bind_none, Option.bind_some, Pv.kn_go_jump, Pv.kn_go_turn, Pv.kn_go_times, Pv.kn_jump_go, Pv.kn_jump_turn, Pv.kn_jump_times, Pv.kn_turn_go, Pv.kn_turn_jump, Pv.kn_turn_times, Pv.kn_times_go, Pv.kn_times_jump, Pv.kn_times_turn, Pv.kp_go, Pv.kp_jump, Pv.kp_turn, Pv.kp_times, Pv.kz_go, Pv.kz_jump, Pv.kz_turn, Pv.kz_times, cst0]
      have e3 : c = cnts w := by omega
      rw [e3]
      exact q
    | cons _ _ => simp [encs] at e
  · rintro x rest ρ μ' ⟨rfl, r, c, dd, e, rfl, o, dp, e2⟩
    cases r with
    | nil => simp [encs] at e
    | cons d r =>
      simp only [encs, List.cons.injEq] at e
      obtain ⟨rfl, rfl⟩ := e
      simp only [oks, deps, cnts] at o dp e2
      refine ⟨d, k, rfl, o.1, by omega, by omega, by omega, ?_⟩
      simp only [Pv.seq3, Pv.next3, Pv.never3, Pv.brk3, Pv.cnt3, Pv.drop3, Pv.ret3, Pv.retN3, Pv.ifs3, Pv.gn3, Pv.gnil3, Pv.gcons3, Pv.gtup3, Pv.set3, Pv.asg3, Pv.par3, Pv.sub3, Pv.for3, Pv.is3, Pv.ir3, Pv.ir23, Pv.v3, Pv.c3, Pv.o3, Pv.un3, Pv.b3, Pv.and3, Pv.or3, Pv.not3, Pv.andV3, Pv.orV3, Pv.notV3, Pv.if3, Pv.nil3, Pv.cons3, Pv.tup3, Pv.lst3, Pv.call3, Pv.mt3, Pv.comp3, Pv.tt3, Pv.getI, List.set_cons_zero, List.set_cons_succ, Pv.int2, Pv.int20, Pv.subR, Pv.mulR, Pv.intR, Pv.sl3, Pv.np3, Pv.pt3, Pv.slR, Pv.modR, Pv.fdivR, Pv.powR, Pv.ltR, Pv.leR, Pv.gtR, Pv.geR, Pv.negR, Pv.addR, Pv.eqR_ii, Pv.eqR_ss, Pv.eqR_bb, Pv.eqR_is, Pv.neR_ii, Pv.neR_ss, Pv.neR_bb, Pv.inR, Pv.ixR, Pv.lenR, Pv.absR, Pv.tupR, Pv.sumR, Pv.tyN, Pv.isIn, Pv.isiR, Pv.appR, Pv.extR, Pv.smt3, Pv.joinR, Pv.splitR, Pv.startsR, Pv.pop3, Pv.lrev3, Pv.strR, Pv.start3, List.map_cons, List.map_nil, List.cons_append, List.nil_append, List.length_cons, List.length_nil, List.replicate, Pv.atI0, Pv.atI1, Pv.atI2, Nat.reduceAdd, Nat.reduceSub, Nat.zero_add, reduceIte, Pv.strs?, Bool.not_true, Bool.not_false, Bool.false_eq_true, if_false, if_true, decide_eq_true_eq, Bool.not_eq_true', decide_eq_false_iff_not, Pv.ixN0, Pv.ixN1, Pv.ixN2, true_and, and_true, Pv.cst0, Pv.cst1, Pv.cst2, Pv.cst3, Int.reduceEq, Option.bind_none, Option.bind_some, Pv.kn_go_jump, Pv.kn_go_turn, Pv.kn_go_times, Pv.kn_jump_go, Pv.kn_jump_turn, Pv.kn_jump_times, Pv.kn_turn_go, Pv.kn_turn_jump, Pv.kn_turn_times, Pv.kn_times_go, Pv.kn_times_jump, Pv.kn_times_turn, Pv.kp_go, Pv.kp_jump, Pv.kp_turn, Pv.kp_times, Pv.kz_go, Pv.kz_jump, Pv.kz_turn, Pv.kz_times, cst0]
      rw [if_neg (by omega)]
      exact ⟨r, c + cnt d, some (enc d), rfl, by simp, o.2, by omega, by omega⟩
/-- check_word: a word -/
noncomputable def Wd (w : List Dd) : Prop := oks w ∧ deps w ≤ 4 ∧ cnts w ≤ 30
noncomputable def spChk : Sp3 := fun ds μ Q => ∃ w, ds = [.tup (encs w)] ∧ Wd w ∧ Q .non μ
theorem rd_check_word (ds : List D) (μ : Mu) (Q : VK3) (h : spChk ds μ Q) : t_check_word (spCount 5) { nx := fun _ μ' => Q .non μ', rt := Q } (start3 N_check_word ds) μ := by
  obtain ⟨w, rfl, ⟨h1, h2, h3⟩, q⟩ := h
  simp only [Pv.seq3, Pv.next3, Pv.never3, Pv.brk3, Pv.cnt3, Pv.drop3, Pv.ret3, Pv.retN3, Pv.ifs3, Pv.gn3, Pv.gnil3, Pv.gcons3, Pv.gtup3, Pv.set3, Pv.asg3, Pv.par3, Pv.sub3, Pv.for3, Pv.is3, Pv.ir3, Pv.ir23, Pv.v3, Pv.c3, Pv.o3, Pv.un3, Pv.b3, Pv.and3, Pv.or3, Pv.not3, Pv.andV3, Pv.orV3, Pv.notV3, Pv.if3, Pv.nil3, Pv.cons3, Pv.tup3, Pv.lst3, Pv.call3, Pv.mt3, Pv.comp3, Pv.tt3, Pv.getI, List.set_cons_zero, List.set_cons_succ, Pv.int2, Pv.int20, Pv.subR, Pv.mulR, Pv.intR, Pv.sl3, Pv.np3, Pv.pt3, Pv.slR, Pv.modR, Pv.fdivR, Pv.powR, Pv.ltR, Pv.leR, Pv.gtR, Pv.geR, Pv.negR, Pv.addR, Pv.eqR_ii, Pv.eqR_ss, Pv.eqR_bb, Pv.eqR_is, Pv.neR_ii, Pv.neR_ss, Pv.neR_bb, Pv.inR, Pv.ixR, Pv.lenR, Pv.absR, Pv.tupR, Pv.sumR, Pv.tyN, Pv.isIn, Pv.isiR, Pv.appR, Pv.extR, Pv.smt3, Pv.joinR, Pv.splitR, Pv.startsR, Pv.pop3, Pv.lrev3, Pv.strR, Pv.start3, List.map_cons, List.map_nil, List.cons_append, List.nil_append, List.length_cons, List.length_nil, List.replicate, Pv.atI0, Pv.atI1, Pv.atI2, Nat.reduceAdd, Nat.reduceSub, Nat.zero_add, reduceIte, Pv.strs?, Bool.not_true, Bool.not_false, Bool.false_eq_true, if_false, if_true, decide_eq_true_eq, Bool.not_eq_true', decide_eq_false_iff_not, Pv.ixN0, Pv.ixN1, Pv.ixN2, true_and, and_true, Pv.cst0, Pv.cst1, Pv.cst2, Pv.cst3, Int.reduceEq, Option.bind_none, Option.bind_some, Pv.kn_go_jump, Pv.kn_go_turn, Pv.kn_go_times, Pv.kn_jump_go, Pv.kn_jump_turn, Pv.kn_jump_times, Pv.kn_turn_go, Pv.kn_turn_jump, Pv.kn_turn_times, Pv.kn_times_go, Pv.kn_times_jump, Pv.kn_times_turn, Pv.kp_go, Pv.kp_jump, Pv.kp_turn, Pv.kp_times, Pv.kz_go, Pv.kz_jump, Pv.kz_turn, Pv.kz_times, t_check_word, N_check_word]
  exact ⟨w, 0, rfl, h1, by omega, by omega, h3, q⟩
/-! pens -/
noncomputable def encP (p : Pen) : D := .tup [.int p.1, .int p.2.1, .int p.2.2]
noncomputable def spLed : Sp3 := fun ds μ Q => ∃ p q, ds = [encP p, encP q] ∧ Hd p ∧ Q (encP (led p q)) μ
theorem ahead_at {h : Int} (hd : h = 0 ∨ h = 1 ∨ h = 2 ∨ h = 3) : atI [D.tup [D.int 1, D.int 0], D.tup [D.int 0, D.int 1], D.tup [D.int (-1), D.int 0], D.tup [D.int 0, D.int (-1)]] h = some (.tup [.int (cs h), .int (sn h)]) := by
  rcases hd with rfl | rfl | rfl | rfl <;> rfl
theorem cs_small (h : Int) : -(2 ^ 64) < cs h ∧ cs h < 2 ^ 64 := by unfold cs; split <;> (try split) <;> decide
theorem sn_small (h : Int) : -(2 ^ 64) < sn h ∧ sn h < 2 ^ 64 := by unfold sn; split <;> (try split) <;> decide
theorem ix_some {l : List D} {i : Int} {d : D} {μ : Mu} {Q : VK3} (e : atI l i = some d) (h : Q d μ) : ixR (.tup l) (.int i) μ Q := by
  unfold ixR
  simp only [e]
  exact h
theorem rd_led (ds : List D) (μ : Mu) (Q : VK3) (h : spLed ds μ Q) : t_led { nx := fun _ μ' => Q .non μ', rt := Q } (start3 N_led ds) μ := by
  obtain ⟨p, q, rfl, hp, k⟩ := h
  have c1 : CMul q.1 (cs p.2.2) := .inl (.inr (cs_small _))
  have c2 : CMul q.2.1 (sn p.2.2) := .inl (.inr (sn_small _))
  have c3 : CMul q.1 (sn p.2.2) := .inl (.inr (sn_small _))
  have c4 : CMul q.2.1 (cs p.2.2) := .inl (.inr (cs_small _))
  have d1 : (0 : Int) < 4 := by decide
  have d2 : 3 ≤ sizeLine := by decide
  show ixR k_AHEAD (.int p.2.2) μ (fun d μ1 => _)
  refine ix_some (ahead_at hp) ?_
  exact And.intro c1 (And.intro c2 (And.intro c3 (And.intro c4 (And.intro d1 (And.intro d2 k)))))
noncomputable def spRep : Sp3 := fun ds μ Q => ∃ p n, ds = [encP p, .int n] ∧ Hd p ∧ 0 ≤ n ∧ n ≤ G ∧ p.1.natAbs < 2 ^ 1000 ∧ p.2.1.natAbs < 2 ^ 1000 ∧ Q (encP (rep p n)) μ
theorem G_big {n : Int} (h0 : 0 ≤ n) (h1 : n ≤ G) : n.natAbs < Big :=
  nat_big h0 (Int.le_trans h1 (bd_one (c := 1) (e := 0) (Nat.le_refl _))) (by omega) (by omega)
theorem rd_pen_repeated (ds : List D) (μ : Mu) (Q : VK3) (h : spRep ds μ Q) : t_pen_repeated spLed { nx := fun _ μ' => Q .non μ', rt := Q } (start3 N_pen_repeated ds) μ := by
  obtain ⟨p, n, rfl, hp, h0, h1, b1, b2, k⟩ := h
  simp only [Pv.seq3, Pv.next3, Pv.never3, Pv.brk3, Pv.cnt3, Pv.drop3, Pv.ret3, Pv.retN3, Pv.ifs3, Pv.gn3, Pv.gnil3, Pv.gcons3, Pv.gtup3, Pv.set3, Pv.asg3, Pv.par3, Pv.sub3, Pv.for3, Pv.is3, Pv.ir3, Pv.ir23, Pv.v3, Pv.c3, Pv.o3, Pv.un3, Pv.b3, Pv.and3, Pv.or3, Pv.not3, Pv.andV3, Pv.orV3, Pv.notV3, Pv.if3, Pv.nil3, Pv.cons3, Pv.tup3, Pv.lst3, Pv.call3, Pv.mt3, Pv.comp3, Pv.tt3, Pv.getI, List.set_cons_zero, List.set_cons_succ, Pv.int2, Pv.int20, Pv.subR, Pv.mulR, Pv.intR, Pv.sl3, Pv.np3, Pv.pt3, Pv.slR, Pv.modR, Pv.fdivR, Pv.powR, Pv.ltR, Pv.leR, Pv.gtR, Pv.geR, Pv.negR, Pv.addR, Pv.eqR_ii, Pv.eqR_ss, Pv.eqR_bb, Pv.eqR_is, Pv.neR_ii, Pv.neR_ss, Pv.neR_bb, Pv.inR, Pv.ixR, Pv.lenR, Pv.absR, Pv.tupR, Pv.sumR, Pv.tyN, Pv.isIn, Pv.isiR, Pv.appR, Pv.extR, Pv.smt3, Pv.joinR, Pv.splitR, Pv.startsR, Pv.pop3, Pv.lrev3, Pv.strR, Pv.start3, List.map_cons, List.map_nil, List.cons_append, List.nil_append, List.length_cons, List.length_nil, List.replicate, Pv.atI0, Pv.atI1, Pv.atI2, Nat.reduceAdd, Nat.reduceSub, Nat.zero_add, reduceIte, Pv.strs?, Bool.not_true, Bool.not_false, Bool.false_eq_true, if_false, if_true, decide_eq_true_eq, Bool.not_eq_true', decide_eq_false_iff_not, Pv.ixN0, Pv.ixN1, Pv.ixN2, true_and, and_true, Pv.cst0, Pv.cst1, Pv.cst2, Pv.cst3, Int.reduceEq, Option.bind_none, Option.bind_some, Pv.kn_go_jump, Pv.kn_go_turn, Pv.kn_go_times, Pv.kn_jump_go, Pv.kn_jump_turn, Pv.kn_jump_times, Pv.kn_turn_go, Pv.kn_turn_jump, Pv.kn_turn_times, Pv.kn_times_go, Pv.kn_times_jump, Pv.kn_times_turn, Pv.kp_go, Pv.kp_jump, Pv.kp_turn, Pv.kp_times, Pv.kz_go, Pv.kz_jump, Pv.kz_turn, Pv.kz_times, t_pen_repeated, N_pen_repeated, encP]
  split
  · next e =>
    refine ⟨.inr ⟨b1, G_big h0 h1⟩, .inr ⟨b2, G_big h0 h1⟩, by decide, ?_⟩
    rw [rep, if_pos e] at k
    exact k
  · next e =>
    have hm : 0 ≤ n % 4 ∧ n % 4 < 4 := ⟨by omega, by omega⟩
    refine ⟨by decide, by omega, ?_⟩
    refine for_inv (fun l ρ μ' => μ' = μ ∧ ∃ (i : Nat) (dd : Option D), ρ = [some (encP p), some (.int n), some (encP (pw p i)), dd] ∧ i + l.length = (n % 4).toNat) ?_ (fun _ _ _ _ => trivial) ?_ ?_
    · refine ⟨rfl, 0, none, rfl, ?_⟩
      simp [rngD]
    · rintro ρ μ' ⟨rfl, i, dd, rfl, e2⟩
      simp only [Pv.seq3, Pv.next3, Pv.never3, Pv.brk3, Pv.cnt3, Pv.drop3, Pv.ret3, Pv.retN3, Pv.ifs3, Pv.gn3, Pv.gnil3, Pv.gcons3, Pv.gtup3, Pv.set3, Pv.asg3, Pv.par3, Pv.sub3, Pv.for3, Pv.is3, Pv.ir3, Pv.ir23, Pv.v3, Pv.c3, Pv.o3, Pv.un3, Pv.b3, Pv.and3, Pv.or3, Pv.not3, Pv.andV3, Pv.orV3, Pv.notV3, Pv.if3, Pv.nil3, Pv.cons3, Pv.tup3, Pv.lst3, Pv.call3, Pv.mt3, Pv.comp3, Pv.tt3, Pv.getI, List.set_cons_zero, List.set_cons_succ, Pv.int2, Pv.int20, Pv.subR, Pv.mulR, Pv.intR, Pv.sl3, Pv.np3, Pv.pt3, Pv.slR, Pv.modR, Pv.fdivR, Pv.powR, Pv.ltR, Pv.leR, Pv.gtR, Pv.geR, Pv.negR, Pv.addR, Pv.eqR_ii, Pv.eqR_ss, Pv.eqR_bb, Pv.eqR_is, Pv.neR_ii, Pv.neR_ss, Pv.neR_bb, Pv.inR, Pv.ixR, Pv.lenR, Pv.absR, Pv.tupR, Pv.sumR, Pv.tyN, Pv.isIn, Pv.isiR, Pv.appR, Pv.extR, Pv.smt3, Pv.joinR, Pv.splitR, Pv.startsR, Pv.pop3, Pv.lrev3, Pv.strR, Pv.start3, List.map_cons, List.map_nil, List.cons_append, List.nil_append, List.length_cons, List.length_nil, List.replicate, Pv.atI0, Pv.atI1, Pv.atI2, Nat.reduceAdd, Nat.reduceSub, Nat.zero_add, reduceIte, Pv.strs?, Bool.not_true, Bool.not_false, Bool.false_eq_true, if_false, if_true, decide_eq_true_eq, Bool.not_eq_true', decide_eq_false_iff_not, Pv.ixN0, Pv.ixN1, Pv.ixN2, true_and, and_true, Pv.cst0, Pv.cst1, Pv.cst2, Pv.cst3, Int.reduceEq, Option.bind_none, Option.bind_some, Pv.kn_go_jump, Pv.kn_go_turn, Pv.kn_go_times, Pv.kn_jump_go, Pv.kn_jump_turn, Pv.kn_jump_times, Pv.kn_turn_go, Pv.kn_turn_jump, Pv.kn_turn_times, Pv.kn_times_go, Pv.kn_times_jump, Pv.kn_times_turn, Pv.kp_go, Pv.kp_jump, Pv.kp_turn, Pv.kp_times, Pv.kz_go, Pv.kz_jump, Pv.kz_turn, Pv.kz_times, cst0]
      rw [rep, if_neg e] at k
      have e3 : i = (n % 4).toNat := by simpa using e2
      rw [e3]
      exact k
    · rintro x rest ρ μ' ⟨rfl, i, dd, rfl, e2⟩
      simp only [Pv.seq3, Pv.next3, Pv.never3, Pv.brk3, Pv.cnt3, Pv.drop3, Pv.ret3, Pv.retN3, Pv.ifs3, Pv.gn3, Pv.gnil3, Pv.gcons3, Pv.gtup3, Pv.set3, Pv.asg3, Pv.par3, Pv.sub3, Pv.for3, Pv.is3, Pv.ir3, Pv.ir23, Pv.v3, Pv.c3, Pv.o3, Pv.un3, Pv.b3, Pv.and3, Pv.or3, Pv.not3, Pv.andV3, Pv.orV3, Pv.notV3, Pv.if3, Pv.nil3, Pv.cons3, Pv.tup3, Pv.lst3, Pv.call3, Pv.mt3, Pv.comp3, Pv.tt3, Pv.getI, List.set_cons_zero, List.set_cons_succ, Pv.int2, Pv.int20, Pv.subR, Pv.mulR, Pv.intR, Pv.sl3, Pv.np3, Pv.pt3, Pv.slR, Pv.modR, Pv.fdivR, Pv.powR, Pv.ltR, Pv.leR, Pv.gtR, Pv.geR, Pv.negR, Pv.addR, Pv.eqR_ii, Pv.eqR_ss, Pv.eqR_bb, Pv.eqR_is, Pv.neR_ii, Pv.neR_ss, Pv.neR_bb, Pv.inR, Pv.ixR, Pv.lenR, Pv.absR, Pv.tupR, Pv.sumR, Pv.tyN, Pv.isIn, Pv.isiR, Pv.appR, Pv.extR, Pv.smt3, Pv.joinR, Pv.splitR, Pv.startsR, Pv.pop3, Pv.lrev3, Pv.strR, Pv.start3, List.map_cons, List.map_nil, List.cons_append, List.nil_append, List.length_cons, List.length_nil, List.replicate, Pv.atI0, Pv.atI1, Pv.atI2, Nat.reduceAdd, Nat.reduceSub, Nat.zero_add, reduceIte, Pv.strs?, Bool.not_true, Bool.not_false, Bool.false_eq_true, if_false, if_true, decide_eq_true_eq, Bool.not_eq_true', decide_eq_false_iff_not, Pv.ixN0, Pv.ixN1, Pv.ixN2, true_and, and_true, Pv.cst0, Pv.cst1, Pv.cst2, Pv.cst3, Int.reduceEq, Option.bind_none, Option.bind_some, Pv.kn_go_jump, Pv.kn_go_turn, Pv.kn_go_times, Pv.kn_jump_go, Pv.kn_jump_turn, Pv.kn_jump_times, Pv.kn_turn_go, Pv.kn_turn_jump, Pv.kn_turn_times, Pv.kn_times_go, Pv.kn_times_jump, Pv.kn_times_turn, Pv.kp_go, Pv.kp_jump, Pv.kp_turn, Pv.kp_times, Pv.kz_go, Pv.kz_jump, Pv.kz_turn, Pv.kz_times, cst0]
      refine ⟨pw p i, p, rfl, hd_pw p i, rfl, i + 1, some x, rfl, ?_⟩
      rw [List.length_cons] at e2
      omega
noncomputable def spPb (j : Nat) : Sp3 := fun ds μ Q => ∃ w, ds = [.tup (encs w)] ∧ deps w < j ∧ deps w ≤ 5 ∧ cnts w ≤ 60 ∧ oks w ∧ Q (encP (pb w)) μ
noncomputable def spPd (j : Nat) : Sp3 := fun ds μ Q => ∃ d, ds = [enc d] ∧ dep d < j ∧ dep d ≤ 5 ∧ cnt d ≤ 60 ∧ okd d ∧ Q (encP (pd d)) μ
theorem rd_pen_behind_deed (j : Nat) (ds : List D) (μ : Mu) (Q : VK3) (h : spPd (j + 1) ds μ Q) : t_pen_behind_deed (spPb j) spRep { nx := fun _ μ' => Q .non μ', rt := Q } (start3 N_pen_behind_deed ds) μ := by
  obtain ⟨d, rfl, h1, h2, h2', h3, q⟩ := h
  cases d
  case go n => exact And.intro (show 3 ≤ sizeLine by decide) q
  case jump n => exact And.intro (show 3 ≤ sizeLine by decide) q
  case turn n => exact And.intro (show (0 : Int) < 4 by decide) (And.intro (show 3 ≤ sizeLine by decide) q)
  case times n w =>
    simp only [okd, dep, cnt, pd] at h1 h2 h2' h3 q
    obtain ⟨b1, b2⟩ := pm_big (pm_pb w h3.2) (by omega) (by omega)
    exact ⟨w, rfl, by omega, by omega, by omega, h3.2, pb w, n, rfl, hd_pb w, h3.1.1, h3.1.2, b1, b2, q⟩
theorem rd_pen_behind (j : Nat) (ds : List D) (μ : Mu) (Q : VK3) (h : spPb j ds μ Q) : t_pen_behind spLed (spPd j) { nx := fun _ μ' => Q .non μ', rt := Q } (start3 N_pen_behind ds) μ := by
  obtain ⟨w, rfl, h1, h2, h2', h3, q⟩ := h
  refine for_inv (fun l ρ μ' => μ' = μ ∧ ∃ (r : List Dd) (p : Pen) (dd : Option D), l = encs r ∧ ρ = [some (.tup (encs w)), some (encP p), dd] ∧ oks r ∧ deps r ≤ deps w ∧ cnts r ≤ cnts w ∧ Hd p ∧ led p (pb r) = pb w) ?_ (fun _ _ _ _ => trivial) ?_ ?_
  · exact ⟨rfl, w, st, none, rfl, rfl, h3, Nat.le_refl _, Nat.le_refl _, hd_st, st_led (hd_pb w)⟩
  · rintro ρ μ' ⟨rfl, r, p, dd, e, rfl, _, _, _, hp, e2⟩
    cases r with
    | nil =>
      simp only [pb] at e2
      rw [led_st hp] at e2
      simp only [Pv.seq3, Pv.next3, Pv.never3, Pv.brk3, Pv.cnt3, Pv.drop3, Pv.ret3, Pv.retN3, Pv.ifs3, Pv.gn3, Pv.gnil3, Pv.gcons3, Pv.gtup3, Pv.set3, Pv.asg3, Pv.par3, Pv.sub3, Pv.for3, Pv.is3, Pv.ir3, Pv.ir23, Pv.v3, Pv.c3, Pv.o3, Pv.un3, Pv.b3, Pv.and3, Pv.or3, Pv.not3, Pv.andV3, Pv.orV3, Pv.notV3, Pv.if3, Pv.nil3, Pv.cons3, Pv.tup3, Pv.lst3, Pv.call3, Pv.mt3, Pv.comp3, Pv.tt3, Pv.getI, List.set_cons_zero, List.set_cons_succ, Pv.int2, Pv.int20, Pv.subR, Pv.mulR, Pv.intR, Pv.sl3, Pv.np3, Pv.pt3, Pv.slR, Pv.modR, Pv.fdivR, Pv.powR, Pv.ltR, Pv.leR, Pv.gtR, Pv.geR, Pv.negR, Pv.addR, Pv.eqR_ii, Pv.eqR_ss, Pv.eqR_bb, Pv.eqR_is, Pv.neR_ii, Pv.neR_ss, Pv.neR_bb, Pv.inR, Pv.ixR, Pv.lenR, Pv.absR, Pv.tupR, Pv.sumR, Pv.tyN, Pv.isIn, Pv.isiR, Pv.appR, Pv.extR, Pv.smt3, Pv.joinR, Pv.splitR, Pv.startsR, Pv.pop3, Pv.lrev3, Pv.strR, Pv.start3, List.map_cons, List.map_nil, List.cons_append, List.nil_append, List.length_cons, List.length_nil, List.replicate, Pv.atI0, Pv.atI1, Pv.atI2, Nat.reduceAdd, Nat.reduceSub, Nat.zero_add, reduceIte, Pv.strs?, Bool.not_true, Bool.not_false, Bool.false_eq_true, if_false, if_true, decide_eq_true_eq, Bool.not_eq_true', decide_eq_false_iff_not, Pv.ixN0, Pv.ixN1, Pv.ixN2, true_and, and_true, Pv.cst0, Pv.cst1, Pv.cst2, Pv.cst3, Int.reduceEq, Option.bind_none, Option.bind_some, Pv.kn_go_jump, Pv.kn_go_turn, Pv.kn_go_times, Pv.kn_jump_go, Pv.kn_jump_turn, Pv.kn_jump_times, Pv.kn_turn_go, Pv.kn_turn_jump, Pv.kn_turn_times, Pv.kn_times_go, Pv.kn_times_jump, Pv.kn_times_turn, Pv.kp_go, Pv.kp_jump, Pv.kp_turn, Pv.kp_times, Pv.kz_go, Pv.kz_jump, Pv.kz_turn, Pv.kz_times, cst0]
      rw [e2]
      exact q
    | cons _ _ => simp [encs] at e
  · rintro x rest ρ μ' ⟨rfl, r, p, dd, e, rfl, o, dp, cn, hp, e2⟩
    cases r with
    | nil => simp [encs] at e
    | cons d r =>
      simp only [encs, List.cons.injEq] at e
      obtain ⟨rfl, rfl⟩ := e
      simp only [oks, deps, cnts, pb] at o dp cn e2
      simp only [Pv.seq3, Pv.next3, Pv.never3, Pv.brk3, Pv.cnt3, Pv.drop3, Pv.ret3, Pv.retN3, Pv.ifs3, Pv.gn3, Pv.gnil3, Pv.gcons3, Pv.gtup3, Pv.set3, Pv.asg3, Pv.par3, Pv.sub3, Pv.for3, Pv.is3, Pv.ir3, Pv.ir23, Pv.v3, Pv.c3, Pv.o3, Pv.un3, Pv.b3, Pv.and3, Pv.or3, Pv.not3, Pv.andV3, Pv.orV3, Pv.notV3, Pv.if3, Pv.nil3, Pv.cons3, Pv.tup3, Pv.lst3, Pv.call3, Pv.mt3, Pv.comp3, Pv.tt3, Pv.getI, List.set_cons_zero, List.set_cons_succ, Pv.int2, Pv.int20, Pv.subR, Pv.mulR, Pv.intR, Pv.sl3, Pv.np3, Pv.pt3, Pv.slR, Pv.modR, Pv.fdivR, Pv.powR, Pv.ltR, Pv.leR, Pv.gtR, Pv.geR, Pv.negR, Pv.addR, Pv.eqR_ii, Pv.eqR_ss, Pv.eqR_bb, Pv.eqR_is, Pv.neR_ii, Pv.neR_ss, Pv.neR_bb, Pv.inR, Pv.ixR, Pv.lenR, Pv.absR, Pv.tupR, Pv.sumR, Pv.tyN, Pv.isIn, Pv.isiR, Pv.appR, Pv.extR, Pv.smt3, Pv.joinR, Pv.splitR, Pv.startsR, Pv.pop3, Pv.lrev3, Pv.strR, Pv.start3, List.map_cons, List.map_nil, List.cons_append, List.nil_append, List.length_cons, List.length_nil, List.replicate, Pv.atI0, Pv.atI1, Pv.atI2, Nat.reduceAdd, Nat.reduceSub, Nat.zero_add, reduceIte, Pv.strs?, Bool.not_true, Bool.not_false, Bool.false_eq_true, if_false, if_true, decide_eq_true_eq, Bool.not_eq_true', decide_eq_false_iff_not, Pv.ixN0, Pv.ixN1, Pv.ixN2, true_and, and_true, Pv.cst0, Pv.cst1, Pv.cst2, Pv.cst3, Int.reduceEq, Option.bind_none, Option.bind_some, Pv.kn_go_jump, Pv.kn_go_turn, Pv.kn_go_times, Pv.kn_jump_go, Pv.kn_jump_turn, Pv.kn_jump_times, Pv.kn_turn_go, Pv.kn_turn_jump, Pv.kn_turn_times, Pv.kn_times_go, Pv.kn_times_jump, Pv.kn_times_turn, Pv.kp_go, Pv.kp_jump, Pv.kp_turn, Pv.kp_times, Pv.kz_go, Pv.kz_jump, Pv.kz_turn, Pv.kz_times, cst0]
      refine ⟨d, rfl, by omega, by omega, by omega, o.1, p, pd d, rfl, hp, rfl, r, led p (pd d), some (enc d), rfl, rfl, o.2, by omega, by omega, hd_led _ _, ?_⟩
      rw [led_assoc _ hp (hd_pd d o.1)]
      exact e2
/-! boxes -/
theorem atI3 {α : Type} {a b c d : α} {r : List α} : atI (a :: b :: c :: d :: r) 3 = some d := by
  unfold atI ixN; rw [if_pos (by decide), if_pos (by simp only [List.length_cons]; omega)]; rfl
noncomputable def encB : Option Bx → D
  | none => .non
  | some b => .tup [.int b.1, .int b.2.1, .int b.2.2.1, .int b.2.2.2]
noncomputable def spBor : Sp3 := fun ds μ Q => ∃ a b, ds = [encB a, encB b] ∧ Q (encB (bor a b)) μ
theorem rd_box_round (ds : List D) (μ : Mu) (Q : VK3) (h : spBor ds μ Q) : t_box_round { nx := fun _ μ' => Q .non μ', rt := Q } (start3 N_box_round ds) μ := by
  obtain ⟨a, b, rfl, q⟩ := h
  cases a with
  | none => exact q
  | some a =>
    cases b with
    | none => exact q
    | some b => exact ⟨(show 2 ≤ sizeLine by decide), (show 2 ≤ sizeLine by decide), (show 2 + 2 ≤ sizeLine by decide), q⟩
noncomputable def spBfr : Sp3 := fun ds μ Q => ∃ p b, ds = [encP p, encB b] ∧ Hd p ∧ Q (encB (bfr p b)) μ
theorem rd_box_from (ds : List D) (μ : Mu) (Q : VK3) (h : spBfr ds μ Q) : t_box_from spLed { nx := fun _ μ' => Q .non μ', rt := Q } (start3 N_box_from ds) μ := by
  obtain ⟨p, b, rfl, hp, q⟩ := h
  cases b with
  | none => exact q
  | some b => exact ⟨(show 3 ≤ sizeLine by decide), p, (b.1, b.2.1, 0), rfl, hp, (show 3 ≤ sizeLine by decide), p, (b.2.2.1, b.2.2.2, 0), rfl, hp, (show 2 ≤ sizeLine by decide), (show 2 ≤ sizeLine by decide), (show 2 + 2 ≤ sizeLine by decide), q⟩
noncomputable def spOut : Sp3 := fun ds μ Q => ∃ p n, ds = [encP p, .int n] ∧ 0 < n ∧ n ≤ G ∧ ∀ r, μ r = none → Q (.ref r) (updM μ r (.lst ((outer p n).map D.int)))
theorem rd_outermost_doings (ds : List D) (μ : Mu) (Q : VK3) (h : spOut ds μ Q) : t_outermost_doings { nx := fun _ μ' => Q .non μ', rt := Q } (start3 N_outermost_doings ds) μ := by
  obtain ⟨p, n, rfl, h0, h1, q⟩ := h
  simp only [Pv.seq3, Pv.next3, Pv.never3, Pv.brk3, Pv.cnt3, Pv.drop3, Pv.ret3, Pv.retN3, Pv.ifs3, Pv.gn3, Pv.gnil3, Pv.gcons3, Pv.gtup3, Pv.set3, Pv.asg3, Pv.par3, Pv.sub3, Pv.for3, Pv.is3, Pv.ir3, Pv.ir23, Pv.v3, Pv.c3, Pv.o3, Pv.un3, Pv.b3, Pv.and3, Pv.or3, Pv.not3, Pv.andV3, Pv.orV3, Pv.notV3, Pv.if3, Pv.nil3, Pv.cons3, Pv.tup3, Pv.lst3, Pv.call3, Pv.mt3, Pv.comp3, Pv.tt3, Pv.getI, List.set_cons_zero, List.set_cons_succ, Pv.int2, Pv.int20, Pv.subR, Pv.mulR, Pv.intR, Pv.sl3, Pv.np3, Pv.pt3, Pv.slR, Pv.modR, Pv.fdivR, Pv.powR, Pv.ltR, Pv.leR, Pv.gtR, Pv.geR, Pv.negR, Pv.addR, Pv.eqR_ii, Pv.eqR_ss, Pv.eqR_bb, Pv.eqR_is, Pv.neR_ii, Pv.neR_ss, Pv.neR_bb, Pv.inR, Pv.ixR, Pv.lenR, Pv.absR, Pv.tupR, Pv.sumR, Pv.tyN, Pv.isIn, Pv.isiR, Pv.appR, Pv.extR, Pv.smt3, Pv.joinR, Pv.splitR, Pv.startsR, Pv.pop3, Pv.lrev3, Pv.strR, Pv.start3, List.map_cons, List.map_nil, List.cons_append, List.nil_append, List.length_cons, List.length_nil, List.replicate, Pv.atI0, Pv.atI1, Pv.atI2, Nat.reduceAdd, Nat.reduceSub, Nat.zero_add, reduceIte, Pv.strs?, Bool.not_true, Bool.not_false, Bool.false_eq_true, if_false, if_true, decide_eq_true_eq, Bool.not_eq_true', decide_eq_false_iff_not, Pv.ixN0, Pv.ixN1, Pv.ixN2, true_and, and_true, Pv.cst0, Pv.cst1, Pv.cst2, Pv.cst3, Int.reduceEq, Option.bind_none, Option.bind_some, Pv.kn_go_jump, Pv.kn_go_turn, Pv.kn_go_times, Pv.kn_jump_go, Pv.kn_jump_turn, Pv.kn_jump_times, Pv.kn_turn_go, Pv.kn_turn_jump, Pv.kn_turn_times, Pv.kn_times_go, Pv.kn_times_jump, Pv.kn_times_turn, Pv.kp_go, Pv.kp_jump, Pv.kp_turn, Pv.kp_times, Pv.kz_go, Pv.kz_jump, Pv.kz_turn, Pv.kz_times, t_outermost_doings, N_outermost_doings, encP, Pv.min2R, Pv.maxR, Pv.mnR_ii, Pv.mnR_pp, Pv.mxR_ii, Pv.lrng3, Pv.isNR, Pv.isN, Pv.ch3]
  split
  · next e =>
    refine ⟨by decide, fun r hr => ?_⟩
    have := q r hr
    rw [outer, if_pos e] at this
    exact this
  · next e =>
    have hb : (if 4 < n then 4 else n) = mn n 4 := rfl
    rw [hb]
    have := mn_spec n 4
    refine ⟨⟨⟨by omega, by omega⟩, by omega⟩, fun r hr => ?_⟩
    have := q r hr
    rw [outer, if_neg e, List.map_map] at this
    exact this
noncomputable def spBrep : Sp3 := fun ds μ Q => ∃ b p n, ds = [encB b, encP p, .int n] ∧ Hd p ∧ 0 < n ∧ n ≤ G ∧ p.1.natAbs < 2 ^ 1000 ∧ p.2.1.natAbs < 2 ^ 1000 ∧ ∀ μ', Ext μ μ' → Q (encB (brs b p none (outer p n))) μ'
theorem outer_in {p : Pen} {n : Int} (h : 0 < n) : ∀ k ∈ outer p n, 0 ≤ k ∧ k ≤ n := by
  unfold outer
  intro k hk
  split at hk
  · simp only [List.mem_cons, List.not_mem_nil, or_false] at hk; omega
  · obtain ⟨i, hi, rfl⟩ := List.mem_map.mp hk
    have := List.mem_range.mp hi
    have := mn_spec n 4
    omega
theorem rd_box_repeated (ds : List D) (μ : Mu) (Q : VK3) (h : spBrep ds μ Q) : t_box_repeated spBfr spBor spOut spRep { nx := fun _ μ' => Q .non μ', rt := Q } (start3 N_box_repeated ds) μ := by
  obtain ⟨b, p, n, rfl, hp, h0, h1, b1, b2, q⟩ := h
  simp only [Pv.seq3, Pv.next3, Pv.never3, Pv.brk3, Pv.cnt3, Pv.drop3, Pv.ret3, Pv.retN3, Pv.ifs3, Pv.gn3, Pv.gnil3, Pv.gcons3, Pv.gtup3, Pv.set3, Pv.asg3, Pv.par3, Pv.sub3, Pv.for3, Pv.is3, Pv.ir3, Pv.ir23, Pv.v3, Pv.c3, Pv.o3, Pv.un3, Pv.b3, Pv.and3, Pv.or3, Pv.not3, Pv.andV3, Pv.orV3, Pv.notV3, Pv.if3, Pv.nil3, Pv.cons3, Pv.tup3, Pv.lst3, Pv.call3, Pv.mt3, Pv.comp3, Pv.tt3, Pv.getI, List.set_cons_zero, List.set_cons_succ, Pv.int2, Pv.int20, Pv.subR, Pv.mulR, Pv.intR, Pv.sl3, Pv.np3, Pv.pt3, Pv.slR, Pv.modR, Pv.fdivR, Pv.powR, Pv.ltR, Pv.leR, Pv.gtR, Pv.geR, Pv.negR, Pv.addR, Pv.eqR_ii, Pv.eqR_ss, Pv.eqR_bb, Pv.eqR_is, Pv.neR_ii, Pv.neR_ss, Pv.neR_bb, Pv.inR, Pv.ixR, Pv.lenR, Pv.absR, Pv.tupR, Pv.sumR, Pv.tyN, Pv.isIn, Pv.isiR, Pv.appR, Pv.extR, Pv.smt3, Pv.joinR, Pv.splitR, Pv.startsR, Pv.pop3, Pv.lrev3, Pv.strR, Pv.start3, List.map_cons, List.map_nil, List.cons_append, List.nil_append, List.length_cons, List.length_nil, List.replicate, Pv.atI0, Pv.atI1, Pv.atI2, Nat.reduceAdd, Nat.reduceSub, Nat.zero_add, reduceIte, Pv.strs?, Bool.not_true, Bool.not_false, Bool.false_eq_true, if_false, if_true, decide_eq_true_eq, Bool.not_eq_true', decide_eq_false_iff_not, Pv.ixN0, Pv.ixN1, Pv.ixN2, true_and, and_true, Pv.cst0, Pv.cst1, Pv.cst2, Pv.cst3, Int.reduceEq, Option.bind_none, Option.bind_some, Pv.kn_go_jump, Pv.kn_go_turn, Pv.kn_go_times, Pv.kn_jump_go, Pv.kn_jump_turn, Pv.kn_jump_times, Pv.kn_turn_go, Pv.kn_turn_jump, Pv.kn_turn_times, Pv.kn_times_go, Pv.kn_times_jump, Pv.kn_times_turn, Pv.kp_go, Pv.kp_jump, Pv.kp_turn, Pv.kp_times, Pv.kz_go, Pv.kz_jump, Pv.kz_turn, Pv.kz_times, t_box_repeated, N_box_repeated]
  refine ⟨p, n, rfl, h0, h1, fun r hr => ?_⟩
  simp only [Pv.seq3, Pv.next3, Pv.never3, Pv.brk3, Pv.cnt3, Pv.drop3, Pv.ret3, Pv.retN3, Pv.ifs3, Pv.gn3, Pv.gnil3, Pv.gcons3, Pv.gtup3, Pv.set3, Pv.asg3, Pv.par3, Pv.sub3, Pv.for3, Pv.is3, Pv.ir3, Pv.ir23, Pv.v3, Pv.c3, Pv.o3, Pv.un3, Pv.b3, Pv.and3, Pv.or3, Pv.not3, Pv.andV3, Pv.orV3, Pv.notV3, Pv.if3, Pv.nil3, Pv.cons3, Pv.tup3, Pv.lst3, Pv.call3, Pv.mt3, Pv.comp3, Pv.tt3, Pv.getI, List.set_cons_zero, List.set_cons_succ, Pv.int2, Pv.int20, Pv.subR, Pv.mulR, Pv.intR, Pv.sl3, Pv.np3, Pv.pt3, Pv.slR, Pv.modR, Pv.fdivR, Pv.powR, Pv.ltR, Pv.leR, Pv.gtR, Pv.geR, Pv.negR, Pv.addR, Pv.eqR_ii, Pv.eqR_ss, Pv.eqR_bb, Pv.eqR_is, Pv.neR_ii, Pv.neR_ss, Pv.neR_bb, Pv.inR, Pv.ixR, Pv.lenR, Pv.absR, Pv.tupR, Pv.sumR, Pv.tyN, Pv.isIn, Pv.isiR, Pv.appR, Pv.extR, Pv.smt3, Pv.joinR, Pv.splitR, Pv.startsR, Pv.pop3, Pv.lrev3, Pv.strR, Pv.start3, List.map_cons, List.map_nil, List.cons_append, List.nil_append, List.length_cons, List.length_nil, List.replicate, Pv.atI0, Pv.atI1, Pv.atI2, Nat.reduceAdd, Nat.reduceSub, Nat.zero_add, reduceIte, Pv.strs?, Bool.not_true, Bool.not_false, Bool.false_eq_true, if_false, if_true, decide_eq_true_eq, Bool.not_eq_true', decide_eq_false_iff_not, Pv.ixN0, Pv.ixN1, Pv.ixN2, true_and, and_true, Pv.cst0, Pv.cst1, Pv.cst2, Pv.cst3, Int.reduceEq, Option.bind_none, Option.bind_some, Pv.kn_go_jump, Pv.kn_go_turn, Pv.kn_go_times, Pv.kn_jump_go, Pv.kn_jump_turn, Pv.kn_jump_times, Pv.kn_turn_go, Pv.kn_turn_jump, Pv.kn_turn_times, Pv.kn_times_go, Pv.kn_times_jump, Pv.kn_times_turn, Pv.kp_go, Pv.kp_jump, Pv.kp_turn, Pv.kp_times, Pv.kz_go, Pv.kz_jump, Pv.kz_turn, Pv.kz_times, updM_same]
  refine for_inv (fun l ρ μ' => μ' = updM μ r (.lst ((outer p n).map D.int)) ∧ ∃ (ks : List Int) (o : Option Bx) (dd : Option D), l = ks.map D.int ∧ ρ = [some (encB b), some (encP p), some (.int n), some (encB o), dd] ∧ (∀ k ∈ ks, 0 ≤ k ∧ k ≤ n) ∧ brs b p o ks = brs b p none (outer p n)) ?_ ?_ ?_ ?_
  · exact ⟨rfl, outer p n, none, none, rfl, rfl, outer_in h0, rfl⟩
  · rintro l ρ μ' ⟨rfl, _⟩
    exact updM_same
  · rintro ρ μ' ⟨rfl, ks, o, dd, e, rfl, _, e2⟩
    cases ks with
    | nil =>
      simp only [Pv.seq3, Pv.next3, Pv.never3, Pv.brk3, Pv.cnt3, Pv.drop3, Pv.ret3, Pv.retN3, Pv.ifs3, Pv.gn3, Pv.gnil3, Pv.gcons3, Pv.gtup3, Pv.set3, Pv.asg3, Pv.par3, Pv.sub3, Pv.for3, Pv.is3, Pv.ir3, Pv.ir23, Pv.v3, Pv.c3, Pv.o3, Pv.un3, Pv.b3, Pv.and3, Pv.or3, Pv.not3, Pv.andV3, Pv.orV3, Pv.notV3, Pv.if3, Pv.nil3, Pv.cons3, Pv.tup3, Pv.lst3, Pv.call3, Pv.mt3, Pv.comp3, Pv.tt3, Pv.getI, List.set_cons_zero, List.set_cons_succ, Pv.int2, Pv.int20, Pv.subR, Pv.mulR, Pv.intR, Pv.sl3, Pv.np3, Pv.pt3, Pv.slR, Pv.modR, Pv.fdivR, Pv.powR, Pv.ltR, Pv.leR, Pv.gtR, Pv.geR, Pv.negR, Pv.addR, Pv.eqR_ii, Pv.eqR_ss, Pv.eqR_bb, Pv.eqR_is, Pv.neR_ii, Pv.neR_ss, Pv.neR_bb, Pv.inR, Pv.ixR, Pv.lenR, Pv.absR, Pv.tupR, Pv.sumR, Pv.tyN, Pv.isIn, Pv.isiR, Pv.appR, Pv.extR, Pv.smt3, Pv.joinR, Pv.splitR, Pv.startsR, Pv.pop3, Pv.lrev3, Pv.strR, Pv.start3, List.map_cons, List.map_nil, List.cons_append, List.nil_append, List.length_cons, List.length_nil, List.replicate, Pv.atI0, Pv.atI1, Pv.atI2, Nat.reduceAdd, Nat.reduceSub, Nat.zero_add, reduceIte, Pv.strs?, Bool.not_true, Bool.not_false, Bool.false_eq_true, if_false, if_true, decide_eq_true_eq, Bool.not_eq_true', decide_eq_false_iff_not, Pv.ixN0, Pv.ixN1, Pv.ixN2, true_and, and_true, Pv.cst0, Pv.cst1, Pv.cst2, Pv.cst3, Int.reduceEq, Option.bind_none, Option.bind_some, Pv.kn_go_jump, Pv.kn_go_turn, Pv.kn_go_times, Pv.kn_jump_go, Pv.kn_jump_turn, Pv.kn_jump_times, Pv.kn_turn_go, Pv.kn_turn_jump, Pv.kn_turn_times, Pv.kn_times_go, Pv.kn_times_jump, Pv.kn_times_turn, Pv.kp_go, Pv.kp_jump, Pv.kp_turn, Pv.kp_times, Pv.kz_go, Pv.kz_jump, Pv.kz_turn, Pv.kz_times, cst0]
      have e3 : o = brs b p none (outer p n) := e2
      rw [e3]
      exact q _ (Ext.new hr)
    | cons _ _ => simp at e
  · rintro x rest ρ μ' ⟨rfl, ks, o, dd, e, rfl, hk, e2⟩
    cases ks with
    | nil => simp at e
    | cons k ks =>
      simp only [List.map_cons, List.cons.injEq] at e
      obtain ⟨rfl, rfl⟩ := e
      have := hk k (List.mem_cons_self ..)
      simp only [Pv.seq3, Pv.next3, Pv.never3, Pv.brk3, Pv.cnt3, Pv.drop3, Pv.ret3, Pv.retN3, Pv.ifs3, Pv.gn3, Pv.gnil3, Pv.gcons3, Pv.gtup3, Pv.set3, Pv.asg3, Pv.par3, Pv.sub3, Pv.for3, Pv.is3, Pv.ir3, Pv.ir23, Pv.v3, Pv.c3, Pv.o3, Pv.un3, Pv.b3, Pv.and3, Pv.or3, Pv.not3, Pv.andV3, Pv.orV3, Pv.notV3, Pv.if3, Pv.nil3, Pv.cons3, Pv.tup3, Pv.lst3, Pv.call3, Pv.mt3, Pv.comp3, Pv.tt3, Pv.getI, List.set_cons_zero, List.set_cons_succ, Pv.int2, Pv.int20, Pv.subR, Pv.mulR, Pv.intR, Pv.sl3, Pv.np3, Pv.pt3, Pv.slR, Pv.modR, Pv.fdivR, Pv.powR, Pv.ltR, Pv.leR, Pv.gtR, Pv.geR, Pv.negR, Pv.addR, Pv.eqR_ii, Pv.eqR_ss, Pv.eqR_bb, Pv.eqR_is, Pv.neR_ii, Pv.neR_ss, Pv.neR_bb, Pv.inR, Pv.ixR, Pv.lenR, Pv.absR, Pv.tupR, Pv.sumR, Pv.tyN, Pv.isIn, Pv.isiR, Pv.appR, Pv.extR, Pv.smt3, Pv.joinR, Pv.splitR, Pv.startsR, Pv.pop3, Pv.lrev3, Pv.strR, Pv.start3, List.map_cons, List.map_nil, List.cons_append, List.nil_append, List.length_cons, List.length_nil, List.replicate, Pv.atI0, Pv.atI1, Pv.atI2, Nat.reduceAdd, Nat.reduceSub, Nat.zero_add, reduceIte, Pv.strs?, Bool.not_true, Bool.not_false, Bool.false_eq_true, if_false, if_true, decide_eq_true_eq, Bool.not_eq_true', decide_eq_false_iff_not, Pv.ixN0, Pv.ixN1, Pv.ixN2, true_and, and_true, Pv.cst0, Pv.cst1, Pv.cst2, Pv.cst3, Int.reduceEq, Option.bind_none, Option.bind_some, Pv.kn_go_jump, Pv.kn_go_turn, Pv.kn_go_times, Pv.kn_jump_go, Pv.kn_jump_turn, Pv.kn_jump_times, Pv.kn_turn_go, Pv.kn_turn_jump, Pv.kn_turn_times, Pv.kn_times_go, Pv.kn_times_jump, Pv.kn_times_turn, Pv.kp_go, Pv.kp_jump, Pv.kp_turn, Pv.kp_times, Pv.kz_go, Pv.kz_jump, Pv.kz_turn, Pv.kz_times, cst0]
      refine ⟨p, k, rfl, hp, this.1, by omega, b1, b2, rep p k, b, rfl, hd_rep hp this.1, o, bfr (rep p k) b, rfl, rfl, ks, _, _, rfl, rfl, fun x hx => hk x (List.mem_cons_of_mem _ hx), e2⟩
noncomputable def spWb (j : Nat) : Sp3 := fun ds μ Q => ∃ w, ds = [.tup (encs w)] ∧ deps w < j ∧ deps w ≤ 4 ∧ cnts w ≤ 60 ∧ oks w ∧ ∀ μ', Ext μ μ' → Q (encB (bxa w none st)) μ'
noncomputable def spDb (j : Nat) : Sp3 := fun ds μ Q => ∃ d, ds = [enc d] ∧ dep d < j ∧ dep d ≤ 4 ∧ cnt d ≤ 60 ∧ okd d ∧ ∀ μ', Ext μ μ' → Q (encB (bxd d)) μ'
theorem rd_deed_box (j : Nat) (ds : List D) (μ : Mu) (Q : VK3) (h : spDb (j + 1) ds μ Q) : t_deed_box spBrep (spPb 5) (spWb j) { nx := fun _ μ' => Q .non μ', rt := Q } (start3 N_deed_box ds) μ := by
  obtain ⟨d, rfl, h1, h2, h2', h3, q⟩ := h
  cases d <;> simp only [Pv.seq3, Pv.next3, Pv.never3, Pv.brk3, Pv.cnt3, Pv.drop3, Pv.ret3, Pv.retN3, Pv.ifs3, Pv.gn3, Pv.gnil3, Pv.gcons3, Pv.gtup3, Pv.set3, Pv.asg3, Pv.par3, Pv.sub3, Pv.for3, Pv.is3, Pv.ir3, Pv.ir23, Pv.v3, Pv.c3, Pv.o3, Pv.un3, Pv.b3, Pv.and3, Pv.or3, Pv.not3, Pv.andV3, Pv.orV3, Pv.notV3, Pv.if3, Pv.nil3, Pv.cons3, Pv.tup3, Pv.lst3, Pv.call3, Pv.mt3, Pv.comp3, Pv.tt3, Pv.getI, List.set_cons_zero, List.set_cons_succ, Pv.int2, Pv.int20, Pv.subR, Pv.mulR, Pv.intR, Pv.sl3, Pv.np3, Pv.pt3, Pv.slR, Pv.modR, Pv.fdivR, Pv.powR, Pv.ltR, Pv.leR, Pv.gtR, Pv.geR, Pv.negR, Pv.addR, Pv.eqR_ii, Pv.eqR_ss, Pv.eqR_bb, Pv.eqR_is, Pv.neR_ii, Pv.neR_ss, Pv.neR_bb, Pv.inR, Pv.ixR, Pv.lenR, Pv.absR, Pv.tupR, Pv.sumR, Pv.tyN, Pv.isIn, Pv.isiR, Pv.appR, Pv.extR, Pv.smt3, Pv.joinR, Pv.splitR, Pv.startsR, Pv.pop3, Pv.lrev3, Pv.strR, Pv.start3, List.map_cons, List.map_nil, List.cons_append, List.nil_append, List.length_cons, List.length_nil, List.replicate, Pv.atI0, Pv.atI1, Pv.atI2, Nat.reduceAdd, Nat.reduceSub, Nat.zero_add, reduceIte, Pv.strs?, Bool.not_true, Bool.not_false, Bool.false_eq_true, if_false, if_true, decide_eq_true_eq, Bool.not_eq_true', decide_eq_false_iff_not, Pv.ixN0, Pv.ixN1, Pv.ixN2, true_and, and_true, Pv.cst0, Pv.cst1, Pv.cst2, Pv.cst3, Int.reduceEq, Option.bind_none, Option.bind_some, Pv.kn_go_jump, Pv.kn_go_turn, Pv.kn_go_times, Pv.kn_jump_go, Pv.kn_jump_turn, Pv.kn_jump_times, Pv.kn_turn_go, Pv.kn_turn_jump, Pv.kn_turn_times, Pv.kn_times_go, Pv.kn_times_jump, Pv.kn_times_turn, Pv.kp_go, Pv.kp_jump, Pv.kp_turn, Pv.kp_times, Pv.kz_go, Pv.kz_jump, Pv.kz_turn, Pv.kz_times, t_deed_box, N_deed_box, enc]
  case go n =>
    have := q μ (Ext.refl _)
    simp only [bxd] at this
    split
    · next e => rw [if_pos e] at this; exact this
    · next e => rw [if_neg e] at this; exact ⟨by decide, this⟩
  case jump n =>
    have := q μ (Ext.refl _)
    simp only [bxd] at this
    split <;> exact this
  case turn n =>
    have := q μ (Ext.refl _)
    simp only [bxd] at this
    split <;> exact this
  case times n w =>
    simp only [okd, dep, cnt, bxd] at h1 h2 h2' h3 q
    split
    · next e => have := q μ (Ext.refl _); rw [if_pos e] at this; exact this
    · next e =>
      obtain ⟨b1, b2⟩ := pm_big (pm_pb w h3.2) (by omega) (by omega)
      refine ⟨w, rfl, by omega, by omega, by omega, h3.2, fun μ1 e1 => ⟨w, rfl, by omega, by omega, by omega, h3.2, _, pb w, n, rfl, hd_pb w, by omega, h3.1.2, b1, b2, fun μ2 e2 => ?_⟩⟩
      have := q μ2 (e1.trans e2)
      rw [if_neg e] at this
      exact this
theorem rd_word_box (j : Nat) (ds : List D) (μ : Mu) (Q : VK3) (h : spWb j ds μ Q) : t_word_box spBfr spBor (spDb j) spLed (spPd 5) { nx := fun _ μ' => Q .non μ', rt := Q } (start3 N_word_box ds) μ := by
  obtain ⟨w, rfl, h1, h2, h2', h3, q⟩ := h
  simp only [Pv.seq3, Pv.next3, Pv.never3, Pv.brk3, Pv.cnt3, Pv.drop3, Pv.ret3, Pv.retN3, Pv.ifs3, Pv.gn3, Pv.gnil3, Pv.gcons3, Pv.gtup3, Pv.set3, Pv.asg3, Pv.par3, Pv.sub3, Pv.for3, Pv.is3, Pv.ir3, Pv.ir23, Pv.v3, Pv.c3, Pv.o3, Pv.un3, Pv.b3, Pv.and3, Pv.or3, Pv.not3, Pv.andV3, Pv.orV3, Pv.notV3, Pv.if3, Pv.nil3, Pv.cons3, Pv.tup3, Pv.lst3, Pv.call3, Pv.mt3, Pv.comp3, Pv.tt3, Pv.getI, List.set_cons_zero, List.set_cons_succ, Pv.int2, Pv.int20, Pv.subR, Pv.mulR, Pv.intR, Pv.sl3, Pv.np3, Pv.pt3, Pv.slR, Pv.modR, Pv.fdivR, Pv.powR, Pv.ltR, Pv.leR, Pv.gtR, Pv.geR, Pv.negR, Pv.addR, Pv.eqR_ii, Pv.eqR_ss, Pv.eqR_bb, Pv.eqR_is, Pv.neR_ii, Pv.neR_ss, Pv.neR_bb, Pv.inR, Pv.ixR, Pv.lenR, Pv.absR, Pv.tupR, Pv.sumR, Pv.tyN, Pv.isIn, Pv.isiR, Pv.appR, Pv.extR, Pv.smt3, Pv.joinR, Pv.splitR, Pv.startsR, Pv.pop3, Pv.lrev3, Pv.strR, Pv.start3, List.map_cons, List.map_nil, List.cons_append, List.nil_append, List.length_cons, List.length_nil, List.replicate, Pv.atI0, Pv.atI1, Pv.atI2, Nat.reduceAdd, Nat.reduceSub, Nat.zero_add, reduceIte, Pv.strs?, Bool.not_true, Bool.not_false, Bool.false_eq_true, if_false, if_true, decide_eq_true_eq, Bool.not_eq_true', decide_eq_false_iff_not, Pv.ixN0, Pv.ixN1, Pv.ixN2, true_and, and_true, Pv.cst0, Pv.cst1, Pv.cst2, Pv.cst3, Int.reduceEq, Option.bind_none, Option.bind_some, Pv.kn_go_jump, Pv.kn_go_turn, Pv.kn_go_times, Pv.kn_jump_go, Pv.kn_jump_turn, Pv.kn_jump_times, Pv.kn_turn_go, Pv.kn_turn_jump, Pv.kn_turn_times, Pv.kn_times_go, Pv.kn_times_jump, Pv.kn_times_turn, Pv.kp_go, Pv.kp_jump, Pv.kp_turn, Pv.kp_times, Pv.kz_go, Pv.kz_jump, Pv.kz_turn, Pv.kz_times, t_word_box, N_word_box]
  refine for_inv (fun l ρ μ' => Ext μ μ' ∧ ∃ (r : List Dd) (o : Option Bx) (p : Pen) (dd : Option D), l = encs r ∧ ρ = [some (.tup (encs w)), some (encB o), some (encP p), dd] ∧ oks r ∧ deps r ≤ deps w ∧ cnts r ≤ cnts w ∧ Hd p ∧ bxa r o p = bxa w none st) ?_ (fun _ _ _ _ => trivial) ?_ ?_
  · exact ⟨Ext.refl _, w, none, st, none, rfl, rfl, h3, Nat.le_refl _, Nat.le_refl _, hd_st, rfl⟩
  · rintro ρ μ' ⟨ex, r, o, p, dd, e, rfl, _, _, _, _, e2⟩
    cases r with
    | nil =>
      simp only [bxa] at e2
      simp only [Pv.seq3, Pv.next3, Pv.never3, Pv.brk3, Pv.cnt3, Pv.drop3, Pv.ret3, Pv.retN3, Pv.ifs3, Pv.gn3, Pv.gnil3, Pv.gcons3, Pv.gtup3, Pv.set3, Pv.asg3, Pv.par3, Pv.sub3, Pv.for3, Pv.is3, Pv.ir3, Pv.ir23, Pv.v3, Pv.c3, Pv.o3, Pv.un3, Pv.b3, Pv.and3, Pv.or3, Pv.not3, Pv.andV3, Pv.orV3, Pv.notV3, Pv.if3, Pv.nil3, Pv.cons3, Pv.tup3, Pv.lst3, Pv.call3, Pv.mt3, Pv.comp3, Pv.tt3, Pv.getI, List.set_cons_zero, List.set_cons_succ, Pv.int2, Pv.int20, Pv.subR, Pv.mulR, Pv.intR, Pv.sl3, Pv.np3, Pv.pt3, Pv.slR, Pv.modR, Pv.fdivR, Pv.powR, Pv.ltR, Pv.leR, Pv.gtR, Pv.geR, Pv.negR, Pv.addR, Pv.eqR_ii, Pv.eqR_ss, Pv.eqR_bb, Pv.eqR_is, Pv.neR_ii, Pv.neR_ss, Pv.neR_bb, Pv.inR, Pv.ixR, Pv.lenR, Pv.absR, Pv.tupR, Pv.sumR, Pv.tyN, Pv.isIn, Pv.isiR, Pv.appR, Pv.extR, Pv.smt3, Pv.joinR, Pv.splitR, Pv.startsR, Pv.pop3, Pv.lrev3, Pv.strR, Pv.start3, List.map_cons, List.map_nil, List.cons_append, List.nil_append, List.length_cons, List.length_nil, List.replicate, Pv.atI0, Pv.atI1, Pv.atI2, Nat.reduceAdd, Nat.reduceSub, Nat.zero_add, reduceIte, Pv.strs?, Bool.not_true, Bool.not_false, Bool.false_eq_true, if_false, if_true, decide_eq_true_eq, Bool.not_eq_true', decide_eq_false_iff_not, Pv.ixN0, Pv.ixN1, Pv.ixN2, true_and, and_true, Pv.cst0, Pv.cst1, Pv.cst2, Pv.cst3, Int.reduceEq, Option.bind_none, Option.bind_some, Pv.kn_go_jump, Pv.kn_go_turn, Pv.kn_go_times, Pv.kn_jump_go, Pv.kn_jump_turn, Pv.kn_jump_times, Pv.kn_turn_go, Pv.kn_turn_jump, Pv.kn_turn_times, Pv.kn_times_go, Pv.kn_times_jump, Pv.kn_times_turn, Pv.kp_go, Pv.kp_jump, Pv.kp_turn, Pv.kp_times, Pv.kz_go, Pv.kz_jump, Pv.kz_turn, Pv.kz_times, cst0]
      rw [e2]
      exact q _ ex
    | cons _ _ => simp [encs] at e
  · rintro x rest ρ μ' ⟨ex, r, o, p, dd, e, rfl, ok, dp, cn, hp, e2⟩
    cases r with
    | nil => simp [encs] at e
    | cons d r =>
      simp only [encs, List.cons.injEq] at e
      obtain ⟨rfl, rfl⟩ := e
      simp only [oks, deps, cnts, bxa] at ok dp cn e2
      simp only [Pv.seq3, Pv.next3, Pv.never3, Pv.brk3, Pv.cnt3, Pv.drop3, Pv.ret3, Pv.retN3, Pv.ifs3, Pv.gn3, Pv.gnil3, Pv.gcons3, Pv.gtup3, Pv.set3, Pv.asg3, Pv.par3, Pv.sub3, Pv.for3, Pv.is3, Pv.ir3, Pv.ir23, Pv.v3, Pv.c3, Pv.o3, Pv.un3, Pv.b3, Pv.and3, Pv.or3, Pv.not3, Pv.andV3, Pv.orV3, Pv.notV3, Pv.if3, Pv.nil3, Pv.cons3, Pv.tup3, Pv.lst3, Pv.call3, Pv.mt3, Pv.comp3, Pv.tt3, Pv.getI, List.set_cons_zero, List.set_cons_succ, Pv.int2, Pv.int20, Pv.subR, Pv.mulR, Pv.intR, Pv.sl3, Pv.np3, Pv.pt3, Pv.slR, Pv.modR, Pv.fdivR, Pv.powR, Pv.ltR, Pv.leR, Pv.gtR, Pv.geR, Pv.negR, Pv.addR, Pv.eqR_ii, Pv.eqR_ss, Pv.eqR_bb, Pv.eqR_is, Pv.neR_ii, Pv.neR_ss, Pv.neR_bb, Pv.inR, Pv.ixR, Pv.lenR, Pv.absR, Pv.tupR, Pv.sumR, Pv.tyN, Pv.isIn, Pv.isiR, Pv.appR, Pv.extR, Pv.smt3, Pv.joinR, Pv.splitR, Pv.startsR, Pv.pop3, Pv.lrev3, Pv.strR, Pv.start3, List.map_cons, List.map_nil, List.cons_append, List.nil_append, List.length_cons, List.length_nil, List.replicate, Pv.atI0, Pv.atI1, Pv.atI2, Nat.reduceAdd, Nat.reduceSub, Nat.zero_add, reduceIte, Pv.strs?, Bool.not_true, Bool.not_false, Bool.false_eq_true, if_false, if_true, decide_eq_true_eq, Bool.not_eq_true', decide_eq_false_iff_not, Pv.ixN0, Pv.ixN1, Pv.ixN2, true_and, and_true, Pv.cst0, Pv.cst1, Pv.cst2, Pv.cst3, Int.reduceEq, Option.bind_none, Option.bind_some, Pv.kn_go_jump, Pv.kn_go_turn, Pv.kn_go_times, Pv.kn_jump_go, Pv.kn_jump_turn, Pv.kn_jump_times, Pv.kn_turn_go, Pv.kn_turn_jump, Pv.kn_turn_times, Pv.kn_times_go, Pv.kn_times_jump, Pv.kn_times_turn, Pv.kp_go, Pv.kp_jump, Pv.kp_turn, Pv.kp_times, Pv.kz_go, Pv.kz_jump, Pv.kz_turn, Pv.kz_times, cst0]
      refine ⟨d, rfl, by omega, by omega, by omega, ok.1, fun μ1 e1 => ⟨p, bxd d, rfl, hp, o, bfr p (bxd d), rfl, ?_⟩⟩
      exact ⟨d, rfl, by omega, by omega, by omega, ok.1, p, pd d, rfl, hp, ex.trans e1, r, _, _, _, rfl, rfl, ok.2, by omega, by omega, hd_led _ _, e2⟩
noncomputable def spBoxOf : Sp3 := fun ds μ Q => ∃ w, ds = [.tup (encs w)] ∧ Wd w ∧ ∀ μ', Ext μ μ' → Q (encB (bxa w none st)) μ'
theorem rd_box_of (ds : List D) (μ : Mu) (Q : VK3) (h : spBoxOf ds μ Q) : t_box_of spChk (spWb 5) { nx := fun _ μ' => Q .non μ', rt := Q } (start3 N_box_of ds) μ := by
  obtain ⟨w, rfl, ⟨h1, h2, h3⟩, q⟩ := h
  simp only [Pv.seq3, Pv.next3, Pv.never3, Pv.brk3, Pv.cnt3, Pv.drop3, Pv.ret3, Pv.retN3, Pv.ifs3, Pv.gn3, Pv.gnil3, Pv.gcons3, Pv.gtup3, Pv.set3, Pv.asg3, Pv.par3, Pv.sub3, Pv.for3, Pv.is3, Pv.ir3, Pv.ir23, Pv.v3, Pv.c3, Pv.o3, Pv.un3, Pv.b3, Pv.and3, Pv.or3, Pv.not3, Pv.andV3, Pv.orV3, Pv.notV3, Pv.if3, Pv.nil3, Pv.cons3, Pv.tup3, Pv.lst3, Pv.call3, Pv.mt3, Pv.comp3, Pv.tt3, Pv.getI, List.set_cons_zero, List.set_cons_succ, Pv.int2, Pv.int20, Pv.subR, Pv.mulR, Pv.intR, Pv.sl3, Pv.np3, Pv.pt3, Pv.slR, Pv.modR, Pv.fdivR, Pv.powR, Pv.ltR, Pv.leR, Pv.gtR, Pv.geR, Pv.negR, Pv.addR, Pv.eqR_ii, Pv.eqR_ss, Pv.eqR_bb, Pv.eqR_is, Pv.neR_ii, Pv.neR_ss, Pv.neR_bb, Pv.inR, Pv.ixR, Pv.lenR, Pv.absR, Pv.tupR, Pv.sumR, Pv.tyN, Pv.isIn, Pv.isiR, Pv.appR, Pv.extR, Pv.smt3, Pv.joinR, Pv.splitR, Pv.startsR, Pv.pop3, Pv.lrev3, Pv.strR, Pv.start3, List.map_cons, List.map_nil, List.cons_append, List.nil_append, List.length_cons, List.length_nil, List.replicate, Pv.atI0, Pv.atI1, Pv.atI2, Nat.reduceAdd, Nat.reduceSub, Nat.zero_add, reduceIte, Pv.strs?, Bool.not_true, Bool.not_false, Bool.false_eq_true, if_false, if_true, decide_eq_true_eq, Bool.not_eq_true', decide_eq_false_iff_not, Pv.ixN0, Pv.ixN1, Pv.ixN2, true_and, and_true, Pv.cst0, Pv.cst1, Pv.cst2, Pv.cst3, Int.reduceEq, Option.bind_none, Option.bind_some, Pv.kn_go_jump, Pv.kn_go_turn, Pv.kn_go_times, Pv.kn_jump_go, Pv.kn_jump_turn, Pv.kn_jump_times, Pv.kn_turn_go, Pv.kn_turn_jump, Pv.kn_turn_times, Pv.kn_times_go, Pv.kn_times_jump, Pv.kn_times_turn, Pv.kp_go, Pv.kp_jump, Pv.kp_turn, Pv.kp_times, Pv.kz_go, Pv.kz_jump, Pv.kz_turn, Pv.kz_times, t_box_of, N_box_of]
  exact ⟨w, rfl, ⟨h1, h2, h3⟩, w, rfl, by omega, by omega, by omega, h1, q⟩
/-! a look: the ends of a stroke, and how many doings may yet be looked at -/
noncomputable def gx (s : Stk) : Int := s.1 + 1 - s.2.2
noncomputable def gy (s : Stk) : Int := s.2.1 + s.2.2
noncomputable def encS (s : Stk) : D := .tup [.int s.1, .int s.2.1, .int s.2.2]
noncomputable def wy (s : Stk) : Prop := s.2.2 = 0 ∨ s.2.2 = 1
theorem updM_upd {μ : Mu} {p : Addr} {a b : MO} : updM (updM μ p a) p b = updM μ p b := by
  funext q
  by_cases h : q = p
  · subst h; rw [updM_same, updM_same]
  · rw [updM_ne h, updM_ne h, updM_ne h]
noncomputable def eFs (a b c : D) : List (Str × D) := [("least", a), ("greatest", b), ("left", c)]
noncomputable def eLook (s : Stk) (n : Int) : MO := .ins "Look" (eFs (.tup [.int s.1, .int s.2.1]) (.tup [.int (gx s), .int (gy s)]) (.int n))
theorem lkL {a b c : D} : (eFs a b c).lookup ("least" : Str) = some a := rfl
theorem lkG {a b c : D} : (eFs a b c).lookup ("greatest" : Str) = some b := by
  rfl
theorem lkF {a b c : D} : (eFs a b c).lookup ("left" : Str) = some c := by rfl
theorem put1 {a : D} : putD "least" a [] = ([("least", a)] : List (Str × D)) := rfl
theorem put2 {a b : D} : putD "greatest" b [("least", a)] = ([("least", a), ("greatest", b)] : List (Str × D)) := by rfl
theorem put3 {a b c : D} : putD "left" c [("least", a), ("greatest", b)] = eFs a b c := by rfl
theorem put4 {a b c d : D} : putD "left" d (eFs a b c) = eFs a b d := by rfl
noncomputable def spEnds : Sp3 := fun ds μ Q => ∃ s, ds = [encS s] ∧ wy s ∧ Q (.tup [.tup [.int s.1, .int s.2.1], .tup [.int (gx s), .int (gy s)]]) μ
theorem rd_ends_of (ds : List D) (μ : Mu) (Q : VK3) (h : spEnds ds μ Q) : t_ends_of { nx := fun _ μ' => Q .non μ', rt := Q } (start3 N_ends_of ds) μ := by
  obtain ⟨⟨x, y, w⟩, rfl, hw, q⟩ := h
  rcases hw with e | e
  · dsimp only at e; subst e
    simp only [gx, gy, Int.sub_zero, Int.add_zero] at q
    exact ⟨(show 2 ≤ sizeLine by decide), (show 2 ≤ sizeLine by decide), (show 2 ≤ sizeLine by decide), q⟩
  · dsimp only at e; subst e
    simp only [gx, gy, Int.add_sub_cancel] at q
    exact ⟨(show 2 ≤ sizeLine by decide), (show 2 ≤ sizeLine by decide), (show 2 ≤ sizeLine by decide), q⟩
noncomputable def spChkS : Sp3 := fun ds μ Q => ∃ s, ds = [encS s] ∧ wy s ∧ Q .non μ
noncomputable def inb (s : Stk) : Option Bx → Bool
  | none => false
  | some b => decide (b.1 ≤ s.1) && (decide (b.2.1 ≤ s.2.1) && (decide (gx s ≤ b.2.2.1) && decide (gy s ≤ b.2.2.2)))
noncomputable def spInit : Sp3 := fun ds μ Q => ∃ p s, ds = [.ref p, encS s] ∧ wy s ∧ μ p = some (.ins "Look" []) ∧ Q .non (updM μ p (eLook s 1000))
theorem rd_Look___init__ (ds : List D) (μ : Mu) (Q : VK3) (h : spInit ds μ Q) : t_Look___init__ spEnds { nx := fun _ μ' => Q .non μ', rt := Q } (start3 N_Look___init__ ds) μ := by
  obtain ⟨p, s, rfl, hw, hm, q⟩ := h
  simp only [Pv.seq3, Pv.next3, Pv.never3, Pv.brk3, Pv.cnt3, Pv.drop3, Pv.ret3, Pv.retN3, Pv.ifs3, Pv.gn3, Pv.gnil3, Pv.gcons3, Pv.gtup3, Pv.set3, Pv.asg3, Pv.par3, Pv.sub3, Pv.for3, Pv.is3, Pv.ir3, Pv.ir23, Pv.v3, Pv.c3, Pv.o3, Pv.un3, Pv.b3, Pv.and3, Pv.or3, Pv.not3, Pv.andV3, Pv.orV3, Pv.notV3, Pv.if3, Pv.nil3, Pv.cons3, Pv.tup3, Pv.lst3, Pv.call3, Pv.mt3, Pv.comp3, Pv.tt3, Pv.getI, List.set_cons_zero, List.set_cons_succ, Pv.int2, Pv.int20, Pv.subR, Pv.mulR, Pv.intR, Pv.sl3, Pv.np3, Pv.pt3, Pv.slR, Pv.modR, Pv.fdivR, Pv.powR, Pv.ltR, Pv.leR, Pv.gtR, Pv.geR, Pv.negR, Pv.addR, Pv.eqR_ii, Pv.eqR_ss, Pv.eqR_bb, Pv.eqR_is, Pv.neR_ii, Pv.neR_ss, Pv.neR_bb, Pv.inR, Pv.ixR, Pv.lenR, Pv.absR, Pv.tupR, Pv.sumR, Pv.tyN, Pv.isIn, Pv.isiR, Pv.appR, Pv.extR, Pv.smt3, Pv.joinR, Pv.splitR, Pv.startsR, Pv.pop3, Pv.lrev3, Pv.strR, Pv.start3, List.map_cons, List.map_nil, List.cons_append, List.nil_append, List.length_cons, List.length_nil, List.replicate, Pv.atI0, Pv.atI1, Pv.atI2, Nat.reduceAdd, Nat.reduceSub, Nat.zero_add, reduceIte, Pv.strs?, Bool.not_true, Bool.not_false, Bool.false_eq_true, if_false, if_true, decide_eq_true_eq, Bool.not_eq_true', decide_eq_false_iff_not, Pv.ixN0, Pv.ixN1, Pv.ixN2, true_and, and_true, Pv.cst0, Pv.cst1, Pv.cst2, Pv.cst3, Int.reduceEq, Option.bind_none, Option.bind_some, Pv.kn_go_jump, Pv.kn_go_turn, Pv.kn_go_times, Pv.kn_jump_go, Pv.kn_jump_turn, Pv.kn_jump_times, Pv.kn_turn_go, Pv.kn_turn_jump, Pv.kn_turn_times, Pv.kn_times_go, Pv.kn_times_jump, Pv.kn_times_turn, Pv.kp_go, Pv.kp_jump, Pv.kp_turn, Pv.kp_times, Pv.kz_go, Pv.kz_jump, Pv.kz_turn, Pv.kz_times, t_Look___init__, N_Look___init__, k_MOST_LOOKED_AT]
  refine ⟨s, rfl, hw, ?_⟩
  simp only [Pv.seq3, Pv.next3, Pv.never3, Pv.brk3, Pv.cnt3, Pv.drop3, Pv.ret3, Pv.retN3, Pv.ifs3, Pv.gn3, Pv.gnil3, Pv.gcons3, Pv.gtup3, Pv.set3, Pv.asg3, Pv.par3, Pv.sub3, Pv.for3, Pv.is3, Pv.ir3, Pv.ir23, Pv.v3, Pv.c3, Pv.o3, Pv.un3, Pv.b3, Pv.and3, Pv.or3, Pv.not3, Pv.andV3, Pv.orV3, Pv.notV3, Pv.if3, Pv.nil3, Pv.cons3, Pv.tup3, Pv.lst3, Pv.call3, Pv.mt3, Pv.comp3, Pv.tt3, Pv.getI, List.set_cons_zero, List.set_cons_succ, Pv.int2, Pv.int20, Pv.subR, Pv.mulR, Pv.intR, Pv.sl3, Pv.np3, Pv.pt3, Pv.slR, Pv.modR, Pv.fdivR, Pv.powR, Pv.ltR, Pv.leR, Pv.gtR, Pv.geR, Pv.negR, Pv.addR, Pv.eqR_ii, Pv.eqR_ss, Pv.eqR_bb, Pv.eqR_is, Pv.neR_ii, Pv.neR_ss, Pv.neR_bb, Pv.inR, Pv.ixR, Pv.lenR, Pv.absR, Pv.tupR, Pv.sumR, Pv.tyN, Pv.isIn, Pv.isiR, Pv.appR, Pv.extR, Pv.smt3, Pv.joinR, Pv.splitR, Pv.startsR, Pv.pop3, Pv.lrev3, Pv.strR, Pv.start3, List.map_cons, List.map_nil, List.cons_append, List.nil_append, List.length_cons, List.length_nil, List.replicate, Pv.atI0, Pv.atI1, Pv.atI2, Nat.reduceAdd, Nat.reduceSub, Nat.zero_add, reduceIte, Pv.strs?, Bool.not_true, Bool.not_false, Bool.false_eq_true, if_false, if_true, decide_eq_true_eq, Bool.not_eq_true', decide_eq_false_iff_not, Pv.ixN0, Pv.ixN1, Pv.ixN2, true_and, and_true, Pv.cst0, Pv.cst1, Pv.cst2, Pv.cst3, Int.reduceEq, Option.bind_none, Option.bind_some, Pv.kn_go_jump, Pv.kn_go_turn, Pv.kn_go_times, Pv.kn_jump_go, Pv.kn_jump_turn, Pv.kn_jump_times, Pv.kn_turn_go, Pv.kn_turn_jump, Pv.kn_turn_times, Pv.kn_times_go, Pv.kn_times_jump, Pv.kn_times_turn, Pv.kp_go, Pv.kp_jump, Pv.kp_turn, Pv.kp_times, Pv.kz_go, Pv.kz_jump, Pv.kz_turn, Pv.kz_times, sfld3, hm, updM_same, updM_upd, put1, put2, put3]
  exact ⟨(by decide : 0 < 1000), (by decide : 1 < 1000), (by decide : 2 < 1000), q⟩
noncomputable def spIsw : Sp3 := fun ds μ Q => ∃ p s n b, ds = [.ref p, encB b] ∧ μ p = some (eLook s n) ∧ Q (.bl (inb s b)) μ
theorem rd_Look_is_within (ds : List D) (μ : Mu) (Q : VK3) (h : spIsw ds μ Q) : t_Look_is_within { nx := fun _ μ' => Q .non μ', rt := Q } (start3 N_Look_is_within ds) μ := by
  obtain ⟨p, s, n, b, rfl, hm, q⟩ := h
  cases b with
  | none => exact q
  | some b =>
    simp only [Pv.seq3, Pv.next3, Pv.never3, Pv.brk3, Pv.cnt3, Pv.drop3, Pv.ret3, Pv.retN3, Pv.ifs3, Pv.gn3, Pv.gnil3, Pv.gcons3, Pv.gtup3, Pv.set3, Pv.asg3, Pv.par3, Pv.sub3, Pv.for3, Pv.is3, Pv.ir3, Pv.ir23, Pv.v3, Pv.c3, Pv.o3, Pv.un3, Pv.b3, Pv.and3, Pv.or3, Pv.not3, Pv.andV3, Pv.orV3, Pv.notV3, Pv.if3, Pv.nil3, Pv.cons3, Pv.tup3, Pv.lst3, Pv.call3, Pv.mt3, Pv.comp3, Pv.tt3, Pv.getI, List.set_cons_zero, List.set_cons_succ, Pv.int2, Pv.int20, Pv.subR, Pv.mulR, Pv.intR, Pv.sl3, Pv.np3, Pv.pt3, Pv.slR, Pv.modR, Pv.fdivR, Pv.powR, Pv.ltR, Pv.leR, Pv.gtR, Pv.geR, Pv.negR, Pv.addR, Pv.eqR_ii, Pv.eqR_ss, Pv.eqR_bb, Pv.eqR_is, Pv.neR_ii, Pv.neR_ss, Pv.neR_bb, Pv.inR, Pv.ixR, Pv.lenR, Pv.absR, Pv.tupR, Pv.sumR, Pv.tyN, Pv.isIn, Pv.isiR, Pv.appR, Pv.extR, Pv.smt3, Pv.joinR, Pv.splitR, Pv.startsR, Pv.pop3, Pv.lrev3, Pv.strR, Pv.start3, List.map_cons, List.map_nil, List.cons_append, List.nil_append, List.length_cons, List.length_nil, List.replicate, Pv.atI0, Pv.atI1, Pv.atI2, Nat.reduceAdd, Nat.reduceSub, Nat.zero_add, reduceIte, Pv.strs?, Bool.not_true, Bool.not_false, Bool.false_eq_true, if_false, if_true, decide_eq_true_eq, Bool.not_eq_true', decide_eq_false_iff_not, Pv.ixN0, Pv.ixN1, Pv.ixN2, true_and, and_true, Pv.cst0, Pv.cst1, Pv.cst2, Pv.cst3, Int.reduceEq, Option.bind_none, Option.bind_some, Pv.kn_go_jump, Pv.kn_go_turn, Pv.kn_go_times, Pv.kn_jump_go, Pv.kn_jump_turn, Pv.kn_jump_times, Pv.kn_turn_go, Pv.kn_turn_jump, Pv.kn_turn_times, Pv.kn_times_go, Pv.kn_times_jump, Pv.kn_times_turn, Pv.kp_go, Pv.kp_jump, Pv.kp_turn, Pv.kp_times, Pv.kz_go, Pv.kz_jump, Pv.kz_turn, Pv.kz_times, t_Look_is_within, N_Look_is_within, encB, fld3, hm, eLook, lkL, lkG, atI3, Pv.min2R, Pv.maxR, Pv.mnR_ii, Pv.mnR_pp, Pv.mxR_ii, Pv.lrng3, Pv.isNR, Pv.isN, Pv.ch3]
    simp only [inb] at q
    split
    · next h1 =>
      split
      · next h2 =>
        split
        · next h3 => rw [decide_eq_true h1, decide_eq_true h2, decide_eq_true h3] at q; exact q
        · next h3 => rw [decide_eq_true h1, decide_eq_true h2, decide_eq_false h3] at q; exact q
      · next h2 => rw [decide_eq_true h1, decide_eq_false h2] at q; exact q
    · next h1 => rw [decide_eq_false h1] at q; exact q
noncomputable def spCd : Sp3 := fun ds μ Q => ∃ p s n, ds = [.ref p] ∧ μ p = some (eLook s n) ∧ 0 < n ∧ Q .non (updM μ p (eLook s (n - 1)))
theorem rd_Look_count_doing (ds : List D) (μ : Mu) (Q : VK3) (h : spCd ds μ Q) : t_Look_count_doing { nx := fun _ μ' => Q .non μ', rt := Q } (start3 N_Look_count_doing ds) μ := by
  obtain ⟨p, s, n, rfl, hm, h0, q⟩ := h
  simp only [Pv.seq3, Pv.next3, Pv.never3, Pv.brk3, Pv.cnt3, Pv.drop3, Pv.ret3, Pv.retN3, Pv.ifs3, Pv.gn3, Pv.gnil3, Pv.gcons3, Pv.gtup3, Pv.set3, Pv.asg3, Pv.par3, Pv.sub3, Pv.for3, Pv.is3, Pv.ir3, Pv.ir23, Pv.v3, Pv.c3, Pv.o3, Pv.un3, Pv.b3, Pv.and3, Pv.or3, Pv.not3, Pv.andV3, Pv.orV3, Pv.notV3, Pv.if3, Pv.nil3, Pv.cons3, Pv.tup3, Pv.lst3, Pv.call3, Pv.mt3, Pv.comp3, Pv.tt3, Pv.getI, List.set_cons_zero, List.set_cons_succ, Pv.int2, Pv.int20, Pv.subR, Pv.mulR, Pv.intR, Pv.sl3, Pv.np3, Pv.pt3, Pv.slR, Pv.modR, Pv.fdivR, Pv.powR, Pv.ltR, Pv.leR, Pv.gtR, Pv.geR, Pv.negR, Pv.addR, Pv.eqR_ii, Pv.eqR_ss, Pv.eqR_bb, Pv.eqR_is, Pv.neR_ii, Pv.neR_ss, Pv.neR_bb, Pv.inR, Pv.ixR, Pv.lenR, Pv.absR, Pv.tupR, Pv.sumR, Pv.tyN, Pv.isIn, Pv.isiR, Pv.appR, Pv.extR, Pv.smt3, Pv.joinR, Pv.splitR, Pv.startsR, Pv.pop3, Pv.lrev3, Pv.strR, Pv.start3, List.map_cons, List.map_nil, List.cons_append, List.nil_append, List.length_cons, List.length_nil, List.replicate, Pv.atI0, Pv.atI1, Pv.atI2, Nat.reduceAdd, Nat.reduceSub, Nat.zero_add, reduceIte, Pv.strs?, Bool.not_true, Bool.not_false, Bool.false_eq_true, if_false, if_true, decide_eq_true_eq, Bool.not_eq_true', decide_eq_false_iff_not, Pv.ixN0, Pv.ixN1, Pv.ixN2, true_and, and_true, Pv.cst0, Pv.cst1, Pv.cst2, Pv.cst3, Int.reduceEq, Option.bind_none, Option.bind_some, Pv.kn_go_jump, Pv.kn_go_turn, Pv.kn_go_times, Pv.kn_jump_go, Pv.kn_jump_turn, Pv.kn_jump_times, Pv.kn_turn_go, Pv.kn_turn_jump, Pv.kn_turn_times, Pv.kn_times_go, Pv.kn_times_jump, Pv.kn_times_turn, Pv.kp_go, Pv.kp_jump, Pv.kp_turn, Pv.kp_times, Pv.kz_go, Pv.kz_jump, Pv.kz_turn, Pv.kz_times, t_Look_count_doing, N_Look_count_doing, fld3, sfld3, hm, eLook, lkF, put4]
  rw [if_neg (by omega)]
  exact ⟨(by decide : 3 < 1000), q⟩
noncomputable def spn0 (number low high shift least greatest : Int) : Int × Int :=
  if shift = 0 then (if low ≤ least ∧ greatest ≤ high then (0, number) else (0, 0))
  else (if -((high - greatest) / shift) > 0 then -((high - greatest) / shift) else 0, if (least - low) / shift + 1 < number then (least - low) / shift + 1 else number)
noncomputable def spn (number low high shift least greatest : Int) : Int × Int :=
  if shift < 0 then spn0 number (-high) (-low) (-shift) (-greatest) (-least) else spn0 number low high shift least greatest
noncomputable def encI (p : Int × Int) : D := .tup [.int p.1, .int p.2]
noncomputable def spSpan (j : Nat) : Sp3 := fun ds μ Q => ∃ n lo hi sh le gr, ds = [.int n, .int lo, .int hi, .int sh, .int le, .int gr] ∧ (if sh < 0 then 2 ≤ j else 1 ≤ j) ∧ (-(2 ^ 80) < sh ∧ sh < 2 ^ 80) ∧ Q (encI (spn n lo hi sh le gr)) μ
theorem rd_span_of_doings (j : Nat) (ds : List D) (μ : Mu) (Q : VK3) (h : spSpan (j + 1) ds μ Q) : t_span_of_doings (spSpan j) { nx := fun _ μ' => Q .non μ', rt := Q } (start3 N_span_of_doings ds) μ := by
  obtain ⟨n, lo, hi, sh, le, gr, rfl, hj, hb, q⟩ := h
  simp only [Pv.seq3, Pv.next3, Pv.never3, Pv.brk3, Pv.cnt3, Pv.drop3, Pv.ret3, Pv.retN3, Pv.ifs3, Pv.gn3, Pv.gnil3, Pv.gcons3, Pv.gtup3, Pv.set3, Pv.asg3, Pv.par3, Pv.sub3, Pv.for3, Pv.is3, Pv.ir3, Pv.ir23, Pv.v3, Pv.c3, Pv.o3, Pv.un3, Pv.b3, Pv.and3, Pv.or3, Pv.not3, Pv.andV3, Pv.orV3, Pv.notV3, Pv.if3, Pv.nil3, Pv.cons3, Pv.tup3, Pv.lst3, Pv.call3, Pv.mt3, Pv.comp3, Pv.tt3, Pv.getI, List.set_cons_zero, List.set_cons_succ, Pv.int2, Pv.int20, Pv.subR, Pv.mulR, Pv.intR, Pv.sl3, Pv.np3, Pv.pt3, Pv.slR, Pv.modR, Pv.fdivR, Pv.powR, Pv.ltR, Pv.leR, Pv.gtR, Pv.geR, Pv.negR, Pv.addR, Pv.eqR_ii, Pv.eqR_ss, Pv.eqR_bb, Pv.eqR_is, Pv.neR_ii, Pv.neR_ss, Pv.neR_bb, Pv.inR, Pv.ixR, Pv.lenR, Pv.absR, Pv.tupR, Pv.sumR, Pv.tyN, Pv.isIn, Pv.isiR, Pv.appR, Pv.extR, Pv.smt3, Pv.joinR, Pv.splitR, Pv.startsR, Pv.pop3, Pv.lrev3, Pv.strR, Pv.start3, List.map_cons, List.map_nil, List.cons_append, List.nil_append, List.length_cons, List.length_nil, List.replicate, Pv.atI0, Pv.atI1, Pv.atI2, Nat.reduceAdd, Nat.reduceSub, Nat.zero_add, reduceIte, Pv.strs?, Bool.not_true, Bool.not_false, Bool.false_eq_true, if_false, if_true, decide_eq_true_eq, Bool.not_eq_true', decide_eq_false_iff_not, Pv.ixN0, Pv.ixN1, Pv.ixN2, true_and, and_true, Pv.cst0, Pv.cst1, Pv.cst2, Pv.cst3, Int.reduceEq, Option.bind_none, Option.bind_some, Pv.kn_go_jump, Pv.kn_go_turn, Pv.kn_go_times, Pv.kn_jump_go, Pv.kn_jump_turn, Pv.kn_jump_times, Pv.kn_turn_go, Pv.kn_turn_jump, Pv.kn_turn_times, Pv.kn_times_go, Pv.kn_times_jump, Pv.kn_times_turn, Pv.kp_go, Pv.kp_jump, Pv.kp_turn, Pv.kp_times, Pv.kz_go, Pv.kz_jump, Pv.kz_turn, Pv.kz_times, t_span_of_doings, N_span_of_doings, Pv.min2R, Pv.maxR, Pv.mnR_ii, Pv.mnR_pp, Pv.mxR_ii, Pv.lrng3, Pv.isNR, Pv.isN, Pv.ch3]
  by_cases h0 : sh < 0
  · rw [if_pos h0] at hj ⊢
    refine ⟨n, -hi, -lo, -sh, -gr, -le, rfl, ?_, ⟨by omega, by omega⟩, ?_⟩
    · rw [if_neg (by omega)]; omega
    · rw [spn, if_neg (by omega)]
      rw [spn, if_pos h0] at q
      exact q
  · rw [spn, if_neg h0] at q
    rw [if_neg h0]
    unfold spn0 at q
    by_cases h1 : sh = 0
    · rw [if_pos h1] at q ⊢
      by_cases h2 : lo ≤ le
      · rw [if_pos h2]
        by_cases h3 : gr ≤ hi
        · rw [if_pos ⟨h2, h3⟩] at q; rw [if_pos h3]; exact ⟨by decide, q⟩
        · rw [if_neg (fun h => h3 h.2)] at q; rw [if_neg h3]; exact ⟨by decide, q⟩
      · rw [if_neg (fun h => h2 h.1)] at q; rw [if_neg h2]; exact ⟨by decide, q⟩
    · rw [if_neg h1] at q ⊢
      have a : 0 < sh := by omega
      exact ⟨⟨a, hb.2⟩, ⟨a, hb.2⟩, by decide, q⟩
theorem eqR_start {p : Pen} {μ : Mu} {Q : VK3} : eqR (.tup [.int p.1, .int p.2.1, .int p.2.2]) (.tup [.int 0, .int 0, .int 0]) μ Q = Q (.bl (decide (p = st))) μ := by
  rw [eqR_dat (p := .tuple [.int p.1, .int p.2.1, .int p.2.2]) (q := .tuple [.int 0, .int 0, .int 0]) rfl (by simp only [datM, dat, dats]) (by simp only [datM, dat, dats]) (by simp [PyData.depth, PyData.depthAll]) (by simp [PyData.depth, PyData.depthAll])]
  congr 2
  obtain ⟨x, y, w⟩ := p
  rw [Bool.eq_iff_iff]
  simp [PyData.eqv, PyData.eqvAll, st, Prod.mk.injEq]
noncomputable def spLike : Sp3 := fun ds μ Q => ∃ d n p, ds = [.int d, .int n, encP p] ∧ Q (.int (if p = st then n else if p.2.2 = 0 then 1 else (n - d + 3) / 4)) μ
theorem rd_doings_like (ds : List D) (μ : Mu) (Q : VK3) (h : spLike ds μ Q) : t_doings_like { nx := fun _ μ' => Q .non μ', rt := Q } (start3 N_doings_like ds) μ := by
  obtain ⟨d, n, p, rfl, q⟩ := h
  simp only [Pv.seq3, Pv.next3, Pv.never3, Pv.brk3, Pv.cnt3, Pv.drop3, Pv.ret3, Pv.retN3, Pv.ifs3, Pv.gn3, Pv.gnil3, Pv.gcons3, Pv.gtup3, Pv.set3, Pv.asg3, Pv.par3, Pv.sub3, Pv.for3, Pv.is3, Pv.ir3, Pv.ir23, Pv.v3, Pv.c3, Pv.o3, Pv.un3, Pv.b3, Pv.and3, Pv.or3, Pv.not3, Pv.andV3, Pv.orV3, Pv.notV3, Pv.if3, Pv.nil3, Pv.cons3, Pv.tup3, Pv.lst3, Pv.call3, Pv.mt3, Pv.comp3, Pv.tt3, Pv.getI, List.set_cons_zero, List.set_cons_succ, Pv.int2, Pv.int20, Pv.subR, Pv.mulR, Pv.intR, Pv.sl3, Pv.np3, Pv.pt3, Pv.slR, Pv.modR, Pv.fdivR, Pv.powR, Pv.ltR, Pv.leR, Pv.gtR, Pv.geR, Pv.negR, Pv.addR, Pv.eqR_ii, Pv.eqR_ss, Pv.eqR_bb, Pv.eqR_is, Pv.neR_ii, Pv.neR_ss, Pv.neR_bb, Pv.inR, Pv.ixR, Pv.lenR, Pv.absR, Pv.tupR, Pv.sumR, Pv.tyN, Pv.isIn, Pv.isiR, Pv.appR, Pv.extR, Pv.smt3, Pv.joinR, Pv.splitR, Pv.startsR, Pv.pop3, Pv.lrev3, Pv.strR, Pv.start3, List.map_cons, List.map_nil, List.cons_append, List.nil_append, List.length_cons, List.length_nil, List.replicate, Pv.atI0, Pv.atI1, Pv.atI2, Nat.reduceAdd, Nat.reduceSub, Nat.zero_add, reduceIte, Pv.strs?, Bool.not_true, Bool.not_false, Bool.false_eq_true, if_false, if_true, decide_eq_true_eq, Bool.not_eq_true', decide_eq_false_iff_not, Pv.ixN0, Pv.ixN1, Pv.ixN2, true_and, and_true, Pv.cst0, Pv.cst1, Pv.cst2, Pv.cst3, Int.reduceEq, Option.bind_none, Option.bind_some, Pv.kn_go_jump, Pv.kn_go_turn, Pv.kn_go_times, Pv.kn_jump_go, Pv.kn_jump_turn, Pv.kn_jump_times, Pv.kn_turn_go, Pv.kn_turn_jump, Pv.kn_turn_times, Pv.kn_times_go, Pv.kn_times_jump, Pv.kn_times_turn, Pv.kp_go, Pv.kp_jump, Pv.kp_turn, Pv.kp_times, Pv.kz_go, Pv.kz_jump, Pv.kz_turn, Pv.kz_times, t_doings_like, N_doings_like, encP, k_START]
  rw [eqR_start]
  by_cases h : p = st
  · rw [if_pos h] at q
    simp only [h, decide_true, if_true]
    exact q
  · rw [if_neg h] at q
    simp only [h, decide_false, Bool.false_eq_true, if_false]
    by_cases h2 : p.2.2 = 0
    · rw [if_pos h2] at q; rw [if_neg (by simp [h2])]; exact q
    · rw [if_neg h2] at q; rw [if_pos h2]; exact ⟨by decide, q⟩
noncomputable def lo1 (a b : Int) : Int := if b < a then b else a
noncomputable def hi1 (a b : Int) : Int := if b > a then b else a
noncomputable def ask (n : Int) (part pen : Pen) (box : Option Bx) (s : Stk) : Int × Int :=
  if box = none then (0, 0) else if part = st then (0, lo1 n 1) else if part.2.2 ≠ 0 then (0, lo1 n 4)
  else match bfr pen box, bfr (led pen part) box with
    | some f, some g => (hi1 (spn n f.1 f.2.2.1 (g.1 - f.1) s.1 (gx s)).1 (spn n f.2.1 f.2.2.2 (g.2.1 - f.2.1) s.2.1 (gy s)).1, lo1 (spn n f.1 f.2.2.1 (g.1 - f.1) s.1 (gx s)).2 (spn n f.2.1 f.2.2.2 (g.2.1 - f.2.1) s.2.1 (gy s)).2)
    | _, _ => (0, 0)
noncomputable def bdd (p : Pen) : Prop := (-(2 ^ 80) < p.1 ∧ p.1 < 2 ^ 80) ∧ -(2 ^ 80) < p.2.1 ∧ p.2.1 < 2 ^ 80
theorem mn_sh (x y a b : Int) : mn (y + a) (y + b) - mn (x + a) (x + b) = y - x := by unfold mn; split <;> split <;> omega
theorem bfr_shift {pen part : Pen} {b f g : Bx} (h1 : Hd pen) (h4 : part.2.2 = 0) (hb : bdd part) (e1 : bfr pen (some b) = some f) (e2 : bfr (led pen part) (some b) = some g) :
    (-(2 ^ 80) < g.1 - f.1 ∧ g.1 - f.1 < 2 ^ 80) ∧ -(2 ^ 80) < g.2.1 - f.2.1 ∧ g.2.1 - f.2.1 < 2 ^ 80 := by
  cases e1
  cases e2
  have e3 : (led pen part).2.2 = pen.2.2 := by
    show (pen.2.2 + part.2.2) % 4 = _
    rcases h1 with h | h | h | h <;> rw [h, h4] <;> rfl
  have a1 : ∀ c d : Int, (led (led pen part) (c, d, 0)).1 = (led pen part).1 + (c * cs pen.2.2 - d * sn pen.2.2) := fun c d => by
    show (led pen part).1 + c * cs (led pen part).2.2 - d * sn (led pen part).2.2 = _
    rw [e3, Int.add_sub_assoc]
  have a2 : ∀ c d : Int, (led pen (c, d, 0)).1 = pen.1 + (c * cs pen.2.2 - d * sn pen.2.2) := fun c d => Int.add_sub_assoc _ _ _
  have a3 : ∀ c d : Int, (led (led pen part) (c, d, 0)).2.1 = (led pen part).2.1 + (c * sn pen.2.2 + d * cs pen.2.2) := fun c d => by
    show (led pen part).2.1 + c * sn (led pen part).2.2 + d * cs (led pen part).2.2 = _
    rw [e3, Int.add_assoc]
  have a4 : ∀ c d : Int, (led pen (c, d, 0)).2.1 = pen.2.1 + (c * sn pen.2.2 + d * cs pen.2.2) := fun c d => Int.add_assoc _ _ _
  have d1 : (led pen part).1 - pen.1 = part.1 * cs pen.2.2 - part.2.1 * sn pen.2.2 := by
    show pen.1 + part.1 * cs pen.2.2 - part.2.1 * sn pen.2.2 - pen.1 = _
    omega
  have d2 : (led pen part).2.1 - pen.2.1 = part.1 * sn pen.2.2 + part.2.1 * cs pen.2.2 := by
    show pen.2.1 + part.1 * sn pen.2.2 + part.2.1 * cs pen.2.2 - pen.2.1 = _
    omega
  dsimp only
  rw [a1, a1, a2, a2, a3, a3, a4, a4, mn_sh, mn_sh, d1, d2]
  unfold bdd at hb
  rcases h1 with h | h | h | h <;> rw [h] <;> simp only [cs, sn] <;> simp <;> omega
noncomputable def spAsk : Sp3 := fun ds μ Q => ∃ n part pen box p s left, ds = [.int n, encP part, encP pen, encB box, .ref p] ∧ Hd part ∧ Hd pen ∧ bdd part ∧ μ p = some (eLook s left) ∧ Q (encI (ask n part pen box s)) μ
/-! the doings to ask -/
theorem rd_check_stroke (ds : List D) (μ : Mu) (Q : VK3) (h : spChkS ds μ Q) : t_check_stroke { nx := fun _ μ' => Q .non μ', rt := Q } (start3 N_check_stroke ds) μ := by
  obtain ⟨⟨x, y, w⟩, rfl, hw, q⟩ := h
  rcases hw with e | e
  · dsimp only at e; subst e
    simp only [Pv.seq3, Pv.next3, Pv.never3, Pv.brk3, Pv.cnt3, Pv.drop3, Pv.ret3, Pv.retN3, Pv.ifs3, Pv.gn3, Pv.gnil3, Pv.gcons3, Pv.gtup3, Pv.set3, Pv.asg3, Pv.par3, Pv.sub3, Pv.for3, Pv.is3, Pv.ir3, Pv.ir23, Pv.v3, Pv.c3, Pv.o3, Pv.un3, Pv.b3, Pv.and3, Pv.or3, Pv.not3, Pv.andV3, Pv.orV3, Pv.notV3, Pv.if3, Pv.nil3, Pv.cons3, Pv.tup3, Pv.lst3, Pv.call3, Pv.mt3, Pv.comp3, Pv.tt3, Pv.getI, List.set_cons_zero, List.set_cons_succ, Pv.int2, Pv.int20, Pv.subR, Pv.mulR, Pv.intR, Pv.sl3, Pv.np3, Pv.pt3, Pv.slR, Pv.modR, Pv.fdivR, Pv.powR, Pv.ltR, Pv.leR, Pv.gtR, Pv.geR, Pv.negR, Pv.addR, Pv.eqR_ii, Pv.eqR_ss, Pv.eqR_bb, Pv.eqR_is, Pv.neR_ii, Pv.neR_ss, Pv.neR_bb, Pv.inR, Pv.ixR, Pv.lenR, Pv.absR, Pv.tupR, Pv.sumR, Pv.tyN, Pv.isIn, Pv.isiR, Pv.appR, Pv.extR, Pv.smt3, Pv.joinR, Pv.splitR, Pv.startsR, Pv.pop3, Pv.lrev3, Pv.strR, Pv.start3, List.map_cons, List.map_nil, List.cons_append, List.nil_append, List.length_cons, List.length_nil, List.replicate, Pv.atI0, Pv.atI1, Pv.atI2, Nat.reduceAdd, Nat.reduceSub, Nat.zero_add, reduceIte, Pv.strs?, Bool.not_true, Bool.not_false, Bool.false_eq_true, if_false, if_true, decide_eq_true_eq, Bool.not_eq_true', decide_eq_false_iff_not, Pv.ixN0, Pv.ixN1, Pv.ixN2, true_and, and_true, Pv.cst0, Pv.cst1, Pv.cst2, Pv.cst3, Int.reduceEq, Option.bind_none, Option.bind_some, Pv.kn_go_jump, Pv.kn_go_turn, Pv.kn_go_times, Pv.kn_jump_go, Pv.kn_jump_turn, Pv.kn_jump_times, Pv.kn_turn_go, Pv.kn_turn_jump, Pv.kn_turn_times, Pv.kn_times_go, Pv.kn_times_jump, Pv.kn_times_turn, Pv.kp_go, Pv.kp_jump, Pv.kp_turn, Pv.kp_times, Pv.kz_go, Pv.kz_jump, Pv.kz_turn, Pv.kz_times, t_check_stroke, N_check_stroke, encS, k_WAYS]
    simp [inD, datM, dat, dats, PyData.eqv, PyData.depth, PyData.depthAll]
    exact q
  · dsimp only at e; subst e
    simp only [Pv.seq3, Pv.next3, Pv.never3, Pv.brk3, Pv.cnt3, Pv.drop3, Pv.ret3, Pv.retN3, Pv.ifs3, Pv.gn3, Pv.gnil3, Pv.gcons3, Pv.gtup3, Pv.set3, Pv.asg3, Pv.par3, Pv.sub3, Pv.for3, Pv.is3, Pv.ir3, Pv.ir23, Pv.v3, Pv.c3, Pv.o3, Pv.un3, Pv.b3, Pv.and3, Pv.or3, Pv.not3, Pv.andV3, Pv.orV3, Pv.notV3, Pv.if3, Pv.nil3, Pv.cons3, Pv.tup3, Pv.lst3, Pv.call3, Pv.mt3, Pv.comp3, Pv.tt3, Pv.getI, List.set_cons_zero, List.set_cons_succ, Pv.int2, Pv.int20, Pv.subR, Pv.mulR, Pv.intR, Pv.sl3, Pv.np3, Pv.pt3, Pv.slR, Pv.modR, Pv.fdivR, Pv.powR, Pv.ltR, Pv.leR, Pv.gtR, Pv.geR, Pv.negR, Pv.addR, Pv.eqR_ii, Pv.eqR_ss, Pv.eqR_bb, Pv.eqR_is, Pv.neR_ii, Pv.neR_ss, Pv.neR_bb, Pv.inR, Pv.ixR, Pv.lenR, Pv.absR, Pv.tupR, Pv.sumR, Pv.tyN, Pv.isIn, Pv.isiR, Pv.appR, Pv.extR, Pv.smt3, Pv.joinR, Pv.splitR, Pv.startsR, Pv.pop3, Pv.lrev3, Pv.strR, Pv.start3, List.map_cons, List.map_nil, List.cons_append, List.nil_append, List.length_cons, List.length_nil, List.replicate, Pv.atI0, Pv.atI1, Pv.atI2, Nat.reduceAdd, Nat.reduceSub, Nat.zero_add, reduceIte, Pv.strs?, Bool.not_true, Bool.not_false, Bool.false_eq_true, if_false, if_true, decide_eq_true_eq, Bool.not_eq_true', decide_eq_false_iff_not, Pv.ixN0, Pv.ixN1, Pv.ixN2, true_and, and_true, Pv.cst0, Pv.cst1, Pv.cst2, Pv.cst3, Int.reduceEq, Option.bind_none, Option.bind_some, Pv.kn_go_jump, Pv.kn_go_turn, Pv.kn_go_times, Pv.kn_jump_go, Pv.kn_jump_turn, Pv.kn_jump_times, Pv.kn_turn_go, Pv.kn_turn_jump, Pv.kn_turn_times, Pv.kn_times_go, Pv.kn_times_jump, Pv.kn_times_turn, Pv.kp_go, Pv.kp_jump, Pv.kp_turn, Pv.kp_times, Pv.kz_go, Pv.kz_jump, Pv.kz_turn, Pv.kz_times, t_check_stroke, N_check_stroke, encS, k_WAYS]
    simp [inD, datM, dat, dats, PyData.eqv, PyData.depth, PyData.depthAll]
    exact q
theorem eqv_st {p : Pen} : (PyData.tuple [.int p.1, .int p.2.1, .int p.2.2]).eqv (PyData.tuple [.int 0, .int 0, .int 0]) = decide (p = st) := by
  obtain ⟨x, y, w⟩ := p
  rw [Bool.eq_iff_iff]
  simp [PyData.eqv, PyData.eqvAll, st, Prod.mk.injEq]
theorem rd_doings_to_ask (ds : List D) (μ : Mu) (Q : VK3) (h : spAsk ds μ Q) : t_doings_to_ask spBfr spLed (spSpan 2) { nx := fun _ μ' => Q .non μ', rt := Q } (start3 N_doings_to_ask ds) μ := by
  obtain ⟨n, part, pen, box, p, s, left, rfl, h1, h2, hb, hm, q⟩ := h
  cases box with
  | none => exact And.intro (show 2 ≤ sizeLine by decide) q
  | some b =>
    unfold ask at q
    rw [if_neg (by intro h; cases h)] at q
    show eqR (.tup [.int part.1, .int part.2.1, .int part.2.2]) (.tup [.int 0, .int 0, .int 0]) μ (fun d μ1 => _)
    rw [eqR_start, eqv_st]
    by_cases h3 : part = st
    · rw [if_pos h3] at q
      rw [if_pos (decide_eq_true h3)]
      exact And.intro (show 2 ≤ sizeLine by decide) q
    · rw [if_neg h3] at q
      rw [if_neg (by rw [decide_eq_false h3]; decide)]
      show t_doings_to_ask_r2 spBfr spLed (spSpan 2) _ [some (.int n), some (encP part), some (encP pen), some (encB (some b)), some (.ref p), none, none, none, none] μ
      simp only [Pv.seq3, Pv.next3, Pv.never3, Pv.brk3, Pv.cnt3, Pv.drop3, Pv.ret3, Pv.retN3, Pv.ifs3, Pv.gn3, Pv.gnil3, Pv.gcons3, Pv.gtup3, Pv.set3, Pv.asg3, Pv.par3, Pv.sub3, Pv.for3, Pv.is3, Pv.ir3, Pv.ir23, Pv.v3, Pv.c3, Pv.o3, Pv.un3, Pv.b3, Pv.and3, Pv.or3, Pv.not3, Pv.andV3, Pv.orV3, Pv.notV3, Pv.if3, Pv.nil3, Pv.cons3, Pv.tup3, Pv.lst3, Pv.call3, Pv.mt3, Pv.comp3, Pv.tt3, Pv.getI, List.set_cons_zero, List.set_cons_succ, Pv.int2, Pv.int20, Pv.subR, Pv.mulR, Pv.intR, Pv.sl3, Pv.np3, Pv.pt3, Pv.slR, Pv.modR, Pv.fdivR, Pv.powR, Pv.ltR, Pv.leR, Pv.gtR, Pv.geR, Pv.negR, Pv.addR, Pv.eqR_ii, Pv.eqR_ss, Pv.eqR_bb, Pv.eqR_is, Pv.neR_ii, Pv.neR_ss, Pv.neR_bb, Pv.inR, Pv.ixR, Pv.lenR, Pv.absR, Pv.tupR, Pv.sumR, Pv.tyN, Pv.isIn, Pv.isiR, Pv.appR, Pv.extR, Pv.smt3, Pv.joinR, Pv.splitR, Pv.startsR, Pv.pop3, Pv.lrev3, Pv.strR, Pv.start3, List.map_cons, List.map_nil, List.cons_append, List.nil_append, List.length_cons, List.length_nil, List.replicate, Pv.atI0, Pv.atI1, Pv.atI2, Nat.reduceAdd, Nat.reduceSub, Nat.zero_add, reduceIte, Pv.strs?, Bool.not_true, Bool.not_false, Bool.false_eq_true, if_false, if_true, decide_eq_true_eq, Bool.not_eq_true', decide_eq_false_iff_not, Pv.ixN0, Pv.ixN1, Pv.ixN2, true_and, and_true, Pv.cst0, Pv.cst1, Pv.cst2, Pv.cst3, Int.reduceEq, Option.bind_none, Option.bind_some, Pv.kn_go_jump, Pv.kn_go_turn, Pv.kn_go_times, Pv.kn_jump_go, Pv.kn_jump_turn, Pv.kn_jump_times, Pv.kn_turn_go, Pv.kn_turn_jump, Pv.kn_turn_times, Pv.kn_times_go, Pv.kn_times_jump, Pv.kn_times_turn, Pv.kp_go, Pv.kp_jump, Pv.kp_turn, Pv.kp_times, Pv.kz_go, Pv.kz_jump, Pv.kz_turn, Pv.kz_times, t_doings_to_ask_r2, encP]
      by_cases h4 : part.2.2 = 0
      · rw [if_neg (by simp [h4])] at q
        rw [if_neg (by simp [h4])]
        obtain ⟨f, e1⟩ : ∃ f, bfr pen (some b) = some f := ⟨_, rfl⟩
        obtain ⟨g, e2⟩ : ∃ g, bfr (led pen part) (some b) = some g := ⟨_, rfl⟩
        have sx := bfr_shift h2 h4 hb e1 e2
        rw [e1, e2] at q
        refine ⟨pen, some b, rfl, h2, pen, part, rfl, h2, led pen part, some b, rfl, hd_led _ _, ?_⟩
        rw [e1, e2]
        show t_doings_to_ask_r5 spBfr spLed (spSpan 2) _ [some (.int n), some (encP part), some (encP pen), some (encB (some b)), some (.ref p), some (encB (some f)), some (encB (some g)), none, none] μ
        conv => whnf
        rw [hm]
        refine ⟨rfl, ?_⟩
        conv => whnf
        rw [hm]
        refine ⟨rfl, n, f.1, f.2.2.1, g.1 - f.1, s.1, gx s, rfl, by split <;> decide, sx.1, ?_⟩
        conv => whnf
        rw [hm]
        refine ⟨rfl, ?_⟩
        conv => whnf
        rw [hm]
        refine ⟨rfl, n, f.2.1, f.2.2.2, g.2.1 - f.2.1, s.2.1, gy s, rfl, by split <;> decide, sx.2, ?_⟩
        exact And.intro (show 2 ≤ sizeLine by decide) q
      · rw [if_pos h4] at q; rw [if_pos h4]; exact ⟨by decide, q⟩
/-! how often: what is counted, and at how many doings it is looked -/
noncomputable def lk (n : Int) (part : Pen) (i : Int) : Int := if part = st then n else if part.2.2 = 0 then 1 else (n - i + 3) / 4
noncomputable def rngI (a : Int × Int) : List Int := (List.range (a.2 - a.1).toNat).map fun i => a.1 + (i : Nat)
theorem rngI_D (a : Int × Int) : rngD a.1 (a.2 - a.1).toNat = (rngI a).map D.int := by simp [rngD, rngI]
mutual
inductive OW : List Dd → Pen → Stk → Int → Nat → Prop where
  | nil {pen : Pen} {s : Stk} : OW [] pen s 0 0
  | cons {d : Dd} {r : List Dd} {pen : Pen} {s : Stk} {c c' : Int} {k k' : Nat} : OD d pen s c k → OW r (led pen (pd d)) s c' k' → OW (d :: r) pen s (c + c') (k + k')
inductive OD : Dd → Pen → Stk → Int → Nat → Prop where
  | one {d : Dd} {pen : Pen} {s : Stk} : dep d = 0 → OD d pen s (if inb s (bfr pen (bxd d)) = true then 1 else 0) 0
  | times {n : Int} {w : List Dd} {pen : Pen} {s : Stk} {c : Int} {k : Nat} : bdd (pb w) → OL (rngI (ask n (pb w) pen (bxa w none st) s)) n w pen s c k → OD (.times n w) pen s c k
inductive OL : List Int → Int → List Dd → Pen → Stk → Int → Nat → Prop where
  | nil {n : Int} {w : List Dd} {pen : Pen} {s : Stk} : OL [] n w pen s 0 0
  | out {i n : Int} {l : List Int} {w : List Dd} {pen : Pen} {s : Stk} {c : Int} {k : Nat} : inb s (bfr (led pen (rep (pb w) i)) (bxa w none st)) = false → 0 ≤ i → i ≤ G → OL l n w pen s c k → OL (i :: l) n w pen s c k
  | inn {i n : Int} {l : List Int} {w : List Dd} {pen : Pen} {s : Stk} {c c1 : Int} {k k1 : Nat} : inb s (bfr (led pen (rep (pb w) i)) (bxa w none st)) = true → 0 ≤ i → i ≤ G → OW w (led pen (rep (pb w) i)) s c1 k1 → -(2 ^ 64) < c1 → c1 < 2 ^ 64 → OL l n w pen s c k → OL (i :: l) n w pen s (lk n (pb w) i * c1 + c) (1 + k1 + k)
end
noncomputable def spOt (j : Nat) : Sp3 := fun ds μ Q => ∃ n w pen p s left c k, ds = [.int n, .tup (encs w), encP pen, .ref p] ∧ deps w + 1 < j ∧ deps w ≤ 3 ∧ cnts w ≤ 60 ∧ oks w ∧ 0 ≤ n ∧ n ≤ G ∧ Hd pen ∧ bdd (pb w) ∧ μ p = some (eLook s left) ∧ OL (rngI (ask n (pb w) pen (bxa w none st) s)) n w pen s c k ∧ (k : Int) ≤ left ∧ ∀ μ', ExtB p μ μ' → μ' p = some (eLook s (left - k)) → Q (.int c) μ'
noncomputable def spOd (j : Nat) : Sp3 := fun ds μ Q => ∃ d pen p s left c k, ds = [enc d, encP pen, .ref p] ∧ dep d < j ∧ dep d ≤ 4 ∧ cnt d ≤ 60 ∧ okd d ∧ Hd pen ∧ μ p = some (eLook s left) ∧ OD d pen s c k ∧ (k : Int) ≤ left ∧ ∀ μ', ExtB p μ μ' → μ' p = some (eLook s (left - k)) → Q (.int c) μ'
noncomputable def spOw (j : Nat) : Sp3 := fun ds μ Q => ∃ w pen p s left c k, ds = [.tup (encs w), encP pen, .ref p] ∧ deps w < j ∧ deps w ≤ 4 ∧ cnts w ≤ 60 ∧ oks w ∧ Hd pen ∧ μ p = some (eLook s left) ∧ OW w pen s c k ∧ (k : Int) ≤ left ∧ ∀ μ', ExtB p μ μ' → μ' p = some (eLook s (left - k)) → Q (.int c) μ'
theorem rd_often_in_deed (j : Nat) (ds : List D) (μ : Mu) (Q : VK3) (h : spOd j ds μ Q) : t_often_in_deed spIsw spBfr (spDb 5) (spOt j) { nx := fun _ μ' => Q .non μ', rt := Q } (start3 N_often_in_deed ds) μ := by
  obtain ⟨d, pen, p, s, left, c, k, rfl, h1, h2, h3, h4, hp, hm, ho, hk, q⟩ := h
  cases ho with
  | times hb ol =>
    rename_i n w
    simp only [okd, dep, cnt] at h1 h2 h3 h4
    exact ⟨n, w, pen, p, s, left, c, k, rfl, by omega, by omega, by omega, h4.2, h4.1.1, h4.1.2, hp, hb, hm, ol, hk, q⟩
  | one hd =>
    have fin : ∀ μ1, Ext μ μ1 → (if inb s (bfr pen (bxd d)) = true then Q (.int 1) μ1 else Q (.int 0) μ1) := fun μ1 e1 => by
      have q1 := q μ1 (e1.b p) (by rw [e1 _ _ hm]; simp)
      split
      · next hi => rw [if_pos hi] at q1; exact q1
      · next hi => rw [if_neg hi] at q1; exact q1
    have db : spDb 5 [enc d] μ (fun v μ1 => ∃ b, v = encB b ∧ b = bxd d ∧ Ext μ μ1) := ⟨d, rfl, by omega, by omega, h3, h4, fun μ1 e1 => ⟨_, rfl, rfl, e1⟩⟩
    cases d with
    | times n w => simp only [dep] at hd; omega
    | _ =>
      conv => whnf
      rw [hm]
      refine ⟨⟨rfl, rfl⟩, _, rfl, by omega, by omega, h3, h4, fun μ1 e1 => ⟨pen, _, rfl, hp, p, s, left, _, rfl, e1 _ _ hm, ?_⟩⟩
      exact fin μ1 e1
noncomputable def WOw (w : List Dd) (pen : Pen) (p : Addr) (s : Stk) (left c : Int) (k : Nat) (μ : Mu) : List D → St3 → Mu → Prop := fun l ρ μ' => ∃ (r : List Dd) (pen' : Pen) (c0 c1 : Int) (k0 k1 : Nat) (dd : Option D), l = encs r ∧ ρ = [some (.tup (encs w)), some (encP pen), some (.ref p), some (.int c0), some (encP pen'), dd] ∧ oks r ∧ deps r ≤ deps w ∧ cnts r ≤ cnts w ∧ Hd pen' ∧ ExtB p μ μ' ∧ μ' p = some (eLook s (left - k0)) ∧ OW r pen' s c1 k1 ∧ c0 + c1 = c ∧ k0 + k1 = k
theorem rd_often_in_word (j : Nat) (ds : List D) (μ : Mu) (Q : VK3) (h : spOw j ds μ Q) : t_often_in_word spLed (spOd j) (spPd 5) { nx := fun _ μ' => Q .non μ', rt := Q } (start3 N_often_in_word ds) μ := by
  obtain ⟨w, pen, p, s, left, c, k, rfl, h1, h2, h3, h4, hp, hm, ho, hk, q⟩ := h
  refine for_inv (WOw w pen p s left c k μ) ?_ (fun _ _ _ _ => trivial) ?_ ?_
  · exact ⟨w, pen, 0, c, 0, k, none, rfl, rfl, h4, Nat.le_refl _, Nat.le_refl _, hp, ExtB.refl _ _, by rw [hm]; simp, ho, by omega, by omega⟩
  · rintro ρ μ' ⟨r, pen', c0, c1, k0, k1, dd, e, rfl, _, _, _, _, ex, hm', o1, e1, e2⟩
    cases r with
    | cons _ _ => simp [encs] at e
    | nil =>
      cases o1
      have e3 : c0 = c := by omega
      have e4 : k0 = k := by omega
      subst e3 e4
      exact q μ' ex hm'
  · rintro x rest ρ μ' ⟨r, pen', c0, c1, k0, k1, dd, e, rfl, ok, dp, cn, hp', ex, hm', o1, e1, e2⟩
    cases r with
    | nil => simp [encs] at e
    | cons d r =>
      simp only [encs, List.cons.injEq] at e
      obtain ⟨rfl, rfl⟩ := e
      simp only [oks, deps, cnts] at ok dp cn
      cases o1 with
      | cons od ow =>
        rename_i ca cb ka kb
        refine ⟨d, pen', p, s, left - k0, ca, ka, rfl, by omega, by omega, by omega, ok.1, hp', hm', od, by omega, fun μ1 x1 x2 => ?_⟩
        refine ⟨d, rfl, by omega, by omega, by omega, ok.1, pen', pd d, rfl, hp', ?_⟩
        refine ⟨r, led pen' (pd d), c0 + ca, cb, k0 + ka, kb, _, rfl, rfl, ok.2, by omega, by omega, hd_led _ _, ex.trans x1, ?_, ow, by omega, by omega⟩
        rw [x2]
        congr 2
        omega
noncomputable def WOt (n : Int) (w : List Dd) (pen : Pen) (p : Addr) (s : Stk) (left c : Int) (k : Nat) (μ : Mu) : List D → St3 → Mu → Prop := fun l ρ μ' => ∃ (is : List Int) (c0 c1 : Int) (k0 k1 : Nat) (dd ss : Option D), l = is.map D.int ∧ ρ = [some (.int n), some (.tup (encs w)), some (encP pen), some (.ref p), some (encP (pb w)), some (encB (bxa w none st)), some (.int c0), some (encI (ask n (pb w) pen (bxa w none st) s)), dd, ss] ∧ ExtB p μ μ' ∧ μ' p = some (eLook s (left - k0)) ∧ OL is n w pen s c1 k1 ∧ c0 + c1 = c ∧ k0 + k1 = k
theorem rd_often_in_times (j : Nat) (ds : List D) (μ : Mu) (Q : VK3) (h : spOt (j + 1) ds μ Q) : t_often_in_times spCd spIsw spBfr spLike spAsk spLed (spOw j) (spPb 5) spRep (spWb 5) { nx := fun _ μ' => Q .non μ', rt := Q } (start3 N_often_in_times ds) μ := by
  obtain ⟨n, w, pen, p, s, left, c, k, rfl, h1, h2, h3, h4, n0, n1, hp, hb, hm, ho, hk, q⟩ := h
  obtain ⟨b1, b2⟩ := pm_big (pm_pb w h4) (by omega) (by omega)
  refine ⟨w, rfl, by omega, by omega, by omega, h4, w, rfl, by omega, by omega, by omega, h4, fun μ1 e1 => ⟨n, pb w, pen, bxa w none st, p, s, left, rfl, hd_pb w, hp, hb, e1 _ _ hm, ?_⟩⟩
  refine for_inv (WOt n w pen p s left c k μ) ?_ (fun _ _ _ _ => trivial) ?_ ?_
  · exact ⟨_, 0, c, 0, k, none, none, rngI_D _, rfl, e1.b p, by rw [e1 _ _ hm]; simp, ho, by omega, by omega⟩
  · rintro ρ μ' ⟨is, c0, c1, k0, k1, dd, ss, e, rfl, ex, hm', o1, e1, e2⟩
    cases is with
    | cons _ _ => simp at e
    | nil =>
      cases o1
      have e3 : c0 = c := by omega
      have e4 : k0 = k := by omega
      subst e3 e4
      exact q μ' ex hm'
  · rintro x rest ρ μ' ⟨is, c0, c1, k0, k1, dd, ss, e, rfl, ex, hm', o1, e1, e2⟩
    cases is with
    | nil => simp at e
    | cons i is =>
      simp only [List.map_cons, List.cons.injEq] at e
      obtain ⟨rfl, rfl⟩ := e
      cases o1 with
      | out hi i0 i1 ol =>
        refine ⟨pb w, i, rfl, hd_pb w, i0, i1, b1, b2, pen, rep (pb w) i, rfl, hp, ?_⟩
        conv => whnf
        rw [hm']
        refine ⟨⟨rfl, rfl⟩, led pen (rep (pb w) i), bxa w none st, rfl, hd_led _ _, p, s, left - k0, _, rfl, hm', ?_⟩
        rw [hi]
        exact ⟨is, c0, c1, k0, k1, _, _, rfl, rfl, ex, hm', ol, e1, e2⟩
      | inn hi i0 i1 ow l1 l2 ol =>
        rename_i cb ca kb ka
        refine ⟨pb w, i, rfl, hd_pb w, i0, i1, b1, b2, pen, rep (pb w) i, rfl, hp, ?_⟩
        conv => whnf
        rw [hm']
        refine ⟨⟨rfl, rfl⟩, led pen (rep (pb w) i), bxa w none st, rfl, hd_led _ _, p, s, left - k0, _, rfl, hm', ?_⟩
        rw [hi]
        conv => whnf
        rw [hm']
        refine ⟨⟨rfl, rfl⟩, p, s, left - k0, rfl, hm', by omega, ?_⟩
        refine ⟨i, n, pb w, rfl, w, led pen (rep (pb w) i), p, s, left - k0 - 1, ca, ka, rfl, by omega, by omega, by omega, h4, hd_led _ _, updM_same, ow, by omega, fun μ2 x1 x2 => ?_⟩
        refine ⟨.inl (.inr ⟨l1, l2⟩), is, c0 + lk n (pb w) i * ca, cb, k0 + (1 + ka), kb, _, _, rfl, rfl, (ex.trans ExtB.upd).trans x1, ?_, ol, by omega, by omega⟩
        rw [x2]
        congr 2
        omega
noncomputable def spDo : Sp3 := fun ds μ Q => ∃ w s c k, ds = [.tup (encs w), encS s] ∧ Wd w ∧ wy s ∧ OW w st s c k ∧ k ≤ 1000 ∧ ∀ μ', Ext μ μ' → Q (.int c) μ'
theorem rd_drawn_often (ds : List D) (μ : Mu) (Q : VK3) (h : spDo ds μ Q) : t_drawn_often spInit spChkS spChk (spOw 5) { nx := fun _ μ' => Q .non μ', rt := Q } (start3 N_drawn_often ds) μ := by
  obtain ⟨w, s, c, k, rfl, hw, hs, ho, hk, q⟩ := h
  obtain ⟨w1, w2, w3⟩ := hw
  refine ⟨w, rfl, ⟨w1, w2, w3⟩, s, rfl, hs, fun p hp => ⟨p, s, rfl, hs, updM_same, rfl, w, st, p, s, 1000, c, k, rfl, by omega, by omega, by omega, w1, hd_st, updM_same, ho, by omega, fun μ' x1 x2 => q μ' fun a o ha => ?_⟩⟩
  have hap : a ≠ p := ne_free ha hp
  exact x1 a o hap (by rw [updM_ne hap, updM_ne hap]; exact ha)
/-! the three words of the law -/
noncomputable def rowW (wide : Int) : Dd := .times wide [.go 1]
noncomputable def upW (wide step : Int) : List Dd := [rowW wide, .jump (0 - wide), .turn 1, .jump step, .turn (-1)]
noncomputable def ovW (wide : Int) : List Dd := [rowW wide, .jump (0 - wide)]
noncomputable def rgW (side : Int) : List Dd := [.go side, .turn 1]
theorem pb_go1 : pb [.go 1] = (1, 0, 0) := by decide
theorem bx_go1 : bxa [.go 1] none st = some (0, 0, 1, 0) := by decide
theorem rep_z {a b : Int} {n : Int} : rep (a, b, 0) n = (a * n, b * n, 0) := by unfold rep; rw [if_pos rfl]
theorem bfr_z {x y a b c d : Int} (h1 : a ≤ c) (h2 : b ≤ d) : bfr (x, y, 0) (some (a, b, c, d)) = some (x + a, y + b, x + c, y + d) := by
  simp only [bfr, led, cs, sn, mn, mx]
  simp
  refine ⟨?_, ?_, ?_, ?_⟩ <;> omega
theorem outer_z {a b n : Int} : outer (a, b, 0) n = [0, n - 1] := by unfold outer; rw [if_pos rfl]
theorem bx_row {wide : Int} (h : 0 < wide) : bxd (rowW wide) = some (0, 0, wide, 0) := by
  unfold rowW
  simp only [bxd]
  rw [if_neg (by omega), pb_go1, bx_go1, outer_z]
  simp only [brs, List.foldl, bor, rep_z]
  rw [bfr_z (by omega) (by omega), bfr_z (by omega) (by omega)]
  simp only [bor, mn, mx]
  congr 1
  refine Prod.ext ?_ (Prod.ext ?_ (Prod.ext ?_ ?_)) <;> simp <;> omega
theorem pd_row {wide : Int} : pd (rowW wide) = (wide, 0, 0) := by
  unfold rowW
  simp only [pd]
  rw [pb_go1, rep_z]
  simp
theorem led_z {x y a b k : Int} (h : 0 ≤ k ∧ k < 4) : led (x, y, 0) (a, b, k) = (x + a, y + b, k) := by
  simp only [led, cs, sn]
  simp
  omega
theorem pb_up {wide step : Int} : pb (upW wide step) = (0, step, 0) := by
  simp only [upW, pb, pd_row]
  simp [pd, led, cs, sn, st]
  omega
theorem pb_ov {wide : Int} : pb (ovW wide) = st := by
  simp only [ovW, pb, pd_row]
  simp [pd, led, cs, sn, st]
  omega
theorem pb_rg {side : Int} : pb (rgW side) = (side, 0, 1) := by
  simp [rgW, pb, pd, led, cs, sn, st]
theorem bfr_none {p : Pen} : bfr p none = none := rfl
theorem bor_none {o : Option Bx} : bor o none = o := by cases o <;> rfl
theorem none_bor {o : Option Bx} : bor none o = o := by cases o <;> rfl
theorem bx_rowAt {wide : Int} (h : 0 < wide) : bor none (bfr st (bxd (rowW wide))) = some (0, 0, wide, 0) := by
  rw [bx_row h, none_bor]
  unfold st
  rw [bfr_z (by omega) (by omega)]
  simp
theorem bx_up {wide step : Int} (h : 0 < wide) : bxa (upW wide step) none st = some (0, 0, wide, 0) := by
  simp only [upW, bxa]
  rw [bx_rowAt h]
  simp only [bxd, bfr_none, bor_none]
theorem bx_ov {wide : Int} (h : 0 < wide) : bxa (ovW wide) none st = some (0, 0, wide, 0) := by
  simp only [ovW, bxa]
  rw [bx_rowAt h]
  simp only [bxd, bfr_none, bor_none]
theorem bx_rg {side : Int} (h : 0 < side) : bxa (rgW side) none st = some (0, 0, side, 0) := by
  simp only [rgW, bxa, bxd]
  rw [if_neg (by omega)]
  show bor (bor none (bfr (0, 0, 0) _)) _ = _
  rw [bfr_z (by omega) (by omega), bfr_none, bor_none]
  simp [bor]
theorem box_deeds {wide high step : Int} (hw : 0 < wide) (hh : 0 < high) (hs : 0 < step) : bxa [.times high (upW wide step)] none st = some (0, 0, wide, (high - 1) * step) := by
  simp only [bxa, bxd]
  rw [if_neg (by omega), pb_up, bx_up hw, outer_z]
  simp only [brs, List.foldl, rep_z]
  rw [bfr_z (by omega) (by omega), bfr_z (by omega) (by omega)]
  have e : 0 ≤ step * (high - 1) := Int.mul_nonneg (by omega) (by omega)
  have e2 : (high - 1) * step = step * (high - 1) := Int.mul_comm _ _
  rw [e2]
  generalize step * (high - 1) = t at e
  simp only [bor, mn, mx]
  show bfr (0, 0, 0) _ = _
  rw [bfr_z (by simp; omega) (by simp; omega)]
  congr 1
  refine Prod.ext ?_ (Prod.ext ?_ (Prod.ext ?_ ?_)) <;> simp <;> omega
theorem box_over {wide high : Int} (hw : 0 < wide) (hh : 0 < high) : bxa [.times high (ovW wide)] none st = some (0, 0, wide, 0) := by
  simp only [bxa, bxd]
  rw [if_neg (by omega), pb_ov, bx_ov hw]
  unfold st
  rw [outer_z]
  simp only [brs, List.foldl, rep_z]
  rw [bfr_z (by omega) (by omega), bfr_z (by omega) (by omega)]
  simp only [bor, mn, mx]
  rw [bfr_z (by simp; omega) (by simp)]
  congr 1
  refine Prod.ext ?_ (Prod.ext ?_ (Prod.ext ?_ ?_)) <;> simp <;> omega
theorem rngI_nil {a : Int × Int} (h : a.2 ≤ a.1) : rngI a = [] := by
  unfold rngI
  rw [show (a.2 - a.1).toNat = 0 by omega]
  rfl
theorem rngI_one {x : Int} : rngI (x, x + 1) = [x] := by
  unfold rngI
  rw [show ((x, x + 1).2 - (x, x + 1).1).toNat = 1 by simp; omega]
  simp [List.range_succ]
/-- no stroke: a jump, a turn -/
theorem OD_no {d : Dd} {pen : Pen} {s : Stk} (h : dep d = 0) (hb : bxd d = none) : OD d pen s 0 0 := by
  have z := OD.one (pen := pen) (s := s) h
  rw [hb, bfr_none] at z
  exact z
theorem inb_some {s : Stk} {b : Bx} : inb s (some b) = decide (b.1 ≤ s.1 ∧ b.2.1 ≤ s.2.1 ∧ gx s ≤ b.2.2.1 ∧ gy s ≤ b.2.2.2) := by
  unfold inb
  simp only [Bool.decide_and]
theorem bdd_of {x y k : Int} (h : (-(2 ^ 80) < x ∧ x < 2 ^ 80) ∧ -(2 ^ 80) < y ∧ y < 2 ^ 80) : bdd (x, y, k) := h
theorem ask_row {wide l at' : Int} (h0 : 0 ≤ at') (h1 : at' < wide) : ask wide (1, 0, 0) (0, l, 0) (some (0, 0, 1, 0)) (at', l, 0) = (at', at' + 1) := by
  unfold ask
  rw [if_neg (by intro h; cases h), if_neg (by intro h; cases h), if_neg (by simp), led_z (by omega), bfr_z (by omega) (by omega), bfr_z (by omega) (by omega)]
  simp only [spn, spn0, gx, gy, hi1, lo1]
  simp
  constructor <;> (repeat' split) <;> omega
theorem OD_row {wide l at' : Int} (h0 : 0 ≤ at') (h1 : at' < wide) (hG : wide ≤ G) : OD (rowW wide) (0, l, 0) (at', l, 0) 1 1 := by
  unfold rowW
  have hb : bdd (pb [.go 1]) := by rw [pb_go1]; exact bdd_of (by decide)
  refine OD.times hb ?_
  rw [pb_go1, bx_go1, ask_row h0 h1, rngI_one]
  have e1 : led (0, l, 0) (rep (pb [Dd.go 1]) at') = (at', l, 0) := by rw [pb_go1, rep_z, led_z (by omega)]; simp
  have e2 : inb (at', l, 0) (bfr (at', l, 0) (some (0, 0, 1, 0))) = true := by
    rw [bfr_z (by omega) (by omega), inb_some]
    simp [gx, gy]
  have o1 : OW [.go 1] (at', l, 0) (at', l, 0) 1 0 := by
    have z := OW.cons (OD.one (d := .go 1) (pen := (at', l, 0)) (s := (at', l, 0)) rfl) OW.nil
    rw [show bxd (.go 1) = some (0, 0, 1, 0) by decide, if_pos e2] at z
    exact z
  have z := OL.inn (n := wide) (w := [.go 1]) (pen := (0, l, 0)) (s := (at', l, 0)) (i := at') (by rw [e1, bx_go1]; exact e2) h0 (by omega) (by rw [e1]; exact o1) (by decide) (by decide) OL.nil
  rw [pb_go1] at z
  have e3 : lk wide (1, 0, 0) at' = 1 := by unfold lk; rw [if_neg (by intro h; cases h), if_pos rfl]
  rw [e3] at z
  exact z
theorem OW_up {wide step l at' : Int} (h0 : 0 ≤ at') (h1 : at' < wide) (hG : wide ≤ G) : OW (upW wide step) (0, l, 0) (at', l, 0) 1 1 :=
  OW.cons (OD_row h0 h1 hG) (OW.cons (OD_no rfl rfl) (OW.cons (OD_no rfl rfl) (OW.cons (OD_no rfl rfl) (OW.cons (OD_no rfl rfl) OW.nil))))
theorem OW_ov {wide l at' : Int} (h0 : 0 ≤ at') (h1 : at' < wide) (hG : wide ≤ G) : OW (ovW wide) (0, l, 0) (at', l, 0) 1 1 :=
  OW.cons (OD_row h0 h1 hG) (OW.cons (OD_no rfl rfl) OW.nil)
theorem ask_up {wide high step : Int} {s : Stk} (hw : 0 < wide) (hs : 0 < step) : ask high (0, step, 0) st (some (0, 0, wide, 0)) s =
    (hi1 (if 0 ≤ s.1 ∧ gx s ≤ wide then ((0, high) : Int × Int) else (0, 0)).1 (if -((0 - gy s) / step) > 0 then -((0 - gy s) / step) else 0), lo1 (if 0 ≤ s.1 ∧ gx s ≤ wide then ((0, high) : Int × Int) else (0, 0)).2 (if s.2.1 / step + 1 < high then s.2.1 / step + 1 else high)) := by
  unfold ask
  have e0 : ((0, step, 0) : Pen) ≠ st := by intro h; injection h with h1 h2; injection h2 with h3 h4; omega
  have e1 : led st (0, step, 0) = (0, step, 0) := by unfold st; rw [led_z (by omega)]; simp
  rw [if_neg (by intro h; cases h), if_neg e0, if_neg (by simp), e1]
  unfold st
  rw [bfr_z (by omega) (by omega), bfr_z (by omega) (by omega)]
  have e2 : ¬ step < 0 := by omega
  have e3 : ¬ step = 0 := by omega
  simp [spn, spn0, e2, e3]
theorem bdd_up {wide step : Int} (hs : 0 < step) (h5 : step ≤ 5) : bdd (pb (upW wide step)) := by
  rw [pb_up]; exact bdd_of ⟨by decide, by omega, by omega⟩
theorem fl_up {step level : Int} (hs : 0 < step) : (level * step) / step = level := Int.mul_ediv_cancel _ (by omega)
theorem fl_dn {step level : Int} (hs : 0 < step) : -((0 - level * step) / step) = level := by
  rw [show 0 - level * step = (-level) * step by rw [Int.neg_mul]; omega, fl_up hs]; omega
theorem fl_dn1 {step level : Int} (hs : 0 < step) : -((0 - (level * step + 1)) / step) = level + 1 := by
  have e : 0 - (level * step + 1) = (step - 1) + (-(level + 1)) * step := by rw [Int.neg_mul, Int.add_mul, Int.one_mul]; omega
  rw [e, Int.add_mul_ediv_right _ _ (by omega), Int.ediv_eq_zero_of_lt (by omega) (by omega)]
  omega
theorem hi1_ge (a b : Int) : a ≤ hi1 a b ∧ b ≤ hi1 a b := by unfold hi1; split <;> omega
theorem lo1_le (a b : Int) : lo1 a b ≤ a ∧ lo1 a b ≤ b := by unfold lo1; split <;> omega
/-- how often the rows have a stroke -/
theorem OW_deeds {wide high step level at' : Int} (hw : 0 < wide) (hG : wide ≤ G) (hh : high ≤ G) (hs : 0 < step) (h5 : step ≤ 5) :
    ∃ k : Nat, k ≤ 2 ∧ OW [.times high (upW wide step)] st (at', level * step, 0) (if 0 ≤ at' ∧ at' < wide ∧ 0 ≤ level ∧ level < high then 1 else 0) k := by
  have hb := bdd_up (wide := wide) hs h5
  have ea := ask_up (wide := wide) (high := high) (step := step) (s := (at', level * step, 0)) hw hs
  have g1 : gx (at', level * step, 0) = at' + 1 := by simp [gx]
  have g2 : gy (at', level * step, 0) = level * step := by simp [gy]
  rw [g1, g2, fl_dn hs] at ea
  dsimp only at ea
  rw [fl_up hs] at ea
  by_cases h : 0 ≤ at' ∧ at' < wide ∧ 0 ≤ level ∧ level < high
  · rw [if_pos h]
    obtain ⟨a0, a1, l0, l1⟩ := h
    refine ⟨2, Nat.le_refl _, ?_⟩
    rw [if_pos ⟨a0, by omega⟩] at ea
    have ea2 : ask high (0, step, 0) st (some (0, 0, wide, 0)) (at', level * step, 0) = (level, level + 1) := by
      rw [ea]
      simp only [hi1, lo1]
      refine Prod.ext ?_ ?_ <;> dsimp only <;> (repeat' split) <;> omega
    refine OW.cons (c := 1) (c' := 0) (k := 2) (k' := 0) (OD.times hb ?_) OW.nil
    rw [pb_up, bx_up hw, ea2, rngI_one]
    have e1 : led st (rep (pb (upW wide step)) level) = (0, level * step, 0) := by unfold st; rw [pb_up, rep_z, led_z (by omega), Int.mul_comm step]; simp
    have e2 : inb (at', level * step, 0) (bfr (0, level * step, 0) (some (0, 0, wide, 0))) = true := by
      rw [bfr_z (by omega) (by omega), inb_some]
      simp [gx, gy]
      omega
    have z := OL.inn (n := high) (w := upW wide step) (pen := st) (s := (at', level * step, 0)) (i := level) (by rw [e1, bx_up hw]; exact e2) l0 (by omega) (by rw [e1]; exact OW_up a0 a1 hG) (by decide) (by decide) OL.nil
    have e3 : lk high (pb (upW wide step)) level = 1 := by rw [pb_up]; unfold lk; rw [if_neg (by intro h; injection h with h1 h2; injection h2 with h3 h4; omega), if_pos rfl]
    rw [e3] at z
    exact z
  · rw [if_neg h]
    refine ⟨0, by omega, ?_⟩
    refine OW.cons (c := 0) (c' := 0) (k := 0) (k' := 0) (OD.times hb ?_) OW.nil
    rw [pb_up, bx_up hw, rngI_nil]
    · exact OL.nil
    · rw [ea]
      simp only [hi1, lo1]
      (repeat' split) <;> omega
theorem OW_deeds1 {wide high step level at' : Int} (hw : 0 < wide) (hs : 0 < step) (h5 : step ≤ 5) : OW [.times high (upW wide step)] st (at', level * step, 1) 0 0 := by
  have hb := bdd_up (wide := wide) hs h5
  have ea := ask_up (wide := wide) (high := high) (step := step) (s := (at', level * step, 1)) hw hs
  have g2 : gy (at', level * step, 1) = level * step + 1 := by simp [gy]
  rw [g2, fl_dn1 hs] at ea
  dsimp only at ea
  rw [fl_up hs] at ea
  refine OW.cons (c := 0) (c' := 0) (k := 0) (k' := 0) (OD.times hb ?_) OW.nil
  rw [pb_up, bx_up hw, rngI_nil]
  · exact OL.nil
  · rw [ea]
    have z1 := hi1_ge (if 0 ≤ at' ∧ gx (at', level * step, 1) ≤ wide then ((0, high) : Int × Int) else (0, 0)).1 (if level + 1 > 0 then level + 1 else 0)
    have z2 := lo1_le (if 0 ≤ at' ∧ gx (at', level * step, 1) ≤ wide then ((0, high) : Int × Int) else (0, 0)).2 (if level + 1 < high then level + 1 else high)
    have z3 : (if level + 1 < high then level + 1 else high) ≤ level + 1 := by split <;> omega
    have z4 : level + 1 ≤ (if level + 1 > 0 then level + 1 else 0) := by split <;> omega
    dsimp only
    omega
theorem OW_over {wide high at' : Int} (hw : 0 < wide) (hG : wide ≤ G) (h0 : 0 < high) :
    ∃ k : Nat, k ≤ 2 ∧ OW [.times high (ovW wide)] st (at', 0, 0) (high * (if 0 ≤ at' ∧ at' < wide then 1 else 0)) k := by
  have hb : bdd (pb (ovW wide)) := by rw [pb_ov]; exact bdd_of (by decide)
  have ea : ask high (pb (ovW wide)) st (bxa (ovW wide) none st) (at', 0, 0) = (0, 0 + 1) := by
    rw [pb_ov, bx_ov hw]
    unfold ask
    rw [if_neg (by intro h; cases h), if_pos rfl]
    unfold lo1
    split
    · rfl
    · have : high = 1 := by omega
      rw [this]; rfl
  have e1 : led st (rep (pb (ovW wide)) 0) = (0, 0, 0) := by rw [pb_ov]; decide
  have e3 : lk high (pb (ovW wide)) 0 = high := by rw [pb_ov]; unfold lk; rw [if_pos rfl]
  by_cases h : 0 ≤ at' ∧ at' < wide
  · rw [if_pos h, Int.mul_one]
    refine ⟨2, Nat.le_refl _, ?_⟩
    have e2 : inb (at', 0, 0) (bfr (0, 0, 0) (some (0, 0, wide, 0))) = true := by
      rw [bfr_z (by omega) (by omega), inb_some]
      simp [gx, gy]
      omega
    have z := OL.inn (n := high) (w := ovW wide) (pen := st) (s := (at', 0, 0)) (i := 0) (by rw [e1, bx_ov hw]; exact e2) (by decide) (by decide) (by rw [e1]; exact OW_ov h.1 h.2 hG) (by decide) (by decide) OL.nil
    rw [e3, Int.mul_one, Int.add_zero] at z
    have y := OW.cons (OD.times (n := high) hb (by rw [ea, rngI_one]; exact z)) OW.nil
    rw [Int.add_zero] at y
    exact y
  · rw [if_neg h, Int.mul_zero]
    refine ⟨0, by omega, ?_⟩
    have e2 : inb (at', 0, 0) (bfr (0, 0, 0) (some (0, 0, wide, 0))) = false := by
      rw [bfr_z (by omega) (by omega), inb_some]
      simp [gx, gy]
      omega
    exact OW.cons (c := 0) (c' := 0) (k := 0) (k' := 0) (OD.times hb (by rw [ea, rngI_one]; exact OL.out (by rw [e1, bx_ov hw]; exact e2) (by decide) (by decide) OL.nil)) OW.nil
/-! the ring -/
theorem rg_box {side : Int} (h : 0 < side) : bfr (led st (rep (pb (rgW side)) 0)) (bxa (rgW side) none st) = some (0, 0, side, 0) ∧ bfr (led st (rep (pb (rgW side)) 1)) (bxa (rgW side) none st) = some (side, 0, side, side) ∧
    bfr (led st (rep (pb (rgW side)) 2)) (bxa (rgW side) none st) = some (0, side, side, side) ∧ bfr (led st (rep (pb (rgW side)) 3)) (bxa (rgW side) none st) = some (0, 0, 0, side) := by
  rw [pb_rg, bx_rg h]
  have e0 : led st (rep (side, 0, 1) 0) = (0, 0, 0) := by simp [rep, pw, led, cs, sn, st]
  have e1 : led st (rep (side, 0, 1) 1) = (side, 0, 1) := by simp [rep, pw, led, cs, sn, st]
  have e2 : led st (rep (side, 0, 1) 2) = (side, side, 2) := by
    have : rep (side, 0, 1) 2 = led (led st (side, 0, 1)) (side, 0, 1) := rfl
    rw [this]; simp [led, cs, sn, st]
  have e3 : led st (rep (side, 0, 1) 3) = (0, side, 3) := by
    have : rep (side, 0, 1) 3 = led (led (led st (side, 0, 1)) (side, 0, 1)) (side, 0, 1) := rfl
    rw [this]; simp [led, cs, sn, st]; omega
  rw [e0, e1, e2, e3]
  refine ⟨?_, ?_, ?_, ?_⟩ <;> simp [bfr, led, cs, sn, mn, mx] <;> omega
theorem four {i : Int} (h0 : 0 ≤ i) (h1 : i ≤ 3) : i = 0 ∨ i = 1 ∨ i = 2 ∨ i = 3 := by omega
theorem OL_ring {side high k : Int} {s : Stk} (hk : 0 ≤ k ∧ k ≤ 3) (hs : 0 < side) (hin : ∀ i, 0 ≤ i → i ≤ 3 → inb s (bfr (led st (rep (pb (rgW side)) i)) (bxa (rgW side) none st)) = decide (i = k)) :
    ∀ l : List Int, (∀ i ∈ l, 0 ≤ i ∧ i ≤ 3) → OL l high (rgW side) st s (lk high (pb (rgW side)) k * ((l.count k : Nat) : Int)) (l.count k)
  | [], _ => by
    rw [List.count_nil]
    have z := OL.nil (n := high) (w := rgW side) (pen := st) (s := s)
    rw [show lk high (pb (rgW side)) k * ((0 : Nat) : Int) = 0 by simp]
    exact z
  | i :: l, h => by
    have ih := OL_ring (high := high) hk hs hin l fun j hj => h j (List.mem_cons_of_mem _ hj)
    obtain ⟨i0, i1⟩ := h i (List.mem_cons_self ..)
    have iG : i ≤ G := by unfold G; omega
    have hi := hin i i0 i1
    by_cases e : i = k
    · subst e
      rw [decide_eq_true rfl] at hi
      have o1 : OW (rgW side) (led st (rep (pb (rgW side)) i)) s 1 0 := by
        have z := OW.cons (OD.one (d := .go side) (pen := led st (rep (pb (rgW side)) i)) (s := s) rfl) (OW.cons (OD_no (d := .turn 1) rfl rfl) OW.nil)
        rw [show bxd (.go side) = bxa (rgW side) none st by rw [bx_rg hs]; simp only [bxd]; rw [if_neg (by omega)], if_pos hi] at z
        exact z
      have z := OL.inn (n := high) hi i0 iG o1 (by decide) (by decide) ih
      rw [List.count_cons_self]
      rw [show lk high (pb (rgW side)) i * ((List.count i l + 1 : Nat) : Int) = lk high (pb (rgW side)) i * 1 + lk high (pb (rgW side)) i * ((List.count i l : Nat) : Int) by rw [Int.natCast_add, Int.mul_add]; simp; omega]
      rw [show List.count i l + 1 = 1 + 0 + List.count i l by omega]
      exact z
    · rw [decide_eq_false e] at hi
      rw [List.count_cons_of_ne e]
      exact OL.out hi i0 iG ih
theorem OW_ring {side high k : Int} {s : Stk} (hk : 0 ≤ k ∧ k ≤ 3) (hs : 0 < side) (hG : side ≤ 1000000000) (hh : 0 < high) (hin : ∀ i, 0 ≤ i → i ≤ 3 → inb s (bfr (led st (rep (pb (rgW side)) i)) (bxa (rgW side) none st)) = decide (i = k)) :
    ∃ m : Nat, m ≤ 4 ∧ OW [.times high (rgW side)] st s ((high - k + 3) / 4) m := by
  have hb : bdd (pb (rgW side)) := by rw [pb_rg]; exact bdd_of ⟨by omega, by decide⟩
  have ea : ask high (pb (rgW side)) st (bxa (rgW side) none st) s = (0, lo1 high 4) := by
    rw [pb_rg, bx_rg hs]
    unfold ask
    rw [if_neg (by intro h; cases h), if_neg (by intro h; injection h with h1 h2; injection h2 with h3 h4; omega), if_pos (by simp)]
  have el : lk high (pb (rgW side)) k = (high - k + 3) / 4 := by
    rw [pb_rg]
    unfold lk
    rw [if_neg (by intro h; injection h with h1 h2; injection h2 with h3 h4; omega), if_neg (by simp)]
  have main : ∀ l : List Int, rngI (0, lo1 high 4) = l → (∀ i ∈ l, 0 ≤ i ∧ i ≤ 3) → l.count k ≤ 4 → ((high - k + 3) / 4) * ((l.count k : Nat) : Int) = (high - k + 3) / 4 → ∃ m : Nat, m ≤ 4 ∧ OW [.times high (rgW side)] st s ((high - k + 3) / 4) m := fun l e1 e2 e3 e4 => by
    have z := OL_ring (high := high) hk hs hin l e2
    rw [el, e4] at z
    have y := OW.cons (OD.times (n := high) hb (by rw [ea, e1]; exact z)) OW.nil
    rw [Int.add_zero] at y
    exact ⟨_, e3, y⟩
  have cases4 : high = 1 ∨ high = 2 ∨ high = 3 ∨ 4 ≤ high := by omega
  obtain ⟨k0, k1⟩ := hk
  rcases cases4 with rfl | rfl | rfl | h4
  · refine main [0] (by decide) (by decide) ?_ ?_ <;> rcases four k0 k1 with rfl | rfl | rfl | rfl <;> decide
  · refine main [0, 1] (by decide) (by decide) ?_ ?_ <;> rcases four k0 k1 with rfl | rfl | rfl | rfl <;> decide
  · refine main [0, 1, 2] (by decide) (by decide) ?_ ?_ <;> rcases four k0 k1 with rfl | rfl | rfl | rfl <;> decide
  · have e : lo1 high 4 = 4 := by unfold lo1; split <;> omega
    have c : ([0, 1, 2, 3] : List Int).count k = 1 := by rcases four k0 k1 with rfl | rfl | rfl | rfl <;> decide
    refine main [0, 1, 2, 3] (by rw [e]; decide) (by decide) (by rw [c]; omega) (by rw [c]; simp)
theorem ring0 {side high : Int} (hs : 0 < side) (hG : side ≤ 1000000000) (hh : 0 < high) : ∃ m : Nat, m ≤ 4 ∧ OW [.times high (rgW side)] st (0, 0, 0) ((high - 0 + 3) / 4) m := by
  obtain ⟨b0, b1, b2, b3⟩ := rg_box hs
  refine OW_ring (by decide) hs hG hh fun i i0 i1 => ?_
  rcases four i0 i1 with rfl | rfl | rfl | rfl <;> simp only [b0, b1, b2, b3, inb_some] <;> simp [gx, gy] <;> omega
theorem ring1 {side high : Int} (hs : 0 < side) (hG : side ≤ 1000000000) (hh : 0 < high) : ∃ m : Nat, m ≤ 4 ∧ OW [.times high (rgW side)] st (side, 0, 1) ((high - 1 + 3) / 4) m := by
  obtain ⟨b0, b1, b2, b3⟩ := rg_box hs
  refine OW_ring (by decide) hs hG hh fun i i0 i1 => ?_
  rcases four i0 i1 with rfl | rfl | rfl | rfl <;> simp only [b0, b1, b2, b3, inb_some] <;> simp [gx, gy] <;> omega
theorem ring2 {side high : Int} (hs : 0 < side) (hG : side ≤ 1000000000) (hh : 0 < high) : ∃ m : Nat, m ≤ 4 ∧ OW [.times high (rgW side)] st (side - 1, side, 0) ((high - 2 + 3) / 4) m := by
  obtain ⟨b0, b1, b2, b3⟩ := rg_box hs
  refine OW_ring (by decide) hs hG hh fun i i0 i1 => ?_
  rcases four i0 i1 with rfl | rfl | rfl | rfl <;> simp only [b0, b1, b2, b3, inb_some] <;> simp [gx, gy] <;> omega
theorem ring3 {side high : Int} (hs : 0 < side) (hG : side ≤ 1000000000) (hh : 0 < high) : ∃ m : Nat, m ≤ 4 ∧ OW [.times high (rgW side)] st (0, side - 1, 1) ((high - 3 + 3) / 4) m := by
  obtain ⟨b0, b1, b2, b3⟩ := rg_box hs
  refine OW_ring (by decide) hs hG hh fun i i0 i1 => ?_
  rcases four i0 i1 with rfl | rfl | rfl | rfl <;> simp only [b0, b1, b2, b3, inb_some] <;> simp [gx, gy] <;> omega
/-! draws of a state -/
noncomputable def spTState : Sp3 := fun ds μ Q => ∃ (ns : List Int) (k : Int), ds = [.fls (ns.map D.int), .int k] ∧ 0 ≤ k ∧ ∀ a b p, 0 ≤ a → μ p = none → Q (.ref p) (updM μ p (.lst [.int a, .int b]))
theorem rd__law_state (ds : List D) (μ : Mu) (Q : VK3) (h : spTState ds μ Q) : t__law_state { nx := fun _ μ' => Q .non μ', rt := Q } (start3 N__law_state ds) μ := by
  obtain ⟨ns, k, rfl, hk, q⟩ := h
  have e : ((10 : Int) ^ (18 : Int).toNat) = 1000000000000000000 := by decide
  have c : CPow 10 18 := ⟨by decide, by decide, by decide⟩
  simp only [Pv.seq3, Pv.next3, Pv.never3, Pv.brk3, Pv.cnt3, Pv.drop3, Pv.ret3, Pv.retN3, Pv.ifs3, Pv.gn3, Pv.gnil3, Pv.gcons3, Pv.gtup3, Pv.set3, Pv.asg3, Pv.par3, Pv.sub3, Pv.for3, Pv.is3, Pv.ir3, Pv.ir23, Pv.v3, Pv.c3, Pv.o3, Pv.un3, Pv.b3, Pv.and3, Pv.or3, Pv.not3, Pv.andV3, Pv.orV3, Pv.notV3, Pv.if3, Pv.nil3, Pv.cons3, Pv.tup3, Pv.lst3, Pv.call3, Pv.mt3, Pv.comp3, Pv.tt3, Pv.getI, List.set_cons_zero, List.set_cons_succ, Pv.int2, Pv.int20, Pv.subR, Pv.mulR, Pv.intR, Pv.sl3, Pv.np3, Pv.pt3, Pv.slR, Pv.modR, Pv.fdivR, Pv.powR, Pv.ltR, Pv.leR, Pv.gtR, Pv.geR, Pv.negR, Pv.addR, Pv.eqR_ii, Pv.eqR_ss, Pv.eqR_bb, Pv.eqR_is, Pv.neR_ii, Pv.neR_ss, Pv.neR_bb, Pv.inR, Pv.ixR, Pv.lenR, Pv.absR, Pv.tupR, Pv.sumR, Pv.tyN, Pv.isIn, Pv.isiR, Pv.appR, Pv.extR, Pv.smt3, Pv.joinR, Pv.splitR, Pv.startsR, Pv.pop3, Pv.lrev3, Pv.strR, Pv.start3, List.map_cons, List.map_nil, List.cons_append, List.nil_append, List.length_cons, List.length_nil, List.replicate, Pv.atI0, Pv.atI1, Pv.atI2, Nat.reduceAdd, Nat.reduceSub, Nat.zero_add, reduceIte, Pv.strs?, Bool.not_true, Bool.not_false, Bool.false_eq_true, if_false, if_true, decide_eq_true_eq, Bool.not_eq_true', decide_eq_false_iff_not, Pv.ixN0, Pv.ixN1, Pv.ixN2, true_and, and_true, Pv.cst0, Pv.cst1, Pv.cst2, Pv.cst3, Int.reduceEq, Option.bind_none, Option.bind_some, Pv.kn_go_jump, Pv.kn_go_turn, Pv.kn_go_times, Pv.kn_jump_go, Pv.kn_jump_turn, Pv.kn_jump_times, Pv.kn_turn_go, Pv.kn_turn_jump, Pv.kn_turn_times, Pv.kn_times_go, Pv.kn_times_jump, Pv.kn_times_turn, Pv.kp_go, Pv.kp_jump, Pv.kp_turn, Pv.kp_times, Pv.kz_go, Pv.kz_jump, Pv.kz_turn, Pv.kz_times, t__law_state, N__law_state, c, e]
  have key : ∀ i : Int, (if 1000000000000000000 ≤ i then 2 ≤ sizeLine ∧ ∀ p, μ p = none → Q (.ref p) (updM μ p (.lst [.int (i - 1000000000000000000), .int 1]))
      else CMul 7919 k ∧ (0 : Int) < 2147483647 ∧ 2 ≤ sizeLine ∧ ∀ p, μ p = none → Q (.ref p) (updM μ p (.lst [.int ((i + 7919 * k) % 2147483647), .int 0]))) := by
    intro i
    split
    · exact ⟨by decide, fun p hp => q _ _ p (by omega) hp⟩
    · exact ⟨.inl (.inl (by decide)), by decide, by decide, fun p hp => q _ _ p (Int.emod_nonneg _ (by decide)) hp⟩
  split
  · next h1 =>
    obtain ⟨d, hd, e⟩ := atI_in (l := ns.map D.int) hk h1
    obtain ⟨i, _, rfl⟩ := List.mem_map.mp hd
    simp only [Pv.seq3, Pv.next3, Pv.never3, Pv.brk3, Pv.cnt3, Pv.drop3, Pv.ret3, Pv.retN3, Pv.ifs3, Pv.gn3, Pv.gnil3, Pv.gcons3, Pv.gtup3, Pv.set3, Pv.asg3, Pv.par3, Pv.sub3, Pv.for3, Pv.is3, Pv.ir3, Pv.ir23, Pv.v3, Pv.c3, Pv.o3, Pv.un3, Pv.b3, Pv.and3, Pv.or3, Pv.not3, Pv.andV3, Pv.orV3, Pv.notV3, Pv.if3, Pv.nil3, Pv.cons3, Pv.tup3, Pv.lst3, Pv.call3, Pv.mt3, Pv.comp3, Pv.tt3, Pv.getI, List.set_cons_zero, List.set_cons_succ, Pv.int2, Pv.int20, Pv.subR, Pv.mulR, Pv.intR, Pv.sl3, Pv.np3, Pv.pt3, Pv.slR, Pv.modR, Pv.fdivR, Pv.powR, Pv.ltR, Pv.leR, Pv.gtR, Pv.geR, Pv.negR, Pv.addR, Pv.eqR_ii, Pv.eqR_ss, Pv.eqR_bb, Pv.eqR_is, Pv.neR_ii, Pv.neR_ss, Pv.neR_bb, Pv.inR, Pv.ixR, Pv.lenR, Pv.absR, Pv.tupR, Pv.sumR, Pv.tyN, Pv.isIn, Pv.isiR, Pv.appR, Pv.extR, Pv.smt3, Pv.joinR, Pv.splitR, Pv.startsR, Pv.pop3, Pv.lrev3, Pv.strR, Pv.start3, List.map_cons, List.map_nil, List.cons_append, List.nil_append, List.length_cons, List.length_nil, List.replicate, Pv.atI0, Pv.atI1, Pv.atI2, Nat.reduceAdd, Nat.reduceSub, Nat.zero_add, reduceIte, Pv.strs?, Bool.not_true, Bool.not_false, Bool.false_eq_true, if_false, if_true, decide_eq_true_eq, Bool.not_eq_true', decide_eq_false_iff_not, Pv.ixN0, Pv.ixN1, Pv.ixN2, true_and, and_true, Pv.cst0, Pv.cst1, Pv.cst2, Pv.cst3, Int.reduceEq, Option.bind_none, Option.bind_some, Pv.kn_go_jump, Pv.kn_go_turn, Pv.kn_go_times, Pv.kn_jump_go, Pv.kn_jump_turn, Pv.kn_jump_times, Pv.kn_turn_go, Pv.kn_turn_jump, Pv.kn_turn_times, Pv.kn_times_go, Pv.kn_times_jump, Pv.kn_times_turn, Pv.kp_go, Pv.kp_jump, Pv.kp_turn, Pv.kp_times, Pv.kz_go, Pv.kz_jump, Pv.kz_turn, Pv.kz_times, e]
    exact key i
  · exact key 0
noncomputable def spTake : Sp3 := fun ds μ Q => ∃ (p : Addr) (m a b : Int), ds = [.ref p, .int m] ∧ 0 < m ∧ m < 2 ^ 80 ∧ μ p = some (.lst [.int a, .int b]) ∧ 0 ≤ a ∧
  ∀ r a' b', 0 ≤ r → r < m → 0 ≤ a' → Q (.int r) (updM μ p (.lst [.int a', .int b']))
theorem take_main {p : Addr} {m a b : Int} {μ : Mu} {Q : VK3} (h1 : 0 < m) (h3 : μ p = some (.lst [.int a, .int b])) (q : ∀ r a' b', 0 ≤ r → r < m → 0 ≤ a' → Q (.int r) (updM μ p (.lst [.int a', .int b']))) :
    t__law_take_r1 { nx := fun _ μ' => Q .non μ', rt := Q } [some (.ref p), some (.int m), none, none] μ := by
  conv => whnf
  rw [h3]
  conv => whnf
  rw [updM_same]
  refine ⟨.inl (.inr (by decide)), (show (0 : Int) < 2147483647 by decide), ?_⟩
  conv => whnf
  rw [updM_same]
  show t__law_take_r3 { nx := fun _ μ' => Q .non μ', rt := Q } [some (.ref p), some (.int m), none, none] (updM (updM μ p (.lst [.int a, .int 0])) p (.lst [.int ((a * 48271 + 69621) % 2147483647), .int 0]))
  have n1 : 0 ≤ (a * 48271 + 69621) % 2147483647 := Int.emod_nonneg _ (by decide)
  have n2 : (a * 48271 + 69621) % 2147483647 < 2147483647 := Int.emod_lt_of_pos _ (by decide)
  rw [updM_updM]
  generalize (a * 48271 + 69621) % 2147483647 = c at n1 n2
  conv => whnf
  rw [updM_same]
  conv => whnf
  rw [updM_same]
  refine ⟨.inl (.inl (by omega)), ?_⟩
  conv => whnf
  rw [updM_same]
  refine ⟨.inl (.inl (by decide)), (show (0 : Int) < 2147483629 by decide), ?_⟩
  have n3 : 0 ≤ (c * c + 16807 * c) % 2147483629 := Int.emod_nonneg _ (by decide)
  have n4 : (c * c + 16807 * c) % 2147483629 < 2147483629 := Int.emod_lt_of_pos _ (by decide)
  show t__law_take_r4 { nx := fun _ μ' => Q .non μ', rt := Q } [some (.ref p), some (.int m), none, some (.int ((c * c + 16807 * c) % 2147483629))] _
  generalize (c * c + 16807 * c) % 2147483629 = e at n3 n4
  exact ⟨.inl (.inl (by omega)), .inl (.inl (by decide)), (show (0 : Int) < 2147483587 by decide), (show (0 : Int) < 8 ∧ (8 : Int) < 2 ^ 80 by decide), h1, q _ _ _ (Int.emod_nonneg _ (by omega)) (Int.emod_lt_of_pos _ h1) n1⟩
theorem rd__law_take (ds : List D) (μ : Mu) (Q : VK3) (h : spTake ds μ Q) : t__law_take { nx := fun _ μ' => Q .non μ', rt := Q } (start3 N__law_take ds) μ := by
  obtain ⟨p, m, a, b, rfl, h1, h2, h3, h4, q⟩ := h
  have main := take_main h1 h3 q
  simp only [Pv.seq3, Pv.next3, Pv.never3, Pv.brk3, Pv.cnt3, Pv.drop3, Pv.ret3, Pv.retN3, Pv.ifs3, Pv.gn3, Pv.gnil3, Pv.gcons3, Pv.gtup3, Pv.set3, Pv.asg3, Pv.par3, Pv.sub3, Pv.for3, Pv.is3, Pv.ir3, Pv.ir23, Pv.v3, Pv.c3, Pv.o3, Pv.un3, Pv.b3, Pv.and3, Pv.or3, Pv.not3, Pv.andV3, Pv.orV3, Pv.notV3, Pv.if3, Pv.nil3, Pv.cons3, Pv.tup3, Pv.lst3, Pv.call3, Pv.mt3, Pv.comp3, Pv.tt3, Pv.getI, List.set_cons_zero, List.set_cons_succ, Pv.int2, Pv.int20, Pv.subR, Pv.mulR, Pv.intR, Pv.sl3, Pv.np3, Pv.pt3, Pv.slR, Pv.modR, Pv.fdivR, Pv.powR, Pv.ltR, Pv.leR, Pv.gtR, Pv.geR, Pv.negR, Pv.addR, Pv.eqR_ii, Pv.eqR_ss, Pv.eqR_bb, Pv.eqR_is, Pv.neR_ii, Pv.neR_ss, Pv.neR_bb, Pv.inR, Pv.ixR, Pv.lenR, Pv.absR, Pv.tupR, Pv.sumR, Pv.tyN, Pv.isIn, Pv.isiR, Pv.appR, Pv.extR, Pv.smt3, Pv.joinR, Pv.splitR, Pv.startsR, Pv.pop3, Pv.lrev3, Pv.strR, Pv.start3, List.map_cons, List.map_nil, List.cons_append, List.nil_append, List.length_cons, List.length_nil, List.replicate, Pv.atI0, Pv.atI1, Pv.atI2, Nat.reduceAdd, Nat.reduceSub, Nat.zero_add, reduceIte, Pv.strs?, Bool.not_true, Bool.not_false, Bool.false_eq_true, if_false, if_true, decide_eq_true_eq, Bool.not_eq_true', decide_eq_false_iff_not, Pv.ixN0, Pv.ixN1, Pv.ixN2, true_and, and_true, Pv.cst0, Pv.cst1, Pv.cst2, Pv.cst3, Int.reduceEq, Option.bind_none, Option.bind_some, Pv.kn_go_jump, Pv.kn_go_turn, Pv.kn_go_times, Pv.kn_jump_go, Pv.kn_jump_turn, Pv.kn_jump_times, Pv.kn_turn_go, Pv.kn_turn_jump, Pv.kn_turn_times, Pv.kn_times_go, Pv.kn_times_jump, Pv.kn_times_turn, Pv.kp_go, Pv.kp_jump, Pv.kp_turn, Pv.kp_times, Pv.kz_go, Pv.kz_jump, Pv.kz_turn, Pv.kz_times, t__law_take, N__law_take, h3]
  split
  · split
    · refine ⟨h1, ⟨h1, h2⟩, ?_⟩
      exact q _ _ _ (Int.emod_nonneg _ (by omega)) (Int.emod_lt_of_pos _ h1) (Int.ediv_nonneg h4 (by omega))
    · exact main
  · exact main
noncomputable def spWhole : Sp3 := fun ds μ Q => ∃ i : Int, ds = [.int i] ∧ Q (.bl true) μ
theorem rd__law_whole (ds : List D) (μ : Mu) (Q : VK3) (h : spWhole ds μ Q) : t__law_whole { nx := fun _ μ' => Q .non μ', rt := Q } (start3 N__law_whole ds) μ := by
  obtain ⟨i, rfl, q⟩ := h
  simp only [Pv.seq3, Pv.next3, Pv.never3, Pv.brk3, Pv.cnt3, Pv.drop3, Pv.ret3, Pv.retN3, Pv.ifs3, Pv.gn3, Pv.gnil3, Pv.gcons3, Pv.gtup3, Pv.set3, Pv.asg3, Pv.par3, Pv.sub3, Pv.for3, Pv.is3, Pv.ir3, Pv.ir23, Pv.v3, Pv.c3, Pv.o3, Pv.un3, Pv.b3, Pv.and3, Pv.or3, Pv.not3, Pv.andV3, Pv.orV3, Pv.notV3, Pv.if3, Pv.nil3, Pv.cons3, Pv.tup3, Pv.lst3, Pv.call3, Pv.mt3, Pv.comp3, Pv.tt3, Pv.getI, List.set_cons_zero, List.set_cons_succ, Pv.int2, Pv.int20, Pv.subR, Pv.mulR, Pv.intR, Pv.sl3, Pv.np3, Pv.pt3, Pv.slR, Pv.modR, Pv.fdivR, Pv.powR, Pv.ltR, Pv.leR, Pv.gtR, Pv.geR, Pv.negR, Pv.addR, Pv.eqR_ii, Pv.eqR_ss, Pv.eqR_bb, Pv.eqR_is, Pv.neR_ii, Pv.neR_ss, Pv.neR_bb, Pv.inR, Pv.ixR, Pv.lenR, Pv.absR, Pv.tupR, Pv.sumR, Pv.tyN, Pv.isIn, Pv.isiR, Pv.appR, Pv.extR, Pv.smt3, Pv.joinR, Pv.splitR, Pv.startsR, Pv.pop3, Pv.lrev3, Pv.strR, Pv.start3, List.map_cons, List.map_nil, List.cons_append, List.nil_append, List.length_cons, List.length_nil, List.replicate, Pv.atI0, Pv.atI1, Pv.atI2, Nat.reduceAdd, Nat.reduceSub, Nat.zero_add, reduceIte, Pv.strs?, Bool.not_true, Bool.not_false, Bool.false_eq_true, if_false, if_true, decide_eq_true_eq, Bool.not_eq_true', decide_eq_false_iff_not, Pv.ixN0, Pv.ixN1, Pv.ixN2, true_and, and_true, Pv.cst0, Pv.cst1, Pv.cst2, Pv.cst3, Int.reduceEq, Option.bind_none, Option.bind_some, Pv.kn_go_jump, Pv.kn_go_turn, Pv.kn_go_times, Pv.kn_jump_go, Pv.kn_jump_turn, Pv.kn_jump_times, Pv.kn_turn_go, Pv.kn_turn_jump, Pv.kn_turn_times, Pv.kn_times_go, Pv.kn_times_jump, Pv.kn_times_turn, Pv.kp_go, Pv.kp_jump, Pv.kp_turn, Pv.kp_times, Pv.kz_go, Pv.kz_jump, Pv.kz_turn, Pv.kz_times, t__law_whole, N__law_whole]
  simp [q]
/-! a box as told -/
noncomputable def spIsRow : Sp3 := fun ds μ Q => ∃ o, ds = [encB o, encB o] ∧ ∀ μ', Ext μ μ' → Q (.bl true) μ'
theorem rd__law_is_row (ds : List D) (μ : Mu) (Q : VK3) (h : spIsRow ds μ Q) : t__law_is_row spWhole { nx := fun _ μ' => Q .non μ', rt := Q } (start3 N__law_is_row ds) μ := by
  obtain ⟨o, rfl, q⟩ := h
  cases o with
  | none =>
    simp only [Pv.seq3, Pv.next3, Pv.never3, Pv.brk3, Pv.cnt3, Pv.drop3, Pv.ret3, Pv.retN3, Pv.ifs3, Pv.gn3, Pv.gnil3, Pv.gcons3, Pv.gtup3, Pv.set3, Pv.asg3, Pv.par3, Pv.sub3, Pv.for3, Pv.is3, Pv.ir3, Pv.ir23, Pv.v3, Pv.c3, Pv.o3, Pv.un3, Pv.b3, Pv.and3, Pv.or3, Pv.not3, Pv.andV3, Pv.orV3, Pv.notV3, Pv.if3, Pv.nil3, Pv.cons3, Pv.tup3, Pv.lst3, Pv.call3, Pv.mt3, Pv.comp3, Pv.tt3, Pv.getI, List.set_cons_zero, List.set_cons_succ, Pv.int2, Pv.int20, Pv.subR, Pv.mulR, Pv.intR, Pv.sl3, Pv.np3, Pv.pt3, Pv.slR, Pv.modR, Pv.fdivR, Pv.powR, Pv.ltR, Pv.leR, Pv.gtR, Pv.geR, Pv.negR, Pv.addR, Pv.eqR_ii, Pv.eqR_ss, Pv.eqR_bb, Pv.eqR_is, Pv.neR_ii, Pv.neR_ss, Pv.neR_bb, Pv.inR, Pv.ixR, Pv.lenR, Pv.absR, Pv.tupR, Pv.sumR, Pv.tyN, Pv.isIn, Pv.isiR, Pv.appR, Pv.extR, Pv.smt3, Pv.joinR, Pv.splitR, Pv.startsR, Pv.pop3, Pv.lrev3, Pv.strR, Pv.start3, List.map_cons, List.map_nil, List.cons_append, List.nil_append, List.length_cons, List.length_nil, List.replicate, Pv.atI0, Pv.atI1, Pv.atI2, Nat.reduceAdd, Nat.reduceSub, Nat.zero_add, reduceIte, Pv.strs?, Bool.not_true, Bool.not_false, Bool.false_eq_true, if_false, if_true, decide_eq_true_eq, Bool.not_eq_true', decide_eq_false_iff_not, Pv.ixN0, Pv.ixN1, Pv.ixN2, true_and, and_true, Pv.cst0, Pv.cst1, Pv.cst2, Pv.cst3, Int.reduceEq, Option.bind_none, Option.bind_some, Pv.kn_go_jump, Pv.kn_go_turn, Pv.kn_go_times, Pv.kn_jump_go, Pv.kn_jump_turn, Pv.kn_jump_times, Pv.kn_turn_go, Pv.kn_turn_jump, Pv.kn_turn_times, Pv.kn_times_go, Pv.kn_times_jump, Pv.kn_times_turn, Pv.kp_go, Pv.kp_jump, Pv.kp_turn, Pv.kp_times, Pv.kz_go, Pv.kz_jump, Pv.kz_turn, Pv.kz_times, t__law_is_row, N__law_is_row, encB, Pv.min2R, Pv.maxR, Pv.mnR_ii, Pv.mnR_pp, Pv.mxR_ii, Pv.lrng3, Pv.isNR, Pv.isN, Pv.ch3]
    exact q μ (Ext.refl _)
  | some b =>
    have dd : datM μ (.tup [.int b.1, .int b.2.1, .int b.2.2.1, .int b.2.2.2]) = some (.tuple [.int b.1, .int b.2.1, .int b.2.2.1, .int b.2.2.2]) := by simp only [datM, dat, dats]
    have dp : (PyData.tuple [.int b.1, .int b.2.1, .int b.2.2.1, .int b.2.2.2]).depth ≤ 64 := by simp [PyData.depth, PyData.depthAll]
    have ee : ∀ Q : VK3, eqR (.tup [.int b.1, .int b.2.1, .int b.2.2.1, .int b.2.2.2]) (.tup [.int b.1, .int b.2.1, .int b.2.2.1, .int b.2.2.2]) μ Q = Q (.bl true) μ := fun Q => by
      rw [eqR_dat rfl dd dd dp dp]; simp [PyData.eqv, PyData.eqvAll]
    simp only [Pv.seq3, Pv.next3, Pv.never3, Pv.brk3, Pv.cnt3, Pv.drop3, Pv.ret3, Pv.retN3, Pv.ifs3, Pv.gn3, Pv.gnil3, Pv.gcons3, Pv.gtup3, Pv.set3, Pv.asg3, Pv.par3, Pv.sub3, Pv.for3, Pv.is3, Pv.ir3, Pv.ir23, Pv.v3, Pv.c3, Pv.o3, Pv.un3, Pv.b3, Pv.and3, Pv.or3, Pv.not3, Pv.andV3, Pv.orV3, Pv.notV3, Pv.if3, Pv.nil3, Pv.cons3, Pv.tup3, Pv.lst3, Pv.call3, Pv.mt3, Pv.comp3, Pv.tt3, Pv.getI, List.set_cons_zero, List.set_cons_succ, Pv.int2, Pv.int20, Pv.subR, Pv.mulR, Pv.intR, Pv.sl3, Pv.np3, Pv.pt3, Pv.slR, Pv.modR, Pv.fdivR, Pv.powR, Pv.ltR, Pv.leR, Pv.gtR, Pv.geR, Pv.negR, Pv.addR, Pv.eqR_ii, Pv.eqR_ss, Pv.eqR_bb, Pv.eqR_is, Pv.neR_ii, Pv.neR_ss, Pv.neR_bb, Pv.inR, Pv.ixR, Pv.lenR, Pv.absR, Pv.tupR, Pv.sumR, Pv.tyN, Pv.isIn, Pv.isiR, Pv.appR, Pv.extR, Pv.smt3, Pv.joinR, Pv.splitR, Pv.startsR, Pv.pop3, Pv.lrev3, Pv.strR, Pv.start3, List.map_cons, List.map_nil, List.cons_append, List.nil_append, List.length_cons, List.length_nil, List.replicate, Pv.atI0, Pv.atI1, Pv.atI2, Nat.reduceAdd, Nat.reduceSub, Nat.zero_add, reduceIte, Pv.strs?, Bool.not_true, Bool.not_false, Bool.false_eq_true, if_false, if_true, decide_eq_true_eq, Bool.not_eq_true', decide_eq_false_iff_not, Pv.ixN0, Pv.ixN1, Pv.ixN2, true_and, and_true, Pv.cst0, Pv.cst1, Pv.cst2, Pv.cst3, Int.reduceEq, Option.bind_none, Option.bind_some, Pv.kn_go_jump, Pv.kn_go_turn, Pv.kn_go_times, Pv.kn_jump_go, Pv.kn_jump_turn, Pv.kn_jump_times, Pv.kn_turn_go, Pv.kn_turn_jump, Pv.kn_turn_times, Pv.kn_times_go, Pv.kn_times_jump, Pv.kn_times_turn, Pv.kp_go, Pv.kp_jump, Pv.kp_turn, Pv.kp_times, Pv.kz_go, Pv.kz_jump, Pv.kz_turn, Pv.kz_times, t__law_is_row, N__law_is_row, encB, ee, Pv.min2R, Pv.maxR, Pv.mnR_ii, Pv.mnR_pp, Pv.mxR_ii, Pv.lrng3, Pv.isNR, Pv.isN, Pv.ch3]
    intro r hr
    refine comp_map (fun _ => .bl true) hr (show 4 ≤ sizeLine by decide) (fun _ _ => trivial) ?_ ?_
    · intro x hx μ' R ex k
      simp only [List.mem_cons, List.not_mem_nil, or_false] at hx
      rcases hx with rfl | rfl | rfl | rfl <;> simp only [Pv.seq3, Pv.next3, Pv.never3, Pv.brk3, Pv.cnt3, Pv.drop3, Pv.ret3, Pv.retN3, Pv.ifs3, Pv.gn3, Pv.gnil3, Pv.gcons3, Pv.gtup3, Pv.set3, Pv.asg3, Pv.par3, Pv.sub3, Pv.for3, Pv.is3, Pv.ir3, Pv.ir23, Pv.v3, Pv.c3, Pv.o3, Pv.un3, Pv.b3, Pv.and3, Pv.or3, Pv.not3, Pv.andV3, Pv.orV3, Pv.notV3, Pv.if3, Pv.nil3, Pv.cons3, Pv.tup3, Pv.lst3, Pv.call3, Pv.mt3, Pv.comp3, Pv.tt3, Pv.getI, List.set_cons_zero, List.set_cons_succ, Pv.int2, Pv.int20, Pv.subR, Pv.mulR, Pv.intR, Pv.sl3, Pv.np3, Pv.pt3, Pv.slR, Pv.modR, Pv.fdivR, Pv.powR, Pv.ltR, Pv.leR, Pv.gtR, Pv.geR, Pv.negR, Pv.addR, Pv.eqR_ii, Pv.eqR_ss, Pv.eqR_bb, Pv.eqR_is, Pv.neR_ii, Pv.neR_ss, Pv.neR_bb, Pv.inR, Pv.ixR, Pv.lenR, Pv.absR, Pv.tupR, Pv.sumR, Pv.tyN, Pv.isIn, Pv.isiR, Pv.appR, Pv.extR, Pv.smt3, Pv.joinR, Pv.splitR, Pv.startsR, Pv.pop3, Pv.lrev3, Pv.strR, Pv.start3, List.map_cons, List.map_nil, List.cons_append, List.nil_append, List.length_cons, List.length_nil, List.replicate, Pv.atI0, Pv.atI1, Pv.atI2, Nat.reduceAdd, Nat.reduceSub, Nat.zero_add, reduceIte, Pv.strs?, Bool.not_true, Bool.not_false, Bool.false_eq_true, if_false, if_true, decide_eq_true_eq, Bool.not_eq_true', decide_eq_false_iff_not, Pv.ixN0, Pv.ixN1, Pv.ixN2, true_and, and_true, Pv.cst0, Pv.cst1, Pv.cst2, Pv.cst3, Int.reduceEq, Option.bind_none, Option.bind_some, Pv.kn_go_jump, Pv.kn_go_turn, Pv.kn_go_times, Pv.kn_jump_go, Pv.kn_jump_turn, Pv.kn_jump_times, Pv.kn_turn_go, Pv.kn_turn_jump, Pv.kn_turn_times, Pv.kn_times_go, Pv.kn_times_jump, Pv.kn_times_turn, Pv.kp_go, Pv.kp_jump, Pv.kp_turn, Pv.kp_times, Pv.kz_go, Pv.kz_jump, Pv.kz_turn, Pv.kz_times, cst0] <;> exact ⟨_, rfl, k _ (Ext.refl _)⟩
    · intro μ' ex e
      simp only [Pv.seq3, Pv.next3, Pv.never3, Pv.brk3, Pv.cnt3, Pv.drop3, Pv.ret3, Pv.retN3, Pv.ifs3, Pv.gn3, Pv.gnil3, Pv.gcons3, Pv.gtup3, Pv.set3, Pv.asg3, Pv.par3, Pv.sub3, Pv.for3, Pv.is3, Pv.ir3, Pv.ir23, Pv.v3, Pv.c3, Pv.o3, Pv.un3, Pv.b3, Pv.and3, Pv.or3, Pv.not3, Pv.andV3, Pv.orV3, Pv.notV3, Pv.if3, Pv.nil3, Pv.cons3, Pv.tup3, Pv.lst3, Pv.call3, Pv.mt3, Pv.comp3, Pv.tt3, Pv.getI, List.set_cons_zero, List.set_cons_succ, Pv.int2, Pv.int20, Pv.subR, Pv.mulR, Pv.intR, Pv.sl3, Pv.np3, Pv.pt3, Pv.slR, Pv.modR, Pv.fdivR, Pv.powR, Pv.ltR, Pv.leR, Pv.gtR, Pv.geR, Pv.negR, Pv.addR, Pv.eqR_ii, Pv.eqR_ss, Pv.eqR_bb, Pv.eqR_is, Pv.neR_ii, Pv.neR_ss, Pv.neR_bb, Pv.inR, Pv.ixR, Pv.lenR, Pv.absR, Pv.tupR, Pv.sumR, Pv.tyN, Pv.isIn, Pv.isiR, Pv.appR, Pv.extR, Pv.smt3, Pv.joinR, Pv.splitR, Pv.startsR, Pv.pop3, Pv.lrev3, Pv.strR, Pv.start3, List.map_cons, List.map_nil, List.cons_append, List.nil_append, List.length_cons, List.length_nil, List.replicate, Pv.atI0, Pv.atI1, Pv.atI2, Nat.reduceAdd, Nat.reduceSub, Nat.zero_add, reduceIte, Pv.strs?, Bool.not_true, Bool.not_false, Bool.false_eq_true, if_false, if_true, decide_eq_true_eq, Bool.not_eq_true', decide_eq_false_iff_not, Pv.ixN0, Pv.ixN1, Pv.ixN2, true_and, and_true, Pv.cst0, Pv.cst1, Pv.cst2, Pv.cst3, Int.reduceEq, Option.bind_none, Option.bind_some, Pv.kn_go_jump, Pv.kn_go_turn, Pv.kn_go_times, Pv.kn_jump_go, Pv.kn_jump_turn, Pv.kn_jump_times, Pv.kn_turn_go, Pv.kn_turn_jump, Pv.kn_turn_times, Pv.kn_times_go, Pv.kn_times_jump, Pv.kn_times_turn, Pv.kp_go, Pv.kp_jump, Pv.kp_turn, Pv.kp_times, Pv.kz_go, Pv.kz_jump, Pv.kz_turn, Pv.kz_times, cst0] at e
      simp only [Pv.seq3, Pv.next3, Pv.never3, Pv.brk3, Pv.cnt3, Pv.drop3, Pv.ret3, Pv.retN3, Pv.ifs3, Pv.gn3, Pv.gnil3, Pv.gcons3, Pv.gtup3, Pv.set3, Pv.asg3, Pv.par3, Pv.sub3, Pv.for3, Pv.is3, Pv.ir3, Pv.ir23, Pv.v3, Pv.c3, Pv.o3, Pv.un3, Pv.b3, Pv.and3, Pv.or3, Pv.not3, Pv.andV3, Pv.orV3, Pv.notV3, Pv.if3, Pv.nil3, Pv.cons3, Pv.tup3, Pv.lst3, Pv.call3, Pv.mt3, Pv.comp3, Pv.tt3, Pv.getI, List.set_cons_zero, List.set_cons_succ, Pv.int2, Pv.int20, Pv.subR, Pv.mulR, Pv.intR, Pv.sl3, Pv.np3, Pv.pt3, Pv.slR, Pv.modR, Pv.fdivR, Pv.powR, Pv.ltR, Pv.leR, Pv.gtR, Pv.geR, Pv.negR, Pv.addR, Pv.eqR_ii, Pv.eqR_ss, Pv.eqR_bb, Pv.eqR_is, Pv.neR_ii, Pv.neR_ss, Pv.neR_bb, Pv.inR, Pv.ixR, Pv.lenR, Pv.absR, Pv.tupR, Pv.sumR, Pv.tyN, Pv.isIn, Pv.isiR, Pv.appR, Pv.extR, Pv.smt3, Pv.joinR, Pv.splitR, Pv.startsR, Pv.pop3, Pv.lrev3, Pv.strR, Pv.start3, List.map_cons, List.map_nil, List.cons_append, List.nil_append, List.length_cons, List.length_nil, List.replicate, Pv.atI0, Pv.atI1, Pv.atI2, Nat.reduceAdd, Nat.reduceSub, Nat.zero_add, reduceIte, Pv.strs?, Bool.not_true, Bool.not_false, Bool.false_eq_true, if_false, if_true, decide_eq_true_eq, Bool.not_eq_true', decide_eq_false_iff_not, Pv.ixN0, Pv.ixN1, Pv.ixN2, true_and, and_true, Pv.cst0, Pv.cst1, Pv.cst2, Pv.cst3, Int.reduceEq, Option.bind_none, Option.bind_some, Pv.kn_go_jump, Pv.kn_go_turn, Pv.kn_go_times, Pv.kn_jump_go, Pv.kn_jump_turn, Pv.kn_jump_times, Pv.kn_turn_go, Pv.kn_turn_jump, Pv.kn_turn_times, Pv.kn_times_go, Pv.kn_times_jump, Pv.kn_times_turn, Pv.kp_go, Pv.kp_jump, Pv.kp_turn, Pv.kp_times, Pv.kz_go, Pv.kz_jump, Pv.kz_turn, Pv.kz_times, Pv.allR, e, Pv.bls?]
      simp [q μ' ex]
/-! the law -/
noncomputable def spLaw : Sp3 := fun ds μ Q => ∃ ns : List Int, ds = [.fls (ns.map D.int)] ∧ ns.length ≤ 63 ∧ ∀ μ', Q (.bl true) μ'
theorem ix_ref {p : Addr} {l : List D} {i : Int} {d : D} {μ : Mu} {K : VK3} (h : μ p = some (.lst l)) (e : atI l i = some d) (k : K d μ) : ixR (.ref p) (.int i) μ K := by
  unfold ixR
  simp only [h, e]
  exact k
noncomputable def tPick : TE3 := o3 addR (c3 (.int 1)) (call3 spTake (cons3 (v3 1) (cons3 (o3 ixR (lst3 (cons3 (c3 (.int 4)) (cons3 (o3 powR (c3 (.int 10)) (c3 (.int 9))) (cons3 (o3 powR (c3 (.int 10)) (c3 (.int 19))) nil3)))) (call3 spTake (cons3 (v3 1) (cons3 (c3 (.int 3)) nil3)))) nil3)))
theorem pick {o0 : Option D} {r : St3} {μ : Mu} {z : Addr} {a b : Int} {K : VK3} (hm : μ z = some (.lst [.int a, .int b])) (ha : 0 ≤ a)
    (k : ∀ X a' b' μ', 0 < X → X ≤ 10000000000000000000 → 0 ≤ a' → ExtB z μ μ' → μ' z = some (.lst [.int a', .int b']) → K (.int X) μ') : tPick (o0 :: some (.ref z) :: r) μ K := by
  refine ⟨⟨by decide, by decide, by decide⟩, ⟨by decide, by decide, by decide⟩, (show 3 ≤ sizeLine by decide), fun p hp => ?_⟩
  have hzp : z ≠ p := ne_free hm hp
  refine ⟨z, 3, a, b, rfl, by decide, by decide, by rw [updM_ne hzp]; exact hm, ha, fun i a1 b1 i0 i1 a1n => ?_⟩
  obtain ⟨dv, hd, e5⟩ := atI_in (l := ([D.int 4, D.int ((10 : Int) ^ (9 : Int).toNat), D.int ((10 : Int) ^ (19 : Int).toNat)] : List D)) (i := i) i0 (by simp only [List.length_cons, List.length_nil]; omega)
  have hk : ∃ X : Int, dv = .int X ∧ 0 < X ∧ X ≤ 10000000000000000000 := by
    simp only [List.mem_cons, List.not_mem_nil, or_false] at hd
    rcases hd with rfl | rfl | rfl <;> exact ⟨_, rfl, by decide, by decide⟩
  obtain ⟨X, rfl, x0, x1⟩ := hk
  refine ix_ref (by rw [updM_ne (Ne.symm hzp), updM_same]) e5 ?_
  refine ⟨z, X, a1, b1, rfl, x0, by omega, updM_same, a1n, fun y a2 b2 y0 y1 a2n => ?_⟩
  exact k (1 + y) a2 b2 _ (by omega) (by omega) a2n (fun c o hc hq => by rw [updM_ne hc, updM_ne hc, updM_ne (ne_free hq hp)]; exact hq) updM_same
noncomputable abbrev D0 (Q : VK3) : Ends3 := { nx := fun _ μ' => Q .non μ', rt := Q }
theorem wd_up {wide high step : Int} (w0 : 0 < wide) (w1 : wide ≤ 10000000000000000000) (h0 : 0 < high) (h1 : high ≤ 10000000000000000000) (s0 : 0 < step) (s1 : step ≤ 5) : Wd [.times high (upW wide step)] := by
  refine ⟨?_, by simp [deps, dep, upW, rowW], by simp [cnts, cnt, upW, rowW]⟩
  simp only [oks, okd, upW, rowW, G, and_true]
  omega
theorem wd_ov {wide high : Int} (w0 : 0 < wide) (w1 : wide ≤ 10000000000000000000) (h0 : 0 < high) (h1 : high ≤ 10000000000000000000) : Wd [.times high (ovW wide)] := by
  refine ⟨?_, by simp [deps, dep, ovW, rowW], by simp [cnts, cnt, ovW, rowW]⟩
  simp only [oks, okd, ovW, rowW, G, and_true]
  omega
theorem wd_rg {side high : Int} (w0 : 0 < side) (w1 : side ≤ 1000000000) (h0 : 0 < high) (h1 : high ≤ 10000000000000000000) : Wd [.times high (rgW side)] := by
  refine ⟨?_, by simp [deps, dep, rgW], by simp [cnts, cnt, rgW]⟩
  simp only [oks, okd, rgW, G, and_true]
  omega
noncomputable abbrev R17 (ns : List Int) (z : Addr) (wide high step at' level due side : Int) (ring seen over : Option D) : St3 := [some (.fls (ns.map D.int)), some (.ref z), some (.int wide), some (.int high), some (.int step), some (enc (rowW wide)), some (.tup (encs [.times high (upW wide step)])), some (.int at'), some (.int level), some (.int due), some (.int side), ring, seen, over]
theorem law_end {Q : VK3} (q : ∀ μ', Q (.bl true) μ') {ns : List Int} {z : Addr} {wide high step at' level due side : Int} {ring seen : Option D} (w0 : 0 < wide) (w1 : wide ≤ 10000000000000000000) (h0 : 0 < high) (h1 : high ≤ 10000000000000000000) (μ : Mu) :
    t_law_r15 spIsRow spTState spTake spBoxOf spDo (D0 Q) (R17 ns z wide high step at' level due side ring seen none) μ := by
  refine ⟨(show 2 ≤ sizeLine by decide), (show 2 ≤ sizeLine by decide), (show 3 ≤ sizeLine by decide), (show 1 ≤ sizeLine by decide), ?_⟩
  refine ⟨[.times high (ovW wide)], rfl, wd_ov w0 w1 h0 h1, fun μ1 x1 => ⟨(show 4 ≤ sizeLine by decide), some (0, 0, wide, 0), by rw [box_over w0 h0]; rfl, fun μ2 x2 => ?_⟩⟩
  obtain ⟨k, hk, o⟩ := OW_over (at' := at') w0 (show wide ≤ G by unfold G; omega) h0
  refine ⟨(show 3 ≤ sizeLine by decide), [.times high (ovW wide)], (at', 0, 0), _, k, rfl, wd_ov w0 w1 h0 h1, .inl rfl, o, by omega, fun μ3 x3 => ?_⟩
  simp only [Pv.seq3, Pv.next3, Pv.never3, Pv.brk3, Pv.cnt3, Pv.drop3, Pv.ret3, Pv.retN3, Pv.ifs3, Pv.gn3, Pv.gnil3, Pv.gcons3, Pv.gtup3, Pv.set3, Pv.asg3, Pv.par3, Pv.sub3, Pv.for3, Pv.is3, Pv.ir3, Pv.ir23, Pv.v3, Pv.c3, Pv.o3, Pv.un3, Pv.b3, Pv.and3, Pv.or3, Pv.not3, Pv.andV3, Pv.orV3, Pv.notV3, Pv.if3, Pv.nil3, Pv.cons3, Pv.tup3, Pv.lst3, Pv.call3, Pv.mt3, Pv.comp3, Pv.tt3, Pv.getI, List.set_cons_zero, List.set_cons_succ, Pv.int2, Pv.int20, Pv.subR, Pv.mulR, Pv.intR, Pv.sl3, Pv.np3, Pv.pt3, Pv.slR, Pv.modR, Pv.fdivR, Pv.powR, Pv.ltR, Pv.leR, Pv.gtR, Pv.geR, Pv.negR, Pv.addR, Pv.eqR_ii, Pv.eqR_ss, Pv.eqR_bb, Pv.eqR_is, Pv.neR_ii, Pv.neR_ss, Pv.neR_bb, Pv.inR, Pv.ixR, Pv.lenR, Pv.absR, Pv.tupR, Pv.sumR, Pv.tyN, Pv.isIn, Pv.isiR, Pv.appR, Pv.extR, Pv.smt3, Pv.joinR, Pv.splitR, Pv.startsR, Pv.pop3, Pv.lrev3, Pv.strR, Pv.start3, List.map_cons, List.map_nil, List.cons_append, List.nil_append, List.length_cons, List.length_nil, List.replicate, Pv.atI0, Pv.atI1, Pv.atI2, Nat.reduceAdd, Nat.reduceSub, Nat.zero_add, reduceIte, Pv.strs?, Bool.not_true, Bool.not_false, Bool.false_eq_true, if_false, if_true, decide_eq_true_eq, Bool.not_eq_true', decide_eq_false_iff_not, Pv.ixN0, Pv.ixN1, Pv.ixN2, true_and, and_true, Pv.cst0, Pv.cst1, Pv.cst2, Pv.cst3, Int.reduceEq, Option.bind_none, Option.bind_some, Pv.kn_go_jump, Pv.kn_go_turn, Pv.kn_go_times, Pv.kn_jump_go, Pv.kn_jump_turn, Pv.kn_jump_times, Pv.kn_turn_go, Pv.kn_turn_jump, Pv.kn_turn_times, Pv.kn_times_go, Pv.kn_times_jump, Pv.kn_times_turn, Pv.kp_go, Pv.kp_jump, Pv.kp_turn, Pv.kp_times, Pv.kz_go, Pv.kz_jump, Pv.kz_turn, Pv.kz_times, ch3]
  by_cases c1 : 0 ≤ at'
  · by_cases c2 : at' < wide
    · simp [c1, c2, intR, mulR, eqR, eqS, CMul, q]
    · simp [c1, c2, intR, mulR, eqR, eqS, CMul, q]
  · simp [c1, intR, mulR, eqR, eqS, CMul, q]
noncomputable def fRing (high : Int) : D → D
  | .tup [.int x, .int y, .int w] => .int ((high - (if w = 0 then (if y = 0 then 0 else 2) else (if x = 0 then 3 else 1)) + 3) / 4)
  | d => d
noncomputable def gRing (high : Int) : D → D
  | .int k => .int ((high - k + 3) / 4)
  | d => d
theorem law_ring {Q : VK3} (q : ∀ μ', Q (.bl true) μ') {ns : List Int} {z : Addr} {wide high step at' level due side : Int} (w0 : 0 < wide) (w1 : wide ≤ 10000000000000000000) (h0 : 0 < high) (h1 : high ≤ 10000000000000000000) (s0 : 0 < side) (s1 : side ≤ 1000000000) (μ : Mu) :
    t_law_r12 spIsRow spTState spTake spBoxOf spDo (D0 Q) (R17 ns z wide high step at' level due side none none none) μ := by
  refine ⟨(show 2 ≤ sizeLine by decide), (show 2 ≤ sizeLine by decide), (show 2 ≤ sizeLine by decide), (show 3 ≤ sizeLine by decide), (show 1 ≤ sizeLine by decide), ?_⟩
  refine ⟨(show 3 ≤ sizeLine by decide), (show 3 ≤ sizeLine by decide), (show 3 ≤ sizeLine by decide), (show 3 ≤ sizeLine by decide), (show 4 ≤ sizeLine by decide), fun e he => ?_⟩
  have hw := wd_rg s0 s1 h0 h1
  conv => whnf
  rw [updM_same]
  intro f1 hf1
  refine comp_map (rest := [some (.tup (encs [.times high (rgW side)]))]) (fRing high) hf1 (show 4 ≤ sizeLine by decide) (fun μ' x => x _ _ updM_same) ?_ ?_
  · intro x hx μ' R ex k
    simp only [List.mem_cons, List.not_mem_nil, or_false] at hx
    rcases hx with rfl | rfl | rfl | rfl
    · obtain ⟨m, hm, o⟩ := ring0 s0 s1 h0
      exact ⟨[.times high (rgW side)], (0, 0, 0), _, m, rfl, hw, .inl rfl, o, by omega, k⟩
    · obtain ⟨m, hm, o⟩ := ring1 s0 s1 h0
      have hs0 : ¬ side = 0 := by omega
      have e1 : fRing high (.tup [.int side, .int 0, .int 1]) = .int ((high - 1 + 3) / 4) := by simp [fRing, hs0]
      exact ⟨[.times high (rgW side)], (side, 0, 1), _, m, rfl, hw, .inr rfl, o, by omega, fun μ2 x2 => by have z := k μ2 x2; rw [e1] at z; exact z⟩
    · obtain ⟨m, hm, o⟩ := ring2 s0 s1 h0
      have hs0 : ¬ side = 0 := by omega
      have e1 : fRing high (.tup [.int (side - 1), .int side, .int 0]) = .int ((high - 2 + 3) / 4) := by simp [fRing, hs0]
      exact ⟨[.times high (rgW side)], (side - 1, side, 0), _, m, rfl, hw, .inl rfl, o, by omega, fun μ2 x2 => by have z := k μ2 x2; rw [e1] at z; exact z⟩
    · obtain ⟨m, hm, o⟩ := ring3 s0 s1 h0
      exact ⟨[.times high (rgW side)], (0, side - 1, 1), _, m, rfl, hw, .inr rfl, o, by omega, k⟩
  · intro μ1 x1 y1
    refine ⟨⟨by decide, by decide⟩, fun f2 hf2 => ?_⟩
    refine comp_map (rest := [some (.int high)]) (gRing high) hf2 (show 4 ≤ sizeLine by decide) (fun _ _ => trivial) ?_ ?_
    · intro x hx μ' R ex k
      obtain ⟨i, _, rfl⟩ := List.mem_map.mp hx
      exact ⟨⟨by decide, by decide⟩, k _ (Ext.refl _)⟩
    · intro μ2 x2 y2
      have y3 := x2 _ _ y1
      show neR (.ref f1) (.ref f2) μ2 _
      have e1 : [D.tup [.int 0, .int 0, .int 0], .tup [.int side, .int 0, .int 1], .tup [.int (side - 1), .int side, .int 0], .tup [.int 0, .int (side - 1), .int 1]].map (fRing high) = [.int ((high - 0 + 3) / 4), .int ((high - 1 + 3) / 4), .int ((high - 2 + 3) / 4), .int ((high - 3 + 3) / 4)] := by
        have hs0 : ¬ side = 0 := by omega
        simp [fRing, hs0]
      have e2 : (rngD 0 (4 : Int).toNat).map (gRing high) = [.int ((high - 0 + 3) / 4), .int ((high - 1 + 3) / 4), .int ((high - 2 + 3) / 4), .int ((high - 3 + 3) / 4)] := rfl
      have z1 : datM μ2 (.ref f1) = some (.list [.int ((high - 0 + 3) / 4), .int ((high - 1 + 3) / 4), .int ((high - 2 + 3) / 4), .int ((high - 3 + 3) / 4)]) := by
        simp only [datM, y3]
        show (match dats ([D.tup [.int 0, .int 0, .int 0], .tup [.int side, .int 0, .int 1], .tup [.int (side - 1), .int side, .int 0], .tup [.int 0, .int (side - 1), .int 1]].map (fRing high)) with | some ps => some (PyData.list ps) | none => none) = _
        rw [e1]
        rfl
      have z2 : datM μ2 (.ref f2) = some (.list [.int ((high - 0 + 3) / 4), .int ((high - 1 + 3) / 4), .int ((high - 2 + 3) / 4), .int ((high - 3 + 3) / 4)]) := by
        simp only [datM, y2]
        rfl
      rw [neR_dat rfl z1 z2 (by simp [PyData.depth, PyData.depthAll]) (by simp [PyData.depth, PyData.depthAll])]
      rw [show PyData.eqv (.list [.int ((high - 0 + 3) / 4), .int ((high - 1 + 3) / 4), .int ((high - 2 + 3) / 4), .int ((high - 3 + 3) / 4)]) (.list [.int ((high - 0 + 3) / 4), .int ((high - 1 + 3) / 4), .int ((high - 2 + 3) / 4), .int ((high - 3 + 3) / 4)]) = true by simp [PyData.eqv, PyData.eqvAll]]
      exact law_end q w0 w1 h0 h1 μ2
theorem law_side {Q : VK3} (q : ∀ μ', Q (.bl true) μ') {ns : List Int} {z : Addr} {wide high step at' level due a b : Int} (w0 : 0 < wide) (w1 : wide ≤ 10000000000000000000) (h0 : 0 < high) (h1 : high ≤ 10000000000000000000) (μ2 : Mu) (m2 : μ2 z = some (.lst [.int a, .int b])) (ha : 0 ≤ a) :
    t_law_r11 spIsRow spTState spTake spBoxOf spDo (D0 Q) [some (.fls (ns.map D.int)), some (.ref z), some (.int wide), some (.int high), some (.int step), some (enc (rowW wide)), some (.tup (encs [.times high (upW wide step)])), some (.int at'), some (.int level), some (.int due), none, none, none, none] μ2 := by
  refine ⟨⟨by decide, by decide, by decide⟩, (show 2 ≤ sizeLine by decide), fun p hp => ?_⟩
  have hzp : z ≠ p := ne_free m2 hp
  refine ⟨z, 2, a, b, rfl, by decide, by decide, by rw [updM_ne hzp]; exact m2, ha, fun i a1 b1 i0 i1 a1n => ?_⟩
  obtain ⟨dv, hd, e5⟩ := atI_in (l := ([D.int 3, D.int ((10 : Int) ^ (9 : Int).toNat)] : List D)) (i := i) i0 (by simp only [List.length_cons, List.length_nil]; omega)
  have hX : ∃ X : Int, dv = .int X ∧ 0 < X ∧ X ≤ 1000000000 := by
    simp only [List.mem_cons, List.not_mem_nil, or_false] at hd
    rcases hd with rfl | rfl <;> exact ⟨_, rfl, by decide, by decide⟩
  obtain ⟨X, rfl, x0, x1'⟩ := hX
  refine ix_ref (by rw [updM_ne (Ne.symm hzp), updM_same]) e5 ?_
  refine ⟨z, X, a1, b1, rfl, x0, by omega, updM_same, a1n, fun y a2 b2 y0 y1 a2n => ?_⟩
  exact law_ring q w0 w1 h0 h1 (side := 1 + y) (by omega) (by omega) _
theorem law_tail {Q : VK3} (q : ∀ μ', Q (.bl true) μ') {ns : List Int} {z : Addr} {wide high step at' level a b : Int} (w0 : 0 < wide) (w1 : wide ≤ 10000000000000000000) (h0 : 0 < high) (h1 : high ≤ 10000000000000000000) (s0 : 0 < step) (s1 : step ≤ 5) (μ : Mu) (hm : μ z = some (.lst [.int a, .int b])) (ha : 0 ≤ a) (due : Int) (hd : due = if 0 ≤ at' ∧ at' < wide ∧ 0 ≤ level ∧ level < high then 1 else 0) :
    t_law_r10 spIsRow spTState spTake spBoxOf spDo (D0 Q) [some (.fls (ns.map D.int)), some (.ref z), some (.int wide), some (.int high), some (.int step), some (enc (rowW wide)), some (.tup (encs [.times high (upW wide step)])), some (.int at'), some (.int level), some (.int due), none, none, none, none] μ := by
  have hw := wd_up w0 w1 h0 h1 s0 s1
  have cm : CMul level step := .inl (.inr ⟨by omega, by omega⟩)
  obtain ⟨k, hk, o⟩ := OW_deeds (at' := at') (level := level) w0 (show wide ≤ G by unfold G; omega) (show high ≤ G by unfold G; omega) s0 s1
  rw [← hd] at o
  have h01 : due = 1 ∨ due = 0 := by rw [hd]; split <;> omega
  clear hd
  refine ⟨cm, (show 3 ≤ sizeLine by decide), [.times high (upW wide step)], (at', level * step, 0), _, k, rfl, hw, .inl rfl, o, by omega, fun μ1 x1 => ?_⟩
  rcases h01 with rfl | rfl
  · refine ⟨cm, (show 3 ≤ sizeLine by decide), [.times high (upW wide step)], (at', level * step, 1), 0, 0, rfl, hw, .inr rfl, OW_deeds1 w0 s0 s1, by omega, fun μ2 x2 => ?_⟩
    exact law_side q w0 w1 h0 h1 μ2 (x2 _ _ (x1 _ _ hm)) ha
  · refine ⟨cm, (show 3 ≤ sizeLine by decide), [.times high (upW wide step)], (at', level * step, 1), 0, 0, rfl, hw, .inr rfl, OW_deeds1 w0 s0 s1, by omega, fun μ2 x2 => ?_⟩
    exact law_side q w0 w1 h0 h1 μ2 (x2 _ _ (x1 _ _ hm)) ha
theorem at_int {l : List D} (h : ∀ d ∈ l, ∃ i : Int, d = .int i) {i : Int} (h0 : 0 ≤ i) (h1 : i < l.length) : ∃ x : Int, atI l i = some (.int x) := by
  obtain ⟨dv, hd, e⟩ := atI_in h0 h1
  obtain ⟨x, rfl⟩ := h dv hd
  exact ⟨x, e⟩
theorem five_int {a b c d e : Int} : ∀ x ∈ ([D.int a, .int b, .int c, .int d, .int e] : List D), ∃ i : Int, x = .int i := by
  intro x hx
  simp only [List.mem_cons, List.not_mem_nil, or_false] at hx
  rcases hx with rfl | rfl | rfl | rfl | rfl <;> exact ⟨_, rfl⟩
theorem rd_law (ds : List D) (μ : Mu) (Q : VK3) (h : spLaw ds μ Q) : t_law spIsRow spTState spTake spBoxOf spDo { nx := fun _ μ' => Q .non μ', rt := Q } (start3 N_law ds) μ := by
  obtain ⟨ns, rfl, hl, q⟩ := h
  refine ⟨ns, 0, rfl, by decide, fun a b z ha hz => ?_⟩
  refine pick updM_same ha fun wide a1 b1 μ1 w0 w1 a1n x1 m1 => ?_
  refine pick m1 a1n fun high a2 b2 μ2 h0 h1 a2n x2 m2 => ?_
  refine ⟨z, 4, a2, b2, rfl, by decide, by decide, m2, a2n, fun r a3 b3 r0 r1 a3n => ?_⟩
  have s0 : 0 < 1 + r := by omega
  have s1 : 1 + r ≤ 5 := by omega
  refine ⟨(show 2 ≤ sizeLine by decide), (show 1 ≤ sizeLine by decide), (show 3 ≤ sizeLine by decide), ?_⟩
  refine ⟨(show 2 ≤ sizeLine by decide), (show 2 ≤ sizeLine by decide), (show 2 ≤ sizeLine by decide), (show 2 ≤ sizeLine by decide), (show 5 ≤ sizeLine by decide), (show 3 ≤ sizeLine by decide), (show 1 ≤ sizeLine by decide), ?_⟩
  refine ⟨[.times high (upW wide (1 + r))], rfl, wd_up w0 w1 h0 h1 s0 s1, fun μ4 x4 => ⟨.inl (.inr ⟨by omega, by omega⟩), (show 4 ≤ sizeLine by decide), some (0, 0, wide, (high - 1) * (1 + r)), by rw [box_deeds w0 h0 s0]; rfl, fun μ5 x5 => ?_⟩⟩
  have m5 : μ5 z = some (.lst [.int a3, .int b3]) := x5 _ _ (x4 _ _ updM_same)
  refine ⟨⟨by decide, by decide⟩, (show 5 ≤ sizeLine by decide), fun p hp => ?_⟩
  have hzp : z ≠ p := ne_free m5 hp
  refine ⟨z, 5, a3, b3, rfl, by decide, by decide, by rw [updM_ne hzp]; exact m5, a3n, fun i a4 b4 i0 i1 a4n => ?_⟩
  obtain ⟨at', e5⟩ := at_int (l := [D.int 0, .int (wide - 1), .int wide, .int (-1), .int (wide / 2)]) five_int i0 (by simp only [List.length_cons, List.length_nil]; omega)
  refine ix_ref (by rw [updM_ne (Ne.symm hzp), updM_same]) e5 ?_
  refine ⟨⟨by decide, by decide⟩, (show 5 ≤ sizeLine by decide), fun p2 hp2 => ?_⟩
  have hzp2 : z ≠ p2 := ne_free updM_same hp2
  refine ⟨z, 5, a4, b4, rfl, by decide, by decide, by rw [updM_ne hzp2]; exact updM_same, a4n, fun j a5 b5 j0 j1 a5n => ?_⟩
  obtain ⟨level, e6⟩ := at_int (l := [D.int 0, .int (high - 1), .int high, .int (-1), .int (high / 2)]) five_int j0 (by simp only [List.length_cons, List.length_nil]; omega)
  refine ix_ref (by rw [updM_ne (Ne.symm hzp2), updM_same]) e6 ?_
  have tail := fun due hd => law_tail q (ns := ns) (z := z) (at' := at') (level := level) w0 w1 h0 h1 s0 s1 (updM (updM (updM (updM μ5 p (.lst [D.int 0, .int (wide - 1), .int wide, .int (-1), .int (wide / 2)])) z (.lst [.int a4, .int b4])) p2 (.lst [D.int 0, .int (high - 1), .int high, .int (-1), .int (high / 2)])) z (.lst [.int a5, .int b5])) updM_same a5n due hd
  show t_law_r9 spIsRow spTState spTake spBoxOf spDo (D0 Q) [some (.fls (ns.map D.int)), some (.ref z), some (.int wide), some (.int high), some (.int (1 + r)), some (enc (rowW wide)), some (.tup (encs [.times high (upW wide (1 + r))])), some (.int at'), some (.int level), none, none, none, none, none] _
  simp only [Pv.seq3, Pv.next3, Pv.never3, Pv.brk3, Pv.cnt3, Pv.drop3, Pv.ret3, Pv.retN3, Pv.ifs3, Pv.gn3, Pv.gnil3, Pv.gcons3, Pv.gtup3, Pv.set3, Pv.asg3, Pv.par3, Pv.sub3, Pv.for3, Pv.is3, Pv.ir3, Pv.ir23, Pv.v3, Pv.c3, Pv.o3, Pv.un3, Pv.b3, Pv.and3, Pv.or3, Pv.not3, Pv.andV3, Pv.orV3, Pv.notV3, Pv.if3, Pv.nil3, Pv.cons3, Pv.tup3, Pv.lst3, Pv.call3, Pv.mt3, Pv.comp3, Pv.tt3, Pv.getI, List.set_cons_zero, List.set_cons_succ, Pv.int2, Pv.int20, Pv.subR, Pv.mulR, Pv.intR, Pv.sl3, Pv.np3, Pv.pt3, Pv.slR, Pv.modR, Pv.fdivR, Pv.powR, Pv.ltR, Pv.leR, Pv.gtR, Pv.geR, Pv.negR, Pv.addR, Pv.eqR_ii, Pv.eqR_ss, Pv.eqR_bb, Pv.eqR_is, Pv.neR_ii, Pv.neR_ss, Pv.neR_bb, Pv.inR, Pv.ixR, Pv.lenR, Pv.absR, Pv.tupR, Pv.sumR, Pv.tyN, Pv.isIn, Pv.isiR, Pv.appR, Pv.extR, Pv.smt3, Pv.joinR, Pv.splitR, Pv.startsR, Pv.pop3, Pv.lrev3, Pv.strR, Pv.start3, List.map_cons, List.map_nil, List.cons_append, List.nil_append, List.length_cons, List.length_nil, List.replicate, Pv.atI0, Pv.atI1, Pv.atI2, Nat.reduceAdd, Nat.reduceSub, Nat.zero_add, reduceIte, Pv.strs?, Bool.not_true, Bool.not_false, Bool.false_eq_true, if_false, if_true, decide_eq_true_eq, Bool.not_eq_true', decide_eq_false_iff_not, Pv.ixN0, Pv.ixN1, Pv.ixN2, true_and, and_true, Pv.cst0, Pv.cst1, Pv.cst2, Pv.cst3, Int.reduceEq, Option.bind_none, Option.bind_some, Pv.kn_go_jump, Pv.kn_go_turn, Pv.kn_go_times, Pv.kn_jump_go, Pv.kn_jump_turn, Pv.kn_jump_times, Pv.kn_turn_go, Pv.kn_turn_jump, Pv.kn_turn_times, Pv.kn_times_go, Pv.kn_times_jump, Pv.kn_times_turn, Pv.kp_go, Pv.kp_jump, Pv.kp_turn, Pv.kp_times, Pv.kz_go, Pv.kz_jump, Pv.kz_turn, Pv.kz_times, t_law_r9, ch3]
  by_cases c1 : 0 ≤ at'
  · by_cases c2 : at' < wide
    · by_cases c3 : 0 ≤ level
      · by_cases c4 : level < high
        · simp only [c1, c2, c3, c4, decide_true, if_true]
          exact tail _ (by simp [c1, c2, c3, c4])
        · simp only [c1, c2, c3, c4, decide_true, decide_false, if_true]
          exact tail _ (by simp [c1, c2, c3, c4])
      · simp only [c1, c2, c3, decide_true, decide_false, if_true]
        exact tail _ (by simp [c1, c2, c3])
    · simp only [c1, c2, decide_true, decide_false, if_true]
      exact tail _ (by simp [c1, c2])
  · simp only [c1, decide_false]
    exact tail _ (by simp [c1])
end Pv

namespace Pv
open PySem PySem.Spec PyProof.Rows L2
noncomputable def top (i : Nat) : Stmt := PySem.Challenge.pw_penwright_k42_whole_times_within_times.main.body.getD i (.Pass ⟨0, 0, 0, 0⟩)
noncomputable def mth (i j : Nat) : Stmt := match top i with
  | .ClassDef _ _ _ b _ _ _ _ _ _ _ => b.getD j (.Pass ⟨0, 0, 0, 0⟩)
  | _ => .Pass ⟨0, 0, 0, 0⟩
section
variable {P : Program} {w : World} {K : Fg} {mg : Str → Option Value} {base : Heap}
noncomputable abbrev s_check_word : Stmt := top 13
theorem sc_check_word : FnScope N_check_word ["word"] (defScope s_check_word) := ⟨rfl, rfl, rfl, by decide +kernel, rfl, by decide +kernel, by decide +kernel⟩
theorem rs_check_word {k : Nat} {f : Addr} {cdv : Value} {A : Around} {outer : List Env} {s : Shared} {H : Hp} {E : XK} {sp_checked_count : Sp3} {k_checked_count : Nat} (c_checked_count : Cal P w K mg base k_checked_count "checked_count" ["word", "depth"] sp_checked_count) (l_checked_count : k_checked_count ≤ k) (hr : Room k (A.deeper (envOfC "check_word" (defScope s_check_word) s.heap.objs.size f cdv))) :
    RSs (cxOf CX0 P w K mg base N_check_word "check_word" (defScope s_check_word) f cdv A outer s H E).nox (defBody s_check_word) (t_check_word sp_checked_count) :=
  (rss_one (rs_expr (re_call (c_checked_count.mono l_checked_count) hr (ra_cons (re_var 0) (ra_cons re_int ra_nil)))))
noncomputable abbrev s_checked_count : Stmt := top 14
theorem sc_checked_count : FnScope N_checked_count ["word", "depth"] (defScope s_checked_count) := ⟨rfl, rfl, rfl, by decide +kernel, rfl, by decide +kernel, by decide +kernel⟩
theorem rs_checked_count {k : Nat} {f : Addr} {cdv : Value} {A : Around} {outer : List Env} {s : Shared} {H : Hp} {E : XK} {sp_checked_deed_count : Sp3} {k_checked_deed_count : Nat} (c_checked_deed_count : Cal P w K mg base k_checked_deed_count "checked_deed_count" ["deed", "depth"] sp_checked_deed_count) (l_checked_deed_count : k_checked_deed_count ≤ k) (z_isinstance : mg "isinstance" = none) (z_tuple : mg "tuple" = none) (g_MOST_DEEDS : Gd K mg "MOST_DEEDS" k_MOST_DEEDS) (g_MOST_DEEP : Gd K mg "MOST_DEEP" k_MOST_DEEP) (hr : Room k (A.deeper (envOfC "checked_count" (defScope s_checked_count) s.heap.objs.size f cdv))) :
    RSs (cxOf CX0 P w K mg base N_checked_count "checked_count" (defScope s_checked_count) f cdv A outer s H E).nox (defBody s_checked_count) (t_checked_count sp_checked_deed_count) :=
  (rss_cons (rs_if (rt_not (rt_val (re_callB q_isi z_isinstance bz_isinstance (ra_cons (re_var 0) (ra_cons (re_ty z_tuple bz_tuple) ra_nil))))) (rss_one rs_never) rss_nil) (rss_cons (rs_if (rt_cmp q_gt (re_var 1) (re_g g_MOST_DEEP)) (rss_one rs_never) rss_nil) (rss_cons (rs_set (i := 2) sc_checked_count.nd re_int) (rss_cons (rs_for PassesOwn.never rfl (ri_seq (re_var 0)) (rg_name (i := 3) sc_checked_count.nd) (rss_cons (rs_set (i := 2) sc_checked_count.nd (re_op q_add (re_var 2) (re_call (c_checked_deed_count.mono l_checked_deed_count) hr (ra_cons (re_var 3) (ra_cons (re_var 1) ra_nil))))) (rss_one (rs_if (rt_cmp q_gt (re_var 2) (re_g g_MOST_DEEDS)) (rss_one rs_never) rss_nil)))) (rss_one (rs_ret (re_var 2)))))))
noncomputable abbrev s_checked_deed_count : Stmt := top 15
theorem sc_checked_deed_count : FnScope N_checked_deed_count ["deed", "depth"] (defScope s_checked_deed_count) := ⟨rfl, rfl, rfl, by decide +kernel, rfl, by decide +kernel, by decide +kernel⟩
theorem rs_checked_deed_count {k : Nat} {f : Addr} {cdv : Value} {A : Around} {outer : List Env} {s : Shared} {H : Hp} {E : XK} {sp_check_number : Sp3} {k_check_number : Nat} (c_check_number : Cal P w K mg base k_check_number "check_number" ["kind", "number"] sp_check_number) (l_check_number : k_check_number ≤ k) {sp_checked_count : Sp3} {k_checked_count : Nat} (c_checked_count : Cal P w K mg base k_checked_count "checked_count" ["word", "depth"] sp_checked_count) (l_checked_count : k_checked_count ≤ k) (z_isinstance : mg "isinstance" = none) (z_len : mg "len" = none) (z_tuple : mg "tuple" = none) (g_PLAIN_KINDS : Gd K mg "PLAIN_KINDS" k_PLAIN_KINDS) (hr : Room k (A.deeper (envOfC "checked_deed_count" (defScope s_checked_deed_count) s.heap.objs.size f cdv))) :
    RSs (cxOf CX0 P w K mg base N_checked_deed_count "checked_deed_count" (defScope s_checked_deed_count) f cdv A outer s H E).nox (defBody s_checked_deed_count) (t_checked_deed_count sp_check_number sp_checked_count) :=
  (rss_cons (rs_if (rt_not (rt_val (re_callB q_isi z_isinstance bz_isinstance (ra_cons (re_var 0) (ra_cons (re_ty z_tuple bz_tuple) ra_nil))))) (rss_one rs_never) rss_nil) (rss_cons (rs_if (rw_pt (rw_and (rt_cmp (q_eq (hu64 hr)) (re_callB q_len z_len bz_len (ra_cons (re_var 0) ra_nil)) re_int) (rw_and1 (rt_cmp (q_in (hu65 hr)) (re_ix q_ix (re_var 0) re_int) (re_g g_PLAIN_KINDS))))) (rss_cons (rs_expr (re_call (c_check_number.mono l_check_number) hr (ra_cons (re_ix q_ix (re_var 0) re_int) (ra_cons (re_ix q_ix (re_var 0) re_int) ra_nil)))) (rss_one (rs_ret re_int))) rss_nil) (rss_cons (rs_if (rw_pt (rw_and (rt_cmp (q_eq (hu64 hr)) (re_callB q_len z_len bz_len (ra_cons (re_var 0) ra_nil)) re_int) (rw_and1 (rt_cmp (q_eq (hu64 hr)) (re_ix q_ix (re_var 0) re_int) re_str)))) (rss_cons (rs_expr (re_call (c_check_number.mono l_check_number) hr (ra_cons (re_ix q_ix (re_var 0) re_int) (ra_cons (re_ix q_ix (re_var 0) re_int) ra_nil)))) (rss_one (rs_ret (re_op q_add re_int (re_call (c_checked_count.mono l_checked_count) hr (ra_cons (re_ix q_ix (re_var 0) re_int) (ra_cons (re_op q_add (re_var 1) re_int) ra_nil))))))) rss_nil) (rss_one rs_never))))
noncomputable abbrev s_check_number : Stmt := top 16
theorem sc_check_number : FnScope N_check_number ["kind", "number"] (defScope s_check_number) := ⟨rfl, rfl, rfl, by decide +kernel, rfl, by decide +kernel, by decide +kernel⟩
theorem rs_check_number {k : Nat} {f : Addr} {cdv : Value} {A : Around} {outer : List Env} {s : Shared} {H : Hp} {E : XK} (z_abs : mg "abs" = none) (z_int : mg "int" = none) (z_isinstance : mg "isinstance" = none) (g_GREATEST_NUMBER : Gd K mg "GREATEST_NUMBER" k_GREATEST_NUMBER) (g_KINDS_FROM_NOUGHT : Gd K mg "KINDS_FROM_NOUGHT" k_KINDS_FROM_NOUGHT) (hr : Room k (A.deeper (envOfC "check_number" (defScope s_check_number) s.heap.objs.size f cdv))) :
    RSs (cxOf CX0 P w K mg base N_check_number "check_number" (defScope s_check_number) f cdv A outer s H E).nox (defBody s_check_number) (t_check_number) :=
  (rss_cons (rs_if (rt_not (rt_val (re_callB q_isi z_isinstance bz_isinstance (ra_cons (re_var 1) (ra_cons (re_ty z_int bz_int) ra_nil))))) (rss_one rs_never) rss_nil) (rss_cons (rs_if (rt_cmp q_gt (re_callB q_abs z_abs bz_abs (ra_cons (re_var 1) ra_nil)) (re_g g_GREATEST_NUMBER)) (rss_one rs_never) rss_nil) (rss_one (rs_if (rw_pt (rw_and (rt_cmp q_lt (re_var 1) re_int) (rw_and1 (rt_cmp (q_in (hu65 hr)) (re_var 0) (re_g g_KINDS_FROM_NOUGHT))))) (rss_one rs_never) rss_nil))))
noncomputable abbrev s_led : Stmt := top 17
theorem sc_led : FnScope N_led ["pen", "part"] (defScope s_led) := ⟨rfl, rfl, rfl, by decide +kernel, rfl, by decide +kernel, by decide +kernel⟩
theorem rs_led {k : Nat} {f : Addr} {cdv : Value} {A : Around} {outer : List Env} {s : Shared} {H : Hp} {E : XK} (g_AHEAD : Gd K mg "AHEAD" k_AHEAD) (hr : Room k (A.deeper (envOfC "led" (defScope s_led) s.heap.objs.size f cdv))) :
    RSs (cxOf CX0 P w K mg base N_led "led" (defScope s_led) f cdv A outer s H E).nox (defBody s_led) (t_led) :=
  (rss_cons (rs_set (i := 2) sc_led.nd (re_ix q_ix (re_g g_AHEAD) (re_ix q_ix (re_var 0) re_int))) (rss_cons (rs_set (i := 3) sc_led.nd (re_op q_sub (re_op q_add (re_ix q_ix (re_var 0) re_int) (re_op q_mul (re_ix q_ix (re_var 1) re_int) (re_ix q_ix (re_var 2) re_int))) (re_op q_mul (re_ix q_ix (re_var 1) re_int) (re_ix q_ix (re_var 2) re_int)))) (rss_cons (rs_set (i := 4) sc_led.nd (re_op q_add (re_op q_add (re_ix q_ix (re_var 0) re_int) (re_op q_mul (re_ix q_ix (re_var 1) re_int) (re_ix q_ix (re_var 2) re_int))) (re_op q_mul (re_ix q_ix (re_var 1) re_int) (re_ix q_ix (re_var 2) re_int)))) (rss_one (rs_ret (re_tup (ra_cons (re_var 3) (ra_cons (re_var 4) (ra_cons (re_op q_mod (re_op q_add (re_ix q_ix (re_var 0) re_int) (re_ix q_ix (re_var 1) re_int)) re_int) ra_nil)))))))))
noncomputable abbrev s_pen_behind : Stmt := top 18
theorem sc_pen_behind : FnScope N_pen_behind ["word"] (defScope s_pen_behind) := ⟨rfl, rfl, rfl, by decide +kernel, rfl, by decide +kernel, by decide +kernel⟩
theorem rs_pen_behind {k : Nat} {f : Addr} {cdv : Value} {A : Around} {outer : List Env} {s : Shared} {H : Hp} {E : XK} {sp_led : Sp3} {k_led : Nat} (c_led : Cal P w K mg base k_led "led" ["pen", "part"] sp_led) (l_led : k_led ≤ k) {sp_pen_behind_deed : Sp3} {k_pen_behind_deed : Nat} (c_pen_behind_deed : Cal P w K mg base k_pen_behind_deed "pen_behind_deed" ["deed"] sp_pen_behind_deed) (l_pen_behind_deed : k_pen_behind_deed ≤ k) (g_START : Gd K mg "START" k_START) (hr : Room k (A.deeper (envOfC "pen_behind" (defScope s_pen_behind) s.heap.objs.size f cdv))) :
    RSs (cxOf CX0 P w K mg base N_pen_behind "pen_behind" (defScope s_pen_behind) f cdv A outer s H E).nox (defBody s_pen_behind) (t_pen_behind sp_led sp_pen_behind_deed) :=
  (rss_cons (rs_set (i := 1) sc_pen_behind.nd (re_g g_START)) (rss_cons (rs_for PassesOwn.never rfl (ri_seq (re_var 0)) (rg_name (i := 2) sc_pen_behind.nd) (rss_one (rs_set (i := 1) sc_pen_behind.nd (re_call (c_led.mono l_led) hr (ra_cons (re_var 1) (ra_cons (re_call (c_pen_behind_deed.mono l_pen_behind_deed) hr (ra_cons (re_var 2) ra_nil)) ra_nil)))))) (rss_one (rs_ret (re_var 1)))))
noncomputable abbrev s_pen_behind_deed : Stmt := top 19
theorem sc_pen_behind_deed : FnScope N_pen_behind_deed ["deed"] (defScope s_pen_behind_deed) := ⟨rfl, rfl, rfl, by decide +kernel, rfl, by decide +kernel, by decide +kernel⟩
theorem rs_pen_behind_deed {k : Nat} {f : Addr} {cdv : Value} {A : Around} {outer : List Env} {s : Shared} {H : Hp} {E : XK} {sp_pen_behind : Sp3} {k_pen_behind : Nat} (c_pen_behind : Cal P w K mg base k_pen_behind "pen_behind" ["word"] sp_pen_behind) (l_pen_behind : k_pen_behind ≤ k) {sp_pen_repeated : Sp3} {k_pen_repeated : Nat} (c_pen_repeated : Cal P w K mg base k_pen_repeated "pen_repeated" ["part", "number"] sp_pen_repeated) (l_pen_repeated : k_pen_repeated ≤ k) (hr : Room k (A.deeper (envOfC "pen_behind_deed" (defScope s_pen_behind_deed) s.heap.objs.size f cdv))) :
    RSs (cxOf CX0 P w K mg base N_pen_behind_deed "pen_behind_deed" (defScope s_pen_behind_deed) f cdv A outer s H E).nox (defBody s_pen_behind_deed) (t_pen_behind_deed sp_pen_behind sp_pen_repeated) :=
  (rss_cons (rs_if (rt_cmp (q_eq (hu64 hr)) (re_ix q_ix (re_var 0) re_int) re_str) (rss_one (rs_ret (re_tup (ra_cons re_int (ra_cons re_int (ra_cons (re_op q_mod (re_ix q_ix (re_var 0) re_int) re_int) ra_nil)))))) rss_nil) (rss_cons (rs_if (rt_cmp (q_eq (hu64 hr)) (re_ix q_ix (re_var 0) re_int) re_str) (rss_one (rs_ret (re_call (c_pen_repeated.mono l_pen_repeated) hr (ra_cons (re_call (c_pen_behind.mono l_pen_behind) hr (ra_cons (re_ix q_ix (re_var 0) re_int) ra_nil)) (ra_cons (re_ix q_ix (re_var 0) re_int) ra_nil))))) rss_nil) (rss_one (rs_ret (re_tup (ra_cons (re_ix q_ix (re_var 0) re_int) (ra_cons re_int (ra_cons re_int ra_nil))))))))
noncomputable abbrev s_pen_repeated : Stmt := top 20
theorem sc_pen_repeated : FnScope N_pen_repeated ["part", "number"] (defScope s_pen_repeated) := ⟨rfl, rfl, rfl, by decide +kernel, rfl, by decide +kernel, by decide +kernel⟩
theorem rs_pen_repeated {k : Nat} {f : Addr} {cdv : Value} {A : Around} {outer : List Env} {s : Shared} {H : Hp} {E : XK} {sp_led : Sp3} {k_led : Nat} (c_led : Cal P w K mg base k_led "led" ["pen", "part"] sp_led) (l_led : k_led ≤ k) (z_range : mg "range" = none) (g_START : Gd K mg "START" k_START) (hr : Room k (A.deeper (envOfC "pen_repeated" (defScope s_pen_repeated) s.heap.objs.size f cdv))) :
    RSs (cxOf CX0 P w K mg base N_pen_repeated "pen_repeated" (defScope s_pen_repeated) f cdv A outer s H E).nox (defBody s_pen_repeated) (t_pen_repeated sp_led) :=
  (rss_cons (rs_if (rt_cmp (q_eq (hu64 hr)) (re_ix q_ix (re_var 0) re_int) re_int) (rss_one (rs_ret (re_tup (ra_cons (re_op q_mul (re_ix q_ix (re_var 0) re_int) (re_var 1)) (ra_cons (re_op q_mul (re_ix q_ix (re_var 0) re_int) (re_var 1)) (ra_cons re_int ra_nil)))))) rss_nil) (rss_cons (rs_set (i := 2) sc_pen_repeated.nd (re_g g_START)) (rss_cons (rs_for PassesOwn.never rfl (ri_range1 z_range (re_op q_mod (re_var 1) re_int)) (rg_name (i := 3) sc_pen_repeated.nd) (rss_one (rs_set (i := 2) sc_pen_repeated.nd (re_call (c_led.mono l_led) hr (ra_cons (re_var 2) (ra_cons (re_var 0) ra_nil)))))) (rss_one (rs_ret (re_var 2))))))
noncomputable abbrev s_check_stroke : Stmt := top 23
theorem sc_check_stroke : FnScope N_check_stroke ["stroke"] (defScope s_check_stroke) := ⟨rfl, rfl, rfl, by decide +kernel, rfl, by decide +kernel, by decide +kernel⟩
theorem rs_check_stroke {k : Nat} {f : Addr} {cdv : Value} {A : Around} {outer : List Env} {s : Shared} {H : Hp} {E : XK} (z_len : mg "len" = none) (g_WAYS : Gd K mg "WAYS" k_WAYS) (hr : Room k (A.deeper (envOfC "check_stroke" (defScope s_check_stroke) s.heap.objs.size f cdv))) :
    RSs (cxOf CX0 P w K mg base N_check_stroke "check_stroke" (defScope s_check_stroke) f cdv A outer s H E).nox (defBody s_check_stroke) (t_check_stroke) :=
  (rss_one (rs_if (rw_pt (rw_or (rt_cmp (q_ne (hu64 hr)) (re_callB q_len z_len bz_len (ra_cons (re_var 0) ra_nil)) re_int) (rw_or1 (rt_cmp (q_notin (hu65 hr)) (re_ix q_ix (re_var 0) re_int) (re_g g_WAYS))))) (rss_one rs_never) rss_nil))
noncomputable abbrev s_ends_of : Stmt := top 24
theorem sc_ends_of : FnScope N_ends_of ["stroke"] (defScope s_ends_of) := ⟨rfl, rfl, rfl, by decide +kernel, rfl, by decide +kernel, by decide +kernel⟩
theorem rs_ends_of {k : Nat} {f : Addr} {cdv : Value} {A : Around} {outer : List Env} {s : Shared} {H : Hp} {E : XK} (hr : Room k (A.deeper (envOfC "ends_of" (defScope s_ends_of) s.heap.objs.size f cdv))) :
    RSs (cxOf CX0 P w K mg base N_ends_of "ends_of" (defScope s_ends_of) f cdv A outer s H E).nox (defBody s_ends_of) (t_ends_of) :=
  (rss_cons (rs_if (rt_cmp (q_eq (hu64 hr)) (re_ix q_ix (re_var 0) re_int) re_int) (rss_one (rs_ret (re_tup (ra_cons (re_tup (ra_cons (re_ix q_ix (re_var 0) re_int) (ra_cons (re_ix q_ix (re_var 0) re_int) ra_nil))) (ra_cons (re_tup (ra_cons (re_op q_add (re_ix q_ix (re_var 0) re_int) re_int) (ra_cons (re_ix q_ix (re_var 0) re_int) ra_nil))) ra_nil))))) rss_nil) (rss_one (rs_ret (re_tup (ra_cons (re_tup (ra_cons (re_ix q_ix (re_var 0) re_int) (ra_cons (re_ix q_ix (re_var 0) re_int) ra_nil))) (ra_cons (re_tup (ra_cons (re_ix q_ix (re_var 0) re_int) (ra_cons (re_op q_add (re_ix q_ix (re_var 0) re_int) re_int) ra_nil))) ra_nil))))))
noncomputable abbrev s_box_of : Stmt := top 27
theorem sc_box_of : FnScope N_box_of ["word"] (defScope s_box_of) := ⟨rfl, rfl, rfl, by decide +kernel, rfl, by decide +kernel, by decide +kernel⟩
theorem rs_box_of {k : Nat} {f : Addr} {cdv : Value} {A : Around} {outer : List Env} {s : Shared} {H : Hp} {E : XK} {sp_check_word : Sp3} {k_check_word : Nat} (c_check_word : Cal P w K mg base k_check_word "check_word" ["word"] sp_check_word) (l_check_word : k_check_word ≤ k) {sp_word_box : Sp3} {k_word_box : Nat} (c_word_box : Cal P w K mg base k_word_box "word_box" ["word"] sp_word_box) (l_word_box : k_word_box ≤ k) (hr : Room k (A.deeper (envOfC "box_of" (defScope s_box_of) s.heap.objs.size f cdv))) :
    RSs (cxOf CX0 P w K mg base N_box_of "box_of" (defScope s_box_of) f cdv A outer s H E).nox (defBody s_box_of) (t_box_of sp_check_word sp_word_box) :=
  (rss_cons (rs_expr (re_call (c_check_word.mono l_check_word) hr (ra_cons (re_var 0) ra_nil))) (rss_one (rs_ret (re_call (c_word_box.mono l_word_box) hr (ra_cons (re_var 0) ra_nil)))))
noncomputable abbrev s_word_box : Stmt := top 28
theorem sc_word_box : FnScope N_word_box ["word"] (defScope s_word_box) := ⟨rfl, rfl, rfl, by decide +kernel, rfl, by decide +kernel, by decide +kernel⟩
theorem rs_word_box {k : Nat} {f : Addr} {cdv : Value} {A : Around} {outer : List Env} {s : Shared} {H : Hp} {E : XK} {sp_box_from : Sp3} {k_box_from : Nat} (c_box_from : Cal P w K mg base k_box_from "box_from" ["pen", "box"] sp_box_from) (l_box_from : k_box_from ≤ k) {sp_box_round : Sp3} {k_box_round : Nat} (c_box_round : Cal P w K mg base k_box_round "box_round" ["one", "other"] sp_box_round) (l_box_round : k_box_round ≤ k) {sp_deed_box : Sp3} {k_deed_box : Nat} (c_deed_box : Cal P w K mg base k_deed_box "deed_box" ["deed"] sp_deed_box) (l_deed_box : k_deed_box ≤ k) {sp_led : Sp3} {k_led : Nat} (c_led : Cal P w K mg base k_led "led" ["pen", "part"] sp_led) (l_led : k_led ≤ k) {sp_pen_behind_deed : Sp3} {k_pen_behind_deed : Nat} (c_pen_behind_deed : Cal P w K mg base k_pen_behind_deed "pen_behind_deed" ["deed"] sp_pen_behind_deed) (l_pen_behind_deed : k_pen_behind_deed ≤ k) (g_START : Gd K mg "START" k_START) (hr : Room k (A.deeper (envOfC "word_box" (defScope s_word_box) s.heap.objs.size f cdv))) :
    RSs (cxOf CX0 P w K mg base N_word_box "word_box" (defScope s_word_box) f cdv A outer s H E).nox (defBody s_word_box) (t_word_box sp_box_from sp_box_round sp_deed_box sp_led sp_pen_behind_deed) :=
  (rss_cons (rs_set (i := 1) sc_word_box.nd re_non) (rss_cons (rs_set (i := 2) sc_word_box.nd (re_g g_START)) (rss_cons (rs_for PassesOwn.never rfl (ri_seq (re_var 0)) (rg_name (i := 3) sc_word_box.nd) (rss_cons (rs_set (i := 1) sc_word_box.nd (re_call (c_box_round.mono l_box_round) hr (ra_cons (re_var 1) (ra_cons (re_call (c_box_from.mono l_box_from) hr (ra_cons (re_var 2) (ra_cons (re_call (c_deed_box.mono l_deed_box) hr (ra_cons (re_var 3) ra_nil)) ra_nil))) ra_nil)))) (rss_one (rs_set (i := 2) sc_word_box.nd (re_call (c_led.mono l_led) hr (ra_cons (re_var 2) (ra_cons (re_call (c_pen_behind_deed.mono l_pen_behind_deed) hr (ra_cons (re_var 3) ra_nil)) ra_nil))))))) (rss_one (rs_ret (re_var 1))))))
noncomputable abbrev s_deed_box : Stmt := top 29
theorem sc_deed_box : FnScope N_deed_box ["deed"] (defScope s_deed_box) := ⟨rfl, rfl, rfl, by decide +kernel, rfl, by decide +kernel, by decide +kernel⟩
theorem rs_deed_box {k : Nat} {f : Addr} {cdv : Value} {A : Around} {outer : List Env} {s : Shared} {H : Hp} {E : XK} {sp_box_repeated : Sp3} {k_box_repeated : Nat} (c_box_repeated : Cal P w K mg base k_box_repeated "box_repeated" ["box", "part", "number"] sp_box_repeated) (l_box_repeated : k_box_repeated ≤ k) {sp_pen_behind : Sp3} {k_pen_behind : Nat} (c_pen_behind : Cal P w K mg base k_pen_behind "pen_behind" ["word"] sp_pen_behind) (l_pen_behind : k_pen_behind ≤ k) {sp_word_box : Sp3} {k_word_box : Nat} (c_word_box : Cal P w K mg base k_word_box "word_box" ["word"] sp_word_box) (l_word_box : k_word_box ≤ k) (hr : Room k (A.deeper (envOfC "deed_box" (defScope s_deed_box) s.heap.objs.size f cdv))) :
    RSs (cxOf CX0 P w K mg base N_deed_box "deed_box" (defScope s_deed_box) f cdv A outer s H E).nox (defBody s_deed_box) (t_deed_box sp_box_repeated sp_pen_behind sp_word_box) :=
  (rss_cons (rs_if (rt_cmp (q_eq (hu64 hr)) (re_ix q_ix (re_var 0) re_int) re_int) (rss_one (rs_ret re_non)) rss_nil) (rss_cons (rs_if (rt_cmp (q_eq (hu64 hr)) (re_ix q_ix (re_var 0) re_int) re_str) (rss_one (rs_ret (re_tup (ra_cons re_int (ra_cons re_int (ra_cons (re_ix q_ix (re_var 0) re_int) (ra_cons re_int ra_nil))))))) rss_nil) (rss_cons (rs_if (rt_cmp (q_eq (hu64 hr)) (re_ix q_ix (re_var 0) re_int) re_str) (rss_one (rs_ret (re_call (c_box_repeated.mono l_box_repeated) hr (ra_cons (re_call (c_word_box.mono l_word_box) hr (ra_cons (re_ix q_ix (re_var 0) re_int) ra_nil)) (ra_cons (re_call (c_pen_behind.mono l_pen_behind) hr (ra_cons (re_ix q_ix (re_var 0) re_int) ra_nil)) (ra_cons (re_ix q_ix (re_var 0) re_int) ra_nil)))))) rss_nil) (rss_one (rs_ret re_non)))))
noncomputable abbrev s_box_repeated : Stmt := top 30
theorem sc_box_repeated : FnScope N_box_repeated ["box", "part", "number"] (defScope s_box_repeated) := ⟨rfl, rfl, rfl, by decide +kernel, rfl, by decide +kernel, by decide +kernel⟩
theorem rs_box_repeated {k : Nat} {f : Addr} {cdv : Value} {A : Around} {outer : List Env} {s : Shared} {H : Hp} {E : XK} {sp_box_from : Sp3} {k_box_from : Nat} (c_box_from : Cal P w K mg base k_box_from "box_from" ["pen", "box"] sp_box_from) (l_box_from : k_box_from ≤ k) {sp_box_round : Sp3} {k_box_round : Nat} (c_box_round : Cal P w K mg base k_box_round "box_round" ["one", "other"] sp_box_round) (l_box_round : k_box_round ≤ k) {sp_outermost_doings : Sp3} {k_outermost_doings : Nat} (c_outermost_doings : Cal P w K mg base k_outermost_doings "outermost_doings" ["part", "number"] sp_outermost_doings) (l_outermost_doings : k_outermost_doings ≤ k) {sp_pen_repeated : Sp3} {k_pen_repeated : Nat} (c_pen_repeated : Cal P w K mg base k_pen_repeated "pen_repeated" ["part", "number"] sp_pen_repeated) (l_pen_repeated : k_pen_repeated ≤ k) (hr : Room k (A.deeper (envOfC "box_repeated" (defScope s_box_repeated) s.heap.objs.size f cdv))) :
    RSs (cxOf CX0 P w K mg base N_box_repeated "box_repeated" (defScope s_box_repeated) f cdv A outer s H E).nox (defBody s_box_repeated) (t_box_repeated sp_box_from sp_box_round sp_outermost_doings sp_pen_repeated) :=
  (rss_cons (rs_set (i := 3) sc_box_repeated.nd re_non) (rss_cons (rs_for PassesOwn.never rfl (ri_seq (re_call (c_outermost_doings.mono l_outermost_doings) hr (ra_cons (re_var 1) (ra_cons (re_var 2) ra_nil)))) (rg_name (i := 4) sc_box_repeated.nd) (rss_one (rs_set (i := 3) sc_box_repeated.nd (re_call (c_box_round.mono l_box_round) hr (ra_cons (re_var 3) (ra_cons (re_call (c_box_from.mono l_box_from) hr (ra_cons (re_call (c_pen_repeated.mono l_pen_repeated) hr (ra_cons (re_var 1) (ra_cons (re_var 4) ra_nil))) (ra_cons (re_var 0) ra_nil))) ra_nil)))))) (rss_one (rs_ret (re_var 3)))))
noncomputable abbrev s_outermost_doings : Stmt := top 31
theorem sc_outermost_doings : FnScope N_outermost_doings ["part", "number"] (defScope s_outermost_doings) := ⟨rfl, rfl, rfl, by decide +kernel, rfl, by decide +kernel, by decide +kernel⟩
theorem rs_outermost_doings {k : Nat} {f : Addr} {cdv : Value} {A : Around} {outer : List Env} {s : Shared} {H : Hp} {E : XK} (z_list : mg "list" = none) (z_min : mg "min" = none) (z_range : mg "range" = none) (hr : Room k (A.deeper (envOfC "outermost_doings" (defScope s_outermost_doings) s.heap.objs.size f cdv))) :
    RSs (cxOf CX0 P w K mg base N_outermost_doings "outermost_doings" (defScope s_outermost_doings) f cdv A outer s H E).nox (defBody s_outermost_doings) (t_outermost_doings) :=
  (rss_cons (rs_if (rt_cmp (q_eq (hu64 hr)) (re_ix q_ix (re_var 0) re_int) re_int) (rss_one (rs_ret (re_lst (ra_cons re_int (ra_cons (re_op q_sub (re_var 1) re_int) ra_nil))))) rss_nil) (rss_one (rs_ret (re_lrng (re_callB (q_min2 rfl) z_min bz_min (ra_cons (re_var 1) (ra_cons re_int ra_nil))) z_list z_range))))
noncomputable abbrev s_box_round : Stmt := top 32
theorem sc_box_round : FnScope N_box_round ["one", "other"] (defScope s_box_round) := ⟨rfl, rfl, rfl, by decide +kernel, rfl, by decide +kernel, by decide +kernel⟩
theorem rs_box_round {k : Nat} {f : Addr} {cdv : Value} {A : Around} {outer : List Env} {s : Shared} {H : Hp} {E : XK} (z_max : mg "max" = none) (z_min : mg "min" = none) (hr : Room k (A.deeper (envOfC "box_round" (defScope s_box_round) s.heap.objs.size f cdv))) :
    RSs (cxOf CX0 P w K mg base N_box_round "box_round" (defScope s_box_round) f cdv A outer s H E).nox (defBody s_box_round) (t_box_round) :=
  (rss_cons (rs_if (rt_cmp q_isN (re_var 0) re_non) (rss_one (rs_ret (re_var 1))) rss_nil) (rss_cons (rs_if (rt_cmp q_isN (re_var 1) re_non) (rss_one (rs_ret (re_var 0))) rss_nil) (rss_cons (rs_set (i := 2) sc_box_round.nd (re_tup (ra_cons (re_callB (q_min2 rfl) z_min bz_min (ra_cons (re_ix q_ix (re_var 0) re_int) (ra_cons (re_ix q_ix (re_var 1) re_int) ra_nil))) (ra_cons (re_callB (q_min2 rfl) z_min bz_min (ra_cons (re_ix q_ix (re_var 0) re_int) (ra_cons (re_ix q_ix (re_var 1) re_int) ra_nil))) ra_nil)))) (rss_one (rs_ret (re_op q_add (re_var 2) (re_tup (ra_cons (re_callB (q_max rfl) z_max bz_max (ra_cons (re_ix q_ix (re_var 0) re_int) (ra_cons (re_ix q_ix (re_var 1) re_int) ra_nil))) (ra_cons (re_callB (q_max rfl) z_max bz_max (ra_cons (re_ix q_ix (re_var 0) re_int) (ra_cons (re_ix q_ix (re_var 1) re_int) ra_nil))) ra_nil)))))))))
noncomputable abbrev s_box_from : Stmt := top 33
theorem sc_box_from : FnScope N_box_from ["pen", "box"] (defScope s_box_from) := ⟨rfl, rfl, rfl, by decide +kernel, rfl, by decide +kernel, by decide +kernel⟩
theorem rs_box_from {k : Nat} {f : Addr} {cdv : Value} {A : Around} {outer : List Env} {s : Shared} {H : Hp} {E : XK} {sp_led : Sp3} {k_led : Nat} (c_led : Cal P w K mg base k_led "led" ["pen", "part"] sp_led) (l_led : k_led ≤ k) (z_max : mg "max" = none) (z_min : mg "min" = none) (hr : Room k (A.deeper (envOfC "box_from" (defScope s_box_from) s.heap.objs.size f cdv))) :
    RSs (cxOf CX0 P w K mg base N_box_from "box_from" (defScope s_box_from) f cdv A outer s H E).nox (defBody s_box_from) (t_box_from sp_led) :=
  (rss_cons (rs_if (rt_cmp q_isN (re_var 1) re_non) (rss_one (rs_ret re_non)) rss_nil) (rss_cons (rs_set (i := 2) sc_box_from.nd (re_call (c_led.mono l_led) hr (ra_cons (re_var 0) (ra_cons (re_tup (ra_cons (re_ix q_ix (re_var 1) re_int) (ra_cons (re_ix q_ix (re_var 1) re_int) (ra_cons re_int ra_nil)))) ra_nil)))) (rss_cons (rs_set (i := 3) sc_box_from.nd (re_call (c_led.mono l_led) hr (ra_cons (re_var 0) (ra_cons (re_tup (ra_cons (re_ix q_ix (re_var 1) re_int) (ra_cons (re_ix q_ix (re_var 1) re_int) (ra_cons re_int ra_nil)))) ra_nil)))) (rss_cons (rs_set (i := 4) sc_box_from.nd (re_tup (ra_cons (re_callB (q_min2 rfl) z_min bz_min (ra_cons (re_ix q_ix (re_var 2) re_int) (ra_cons (re_ix q_ix (re_var 3) re_int) ra_nil))) (ra_cons (re_callB (q_min2 rfl) z_min bz_min (ra_cons (re_ix q_ix (re_var 2) re_int) (ra_cons (re_ix q_ix (re_var 3) re_int) ra_nil))) ra_nil)))) (rss_one (rs_ret (re_op q_add (re_var 4) (re_tup (ra_cons (re_callB (q_max rfl) z_max bz_max (ra_cons (re_ix q_ix (re_var 2) re_int) (ra_cons (re_ix q_ix (re_var 3) re_int) ra_nil))) (ra_cons (re_callB (q_max rfl) z_max bz_max (ra_cons (re_ix q_ix (re_var 2) re_int) (ra_cons (re_ix q_ix (re_var 3) re_int) ra_nil))) ra_nil))))))))))
noncomputable abbrev s_drawn_often : Stmt := top 34
theorem sc_drawn_often : FnScope N_drawn_often ["word", "stroke"] (defScope s_drawn_often) := ⟨rfl, rfl, rfl, by decide +kernel, rfl, by decide +kernel, by decide +kernel⟩
theorem rs_drawn_often {k : Nat} {f : Addr} {cdv : Value} {A : Around} {outer : List Env} {s : Shared} {H : Hp} {E : XK} {C_Look : Addr} {sp_Look___init__ : Sp3} {k_Look___init__ : Nat} (c_Look___init__ : CalT P w K mg base k_Look___init__ C_Look "__init__" ["self", "stroke"] sp_Look___init__) (l_Look___init__ : k_Look___init__ < k) {sp_check_stroke : Sp3} {k_check_stroke : Nat} (c_check_stroke : Cal P w K mg base k_check_stroke "check_stroke" ["stroke"] sp_check_stroke) (l_check_stroke : k_check_stroke ≤ k) {sp_check_word : Sp3} {k_check_word : Nat} (c_check_word : Cal P w K mg base k_check_word "check_word" ["word"] sp_check_word) (l_check_word : k_check_word ≤ k) {sp_often_in_word : Sp3} {k_often_in_word : Nat} (c_often_in_word : Cal P w K mg base k_often_in_word "often_in_word" ["word", "pen", "look"] sp_often_in_word) (l_often_in_word : k_often_in_word ≤ k) (oc_Look : ObjC K "Look" C_Look) (mk_Look : PySem.W.makesIn K C_Look = true) (kp_Look : PySem.W.keepIn K (.ref C_Look) = true) (m_Look : mg "Look" = some (.ref C_Look)) (g_START : Gd K mg "START" k_START) (hr : Room k (A.deeper (envOfC "drawn_often" (defScope s_drawn_often) s.heap.objs.size f cdv))) :
    RSs (cxOf CX0 P w K mg base N_drawn_often "drawn_often" (defScope s_drawn_often) f cdv A outer s H E).nox (defBody s_drawn_often) (t_drawn_often sp_Look___init__ sp_check_stroke sp_check_word sp_often_in_word) :=
  (rss_cons (rs_expr (re_call (c_check_word.mono l_check_word) hr (ra_cons (re_var 0) ra_nil))) (rss_cons (rs_expr (re_call (c_check_stroke.mono l_check_stroke) hr (ra_cons (re_var 1) ra_nil))) (rss_one (rs_ret (re_call (c_often_in_word.mono l_often_in_word) hr (ra_cons (re_var 0) (ra_cons (re_g g_START) (ra_cons (re_make oc_Look mk_Look kp_Look c_Look___init__ m_Look (hr.mono l_Look___init__) (ra_cons (re_var 1) ra_nil)) ra_nil))))))))
noncomputable abbrev s_often_in_word : Stmt := top 36
theorem sc_often_in_word : FnScope N_often_in_word ["word", "pen", "look"] (defScope s_often_in_word) := ⟨rfl, rfl, rfl, by decide +kernel, rfl, by decide +kernel, by decide +kernel⟩
theorem rs_often_in_word {k : Nat} {f : Addr} {cdv : Value} {A : Around} {outer : List Env} {s : Shared} {H : Hp} {E : XK} {sp_led : Sp3} {k_led : Nat} (c_led : Cal P w K mg base k_led "led" ["pen", "part"] sp_led) (l_led : k_led ≤ k) {sp_often_in_deed : Sp3} {k_often_in_deed : Nat} (c_often_in_deed : Cal P w K mg base k_often_in_deed "often_in_deed" ["deed", "pen", "look"] sp_often_in_deed) (l_often_in_deed : k_often_in_deed ≤ k) {sp_pen_behind_deed : Sp3} {k_pen_behind_deed : Nat} (c_pen_behind_deed : Cal P w K mg base k_pen_behind_deed "pen_behind_deed" ["deed"] sp_pen_behind_deed) (l_pen_behind_deed : k_pen_behind_deed ≤ k) (hr : Room k (A.deeper (envOfC "often_in_word" (defScope s_often_in_word) s.heap.objs.size f cdv))) :
    RSs (cxOf CX0 P w K mg base N_often_in_word "often_in_word" (defScope s_often_in_word) f cdv A outer s H E).nox (defBody s_often_in_word) (t_often_in_word sp_led sp_often_in_deed sp_pen_behind_deed) :=
  (rss_cons (rs_set (i := 3) sc_often_in_word.nd re_int) (rss_cons (rs_set (i := 4) sc_often_in_word.nd (re_var 1)) (rss_cons (rs_for PassesOwn.never rfl (ri_seq (re_var 0)) (rg_name (i := 5) sc_often_in_word.nd) (rss_cons (rs_set (i := 3) sc_often_in_word.nd (re_op q_add (re_var 3) (re_call (c_often_in_deed.mono l_often_in_deed) hr (ra_cons (re_var 5) (ra_cons (re_var 4) (ra_cons (re_var 2) ra_nil)))))) (rss_one (rs_set (i := 4) sc_often_in_word.nd (re_call (c_led.mono l_led) hr (ra_cons (re_var 4) (ra_cons (re_call (c_pen_behind_deed.mono l_pen_behind_deed) hr (ra_cons (re_var 5) ra_nil)) ra_nil))))))) (rss_one (rs_ret (re_var 3))))))
noncomputable abbrev s_often_in_deed : Stmt := top 37
theorem sc_often_in_deed : FnScope N_often_in_deed ["deed", "pen", "look"] (defScope s_often_in_deed) := ⟨rfl, rfl, rfl, by decide +kernel, rfl, by decide +kernel, by decide +kernel⟩
theorem rs_often_in_deed {k : Nat} {f : Addr} {cdv : Value} {A : Around} {outer : List Env} {s : Shared} {H : Hp} {E : XK} {C_Look : Addr} {sp_Look_is_within : Sp3} {k_Look_is_within : Nat} (c_Look_is_within : CalT P w K mg base k_Look_is_within C_Look "is_within" ["self", "box"] sp_Look_is_within) (l_Look_is_within : k_Look_is_within ≤ k) {sp_box_from : Sp3} {k_box_from : Nat} (c_box_from : Cal P w K mg base k_box_from "box_from" ["pen", "box"] sp_box_from) (l_box_from : k_box_from ≤ k) {sp_deed_box : Sp3} {k_deed_box : Nat} (c_deed_box : Cal P w K mg base k_deed_box "deed_box" ["deed"] sp_deed_box) (l_deed_box : k_deed_box ≤ k) {sp_often_in_times : Sp3} {k_often_in_times : Nat} (c_often_in_times : Cal P w K mg base k_often_in_times "often_in_times" ["number", "word", "pen", "look"] sp_often_in_times) (l_often_in_times : k_often_in_times ≤ k) (oc_Look : ObjC K "Look" C_Look) (hr : Room k (A.deeper (envOfC "often_in_deed" (defScope s_often_in_deed) s.heap.objs.size f cdv))) :
    RSs (cxOf CX0 P w K mg base N_often_in_deed "often_in_deed" (defScope s_often_in_deed) f cdv A outer s H E).nox (defBody s_often_in_deed) (t_often_in_deed sp_Look_is_within sp_box_from sp_deed_box sp_often_in_times) :=
  (rss_cons (rs_if (rt_cmp (q_eq (hu64 hr)) (re_ix q_ix (re_var 0) re_int) re_str) (rss_one (rs_ret (re_call (c_often_in_times.mono l_often_in_times) hr (ra_cons (re_ix q_ix (re_var 0) re_int) (ra_cons (re_ix q_ix (re_var 0) re_int) (ra_cons (re_var 1) (ra_cons (re_var 2) ra_nil))))))) rss_nil) (rss_one (rs_ret (re_if (rt_val (re_meth (re_var 2) oc_Look (c_Look_is_within.mono l_Look_is_within) hr (ra_cons (re_call (c_box_from.mono l_box_from) hr (ra_cons (re_var 1) (ra_cons (re_call (c_deed_box.mono l_deed_box) hr (ra_cons (re_var 0) ra_nil)) ra_nil))) ra_nil))) re_int re_int))))
noncomputable abbrev s_often_in_times : Stmt := top 38
theorem sc_often_in_times : FnScope N_often_in_times ["number", "word", "pen", "look"] (defScope s_often_in_times) := ⟨rfl, rfl, rfl, by decide +kernel, rfl, by decide +kernel, by decide +kernel⟩
theorem rs_often_in_times {k : Nat} {f : Addr} {cdv : Value} {A : Around} {outer : List Env} {s : Shared} {H : Hp} {E : XK} {C_Look : Addr} {sp_Look_count_doing : Sp3} {k_Look_count_doing : Nat} (c_Look_count_doing : CalT P w K mg base k_Look_count_doing C_Look "count_doing" ["self"] sp_Look_count_doing) (l_Look_count_doing : k_Look_count_doing ≤ k) {sp_Look_is_within : Sp3} {k_Look_is_within : Nat} (c_Look_is_within : CalT P w K mg base k_Look_is_within C_Look "is_within" ["self", "box"] sp_Look_is_within) (l_Look_is_within : k_Look_is_within ≤ k) {sp_box_from : Sp3} {k_box_from : Nat} (c_box_from : Cal P w K mg base k_box_from "box_from" ["pen", "box"] sp_box_from) (l_box_from : k_box_from ≤ k) {sp_doings_like : Sp3} {k_doings_like : Nat} (c_doings_like : Cal P w K mg base k_doings_like "doings_like" ["doing", "number", "part"] sp_doings_like) (l_doings_like : k_doings_like ≤ k) {sp_doings_to_ask : Sp3} {k_doings_to_ask : Nat} (c_doings_to_ask : Cal P w K mg base k_doings_to_ask "doings_to_ask" ["number", "part", "pen", "box", "look"] sp_doings_to_ask) (l_doings_to_ask : k_doings_to_ask ≤ k) {sp_led : Sp3} {k_led : Nat} (c_led : Cal P w K mg base k_led "led" ["pen", "part"] sp_led) (l_led : k_led ≤ k) {sp_often_in_word : Sp3} {k_often_in_word : Nat} (c_often_in_word : Cal P w K mg base k_often_in_word "often_in_word" ["word", "pen", "look"] sp_often_in_word) (l_often_in_word : k_often_in_word ≤ k) {sp_pen_behind : Sp3} {k_pen_behind : Nat} (c_pen_behind : Cal P w K mg base k_pen_behind "pen_behind" ["word"] sp_pen_behind) (l_pen_behind : k_pen_behind ≤ k) {sp_pen_repeated : Sp3} {k_pen_repeated : Nat} (c_pen_repeated : Cal P w K mg base k_pen_repeated "pen_repeated" ["part", "number"] sp_pen_repeated) (l_pen_repeated : k_pen_repeated ≤ k) {sp_word_box : Sp3} {k_word_box : Nat} (c_word_box : Cal P w K mg base k_word_box "word_box" ["word"] sp_word_box) (l_word_box : k_word_box ≤ k) (oc_Look : ObjC K "Look" C_Look) (z_range : mg "range" = none) (hr : Room k (A.deeper (envOfC "often_in_times" (defScope s_often_in_times) s.heap.objs.size f cdv))) :
    RSs (cxOf CX0 P w K mg base N_often_in_times "often_in_times" (defScope s_often_in_times) f cdv A outer s H E).nox (defBody s_often_in_times) (t_often_in_times sp_Look_count_doing sp_Look_is_within sp_box_from sp_doings_like sp_doings_to_ask sp_led sp_often_in_word sp_pen_behind sp_pen_repeated sp_word_box) :=
  (rss_cons (rs_set (i := 4) sc_often_in_times.nd (re_call (c_pen_behind.mono l_pen_behind) hr (ra_cons (re_var 1) ra_nil))) (rss_cons (rs_set (i := 5) sc_often_in_times.nd (re_call (c_word_box.mono l_word_box) hr (ra_cons (re_var 1) ra_nil))) (rss_cons (rs_set (i := 6) sc_often_in_times.nd re_int) (rss_cons (rs_set (i := 7) sc_often_in_times.nd (re_call (c_doings_to_ask.mono l_doings_to_ask) hr (ra_cons (re_var 0) (ra_cons (re_var 4) (ra_cons (re_var 2) (ra_cons (re_var 5) (ra_cons (re_var 3) ra_nil))))))) (rss_cons (rs_for PassesOwn.never rfl (ri_rangeL z_range (re_ix q_ix (re_var 7) re_int) (re_ix q_ix (re_var 7) re_int)) (rg_name (i := 8) sc_often_in_times.nd) (rss_cons (rs_set (i := 9) sc_often_in_times.nd (re_call (c_led.mono l_led) hr (ra_cons (re_var 2) (ra_cons (re_call (c_pen_repeated.mono l_pen_repeated) hr (ra_cons (re_var 4) (ra_cons (re_var 8) ra_nil))) ra_nil)))) (rss_one (rs_if (rt_val (re_meth (re_var 3) oc_Look (c_Look_is_within.mono l_Look_is_within) hr (ra_cons (re_call (c_box_from.mono l_box_from) hr (ra_cons (re_var 9) (ra_cons (re_var 5) ra_nil))) ra_nil))) (rss_cons (rs_expr (re_meth0 (re_var 3) oc_Look (c_Look_count_doing.mono l_Look_count_doing) hr)) (rss_one (rs_set (i := 6) sc_often_in_times.nd (re_op q_add (re_var 6) (re_op q_mul (re_call (c_doings_like.mono l_doings_like) hr (ra_cons (re_var 8) (ra_cons (re_var 0) (ra_cons (re_var 4) ra_nil)))) (re_call (c_often_in_word.mono l_often_in_word) hr (ra_cons (re_var 1) (ra_cons (re_var 9) (ra_cons (re_var 3) ra_nil))))))))) rss_nil)))) (rss_one (rs_ret (re_var 6))))))))
noncomputable abbrev s_doings_to_ask : Stmt := top 39
theorem sc_doings_to_ask : FnScope N_doings_to_ask ["number", "part", "pen", "box", "look"] (defScope s_doings_to_ask) := ⟨rfl, rfl, rfl, by decide +kernel, rfl, by decide +kernel, by decide +kernel⟩
theorem rs_doings_to_ask {k : Nat} {f : Addr} {cdv : Value} {A : Around} {outer : List Env} {s : Shared} {H : Hp} {E : XK} {sp_box_from : Sp3} {k_box_from : Nat} (c_box_from : Cal P w K mg base k_box_from "box_from" ["pen", "box"] sp_box_from) (l_box_from : k_box_from ≤ k) {sp_led : Sp3} {k_led : Nat} (c_led : Cal P w K mg base k_led "led" ["pen", "part"] sp_led) (l_led : k_led ≤ k) {sp_span_of_doings : Sp3} {k_span_of_doings : Nat} (c_span_of_doings : Cal P w K mg base k_span_of_doings "span_of_doings" ["number", "low", "high", "shift", "least", "greatest"] sp_span_of_doings) (l_span_of_doings : k_span_of_doings ≤ k) {C_Look : Addr} (oc_Look : ObjC K "Look" C_Look) (na_Look_greatest : NoAttr K C_Look "greatest") (na_Look_least : NoAttr K C_Look "least") (z_max : mg "max" = none) (z_min : mg "min" = none) (g_START : Gd K mg "START" k_START) (hr : Room k (A.deeper (envOfC "doings_to_ask" (defScope s_doings_to_ask) s.heap.objs.size f cdv))) :
    RSs (cxOf CX0 P w K mg base N_doings_to_ask "doings_to_ask" (defScope s_doings_to_ask) f cdv A outer s H E).nox (defBody s_doings_to_ask) (t_doings_to_ask sp_box_from sp_led sp_span_of_doings) :=
  (rss_cons (rs_if (rt_cmp q_isN (re_var 3) re_non) (rss_one (rs_ret (re_tup (ra_cons re_int (ra_cons re_int ra_nil))))) rss_nil) (rss_cons (rs_if (rt_cmp (q_eq (hu64 hr)) (re_var 1) (re_g g_START)) (rss_one (rs_ret (re_tup (ra_cons re_int (ra_cons (re_callB (q_min2 rfl) z_min bz_min (ra_cons (re_var 0) (ra_cons re_int ra_nil))) ra_nil))))) rss_nil) (rss_cons (rs_if (rt_cmp (q_ne (hu64 hr)) (re_ix q_ix (re_var 1) re_int) re_int) (rss_one (rs_ret (re_tup (ra_cons re_int (ra_cons (re_callB (q_min2 rfl) z_min bz_min (ra_cons (re_var 0) (ra_cons re_int ra_nil))) ra_nil))))) rss_nil) (rss_cons (rs_set (i := 5) sc_doings_to_ask.nd (re_call (c_box_from.mono l_box_from) hr (ra_cons (re_var 2) (ra_cons (re_var 3) ra_nil)))) (rss_cons (rs_set (i := 6) sc_doings_to_ask.nd (re_call (c_box_from.mono l_box_from) hr (ra_cons (re_call (c_led.mono l_led) hr (ra_cons (re_var 2) (ra_cons (re_var 1) ra_nil))) (ra_cons (re_var 3) ra_nil)))) (rss_cons (rs_set (i := 7) sc_doings_to_ask.nd (re_call (c_span_of_doings.mono l_span_of_doings) hr (ra_cons (re_var 0) (ra_cons (re_ix q_ix (re_var 5) re_int) (ra_cons (re_ix q_ix (re_var 5) re_int) (ra_cons (re_op q_sub (re_ix q_ix (re_var 6) re_int) (re_ix q_ix (re_var 5) re_int)) (ra_cons (re_ix q_ix (re_fld (re_var 4) oc_Look na_Look_least) re_int) (ra_cons (re_ix q_ix (re_fld (re_var 4) oc_Look na_Look_greatest) re_int) ra_nil)))))))) (rss_cons (rs_set (i := 8) sc_doings_to_ask.nd (re_call (c_span_of_doings.mono l_span_of_doings) hr (ra_cons (re_var 0) (ra_cons (re_ix q_ix (re_var 5) re_int) (ra_cons (re_ix q_ix (re_var 5) re_int) (ra_cons (re_op q_sub (re_ix q_ix (re_var 6) re_int) (re_ix q_ix (re_var 5) re_int)) (ra_cons (re_ix q_ix (re_fld (re_var 4) oc_Look na_Look_least) re_int) (ra_cons (re_ix q_ix (re_fld (re_var 4) oc_Look na_Look_greatest) re_int) ra_nil)))))))) (rss_one (rs_ret (re_tup (ra_cons (re_callB (q_max rfl) z_max bz_max (ra_cons (re_ix q_ix (re_var 7) re_int) (ra_cons (re_ix q_ix (re_var 8) re_int) ra_nil))) (ra_cons (re_callB (q_min2 rfl) z_min bz_min (ra_cons (re_ix q_ix (re_var 7) re_int) (ra_cons (re_ix q_ix (re_var 8) re_int) ra_nil))) ra_nil))))))))))))
noncomputable abbrev s_span_of_doings : Stmt := top 40
theorem sc_span_of_doings : FnScope N_span_of_doings ["number", "low", "high", "shift", "least", "greatest"] (defScope s_span_of_doings) := ⟨rfl, rfl, rfl, by decide +kernel, rfl, by decide +kernel, by decide +kernel⟩
theorem rs_span_of_doings {k : Nat} {f : Addr} {cdv : Value} {A : Around} {outer : List Env} {s : Shared} {H : Hp} {E : XK} {sp_span_of_doings : Sp3} {k_span_of_doings : Nat} (c_span_of_doings : Cal P w K mg base k_span_of_doings "span_of_doings" ["number", "low", "high", "shift", "least", "greatest"] sp_span_of_doings) (l_span_of_doings : k_span_of_doings ≤ k) (z_max : mg "max" = none) (z_min : mg "min" = none) (hr : Room k (A.deeper (envOfC "span_of_doings" (defScope s_span_of_doings) s.heap.objs.size f cdv))) :
    RSs (cxOf CX0 P w K mg base N_span_of_doings "span_of_doings" (defScope s_span_of_doings) f cdv A outer s H E).nox (defBody s_span_of_doings) (t_span_of_doings sp_span_of_doings) :=
  (rss_cons (rs_if (rt_cmp q_lt (re_var 3) re_int) (rss_one (rs_ret (re_call (c_span_of_doings.mono l_span_of_doings) hr (ra_cons (re_var 0) (ra_cons (re_un q_neg (re_var 2)) (ra_cons (re_un q_neg (re_var 1)) (ra_cons (re_un q_neg (re_var 3)) (ra_cons (re_un q_neg (re_var 5)) (ra_cons (re_un q_neg (re_var 4)) ra_nil))))))))) rss_nil) (rss_cons (rs_if (rt_cmp (q_eq (hu64 hr)) (re_var 3) re_int) (rss_one (rs_ret (re_if (rw_pt (rw_and (rt_cmp q_le (re_var 1) (re_var 4)) (rw_and1 (rt_cmp q_le (re_var 5) (re_var 2))))) (re_tup (ra_cons re_int (ra_cons (re_var 0) ra_nil))) (re_tup (ra_cons re_int (ra_cons re_int ra_nil)))))) rss_nil) (rss_cons (rs_set (i := 6) sc_span_of_doings.nd (re_un q_neg (re_op q_fdiv (re_op q_sub (re_var 2) (re_var 5)) (re_var 3)))) (rss_cons (rs_set (i := 7) sc_span_of_doings.nd (re_op q_fdiv (re_op q_sub (re_var 4) (re_var 1)) (re_var 3))) (rss_one (rs_ret (re_tup (ra_cons (re_callB (q_max rfl) z_max bz_max (ra_cons re_int (ra_cons (re_var 6) ra_nil))) (ra_cons (re_callB (q_min2 rfl) z_min bz_min (ra_cons (re_var 0) (ra_cons (re_op q_add (re_var 7) re_int) ra_nil))) ra_nil)))))))))
noncomputable abbrev s_doings_like : Stmt := top 41
theorem sc_doings_like : FnScope N_doings_like ["doing", "number", "part"] (defScope s_doings_like) := ⟨rfl, rfl, rfl, by decide +kernel, rfl, by decide +kernel, by decide +kernel⟩
theorem rs_doings_like {k : Nat} {f : Addr} {cdv : Value} {A : Around} {outer : List Env} {s : Shared} {H : Hp} {E : XK} (g_START : Gd K mg "START" k_START) (hr : Room k (A.deeper (envOfC "doings_like" (defScope s_doings_like) s.heap.objs.size f cdv))) :
    RSs (cxOf CX0 P w K mg base N_doings_like "doings_like" (defScope s_doings_like) f cdv A outer s H E).nox (defBody s_doings_like) (t_doings_like) :=
  (rss_cons (rs_if (rt_cmp (q_eq (hu64 hr)) (re_var 2) (re_g g_START)) (rss_one (rs_ret (re_var 1))) rss_nil) (rss_cons (rs_if (rt_cmp (q_ne (hu64 hr)) (re_ix q_ix (re_var 2) re_int) re_int) (rss_one (rs_ret (re_op q_fdiv (re_op q_add (re_op q_sub (re_var 1) (re_var 0)) re_int) re_int))) rss_nil) (rss_one (rs_ret re_int))))
noncomputable abbrev s__law_state : Stmt := top 43
theorem sc__law_state : FnScope N__law_state ["script", "k"] (defScope s__law_state) := ⟨rfl, rfl, rfl, by decide +kernel, rfl, by decide +kernel, by decide +kernel⟩
theorem rs__law_state {k : Nat} {f : Addr} {cdv : Value} {A : Around} {outer : List Env} {s : Shared} {H : Hp} {E : XK} (z_len : mg "len" = none) (hr : Room k (A.deeper (envOfC "_law_state" (defScope s__law_state) s.heap.objs.size f cdv))) :
    RSs (cxOf CX0 P w K mg base N__law_state "_law_state" (defScope s__law_state) f cdv A outer s H E).nox (defBody s__law_state) (t__law_state) :=
  (rss_cons (rs_set (i := 2) sc__law_state.nd re_int) (rss_cons (rs_if (rt_cmp q_lt (re_var 1) (re_callB q_len z_len bz_len (ra_cons (re_var 0) ra_nil))) (rss_one (rs_set (i := 2) sc__law_state.nd (re_ix q_ix (re_var 0) (re_var 1)))) rss_nil) (rss_cons (rs_if (rt_cmp q_ge (re_var 2) (re_op q_pow re_int re_int)) (rss_one (rs_ret (re_lst (ra_cons (re_op q_sub (re_var 2) (re_op q_pow re_int re_int)) (ra_cons re_int ra_nil))))) rss_nil) (rss_one (rs_ret (re_lst (ra_cons (re_op q_mod (re_op q_add (re_var 2) (re_op q_mul re_int (re_var 1))) re_int) (ra_cons re_int ra_nil))))))))
noncomputable abbrev s__law_take : Stmt := top 44
theorem sc__law_take : FnScope N__law_take ["state", "many"] (defScope s__law_take) := ⟨rfl, rfl, rfl, by decide +kernel, rfl, by decide +kernel, by decide +kernel⟩
theorem rs__law_take {k : Nat} {f : Addr} {cdv : Value} {A : Around} {outer : List Env} {s : Shared} {H : Hp} {E : XK} (hr : Room k (A.deeper (envOfC "_law_take" (defScope s__law_take) s.heap.objs.size f cdv))) :
    RSs (cxOf CX0 P w K mg base N__law_take "_law_take" (defScope s__law_take) f cdv A outer s H E).nox (defBody s__law_take) (t__law_take) :=
  (rss_cons (rs_if (rw_pt (rw_and (rt_cmp (q_eq (hu64 hr)) (re_ix q_ix (re_var 0) re_int) re_int) (rw_and1 (rt_cmp q_gt (re_ix q_ix (re_var 0) re_int) re_int)))) (rss_cons (rs_set (i := 2) sc__law_take.nd (re_op q_mod (re_ix q_ix (re_var 0) re_int) (re_var 1))) (rss_cons (rs_asg (re_op q_fdiv (re_ix q_ix (re_var 0) re_int) (re_var 1)) (rg_sub (re_var 0) re_int)) (rss_one (rs_ret (re_var 2))))) rss_nil) (rss_cons (rs_asg re_int (rg_sub (re_var 0) re_int)) (rss_cons (rs_asg (re_op q_mod (re_op q_add (re_op q_mul (re_ix q_ix (re_var 0) re_int) re_int) re_int) re_int) (rg_sub (re_var 0) re_int)) (rss_cons (rs_set (i := 3) sc__law_take.nd (re_op q_mod (re_op q_add (re_op q_mul (re_ix q_ix (re_var 0) re_int) (re_ix q_ix (re_var 0) re_int)) (re_op q_mul re_int (re_ix q_ix (re_var 0) re_int))) re_int)) (rss_cons (rs_set (i := 3) sc__law_take.nd (re_op q_mod (re_op q_add (re_op q_mul (re_var 3) (re_var 3)) (re_op q_mul re_int (re_var 3))) re_int)) (rss_one (rs_ret (re_op q_mod (re_op q_fdiv (re_var 3) re_int) (re_var 1)))))))))
noncomputable abbrev s__law_whole : Stmt := top 45
theorem sc__law_whole : FnScope N__law_whole ["found"] (defScope s__law_whole) := ⟨rfl, rfl, rfl, by decide +kernel, rfl, by decide +kernel, by decide +kernel⟩
theorem rs__law_whole {k : Nat} {f : Addr} {cdv : Value} {A : Around} {outer : List Env} {s : Shared} {H : Hp} {E : XK} (z_bool : mg "bool" = none) (z_int : mg "int" = none) (z_isinstance : mg "isinstance" = none) (hr : Room k (A.deeper (envOfC "_law_whole" (defScope s__law_whole) s.heap.objs.size f cdv))) :
    RSs (cxOf CX0 P w K mg base N__law_whole "_law_whole" (defScope s__law_whole) f cdv A outer s H E).nox (defBody s__law_whole) (t__law_whole) :=
  (rss_one (rs_ret (re_and (re_callB q_isi z_isinstance bz_isinstance (ra_cons (re_var 0) (ra_cons (re_ty z_int bz_int) ra_nil))) (re_one (re_not (re_callB q_isi z_isinstance bz_isinstance (ra_cons (re_var 0) (ra_cons (re_ty z_bool bz_bool) ra_nil))))))))
noncomputable abbrev s__law_is_row : Stmt := top 47
theorem sc__law_is_row : FnScope N__law_is_row ["found", "due"] (defScope s__law_is_row) := ⟨rfl, rfl, rfl, by decide +kernel, rfl, by decide +kernel, by decide +kernel⟩
theorem rs__law_is_row {k : Nat} {f : Addr} {cdv : Value} {A : Around} {outer : List Env} {s : Shared} {H : Hp} {E : XK} {sp__law_whole : Sp3} {k__law_whole : Nat} (c__law_whole : Cal P w K mg base k__law_whole "_law_whole" ["found"] sp__law_whole) (l__law_whole : k__law_whole ≤ k) (z_all : mg "all" = none) (z_isinstance : mg "isinstance" = none) (z_tuple : mg "tuple" = none) (hr : Room k (A.deeper (envOfC "_law_is_row" (defScope s__law_is_row) s.heap.objs.size f cdv))) :
    RSs (cxOf CX0 P w K mg base N__law_is_row "_law_is_row" (defScope s__law_is_row) f cdv A outer s H E).nox (defBody s__law_is_row) (t__law_is_row sp__law_whole) :=
  (rss_cons (rs_if (rw_pt (rw_or (rt_cmp q_isN (re_var 1) re_non) (rw_or1 (rt_cmp q_isN (re_var 0) re_non)))) (rss_one (rs_ret (re_and (re_cmp q_isN (re_var 0) re_non) (re_one (re_cmp q_isN (re_var 1) re_non))))) rss_nil) (rss_one (rs_ret (re_and (re_callB q_isi z_isinstance bz_isinstance (ra_cons (re_var 0) (ra_cons (re_ty z_tuple bz_tuple) ra_nil))) (re_and (re_cmp (q_eq (hu64 hr)) (re_var 0) (re_var 1)) (re_one (re_callB q_all z_all bz_all (ra_cons (re_comp (NN := ["number"]) (by decide +kernel) (by decide +kernel) (by decide +kernel) (ri_seq (re_var 0)) (fun _ _ _ _ _ => (rg_name (i := 0) (show List.Nodup (["number"] : List Str) by decide +kernel))) (fun _ _ _ _ _ => rts_nil) (fun _ _ _ _ _ => (re_call (c__law_whole.mono l__law_whole) hr (ra_cons (re_var 0) ra_nil)))) ra_nil))))))))
noncomputable abbrev s_law : Stmt := top 48
theorem sc_law : FnScope N_law ["script"] (defScope s_law) := ⟨rfl, rfl, rfl, by decide +kernel, rfl, by decide +kernel, by decide +kernel⟩
theorem rs_law {k : Nat} {f : Addr} {cdv : Value} {A : Around} {outer : List Env} {s : Shared} {H : Hp} {E : XK} {sp__law_is_row : Sp3} {k__law_is_row : Nat} (c__law_is_row : Cal P w K mg base k__law_is_row "_law_is_row" ["found", "due"] sp__law_is_row) (l__law_is_row : k__law_is_row ≤ k) {sp__law_state : Sp3} {k__law_state : Nat} (c__law_state : Cal P w K mg base k__law_state "_law_state" ["script", "k"] sp__law_state) (l__law_state : k__law_state ≤ k) {sp__law_take : Sp3} {k__law_take : Nat} (c__law_take : Cal P w K mg base k__law_take "_law_take" ["state", "many"] sp__law_take) (l__law_take : k__law_take ≤ k) {sp_box_of : Sp3} {k_box_of : Nat} (c_box_of : Cal P w K mg base k_box_of "box_of" ["word"] sp_box_of) (l_box_of : k_box_of ≤ k) {sp_drawn_often : Sp3} {k_drawn_often : Nat} (c_drawn_often : Cal P w K mg base k_drawn_often "drawn_often" ["word", "stroke"] sp_drawn_often) (l_drawn_often : k_drawn_often ≤ k) (z_int : mg "int" = none) (z_range : mg "range" = none) (hr : Room k (A.deeper (envOfC "law" (defScope s_law) s.heap.objs.size f cdv))) :
    RSs (cxOf CX0 P w K mg base N_law "law" (defScope s_law) f cdv A outer s H E).nox (defBody s_law) (t_law sp__law_is_row sp__law_state sp__law_take sp_box_of sp_drawn_often) :=
  (rss_cons (rs_set (i := 1) sc_law.nd (re_call (c__law_state.mono l__law_state) hr (ra_cons (re_var 0) (ra_cons re_int ra_nil)))) (rss_cons (rs_set (i := 2) sc_law.nd (re_op q_add re_int (re_call (c__law_take.mono l__law_take) hr (ra_cons (re_var 1) (ra_cons (re_ix q_ix (re_lst (ra_cons re_int (ra_cons (re_op q_pow re_int re_int) (ra_cons (re_op q_pow re_int re_int) ra_nil)))) (re_call (c__law_take.mono l__law_take) hr (ra_cons (re_var 1) (ra_cons re_int ra_nil)))) ra_nil))))) (rss_cons (rs_set (i := 3) sc_law.nd (re_op q_add re_int (re_call (c__law_take.mono l__law_take) hr (ra_cons (re_var 1) (ra_cons (re_ix q_ix (re_lst (ra_cons re_int (ra_cons (re_op q_pow re_int re_int) (ra_cons (re_op q_pow re_int re_int) ra_nil)))) (re_call (c__law_take.mono l__law_take) hr (ra_cons (re_var 1) (ra_cons re_int ra_nil)))) ra_nil))))) (rss_cons (rs_set (i := 4) sc_law.nd (re_op q_add re_int (re_call (c__law_take.mono l__law_take) hr (ra_cons (re_var 1) (ra_cons re_int ra_nil))))) (rss_cons (rs_set (i := 5) sc_law.nd (re_tup (ra_cons re_str (ra_cons (re_var 2) (ra_cons (re_tup (ra_cons (re_tup (ra_cons re_str (ra_cons re_int ra_nil))) ra_nil)) ra_nil))))) (rss_cons (rs_set (i := 6) sc_law.nd (re_tup (ra_cons (re_tup (ra_cons re_str (ra_cons (re_var 3) (ra_cons (re_tup (ra_cons (re_var 5) (ra_cons (re_tup (ra_cons re_str (ra_cons (re_op q_sub re_int (re_var 2)) ra_nil))) (ra_cons (re_tup (ra_cons re_str (ra_cons re_int ra_nil))) (ra_cons (re_tup (ra_cons re_str (ra_cons (re_var 4) ra_nil))) (ra_cons (re_tup (ra_cons re_str (ra_cons (re_un q_neg re_int) ra_nil))) ra_nil)))))) ra_nil)))) ra_nil))) (rss_cons (rs_if (rt_not (rt_val (re_call (c__law_is_row.mono l__law_is_row) hr (ra_cons (re_call (c_box_of.mono l_box_of) hr (ra_cons (re_var 6) ra_nil)) (ra_cons (re_tup (ra_cons re_int (ra_cons re_int (ra_cons (re_var 2) (ra_cons (re_op q_mul (re_op q_sub (re_var 3) re_int) (re_var 4)) ra_nil))))) ra_nil))))) (rss_one (rs_ret re_bl)) rss_nil) (rss_cons (rs_set (i := 7) sc_law.nd (re_ix q_ix (re_lst (ra_cons re_int (ra_cons (re_op q_sub (re_var 2) re_int) (ra_cons (re_var 2) (ra_cons (re_un q_neg re_int) (ra_cons (re_op q_fdiv (re_var 2) re_int) ra_nil)))))) (re_call (c__law_take.mono l__law_take) hr (ra_cons (re_var 1) (ra_cons re_int ra_nil))))) (rss_cons (rs_set (i := 8) sc_law.nd (re_ix q_ix (re_lst (ra_cons re_int (ra_cons (re_op q_sub (re_var 3) re_int) (ra_cons (re_var 3) (ra_cons (re_un q_neg re_int) (ra_cons (re_op q_fdiv (re_var 3) re_int) ra_nil)))))) (re_call (c__law_take.mono l__law_take) hr (ra_cons (re_var 1) (ra_cons re_int ra_nil))))) (rss_cons (rs_set (i := 9) sc_law.nd (re_callTy q_int z_int bz_int (ra_cons (re_and (re_chain q_le q_lt re_int (re_var 7) (re_var 2)) (re_one (re_chain q_le q_lt re_int (re_var 8) (re_var 3)))) ra_nil))) (rss_cons (rs_if (rw_pt (rw_or (rt_cmp (q_ne (hu64 hr)) (re_call (c_drawn_often.mono l_drawn_often) hr (ra_cons (re_var 6) (ra_cons (re_tup (ra_cons (re_var 7) (ra_cons (re_op q_mul (re_var 8) (re_var 4)) (ra_cons re_int ra_nil)))) ra_nil))) (re_var 9)) (rw_or1 (rt_cmp (q_ne (hu64 hr)) (re_call (c_drawn_often.mono l_drawn_often) hr (ra_cons (re_var 6) (ra_cons (re_tup (ra_cons (re_var 7) (ra_cons (re_op q_mul (re_var 8) (re_var 4)) (ra_cons re_int ra_nil)))) ra_nil))) re_int)))) (rss_one (rs_ret re_bl)) rss_nil) (rss_cons (rs_set (i := 10) sc_law.nd (re_op q_add re_int (re_call (c__law_take.mono l__law_take) hr (ra_cons (re_var 1) (ra_cons (re_ix q_ix (re_lst (ra_cons re_int (ra_cons (re_op q_pow re_int re_int) ra_nil))) (re_call (c__law_take.mono l__law_take) hr (ra_cons (re_var 1) (ra_cons re_int ra_nil)))) ra_nil))))) (rss_cons (rs_set (i := 11) sc_law.nd (re_tup (ra_cons (re_tup (ra_cons re_str (ra_cons (re_var 3) (ra_cons (re_tup (ra_cons (re_tup (ra_cons re_str (ra_cons (re_var 10) ra_nil))) (ra_cons (re_tup (ra_cons re_str (ra_cons re_int ra_nil))) ra_nil))) ra_nil)))) ra_nil))) (rss_cons (rs_set (i := 12) sc_law.nd (re_lst (ra_cons (re_tup (ra_cons re_int (ra_cons re_int (ra_cons re_int ra_nil)))) (ra_cons (re_tup (ra_cons (re_var 10) (ra_cons re_int (ra_cons re_int ra_nil)))) (ra_cons (re_tup (ra_cons (re_op q_sub (re_var 10) re_int) (ra_cons (re_var 10) (ra_cons re_int ra_nil)))) (ra_cons (re_tup (ra_cons re_int (ra_cons (re_op q_sub (re_var 10) re_int) (ra_cons re_int ra_nil)))) ra_nil)))))) (rss_cons (rs_if (rt_cmp (q_ne (hu64 hr)) (re_compG (NN := ["line", "ring"]) (js := [none, some 11]) rfl comp_sc (ri_seq (re_var 12)) (fun _ _ _ _ _ => (rg_name (i := 0) (show List.Nodup (["line", "ring"] : List Str) by decide +kernel))) (fun _ _ _ _ _ => rts_nil) (fun _ _ _ _ _ => (re_call (c_drawn_often.mono l_drawn_often) hr (ra_cons (re_var 1) (ra_cons (re_var 0) ra_nil)))) (by intro _; rfl)) (re_compG (NN := ["k", "high"]) (js := [none, some 3]) rfl comp_sc (ri_range1 z_range re_int) (fun _ _ _ _ _ => (rg_name (i := 0) (show List.Nodup (["k", "high"] : List Str) by decide +kernel))) (fun _ _ _ _ _ => rts_nil) (fun _ _ _ _ _ => (re_op q_fdiv (re_op q_add (re_op q_sub (re_var 1) (re_var 0)) re_int) re_int)) (by intro _; rfl))) (rss_one (rs_ret re_bl)) rss_nil) (rss_cons (rs_set (i := 13) sc_law.nd (re_tup (ra_cons (re_tup (ra_cons re_str (ra_cons (re_var 3) (ra_cons (re_tup (ra_cons (re_var 5) (ra_cons (re_tup (ra_cons re_str (ra_cons (re_op q_sub re_int (re_var 2)) ra_nil))) ra_nil))) ra_nil)))) ra_nil))) (rss_cons (rs_if (rt_not (rt_val (re_call (c__law_is_row.mono l__law_is_row) hr (ra_cons (re_call (c_box_of.mono l_box_of) hr (ra_cons (re_var 13) ra_nil)) (ra_cons (re_tup (ra_cons re_int (ra_cons re_int (ra_cons (re_var 2) (ra_cons re_int ra_nil))))) ra_nil))))) (rss_one (rs_ret re_bl)) rss_nil) (rss_one (rs_ret (re_cmp (q_eq (hu64 hr)) (re_call (c_drawn_often.mono l_drawn_often) hr (ra_cons (re_var 13) (ra_cons (re_tup (ra_cons (re_var 7) (ra_cons re_int (ra_cons re_int ra_nil)))) ra_nil))) (re_op q_mul (re_var 3) (re_callTy q_int z_int bz_int (ra_cons (re_chain q_le q_lt re_int (re_var 7) (re_var 2)) ra_nil)))))))))))))))))))))))
noncomputable abbrev s_Look___init__ : Stmt := mth 35 0
theorem sc_Look___init__ : FnScope N_Look___init__ ["self", "stroke"] (defScope s_Look___init__) := ⟨rfl, rfl, rfl, by decide +kernel, rfl, by decide +kernel, by decide +kernel⟩
theorem rs_Look___init__ {k : Nat} {f : Addr} {cdv : Value} {A : Around} {outer : List Env} {s : Shared} {H : Hp} {E : XK} {sp_ends_of : Sp3} {k_ends_of : Nat} (c_ends_of : Cal P w K mg base k_ends_of "ends_of" ["stroke"] sp_ends_of) (l_ends_of : k_ends_of ≤ k) {C_Look : Addr} (oc_Look : ObjC K "Look" C_Look) (na_Look_greatest : NoAttr K C_Look "greatest") (na_Look_least : NoAttr K C_Look "least") (na_Look_left : NoAttr K C_Look "left") (g_MOST_LOOKED_AT : Gd K mg "MOST_LOOKED_AT" k_MOST_LOOKED_AT) (hr : Room k (A.deeper (envOfC "Look.__init__" (defScope s_Look___init__) s.heap.objs.size f cdv))) :
    RSs (cxOf CX0 P w K mg base N_Look___init__ "Look.__init__" (defScope s_Look___init__) f cdv A outer s H E).nox (defBody s_Look___init__) (t_Look___init__ sp_ends_of) :=
  (rss_cons (rs_set (i := 2) sc_Look___init__.nd (re_call (c_ends_of.mono l_ends_of) hr (ra_cons (re_var 1) ra_nil))) (rss_cons (rs_fld (re_var 0) (re_ix q_ix (re_var 2) re_int) oc_Look na_Look_least) (rss_cons (rs_fld (re_var 0) (re_ix q_ix (re_var 2) re_int) oc_Look na_Look_greatest) (rss_one (rs_fld (re_var 0) (re_g g_MOST_LOOKED_AT) oc_Look na_Look_left)))))
noncomputable abbrev s_Look_is_within : Stmt := mth 35 1
theorem sc_Look_is_within : FnScope N_Look_is_within ["self", "box"] (defScope s_Look_is_within) := ⟨rfl, rfl, rfl, by decide +kernel, rfl, by decide +kernel, by decide +kernel⟩
theorem rs_Look_is_within {k : Nat} {f : Addr} {cdv : Value} {A : Around} {outer : List Env} {s : Shared} {H : Hp} {E : XK} {C_Look : Addr} (oc_Look : ObjC K "Look" C_Look) (na_Look_greatest : NoAttr K C_Look "greatest") (na_Look_least : NoAttr K C_Look "least") (hr : Room k (A.deeper (envOfC "Look.is_within" (defScope s_Look_is_within) s.heap.objs.size f cdv))) :
    RSs (cxOf CX0 P w K mg base N_Look_is_within "Look.is_within" (defScope s_Look_is_within) f cdv A outer s H E).nox (defBody s_Look_is_within) (t_Look_is_within) :=
  (rss_cons (rs_if (rt_cmp q_isN (re_var 1) re_non) (rss_one (rs_ret re_bl)) rss_nil) (rss_cons (rs_set (i := 2) sc_Look_is_within.nd (re_and (re_cmp q_le (re_ix q_ix (re_var 1) re_int) (re_ix q_ix (re_fld (re_var 0) oc_Look na_Look_least) re_int)) (re_one (re_cmp q_le (re_ix q_ix (re_var 1) re_int) (re_ix q_ix (re_fld (re_var 0) oc_Look na_Look_least) re_int))))) (rss_one (rs_ret (re_and (re_var 2) (re_and (re_cmp q_le (re_ix q_ix (re_fld (re_var 0) oc_Look na_Look_greatest) re_int) (re_ix q_ix (re_var 1) re_int)) (re_one (re_cmp q_le (re_ix q_ix (re_fld (re_var 0) oc_Look na_Look_greatest) re_int) (re_ix q_ix (re_var 1) re_int)))))))))
noncomputable abbrev s_Look_count_doing : Stmt := mth 35 2
theorem sc_Look_count_doing : FnScope N_Look_count_doing ["self"] (defScope s_Look_count_doing) := ⟨rfl, rfl, rfl, by decide +kernel, rfl, by decide +kernel, by decide +kernel⟩
theorem rs_Look_count_doing {k : Nat} {f : Addr} {cdv : Value} {A : Around} {outer : List Env} {s : Shared} {H : Hp} {E : XK} {C_Look : Addr} (oc_Look : ObjC K "Look" C_Look) (na_Look_left : NoAttr K C_Look "left") (hr : Room k (A.deeper (envOfC "Look.count_doing" (defScope s_Look_count_doing) s.heap.objs.size f cdv))) :
    RSs (cxOf CX0 P w K mg base N_Look_count_doing "Look.count_doing" (defScope s_Look_count_doing) f cdv A outer s H E).nox (defBody s_Look_count_doing) (t_Look_count_doing) :=
  (rss_cons (rs_if (rt_cmp (q_eq (hu64 hr)) (re_fld (re_var 0) oc_Look na_Look_left) re_int) (rss_one rs_never) rss_nil) (rss_one (rs_fld (re_var 0) (re_op q_sub (re_fld (re_var 0) oc_Look na_Look_left) re_int) oc_Look na_Look_left)))

end
end Pv

namespace Pv
open PySem PySem.Spec PyProof.Rows L2
theorem len1 {us : List Value} (h : us.length = 1) : ∃ a, us = [a] := by
  match us, h with
  | [a], _ => exact ⟨a, rfl⟩
theorem len2 {us : List Value} (h : us.length = 2) : ∃ a b, us = [a, b] := by
  match us, h with
  | [a, b], _ => exact ⟨a, b, rfl⟩
theorem len3 {us : List Value} (h : us.length = 3) : ∃ a b c, us = [a, b, c] := by
  match us, h with
  | [a, b, c], _ => exact ⟨a, b, c, rfl⟩
theorem len4 {us : List Value} (h : us.length = 4) : ∃ a b c d, us = [a, b, c, d] := by
  match us, h with
  | [a, b, c, d], _ => exact ⟨a, b, c, d, rfl⟩
theorem len5 {us : List Value} (h : us.length = 5) : ∃ a b c d e, us = [a, b, c, d, e] := by
  match us, h with
  | [a, b, c, d, e], _ => exact ⟨a, b, c, d, e, rfl⟩
theorem len6 {us : List Value} (h : us.length = 6) : ∃ a b c d e f, us = [a, b, c, d, e, f] := by
  match us, h with
  | [a, b, c, d, e, f], _ => exact ⟨a, b, c, d, e, f, rfl⟩
theorem all_mk {l : PySem.W.OpenLaw} {w : World} {K : Fg} {h : Heap} {mg : Str → Option Value} {fa : Addr} (X : K.In h) (G : h.Ns mainGlobals mg) (hfa : mg "law" = some (.ref fa))
    {p_check_word : Addr} {od_check_word an_check_word : Option Addr} {sl_check_word : Array (Option Value)} {oc_check_word kV_check_word dc_check_word pm_check_word cd_check_word ct_check_word : Value}
    {p_checked_count : Addr} {od_checked_count an_checked_count : Option Addr} {sl_checked_count : Array (Option Value)} {oc_checked_count kV_checked_count dc_checked_count pm_checked_count cd_checked_count ct_checked_count : Value}
    {p_checked_deed_count : Addr} {od_checked_deed_count an_checked_deed_count : Option Addr} {sl_checked_deed_count : Array (Option Value)} {oc_checked_deed_count kV_checked_deed_count dc_checked_deed_count pm_checked_deed_count cd_checked_deed_count ct_checked_deed_count : Value}
    {p_check_number : Addr} {od_check_number an_check_number : Option Addr} {sl_check_number : Array (Option Value)} {oc_check_number kV_check_number dc_check_number pm_check_number cd_check_number ct_check_number : Value}
    {p_led : Addr} {od_led an_led : Option Addr} {sl_led : Array (Option Value)} {oc_led kV_led dc_led pm_led cd_led ct_led : Value}
    {p_pen_behind : Addr} {od_pen_behind an_pen_behind : Option Addr} {sl_pen_behind : Array (Option Value)} {oc_pen_behind kV_pen_behind dc_pen_behind pm_pen_behind cd_pen_behind ct_pen_behind : Value}
    {p_pen_behind_deed : Addr} {od_pen_behind_deed an_pen_behind_deed : Option Addr} {sl_pen_behind_deed : Array (Option Value)} {oc_pen_behind_deed kV_pen_behind_deed dc_pen_behind_deed pm_pen_behind_deed cd_pen_behind_deed ct_pen_behind_deed : Value}
    {p_pen_repeated : Addr} {od_pen_repeated an_pen_repeated : Option Addr} {sl_pen_repeated : Array (Option Value)} {oc_pen_repeated kV_pen_repeated dc_pen_repeated pm_pen_repeated cd_pen_repeated ct_pen_repeated : Value}
    {p_check_stroke : Addr} {od_check_stroke an_check_stroke : Option Addr} {sl_check_stroke : Array (Option Value)} {oc_check_stroke kV_check_stroke dc_check_stroke pm_check_stroke cd_check_stroke ct_check_stroke : Value}
    {p_ends_of : Addr} {od_ends_of an_ends_of : Option Addr} {sl_ends_of : Array (Option Value)} {oc_ends_of kV_ends_of dc_ends_of pm_ends_of cd_ends_of ct_ends_of : Value}
    {p_box_of : Addr} {od_box_of an_box_of : Option Addr} {sl_box_of : Array (Option Value)} {oc_box_of kV_box_of dc_box_of pm_box_of cd_box_of ct_box_of : Value}
    {p_word_box : Addr} {od_word_box an_word_box : Option Addr} {sl_word_box : Array (Option Value)} {oc_word_box kV_word_box dc_word_box pm_word_box cd_word_box ct_word_box : Value}
    {p_deed_box : Addr} {od_deed_box an_deed_box : Option Addr} {sl_deed_box : Array (Option Value)} {oc_deed_box kV_deed_box dc_deed_box pm_deed_box cd_deed_box ct_deed_box : Value}
    {p_box_repeated : Addr} {od_box_repeated an_box_repeated : Option Addr} {sl_box_repeated : Array (Option Value)} {oc_box_repeated kV_box_repeated dc_box_repeated pm_box_repeated cd_box_repeated ct_box_repeated : Value}
    {p_outermost_doings : Addr} {od_outermost_doings an_outermost_doings : Option Addr} {sl_outermost_doings : Array (Option Value)} {oc_outermost_doings kV_outermost_doings dc_outermost_doings pm_outermost_doings cd_outermost_doings ct_outermost_doings : Value}
    {p_box_round : Addr} {od_box_round an_box_round : Option Addr} {sl_box_round : Array (Option Value)} {oc_box_round kV_box_round dc_box_round pm_box_round cd_box_round ct_box_round : Value}
    {p_box_from : Addr} {od_box_from an_box_from : Option Addr} {sl_box_from : Array (Option Value)} {oc_box_from kV_box_from dc_box_from pm_box_from cd_box_from ct_box_from : Value}
    {p_drawn_often : Addr} {od_drawn_often an_drawn_often : Option Addr} {sl_drawn_often : Array (Option Value)} {oc_drawn_often kV_drawn_often dc_drawn_often pm_drawn_often cd_drawn_often ct_drawn_often : Value}
    {p_often_in_word : Addr} {od_often_in_word an_often_in_word : Option Addr} {sl_often_in_word : Array (Option Value)} {oc_often_in_word kV_often_in_word dc_often_in_word pm_often_in_word cd_often_in_word ct_often_in_word : Value}
    {p_often_in_deed : Addr} {od_often_in_deed an_often_in_deed : Option Addr} {sl_often_in_deed : Array (Option Value)} {oc_often_in_deed kV_often_in_deed dc_often_in_deed pm_often_in_deed cd_often_in_deed ct_often_in_deed : Value}
    {p_often_in_times : Addr} {od_often_in_times an_often_in_times : Option Addr} {sl_often_in_times : Array (Option Value)} {oc_often_in_times kV_often_in_times dc_often_in_times pm_often_in_times cd_often_in_times ct_often_in_times : Value}
    {p_doings_to_ask : Addr} {od_doings_to_ask an_doings_to_ask : Option Addr} {sl_doings_to_ask : Array (Option Value)} {oc_doings_to_ask kV_doings_to_ask dc_doings_to_ask pm_doings_to_ask cd_doings_to_ask ct_doings_to_ask : Value}
    {p_span_of_doings : Addr} {od_span_of_doings an_span_of_doings : Option Addr} {sl_span_of_doings : Array (Option Value)} {oc_span_of_doings kV_span_of_doings dc_span_of_doings pm_span_of_doings cd_span_of_doings ct_span_of_doings : Value}
    {p_doings_like : Addr} {od_doings_like an_doings_like : Option Addr} {sl_doings_like : Array (Option Value)} {oc_doings_like kV_doings_like dc_doings_like pm_doings_like cd_doings_like ct_doings_like : Value}
    {p__law_state : Addr} {od__law_state an__law_state : Option Addr} {sl__law_state : Array (Option Value)} {oc__law_state kV__law_state dc__law_state pm__law_state cd__law_state ct__law_state : Value}
    {p__law_take : Addr} {od__law_take an__law_take : Option Addr} {sl__law_take : Array (Option Value)} {oc__law_take kV__law_take dc__law_take pm__law_take cd__law_take ct__law_take : Value}
    {p__law_whole : Addr} {od__law_whole an__law_whole : Option Addr} {sl__law_whole : Array (Option Value)} {oc__law_whole kV__law_whole dc__law_whole pm__law_whole cd__law_whole ct__law_whole : Value}
    {p__law_is_row : Addr} {od__law_is_row an__law_is_row : Option Addr} {sl__law_is_row : Array (Option Value)} {oc__law_is_row kV__law_is_row dc__law_is_row pm__law_is_row cd__law_is_row ct__law_is_row : Value}
    {p_law : Addr} {od_law an_law : Option Addr} {sl_law : Array (Option Value)} {oc_law kV_law dc_law pm_law cd_law ct_law : Value}
    {C_Look : Addr}
    {p_Look___init__ : Addr} {od_Look___init__ an_Look___init__ : Option Addr} {sl_Look___init__ : Array (Option Value)} {oc_Look___init__ kV_Look___init__ dc_Look___init__ pm_Look___init__ cd_Look___init__ ct_Look___init__ : Value}
    {p_Look_is_within : Addr} {od_Look_is_within an_Look_is_within : Option Addr} {sl_Look_is_within : Array (Option Value)} {oc_Look_is_within kV_Look_is_within dc_Look_is_within pm_Look_is_within cd_Look_is_within ct_Look_is_within : Value}
    {p_Look_count_doing : Addr} {od_Look_count_doing an_Look_count_doing : Option Addr} {sl_Look_count_doing : Array (Option Value)} {oc_Look_count_doing kV_Look_count_doing dc_Look_count_doing pm_Look_count_doing cd_Look_count_doing ct_Look_count_doing : Value}
    {t_1 : Tok}
    {t_2 : Tok}
    {t_3 : Tok}
    {t_5 : Tok}
    {t_6 : Tok}
    {t_7 : Tok}
    {q_4 : Addr} {qo_4 : Option Addr} {qn_4 : Nat} {qs_4 : Array (Option Value)}
    {t_9 : Tok}
    {t_10 : Tok}
    {q_8 : Addr} {qo_8 : Option Addr} {qn_8 : Nat} {qs_8 : Array (Option Value)}
    {t_12 : Tok}
    {t_13 : Tok}
    {t_14 : Tok}
    {q_11 : Addr} {qo_11 : Option Addr} {qn_11 : Nat} {qs_11 : Array (Option Value)}
    {t_17 : Tok}
    {t_18 : Tok}
    {q_16 : Addr} {qo_16 : Option Addr} {qn_16 : Nat} {qs_16 : Array (Option Value)}
    {t_20 : Tok}
    {t_21 : Tok}
    {q_19 : Addr} {qo_19 : Option Addr} {qn_19 : Nat} {qs_19 : Array (Option Value)}
    {t_23 : Tok}
    {t_24 : Tok}
    {q_22 : Addr} {qo_22 : Option Addr} {qn_22 : Nat} {qs_22 : Array (Option Value)}
    {t_26 : Tok}
    {t_27 : Tok}
    {q_25 : Addr} {qo_25 : Option Addr} {qn_25 : Nat} {qs_25 : Array (Option Value)}
    {q_15 : Addr} {qo_15 : Option Addr} {qn_15 : Nat} {qs_15 : Array (Option Value)}
    {t_29 : Tok}
    {t_30 : Tok}
    {q_28 : Addr} {qo_28 : Option Addr} {qn_28 : Nat} {qs_28 : Array (Option Value)}
    {t_31 : Tok}
    (a_check_word : PySem.W.nsIn K mainGlobals "check_word" = some (some (.ref p_check_word))) (l_check_word : K.lookup p_check_word = some ⟨oc_check_word, od_check_word, .func (PySem.W.fnOf "check_word" "check_word" (defArgs s_check_word) (defBody s_check_word) (defScope s_check_word) .none kV_check_word dc_check_word pm_check_word an_check_word cd_check_word ct_check_word), sl_check_word⟩) (c_check_word : PySem.W.codeIn K cd_check_word "check_word" = true) (k_check_word : PySem.W.keepIn K (.ref p_check_word) = true)
    (a_checked_count : PySem.W.nsIn K mainGlobals "checked_count" = some (some (.ref p_checked_count))) (l_checked_count : K.lookup p_checked_count = some ⟨oc_checked_count, od_checked_count, .func (PySem.W.fnOf "checked_count" "checked_count" (defArgs s_checked_count) (defBody s_checked_count) (defScope s_checked_count) .none kV_checked_count dc_checked_count pm_checked_count an_checked_count cd_checked_count ct_checked_count), sl_checked_count⟩) (c_checked_count : PySem.W.codeIn K cd_checked_count "checked_count" = true) (k_checked_count : PySem.W.keepIn K (.ref p_checked_count) = true)
    (a_checked_deed_count : PySem.W.nsIn K mainGlobals "checked_deed_count" = some (some (.ref p_checked_deed_count))) (l_checked_deed_count : K.lookup p_checked_deed_count = some ⟨oc_checked_deed_count, od_checked_deed_count, .func (PySem.W.fnOf "checked_deed_count" "checked_deed_count" (defArgs s_checked_deed_count) (defBody s_checked_deed_count) (defScope s_checked_deed_count) .none kV_checked_deed_count dc_checked_deed_count pm_checked_deed_count an_checked_deed_count cd_checked_deed_count ct_checked_deed_count), sl_checked_deed_count⟩) (c_checked_deed_count : PySem.W.codeIn K cd_checked_deed_count "checked_deed_count" = true) (k_checked_deed_count : PySem.W.keepIn K (.ref p_checked_deed_count) = true)
    (a_check_number : PySem.W.nsIn K mainGlobals "check_number" = some (some (.ref p_check_number))) (l_check_number : K.lookup p_check_number = some ⟨oc_check_number, od_check_number, .func (PySem.W.fnOf "check_number" "check_number" (defArgs s_check_number) (defBody s_check_number) (defScope s_check_number) .none kV_check_number dc_check_number pm_check_number an_check_number cd_check_number ct_check_number), sl_check_number⟩) (c_check_number : PySem.W.codeIn K cd_check_number "check_number" = true) (k_check_number : PySem.W.keepIn K (.ref p_check_number) = true)
    (a_led : PySem.W.nsIn K mainGlobals "led" = some (some (.ref p_led))) (l_led : K.lookup p_led = some ⟨oc_led, od_led, .func (PySem.W.fnOf "led" "led" (defArgs s_led) (defBody s_led) (defScope s_led) .none kV_led dc_led pm_led an_led cd_led ct_led), sl_led⟩) (c_led : PySem.W.codeIn K cd_led "led" = true) (k_led : PySem.W.keepIn K (.ref p_led) = true)
    (a_pen_behind : PySem.W.nsIn K mainGlobals "pen_behind" = some (some (.ref p_pen_behind))) (l_pen_behind : K.lookup p_pen_behind = some ⟨oc_pen_behind, od_pen_behind, .func (PySem.W.fnOf "pen_behind" "pen_behind" (defArgs s_pen_behind) (defBody s_pen_behind) (defScope s_pen_behind) .none kV_pen_behind dc_pen_behind pm_pen_behind an_pen_behind cd_pen_behind ct_pen_behind), sl_pen_behind⟩) (c_pen_behind : PySem.W.codeIn K cd_pen_behind "pen_behind" = true) (k_pen_behind : PySem.W.keepIn K (.ref p_pen_behind) = true)
    (a_pen_behind_deed : PySem.W.nsIn K mainGlobals "pen_behind_deed" = some (some (.ref p_pen_behind_deed))) (l_pen_behind_deed : K.lookup p_pen_behind_deed = some ⟨oc_pen_behind_deed, od_pen_behind_deed, .func (PySem.W.fnOf "pen_behind_deed" "pen_behind_deed" (defArgs s_pen_behind_deed) (defBody s_pen_behind_deed) (defScope s_pen_behind_deed) .none kV_pen_behind_deed dc_pen_behind_deed pm_pen_behind_deed an_pen_behind_deed cd_pen_behind_deed ct_pen_behind_deed), sl_pen_behind_deed⟩) (c_pen_behind_deed : PySem.W.codeIn K cd_pen_behind_deed "pen_behind_deed" = true) (k_pen_behind_deed : PySem.W.keepIn K (.ref p_pen_behind_deed) = true)
    (a_pen_repeated : PySem.W.nsIn K mainGlobals "pen_repeated" = some (some (.ref p_pen_repeated))) (l_pen_repeated : K.lookup p_pen_repeated = some ⟨oc_pen_repeated, od_pen_repeated, .func (PySem.W.fnOf "pen_repeated" "pen_repeated" (defArgs s_pen_repeated) (defBody s_pen_repeated) (defScope s_pen_repeated) .none kV_pen_repeated dc_pen_repeated pm_pen_repeated an_pen_repeated cd_pen_repeated ct_pen_repeated), sl_pen_repeated⟩) (c_pen_repeated : PySem.W.codeIn K cd_pen_repeated "pen_repeated" = true) (k_pen_repeated : PySem.W.keepIn K (.ref p_pen_repeated) = true)
    (a_check_stroke : PySem.W.nsIn K mainGlobals "check_stroke" = some (some (.ref p_check_stroke))) (l_check_stroke : K.lookup p_check_stroke = some ⟨oc_check_stroke, od_check_stroke, .func (PySem.W.fnOf "check_stroke" "check_stroke" (defArgs s_check_stroke) (defBody s_check_stroke) (defScope s_check_stroke) .none kV_check_stroke dc_check_stroke pm_check_stroke an_check_stroke cd_check_stroke ct_check_stroke), sl_check_stroke⟩) (c_check_stroke : PySem.W.codeIn K cd_check_stroke "check_stroke" = true) (k_check_stroke : PySem.W.keepIn K (.ref p_check_stroke) = true)
    (a_ends_of : PySem.W.nsIn K mainGlobals "ends_of" = some (some (.ref p_ends_of))) (l_ends_of : K.lookup p_ends_of = some ⟨oc_ends_of, od_ends_of, .func (PySem.W.fnOf "ends_of" "ends_of" (defArgs s_ends_of) (defBody s_ends_of) (defScope s_ends_of) .none kV_ends_of dc_ends_of pm_ends_of an_ends_of cd_ends_of ct_ends_of), sl_ends_of⟩) (c_ends_of : PySem.W.codeIn K cd_ends_of "ends_of" = true) (k_ends_of : PySem.W.keepIn K (.ref p_ends_of) = true)
    (a_box_of : PySem.W.nsIn K mainGlobals "box_of" = some (some (.ref p_box_of))) (l_box_of : K.lookup p_box_of = some ⟨oc_box_of, od_box_of, .func (PySem.W.fnOf "box_of" "box_of" (defArgs s_box_of) (defBody s_box_of) (defScope s_box_of) .none kV_box_of dc_box_of pm_box_of an_box_of cd_box_of ct_box_of), sl_box_of⟩) (c_box_of : PySem.W.codeIn K cd_box_of "box_of" = true) (k_box_of : PySem.W.keepIn K (.ref p_box_of) = true)
    (a_word_box : PySem.W.nsIn K mainGlobals "word_box" = some (some (.ref p_word_box))) (l_word_box : K.lookup p_word_box = some ⟨oc_word_box, od_word_box, .func (PySem.W.fnOf "word_box" "word_box" (defArgs s_word_box) (defBody s_word_box) (defScope s_word_box) .none kV_word_box dc_word_box pm_word_box an_word_box cd_word_box ct_word_box), sl_word_box⟩) (c_word_box : PySem.W.codeIn K cd_word_box "word_box" = true) (k_word_box : PySem.W.keepIn K (.ref p_word_box) = true)
    (a_deed_box : PySem.W.nsIn K mainGlobals "deed_box" = some (some (.ref p_deed_box))) (l_deed_box : K.lookup p_deed_box = some ⟨oc_deed_box, od_deed_box, .func (PySem.W.fnOf "deed_box" "deed_box" (defArgs s_deed_box) (defBody s_deed_box) (defScope s_deed_box) .none kV_deed_box dc_deed_box pm_deed_box an_deed_box cd_deed_box ct_deed_box), sl_deed_box⟩) (c_deed_box : PySem.W.codeIn K cd_deed_box "deed_box" = true) (k_deed_box : PySem.W.keepIn K (.ref p_deed_box) = true)
    (a_box_repeated : PySem.W.nsIn K mainGlobals "box_repeated" = some (some (.ref p_box_repeated))) (l_box_repeated : K.lookup p_box_repeated = some ⟨oc_box_repeated, od_box_repeated, .func (PySem.W.fnOf "box_repeated" "box_repeated" (defArgs s_box_repeated) (defBody s_box_repeated) (defScope s_box_repeated) .none kV_box_repeated dc_box_repeated pm_box_repeated an_box_repeated cd_box_repeated ct_box_repeated), sl_box_repeated⟩) (c_box_repeated : PySem.W.codeIn K cd_box_repeated "box_repeated" = true) (k_box_repeated : PySem.W.keepIn K (.ref p_box_repeated) = true)
    (a_outermost_doings : PySem.W.nsIn K mainGlobals "outermost_doings" = some (some (.ref p_outermost_doings))) (l_outermost_doings : K.lookup p_outermost_doings = some ⟨oc_outermost_doings, od_outermost_doings, .func (PySem.W.fnOf "outermost_doings" "outermost_doings" (defArgs s_outermost_doings) (defBody s_outermost_doings) (defScope s_outermost_doings) .none kV_outermost_doings dc_outermost_doings pm_outermost_doings an_outermost_doings cd_outermost_doings ct_outermost_doings), sl_outermost_doings⟩) (c_outermost_doings : PySem.W.codeIn K cd_outermost_doings "outermost_doings" = true) (k_outermost_doings : PySem.W.keepIn K (.ref p_outermost_doings) = true)
    (a_box_round : PySem.W.nsIn K mainGlobals "box_round" = some (some (.ref p_box_round))) (l_box_round : K.lookup p_box_round = some ⟨oc_box_round, od_box_round, .func (PySem.W.fnOf "box_round" "box_round" (defArgs s_box_round) (defBody s_box_round) (defScope s_box_round) .none kV_box_round dc_box_round pm_box_round an_box_round cd_box_round ct_box_round), sl_box_round⟩) (c_box_round : PySem.W.codeIn K cd_box_round "box_round" = true) (k_box_round : PySem.W.keepIn K (.ref p_box_round) = true)
    (a_box_from : PySem.W.nsIn K mainGlobals "box_from" = some (some (.ref p_box_from))) (l_box_from : K.lookup p_box_from = some ⟨oc_box_from, od_box_from, .func (PySem.W.fnOf "box_from" "box_from" (defArgs s_box_from) (defBody s_box_from) (defScope s_box_from) .none kV_box_from dc_box_from pm_box_from an_box_from cd_box_from ct_box_from), sl_box_from⟩) (c_box_from : PySem.W.codeIn K cd_box_from "box_from" = true) (k_box_from : PySem.W.keepIn K (.ref p_box_from) = true)
    (a_drawn_often : PySem.W.nsIn K mainGlobals "drawn_often" = some (some (.ref p_drawn_often))) (l_drawn_often : K.lookup p_drawn_often = some ⟨oc_drawn_often, od_drawn_often, .func (PySem.W.fnOf "drawn_often" "drawn_often" (defArgs s_drawn_often) (defBody s_drawn_often) (defScope s_drawn_often) .none kV_drawn_often dc_drawn_often pm_drawn_often an_drawn_often cd_drawn_often ct_drawn_often), sl_drawn_often⟩) (c_drawn_often : PySem.W.codeIn K cd_drawn_often "drawn_often" = true) (k_drawn_often : PySem.W.keepIn K (.ref p_drawn_often) = true)
    (a_often_in_word : PySem.W.nsIn K mainGlobals "often_in_word" = some (some (.ref p_often_in_word))) (l_often_in_word : K.lookup p_often_in_word = some ⟨oc_often_in_word, od_often_in_word, .func (PySem.W.fnOf "often_in_word" "often_in_word" (defArgs s_often_in_word) (defBody s_often_in_word) (defScope s_often_in_word) .none kV_often_in_word dc_often_in_word pm_often_in_word an_often_in_word cd_often_in_word ct_often_in_word), sl_often_in_word⟩) (c_often_in_word : PySem.W.codeIn K cd_often_in_word "often_in_word" = true) (k_often_in_word : PySem.W.keepIn K (.ref p_often_in_word) = true)
    (a_often_in_deed : PySem.W.nsIn K mainGlobals "often_in_deed" = some (some (.ref p_often_in_deed))) (l_often_in_deed : K.lookup p_often_in_deed = some ⟨oc_often_in_deed, od_often_in_deed, .func (PySem.W.fnOf "often_in_deed" "often_in_deed" (defArgs s_often_in_deed) (defBody s_often_in_deed) (defScope s_often_in_deed) .none kV_often_in_deed dc_often_in_deed pm_often_in_deed an_often_in_deed cd_often_in_deed ct_often_in_deed), sl_often_in_deed⟩) (c_often_in_deed : PySem.W.codeIn K cd_often_in_deed "often_in_deed" = true) (k_often_in_deed : PySem.W.keepIn K (.ref p_often_in_deed) = true)
    (a_often_in_times : PySem.W.nsIn K mainGlobals "often_in_times" = some (some (.ref p_often_in_times))) (l_often_in_times : K.lookup p_often_in_times = some ⟨oc_often_in_times, od_often_in_times, .func (PySem.W.fnOf "often_in_times" "often_in_times" (defArgs s_often_in_times) (defBody s_often_in_times) (defScope s_often_in_times) .none kV_often_in_times dc_often_in_times pm_often_in_times an_often_in_times cd_often_in_times ct_often_in_times), sl_often_in_times⟩) (c_often_in_times : PySem.W.codeIn K cd_often_in_times "often_in_times" = true) (k_often_in_times : PySem.W.keepIn K (.ref p_often_in_times) = true)
    (a_doings_to_ask : PySem.W.nsIn K mainGlobals "doings_to_ask" = some (some (.ref p_doings_to_ask))) (l_doings_to_ask : K.lookup p_doings_to_ask = some ⟨oc_doings_to_ask, od_doings_to_ask, .func (PySem.W.fnOf "doings_to_ask" "doings_to_ask" (defArgs s_doings_to_ask) (defBody s_doings_to_ask) (defScope s_doings_to_ask) .none kV_doings_to_ask dc_doings_to_ask pm_doings_to_ask an_doings_to_ask cd_doings_to_ask ct_doings_to_ask), sl_doings_to_ask⟩) (c_doings_to_ask : PySem.W.codeIn K cd_doings_to_ask "doings_to_ask" = true) (k_doings_to_ask : PySem.W.keepIn K (.ref p_doings_to_ask) = true)
    (a_span_of_doings : PySem.W.nsIn K mainGlobals "span_of_doings" = some (some (.ref p_span_of_doings))) (l_span_of_doings : K.lookup p_span_of_doings = some ⟨oc_span_of_doings, od_span_of_doings, .func (PySem.W.fnOf "span_of_doings" "span_of_doings" (defArgs s_span_of_doings) (defBody s_span_of_doings) (defScope s_span_of_doings) .none kV_span_of_doings dc_span_of_doings pm_span_of_doings an_span_of_doings cd_span_of_doings ct_span_of_doings), sl_span_of_doings⟩) (c_span_of_doings : PySem.W.codeIn K cd_span_of_doings "span_of_doings" = true) (k_span_of_doings : PySem.W.keepIn K (.ref p_span_of_doings) = true)
    (a_doings_like : PySem.W.nsIn K mainGlobals "doings_like" = some (some (.ref p_doings_like))) (l_doings_like : K.lookup p_doings_like = some ⟨oc_doings_like, od_doings_like, .func (PySem.W.fnOf "doings_like" "doings_like" (defArgs s_doings_like) (defBody s_doings_like) (defScope s_doings_like) .none kV_doings_like dc_doings_like pm_doings_like an_doings_like cd_doings_like ct_doings_like), sl_doings_like⟩) (c_doings_like : PySem.W.codeIn K cd_doings_like "doings_like" = true) (k_doings_like : PySem.W.keepIn K (.ref p_doings_like) = true)
    (a__law_state : PySem.W.nsIn K mainGlobals "_law_state" = some (some (.ref p__law_state))) (l__law_state : K.lookup p__law_state = some ⟨oc__law_state, od__law_state, .func (PySem.W.fnOf "_law_state" "_law_state" (defArgs s__law_state) (defBody s__law_state) (defScope s__law_state) .none kV__law_state dc__law_state pm__law_state an__law_state cd__law_state ct__law_state), sl__law_state⟩) (c__law_state : PySem.W.codeIn K cd__law_state "_law_state" = true) (k__law_state : PySem.W.keepIn K (.ref p__law_state) = true)
    (a__law_take : PySem.W.nsIn K mainGlobals "_law_take" = some (some (.ref p__law_take))) (l__law_take : K.lookup p__law_take = some ⟨oc__law_take, od__law_take, .func (PySem.W.fnOf "_law_take" "_law_take" (defArgs s__law_take) (defBody s__law_take) (defScope s__law_take) .none kV__law_take dc__law_take pm__law_take an__law_take cd__law_take ct__law_take), sl__law_take⟩) (c__law_take : PySem.W.codeIn K cd__law_take "_law_take" = true) (k__law_take : PySem.W.keepIn K (.ref p__law_take) = true)
    (a__law_whole : PySem.W.nsIn K mainGlobals "_law_whole" = some (some (.ref p__law_whole))) (l__law_whole : K.lookup p__law_whole = some ⟨oc__law_whole, od__law_whole, .func (PySem.W.fnOf "_law_whole" "_law_whole" (defArgs s__law_whole) (defBody s__law_whole) (defScope s__law_whole) .none kV__law_whole dc__law_whole pm__law_whole an__law_whole cd__law_whole ct__law_whole), sl__law_whole⟩) (c__law_whole : PySem.W.codeIn K cd__law_whole "_law_whole" = true) (k__law_whole : PySem.W.keepIn K (.ref p__law_whole) = true)
    (a__law_is_row : PySem.W.nsIn K mainGlobals "_law_is_row" = some (some (.ref p__law_is_row))) (l__law_is_row : K.lookup p__law_is_row = some ⟨oc__law_is_row, od__law_is_row, .func (PySem.W.fnOf "_law_is_row" "_law_is_row" (defArgs s__law_is_row) (defBody s__law_is_row) (defScope s__law_is_row) .none kV__law_is_row dc__law_is_row pm__law_is_row an__law_is_row cd__law_is_row ct__law_is_row), sl__law_is_row⟩) (c__law_is_row : PySem.W.codeIn K cd__law_is_row "_law_is_row" = true) (k__law_is_row : PySem.W.keepIn K (.ref p__law_is_row) = true)
    (a_law : PySem.W.nsIn K mainGlobals "law" = some (some (.ref p_law))) (l_law : K.lookup p_law = some ⟨oc_law, od_law, .func (PySem.W.fnOf "law" "law" (defArgs s_law) (defBody s_law) (defScope s_law) .none kV_law dc_law pm_law an_law cd_law ct_law), sl_law⟩) (c_law : PySem.W.codeIn K cd_law "law" = true) (k_law : PySem.W.keepIn K (.ref p_law) = true)
    (ac_Look : PySem.W.nsIn K mainGlobals "Look" = some (some (.ref C_Look)))
    (pg_Look : PySem.W.plainGet K C_Look Str.empty = true)
    (hd_Look : PySem.W.hasDictIn K C_Look = true)
    (po_Look : PySem.W.plainOver K C_Look = true)
    (sa_Look : PySem.W.findIn K (.ref C_Look) "__setattr__" = some (some (.builtin "object.__setattr__")))
    (mk_Look : PySem.W.makesIn K C_Look = true)
    (kp_Look : PySem.W.keepIn K (.ref C_Look) = true)
    (na_Look_greatest : PySem.W.findIn K (.ref C_Look) "greatest" = some none)
    (na_Look_least : PySem.W.findIn K (.ref C_Look) "least" = some none)
    (na_Look_left : PySem.W.findIn K (.ref C_Look) "left" = some none)
    (a_Look___init__ : PySem.W.findIn K (.ref C_Look) "__init__" = some (some (.ref p_Look___init__)))
    (i_Look___init__ : PySem.W.isFn K (.ref p_Look___init__) = true)
    (l_Look___init__ : K.lookup p_Look___init__ = some ⟨oc_Look___init__, od_Look___init__, .func (PySem.W.fnOf "__init__" "Look.__init__" (defArgs s_Look___init__) (defBody s_Look___init__) (defScope s_Look___init__) .none kV_Look___init__ dc_Look___init__ pm_Look___init__ an_Look___init__ cd_Look___init__ ct_Look___init__), sl_Look___init__⟩)
    (c_Look___init__ : PySem.W.codeIn K cd_Look___init__ "Look.__init__" = true)
    (k_Look___init__ : PySem.W.keepIn K (.ref p_Look___init__) = true)
    (a_Look_is_within : PySem.W.findIn K (.ref C_Look) "is_within" = some (some (.ref p_Look_is_within)))
    (i_Look_is_within : PySem.W.isFn K (.ref p_Look_is_within) = true)
    (l_Look_is_within : K.lookup p_Look_is_within = some ⟨oc_Look_is_within, od_Look_is_within, .func (PySem.W.fnOf "is_within" "Look.is_within" (defArgs s_Look_is_within) (defBody s_Look_is_within) (defScope s_Look_is_within) .none kV_Look_is_within dc_Look_is_within pm_Look_is_within an_Look_is_within cd_Look_is_within ct_Look_is_within), sl_Look_is_within⟩)
    (c_Look_is_within : PySem.W.codeIn K cd_Look_is_within "Look.is_within" = true)
    (k_Look_is_within : PySem.W.keepIn K (.ref p_Look_is_within) = true)
    (a_Look_count_doing : PySem.W.findIn K (.ref C_Look) "count_doing" = some (some (.ref p_Look_count_doing)))
    (i_Look_count_doing : PySem.W.isFn K (.ref p_Look_count_doing) = true)
    (l_Look_count_doing : K.lookup p_Look_count_doing = some ⟨oc_Look_count_doing, od_Look_count_doing, .func (PySem.W.fnOf "count_doing" "Look.count_doing" (defArgs s_Look_count_doing) (defBody s_Look_count_doing) (defScope s_Look_count_doing) .none kV_Look_count_doing dc_Look_count_doing pm_Look_count_doing an_Look_count_doing cd_Look_count_doing ct_Look_count_doing), sl_Look_count_doing⟩)
    (c_Look_count_doing : PySem.W.codeIn K cd_Look_count_doing "Look.count_doing" = true)
    (k_Look_count_doing : PySem.W.keepIn K (.ref p_Look_count_doing) = true)
    (e_MOST_DEEDS : PySem.W.nsIn K mainGlobals "MOST_DEEDS" = some (some (.int (30) t_1)))
    (e_MOST_DEEP : PySem.W.nsIn K mainGlobals "MOST_DEEP" = some (some (.int (4) t_2)))
    (e_GREATEST_NUMBER : PySem.W.nsIn K mainGlobals "GREATEST_NUMBER" = some (some (.int (99999999999999999999) t_3)))
    (e_PLAIN_KINDS : PySem.W.nsIn K mainGlobals "PLAIN_KINDS" = some (some (.ref q_4)))
    (ql_4 : K.lookup q_4 = some ⟨.type "tuple", qo_4, .seq #[.str "go" t_5, .str "jump" t_6, .str "turn" t_7] qn_4, qs_4⟩)
    (e_KINDS_FROM_NOUGHT : PySem.W.nsIn K mainGlobals "KINDS_FROM_NOUGHT" = some (some (.ref q_8)))
    (ql_8 : K.lookup q_8 = some ⟨.type "tuple", qo_8, .seq #[.str "go" t_9, .str "times" t_10] qn_8, qs_8⟩)
    (e_START : PySem.W.nsIn K mainGlobals "START" = some (some (.ref q_11)))
    (ql_11 : K.lookup q_11 = some ⟨.type "tuple", qo_11, .seq #[.int (0) t_12, .int (0) t_13, .int (0) t_14] qn_11, qs_11⟩)
    (e_AHEAD : PySem.W.nsIn K mainGlobals "AHEAD" = some (some (.ref q_15)))
    (ql_15 : K.lookup q_15 = some ⟨.type "tuple", qo_15, .seq #[.ref q_16, .ref q_19, .ref q_22, .ref q_25] qn_15, qs_15⟩)
    (ql_25 : K.lookup q_25 = some ⟨.type "tuple", qo_25, .seq #[.int (0) t_26, .int (-1) t_27] qn_25, qs_25⟩)
    (ql_22 : K.lookup q_22 = some ⟨.type "tuple", qo_22, .seq #[.int (-1) t_23, .int (0) t_24] qn_22, qs_22⟩)
    (ql_19 : K.lookup q_19 = some ⟨.type "tuple", qo_19, .seq #[.int (0) t_20, .int (1) t_21] qn_19, qs_19⟩)
    (ql_16 : K.lookup q_16 = some ⟨.type "tuple", qo_16, .seq #[.int (1) t_17, .int (0) t_18] qn_16, qs_16⟩)
    (e_WAYS : PySem.W.nsIn K mainGlobals "WAYS" = some (some (.ref q_28)))
    (ql_28 : K.lookup q_28 = some ⟨.type "tuple", qo_28, .seq #[.int (0) t_29, .int (1) t_30] qn_28, qs_28⟩)
    (e_MOST_LOOKED_AT : PySem.W.nsIn K mainGlobals "MOST_LOOKED_AT" = some (some (.int (1000) t_31)))
    (zz_abs : PySem.W.nsIn K mainGlobals "abs" = some none)
    (zz_all : PySem.W.nsIn K mainGlobals "all" = some none)
    (zz_bool : PySem.W.nsIn K mainGlobals "bool" = some none)
    (zz_int : PySem.W.nsIn K mainGlobals "int" = some none)
    (zz_isinstance : PySem.W.nsIn K mainGlobals "isinstance" = some none)
    (zz_len : PySem.W.nsIn K mainGlobals "len" = some none)
    (zz_list : PySem.W.nsIn K mainGlobals "list" = some none)
    (zz_max : PySem.W.nsIn K mainGlobals "max" = some none)
    (zz_min : PySem.W.nsIn K mainGlobals "min" = some none)
    (zz_range : PySem.W.nsIn K mainGlobals "range" = some none)
    (zz_tuple : PySem.W.nsIn K mainGlobals "tuple" = some none) :
    ∃ fd : FuncData, (∀ (s : Shared) (v : Value), BindsTo s fd ⟨[v], []⟩ [("script", v)]) ∧ ∀ base : Heap, K.In base → base.Ns mainGlobals mg → FnOk l.prog w K mg base CX0 43 fa fd ["script"] (lift K spLaw) := by
  have e := hfa.symm.trans (PySem.W.mg_of X G a_law)
  cases e
  have m_Look := PySem.W.mg_of X G ac_Look
  have oc_Look : ObjC K "Look" C_Look := ⟨ac_Look, ⟨pg_Look, hd_Look, po_Look, sa_Look⟩⟩
  have g_MOST_DEEDS : Gd K mg "MOST_DEEDS" k_MOST_DEEDS := gd_int X G e_MOST_DEEDS
  have g_MOST_DEEP : Gd K mg "MOST_DEEP" k_MOST_DEEP := gd_int X G e_MOST_DEEP
  have g_GREATEST_NUMBER : Gd K mg "GREATEST_NUMBER" k_GREATEST_NUMBER := gd_int X G e_GREATEST_NUMBER
  have g_PLAIN_KINDS : Gd K mg "PLAIN_KINDS" k_PLAIN_KINDS := gd_tup X G e_PLAIN_KINDS (TupK.mk ql_4 (show 3 ≤ sizeLine by decide) (.str (.str (.str .nil))))
  have g_KINDS_FROM_NOUGHT : Gd K mg "KINDS_FROM_NOUGHT" k_KINDS_FROM_NOUGHT := gd_tup X G e_KINDS_FROM_NOUGHT (TupK.mk ql_8 (show 2 ≤ sizeLine by decide) (.str (.str .nil)))
  have g_START : Gd K mg "START" k_START := gd_tup X G e_START (TupK.mk ql_11 (show 3 ≤ sizeLine by decide) (.int (.int (.int .nil))))
  have g_AHEAD : Gd K mg "AHEAD" k_AHEAD := gd_tup X G e_AHEAD (TupK.mk ql_15 (show 4 ≤ sizeLine by decide) (.tup (TupK.mk ql_16 (show 2 ≤ sizeLine by decide) (.int (.int .nil))) (.tup (TupK.mk ql_19 (show 2 ≤ sizeLine by decide) (.int (.int .nil))) (.tup (TupK.mk ql_22 (show 2 ≤ sizeLine by decide) (.int (.int .nil))) (.tup (TupK.mk ql_25 (show 2 ≤ sizeLine by decide) (.int (.int .nil))) .nil)))))
  have g_WAYS : Gd K mg "WAYS" k_WAYS := gd_tup X G e_WAYS (TupK.mk ql_28 (show 2 ≤ sizeLine by decide) (.int (.int .nil)))
  have g_MOST_LOOKED_AT : Gd K mg "MOST_LOOKED_AT" k_MOST_LOOKED_AT := gd_int X G e_MOST_LOOKED_AT
  have z_abs := PySem.W.mg_none_of X G zz_abs
  have z_all := PySem.W.mg_none_of X G zz_all
  have z_bool := PySem.W.mg_none_of X G zz_bool
  have z_int := PySem.W.mg_none_of X G zz_int
  have z_isinstance := PySem.W.mg_none_of X G zz_isinstance
  have z_len := PySem.W.mg_none_of X G zz_len
  have z_list := PySem.W.mg_none_of X G zz_list
  have z_max := PySem.W.mg_none_of X G zz_max
  have z_min := PySem.W.mg_none_of X G zz_min
  have z_range := PySem.W.mg_none_of X G zz_range
  have z_tuple := PySem.W.mg_none_of X G zz_tuple
  have F_check_word := fun_mk (st := s_check_word) l_check_word c_check_word k_check_word
  have b_check_word := F_check_word.binds (ps := ["word"]) fun _ _ _ _ _ _ us hl => by obtain ⟨_, rfl⟩ := len1 hl; rfl
  have m_check_word := PySem.W.mg_of X G a_check_word
  have F_checked_count := fun_mk (st := s_checked_count) l_checked_count c_checked_count k_checked_count
  have b_checked_count := F_checked_count.binds (ps := ["word", "depth"]) fun _ _ _ _ _ _ us hl => by obtain ⟨_, _, rfl⟩ := len2 hl; rfl
  have m_checked_count := PySem.W.mg_of X G a_checked_count
  have F_checked_deed_count := fun_mk (st := s_checked_deed_count) l_checked_deed_count c_checked_deed_count k_checked_deed_count
  have b_checked_deed_count := F_checked_deed_count.binds (ps := ["deed", "depth"]) fun _ _ _ _ _ _ us hl => by obtain ⟨_, _, rfl⟩ := len2 hl; rfl
  have m_checked_deed_count := PySem.W.mg_of X G a_checked_deed_count
  have F_check_number := fun_mk (st := s_check_number) l_check_number c_check_number k_check_number
  have b_check_number := F_check_number.binds (ps := ["kind", "number"]) fun _ _ _ _ _ _ us hl => by obtain ⟨_, _, rfl⟩ := len2 hl; rfl
  have m_check_number := PySem.W.mg_of X G a_check_number
  have F_led := fun_mk (st := s_led) l_led c_led k_led
  have b_led := F_led.binds (ps := ["pen", "part"]) fun _ _ _ _ _ _ us hl => by obtain ⟨_, _, rfl⟩ := len2 hl; rfl
  have m_led := PySem.W.mg_of X G a_led
  have F_pen_behind := fun_mk (st := s_pen_behind) l_pen_behind c_pen_behind k_pen_behind
  have b_pen_behind := F_pen_behind.binds (ps := ["word"]) fun _ _ _ _ _ _ us hl => by obtain ⟨_, rfl⟩ := len1 hl; rfl
  have m_pen_behind := PySem.W.mg_of X G a_pen_behind
  have F_pen_behind_deed := fun_mk (st := s_pen_behind_deed) l_pen_behind_deed c_pen_behind_deed k_pen_behind_deed
  have b_pen_behind_deed := F_pen_behind_deed.binds (ps := ["deed"]) fun _ _ _ _ _ _ us hl => by obtain ⟨_, rfl⟩ := len1 hl; rfl
  have m_pen_behind_deed := PySem.W.mg_of X G a_pen_behind_deed
  have F_pen_repeated := fun_mk (st := s_pen_repeated) l_pen_repeated c_pen_repeated k_pen_repeated
  have b_pen_repeated := F_pen_repeated.binds (ps := ["part", "number"]) fun _ _ _ _ _ _ us hl => by obtain ⟨_, _, rfl⟩ := len2 hl; rfl
  have m_pen_repeated := PySem.W.mg_of X G a_pen_repeated
  have F_check_stroke := fun_mk (st := s_check_stroke) l_check_stroke c_check_stroke k_check_stroke
  have b_check_stroke := F_check_stroke.binds (ps := ["stroke"]) fun _ _ _ _ _ _ us hl => by obtain ⟨_, rfl⟩ := len1 hl; rfl
  have m_check_stroke := PySem.W.mg_of X G a_check_stroke
  have F_ends_of := fun_mk (st := s_ends_of) l_ends_of c_ends_of k_ends_of
  have b_ends_of := F_ends_of.binds (ps := ["stroke"]) fun _ _ _ _ _ _ us hl => by obtain ⟨_, rfl⟩ := len1 hl; rfl
  have m_ends_of := PySem.W.mg_of X G a_ends_of
  have F_box_of := fun_mk (st := s_box_of) l_box_of c_box_of k_box_of
  have b_box_of := F_box_of.binds (ps := ["word"]) fun _ _ _ _ _ _ us hl => by obtain ⟨_, rfl⟩ := len1 hl; rfl
  have m_box_of := PySem.W.mg_of X G a_box_of
  have F_word_box := fun_mk (st := s_word_box) l_word_box c_word_box k_word_box
  have b_word_box := F_word_box.binds (ps := ["word"]) fun _ _ _ _ _ _ us hl => by obtain ⟨_, rfl⟩ := len1 hl; rfl
  have m_word_box := PySem.W.mg_of X G a_word_box
  have F_deed_box := fun_mk (st := s_deed_box) l_deed_box c_deed_box k_deed_box
  have b_deed_box := F_deed_box.binds (ps := ["deed"]) fun _ _ _ _ _ _ us hl => by obtain ⟨_, rfl⟩ := len1 hl; rfl
  have m_deed_box := PySem.W.mg_of X G a_deed_box
  have F_box_repeated := fun_mk (st := s_box_repeated) l_box_repeated c_box_repeated k_box_repeated
  have b_box_repeated := F_box_repeated.binds (ps := ["box", "part", "number"]) fun _ _ _ _ _ _ us hl => by obtain ⟨_, _, _, rfl⟩ := len3 hl; rfl
  have m_box_repeated := PySem.W.mg_of X G a_box_repeated
  have F_outermost_doings := fun_mk (st := s_outermost_doings) l_outermost_doings c_outermost_doings k_outermost_doings
  have b_outermost_doings := F_outermost_doings.binds (ps := ["part", "number"]) fun _ _ _ _ _ _ us hl => by obtain ⟨_, _, rfl⟩ := len2 hl; rfl
  have m_outermost_doings := PySem.W.mg_of X G a_outermost_doings
  have F_box_round := fun_mk (st := s_box_round) l_box_round c_box_round k_box_round
  have b_box_round := F_box_round.binds (ps := ["one", "other"]) fun _ _ _ _ _ _ us hl => by obtain ⟨_, _, rfl⟩ := len2 hl; rfl
  have m_box_round := PySem.W.mg_of X G a_box_round
  have F_box_from := fun_mk (st := s_box_from) l_box_from c_box_from k_box_from
  have b_box_from := F_box_from.binds (ps := ["pen", "box"]) fun _ _ _ _ _ _ us hl => by obtain ⟨_, _, rfl⟩ := len2 hl; rfl
  have m_box_from := PySem.W.mg_of X G a_box_from
  have F_drawn_often := fun_mk (st := s_drawn_often) l_drawn_often c_drawn_often k_drawn_often
  have b_drawn_often := F_drawn_often.binds (ps := ["word", "stroke"]) fun _ _ _ _ _ _ us hl => by obtain ⟨_, _, rfl⟩ := len2 hl; rfl
  have m_drawn_often := PySem.W.mg_of X G a_drawn_often
  have F_often_in_word := fun_mk (st := s_often_in_word) l_often_in_word c_often_in_word k_often_in_word
  have b_often_in_word := F_often_in_word.binds (ps := ["word", "pen", "look"]) fun _ _ _ _ _ _ us hl => by obtain ⟨_, _, _, rfl⟩ := len3 hl; rfl
  have m_often_in_word := PySem.W.mg_of X G a_often_in_word
  have F_often_in_deed := fun_mk (st := s_often_in_deed) l_often_in_deed c_often_in_deed k_often_in_deed
  have b_often_in_deed := F_often_in_deed.binds (ps := ["deed", "pen", "look"]) fun _ _ _ _ _ _ us hl => by obtain ⟨_, _, _, rfl⟩ := len3 hl; rfl
  have m_often_in_deed := PySem.W.mg_of X G a_often_in_deed
  have F_often_in_times := fun_mk (st := s_often_in_times) l_often_in_times c_often_in_times k_often_in_times
  have b_often_in_times := F_often_in_times.binds (ps := ["number", "word", "pen", "look"]) fun _ _ _ _ _ _ us hl => by obtain ⟨_, _, _, _, rfl⟩ := len4 hl; rfl
  have m_often_in_times := PySem.W.mg_of X G a_often_in_times
  have F_doings_to_ask := fun_mk (st := s_doings_to_ask) l_doings_to_ask c_doings_to_ask k_doings_to_ask
  have b_doings_to_ask := F_doings_to_ask.binds (ps := ["number", "part", "pen", "box", "look"]) fun _ _ _ _ _ _ us hl => by obtain ⟨_, _, _, _, _, rfl⟩ := len5 hl; rfl
  have m_doings_to_ask := PySem.W.mg_of X G a_doings_to_ask
  have F_span_of_doings := fun_mk (st := s_span_of_doings) l_span_of_doings c_span_of_doings k_span_of_doings
  have b_span_of_doings := F_span_of_doings.binds (ps := ["number", "low", "high", "shift", "least", "greatest"]) fun _ _ _ _ _ _ us hl => by obtain ⟨_, _, _, _, _, _, rfl⟩ := len6 hl; rfl
  have m_span_of_doings := PySem.W.mg_of X G a_span_of_doings
  have F_doings_like := fun_mk (st := s_doings_like) l_doings_like c_doings_like k_doings_like
  have b_doings_like := F_doings_like.binds (ps := ["doing", "number", "part"]) fun _ _ _ _ _ _ us hl => by obtain ⟨_, _, _, rfl⟩ := len3 hl; rfl
  have m_doings_like := PySem.W.mg_of X G a_doings_like
  have F__law_state := fun_mk (st := s__law_state) l__law_state c__law_state k__law_state
  have b__law_state := F__law_state.binds (ps := ["script", "k"]) fun _ _ _ _ _ _ us hl => by obtain ⟨_, _, rfl⟩ := len2 hl; rfl
  have m__law_state := PySem.W.mg_of X G a__law_state
  have F__law_take := fun_mk (st := s__law_take) l__law_take c__law_take k__law_take
  have b__law_take := F__law_take.binds (ps := ["state", "many"]) fun _ _ _ _ _ _ us hl => by obtain ⟨_, _, rfl⟩ := len2 hl; rfl
  have m__law_take := PySem.W.mg_of X G a__law_take
  have F__law_whole := fun_mk (st := s__law_whole) l__law_whole c__law_whole k__law_whole
  have b__law_whole := F__law_whole.binds (ps := ["found"]) fun _ _ _ _ _ _ us hl => by obtain ⟨_, rfl⟩ := len1 hl; rfl
  have m__law_whole := PySem.W.mg_of X G a__law_whole
  have F__law_is_row := fun_mk (st := s__law_is_row) l__law_is_row c__law_is_row k__law_is_row
  have b__law_is_row := F__law_is_row.binds (ps := ["found", "due"]) fun _ _ _ _ _ _ us hl => by obtain ⟨_, _, rfl⟩ := len2 hl; rfl
  have m__law_is_row := PySem.W.mg_of X G a__law_is_row
  have F_law := fun_mk (st := s_law) l_law c_law k_law
  have b_law := F_law.binds (ps := ["script"]) fun _ _ _ _ _ _ us hl => by obtain ⟨_, rfl⟩ := len1 hl; rfl
  have m_law := PySem.W.mg_of X G a_law
  have F_Look___init__ := fun_mk (st := s_Look___init__) l_Look___init__ c_Look___init__ k_Look___init__
  have b_Look___init__ := F_Look___init__.binds (ps := ["self", "stroke"]) fun _ _ _ _ _ _ us hl => by obtain ⟨_, _, rfl⟩ := len2 hl; rfl
  have F_Look_is_within := fun_mk (st := s_Look_is_within) l_Look_is_within c_Look_is_within k_Look_is_within
  have b_Look_is_within := F_Look_is_within.binds (ps := ["self", "box"]) fun _ _ _ _ _ _ us hl => by obtain ⟨_, _, rfl⟩ := len2 hl; rfl
  have F_Look_count_doing := fun_mk (st := s_Look_count_doing) l_Look_count_doing c_Look_count_doing k_Look_count_doing
  have b_Look_count_doing := F_Look_count_doing.binds (ps := ["self"]) fun _ _ _ _ _ _ us hl => by obtain ⟨_, rfl⟩ := len1 hl; rfl
  refine ⟨PySem.W.fnOf "law" "law" (defArgs s_law) (defBody s_law) (defScope s_law) .none kV_law dc_law pm_law an_law cd_law ct_law, fun s v => .of_eq rfl, fun base KB GB => ?_⟩

  have h_check_number : Cal l.prog w K mg base (1) "check_number" ["kind", "number"] spNum := cal_of F_check_number m_check_number b_check_number sc_check_number (by intro ds μ Q h; first | (obtain ⟨rfl, _⟩ := h; rfl) | (obtain ⟨_, rfl, _⟩ := h; rfl) | (obtain ⟨_, _, rfl, _⟩ := h; rfl) | (obtain ⟨_, _, _, rfl, _⟩ := h; rfl) | (obtain ⟨_, _, _, _, rfl, _⟩ := h; rfl) | (obtain ⟨_, _, _, _, _, rfl, _⟩ := h; rfl) | (obtain ⟨_, _, _, _, _, _, rfl, _⟩ := h; rfl) | (obtain ⟨_, _, _, _, _, _, _, rfl, _⟩ := h; rfl) | (obtain ⟨_, _, _, _, _, _, _, _, rfl, _⟩ := h; rfl)) (k := 0) (fun cdv A outer s H E hr => rs_check_number z_abs z_int z_isinstance g_GREATEST_NUMBER g_KINDS_FROM_NOUGHT hr) rd_check_number
  have step_checked_count : ∀ j, Cal l.prog w K mg base (2 * j + 1) "checked_deed_count" ["deed", "depth"] (spDeed j) → Cal l.prog w K mg base (2 * j + 1 + 1) "checked_count" ["word", "depth"] (spCount j) := fun j ih => cal_of F_checked_count m_checked_count b_checked_count sc_checked_count (by intro ds μ Q h; first | (obtain ⟨rfl, _⟩ := h; rfl) | (obtain ⟨_, rfl, _⟩ := h; rfl) | (obtain ⟨_, _, rfl, _⟩ := h; rfl) | (obtain ⟨_, _, _, rfl, _⟩ := h; rfl) | (obtain ⟨_, _, _, _, rfl, _⟩ := h; rfl) | (obtain ⟨_, _, _, _, _, rfl, _⟩ := h; rfl) | (obtain ⟨_, _, _, _, _, _, rfl, _⟩ := h; rfl) | (obtain ⟨_, _, _, _, _, _, _, rfl, _⟩ := h; rfl) | (obtain ⟨_, _, _, _, _, _, _, _, rfl, _⟩ := h; rfl)) (k := 2 * j + 1) (fun cdv A outer s H E hr => rs_checked_count ih (Nat.le_refl _) z_isinstance z_tuple g_MOST_DEEDS g_MOST_DEEP hr) (rd_checked_count j)
  have fam_checked_count : ∀ j, Cal l.prog w K mg base (2 * j + 1) "checked_deed_count" ["deed", "depth"] (spDeed j) := fun j => by
    induction j with
    | zero => exact (cal_zero F_checked_deed_count m_checked_deed_count b_checked_deed_count (by intro ds μ Q h; first | (obtain ⟨_, _, h⟩ := h; omega) | (obtain ⟨_, _, _, h⟩ := h; omega) | (obtain ⟨_, _, _, _, h⟩ := h; omega))).mono (by omega)
    | succ j ih => exact (cal_of F_checked_deed_count m_checked_deed_count b_checked_deed_count sc_checked_deed_count (by intro ds μ Q h; first | (obtain ⟨rfl, _⟩ := h; rfl) | (obtain ⟨_, rfl, _⟩ := h; rfl) | (obtain ⟨_, _, rfl, _⟩ := h; rfl) | (obtain ⟨_, _, _, rfl, _⟩ := h; rfl) | (obtain ⟨_, _, _, _, rfl, _⟩ := h; rfl) | (obtain ⟨_, _, _, _, _, rfl, _⟩ := h; rfl) | (obtain ⟨_, _, _, _, _, _, rfl, _⟩ := h; rfl) | (obtain ⟨_, _, _, _, _, _, _, rfl, _⟩ := h; rfl) | (obtain ⟨_, _, _, _, _, _, _, _, rfl, _⟩ := h; rfl)) (k := 2 * j + 1 + 1) (fun cdv A outer s H E hr => rs_checked_deed_count h_check_number (by omega) (step_checked_count j ih) (Nat.le_refl _) z_isinstance z_len z_tuple g_PLAIN_KINDS hr) (rd_checked_deed_count j)).mono (by omega)
  have h_checked_deed_count := fam_checked_count 5
  have h_checked_count := step_checked_count 5 h_checked_deed_count
  have h_check_word : Cal l.prog w K mg base (13) "check_word" ["word"] spChk := cal_of F_check_word m_check_word b_check_word sc_check_word (by intro ds μ Q h; first | (obtain ⟨rfl, _⟩ := h; rfl) | (obtain ⟨_, rfl, _⟩ := h; rfl) | (obtain ⟨_, _, rfl, _⟩ := h; rfl) | (obtain ⟨_, _, _, rfl, _⟩ := h; rfl) | (obtain ⟨_, _, _, _, rfl, _⟩ := h; rfl) | (obtain ⟨_, _, _, _, _, rfl, _⟩ := h; rfl) | (obtain ⟨_, _, _, _, _, _, rfl, _⟩ := h; rfl) | (obtain ⟨_, _, _, _, _, _, _, rfl, _⟩ := h; rfl) | (obtain ⟨_, _, _, _, _, _, _, _, rfl, _⟩ := h; rfl)) (k := 12) (fun cdv A outer s H E hr => rs_check_word h_checked_count (by decide) hr) rd_check_word
  have h_led : Cal l.prog w K mg base (1) "led" ["pen", "part"] spLed := cal_of F_led m_led b_led sc_led (by intro ds μ Q h; first | (obtain ⟨rfl, _⟩ := h; rfl) | (obtain ⟨_, rfl, _⟩ := h; rfl) | (obtain ⟨_, _, rfl, _⟩ := h; rfl) | (obtain ⟨_, _, _, rfl, _⟩ := h; rfl) | (obtain ⟨_, _, _, _, rfl, _⟩ := h; rfl) | (obtain ⟨_, _, _, _, _, rfl, _⟩ := h; rfl) | (obtain ⟨_, _, _, _, _, _, rfl, _⟩ := h; rfl) | (obtain ⟨_, _, _, _, _, _, _, rfl, _⟩ := h; rfl) | (obtain ⟨_, _, _, _, _, _, _, _, rfl, _⟩ := h; rfl)) (k := 0) (fun cdv A outer s H E hr => rs_led g_AHEAD hr) rd_led
  have h_pen_repeated : Cal l.prog w K mg base (2) "pen_repeated" ["part", "number"] spRep := cal_of F_pen_repeated m_pen_repeated b_pen_repeated sc_pen_repeated (by intro ds μ Q h; first | (obtain ⟨rfl, _⟩ := h; rfl) | (obtain ⟨_, rfl, _⟩ := h; rfl) | (obtain ⟨_, _, rfl, _⟩ := h; rfl) | (obtain ⟨_, _, _, rfl, _⟩ := h; rfl) | (obtain ⟨_, _, _, _, rfl, _⟩ := h; rfl) | (obtain ⟨_, _, _, _, _, rfl, _⟩ := h; rfl) | (obtain ⟨_, _, _, _, _, _, rfl, _⟩ := h; rfl) | (obtain ⟨_, _, _, _, _, _, _, rfl, _⟩ := h; rfl) | (obtain ⟨_, _, _, _, _, _, _, _, rfl, _⟩ := h; rfl)) (k := 1) (fun cdv A outer s H E hr => rs_pen_repeated h_led (by decide) z_range g_START hr) rd_pen_repeated
  have step_pen_behind : ∀ j, Cal l.prog w K mg base (2 * j + 2) "pen_behind_deed" ["deed"] (spPd j) → Cal l.prog w K mg base (2 * j + 2 + 1) "pen_behind" ["word"] (spPb j) := fun j ih => cal_of F_pen_behind m_pen_behind b_pen_behind sc_pen_behind (by intro ds μ Q h; first | (obtain ⟨rfl, _⟩ := h; rfl) | (obtain ⟨_, rfl, _⟩ := h; rfl) | (obtain ⟨_, _, rfl, _⟩ := h; rfl) | (obtain ⟨_, _, _, rfl, _⟩ := h; rfl) | (obtain ⟨_, _, _, _, rfl, _⟩ := h; rfl) | (obtain ⟨_, _, _, _, _, rfl, _⟩ := h; rfl) | (obtain ⟨_, _, _, _, _, _, rfl, _⟩ := h; rfl) | (obtain ⟨_, _, _, _, _, _, _, rfl, _⟩ := h; rfl) | (obtain ⟨_, _, _, _, _, _, _, _, rfl, _⟩ := h; rfl)) (k := 2 * j + 2) (fun cdv A outer s H E hr => rs_pen_behind h_led (by omega) ih (Nat.le_refl _) g_START hr) (rd_pen_behind j)
  have fam_pen_behind : ∀ j, Cal l.prog w K mg base (2 * j + 2) "pen_behind_deed" ["deed"] (spPd j) := fun j => by
    induction j with
    | zero => exact (cal_zero F_pen_behind_deed m_pen_behind_deed b_pen_behind_deed (by intro ds μ Q h; first | (obtain ⟨_, _, h⟩ := h; omega) | (obtain ⟨_, _, _, h⟩ := h; omega) | (obtain ⟨_, _, _, _, h⟩ := h; omega))).mono (by omega)
    | succ j ih => exact (cal_of F_pen_behind_deed m_pen_behind_deed b_pen_behind_deed sc_pen_behind_deed (by intro ds μ Q h; first | (obtain ⟨rfl, _⟩ := h; rfl) | (obtain ⟨_, rfl, _⟩ := h; rfl) | (obtain ⟨_, _, rfl, _⟩ := h; rfl) | (obtain ⟨_, _, _, rfl, _⟩ := h; rfl) | (obtain ⟨_, _, _, _, rfl, _⟩ := h; rfl) | (obtain ⟨_, _, _, _, _, rfl, _⟩ := h; rfl) | (obtain ⟨_, _, _, _, _, _, rfl, _⟩ := h; rfl) | (obtain ⟨_, _, _, _, _, _, _, rfl, _⟩ := h; rfl) | (obtain ⟨_, _, _, _, _, _, _, _, rfl, _⟩ := h; rfl)) (k := 2 * j + 2 + 1) (fun cdv A outer s H E hr => rs_pen_behind_deed (step_pen_behind j ih) (Nat.le_refl _) h_pen_repeated (by omega) hr) (rd_pen_behind_deed j)).mono (by omega)
  have h_pen_behind_deed := fam_pen_behind 5
  have h_pen_behind := step_pen_behind 5 h_pen_behind_deed
  have h_check_stroke : Cal l.prog w K mg base (1) "check_stroke" ["stroke"] spChkS := cal_of F_check_stroke m_check_stroke b_check_stroke sc_check_stroke (by intro ds μ Q h; first | (obtain ⟨rfl, _⟩ := h; rfl) | (obtain ⟨_, rfl, _⟩ := h; rfl) | (obtain ⟨_, _, rfl, _⟩ := h; rfl) | (obtain ⟨_, _, _, rfl, _⟩ := h; rfl) | (obtain ⟨_, _, _, _, rfl, _⟩ := h; rfl) | (obtain ⟨_, _, _, _, _, rfl, _⟩ := h; rfl) | (obtain ⟨_, _, _, _, _, _, rfl, _⟩ := h; rfl) | (obtain ⟨_, _, _, _, _, _, _, rfl, _⟩ := h; rfl) | (obtain ⟨_, _, _, _, _, _, _, _, rfl, _⟩ := h; rfl)) (k := 0) (fun cdv A outer s H E hr => rs_check_stroke z_len g_WAYS hr) rd_check_stroke
  have h_ends_of : Cal l.prog w K mg base (1) "ends_of" ["stroke"] spEnds := cal_of F_ends_of m_ends_of b_ends_of sc_ends_of (by intro ds μ Q h; first | (obtain ⟨rfl, _⟩ := h; rfl) | (obtain ⟨_, rfl, _⟩ := h; rfl) | (obtain ⟨_, _, rfl, _⟩ := h; rfl) | (obtain ⟨_, _, _, rfl, _⟩ := h; rfl) | (obtain ⟨_, _, _, _, rfl, _⟩ := h; rfl) | (obtain ⟨_, _, _, _, _, rfl, _⟩ := h; rfl) | (obtain ⟨_, _, _, _, _, _, rfl, _⟩ := h; rfl) | (obtain ⟨_, _, _, _, _, _, _, rfl, _⟩ := h; rfl) | (obtain ⟨_, _, _, _, _, _, _, _, rfl, _⟩ := h; rfl)) (k := 0) (fun cdv A outer s H E hr => rs_ends_of hr) rd_ends_of
  have h_box_round : Cal l.prog w K mg base (1) "box_round" ["one", "other"] spBor := cal_of F_box_round m_box_round b_box_round sc_box_round (by intro ds μ Q h; first | (obtain ⟨rfl, _⟩ := h; rfl) | (obtain ⟨_, rfl, _⟩ := h; rfl) | (obtain ⟨_, _, rfl, _⟩ := h; rfl) | (obtain ⟨_, _, _, rfl, _⟩ := h; rfl) | (obtain ⟨_, _, _, _, rfl, _⟩ := h; rfl) | (obtain ⟨_, _, _, _, _, rfl, _⟩ := h; rfl) | (obtain ⟨_, _, _, _, _, _, rfl, _⟩ := h; rfl) | (obtain ⟨_, _, _, _, _, _, _, rfl, _⟩ := h; rfl) | (obtain ⟨_, _, _, _, _, _, _, _, rfl, _⟩ := h; rfl)) (k := 0) (fun cdv A outer s H E hr => rs_box_round z_max z_min hr) rd_box_round
  have h_box_from : Cal l.prog w K mg base (2) "box_from" ["pen", "box"] spBfr := cal_of F_box_from m_box_from b_box_from sc_box_from (by intro ds μ Q h; first | (obtain ⟨rfl, _⟩ := h; rfl) | (obtain ⟨_, rfl, _⟩ := h; rfl) | (obtain ⟨_, _, rfl, _⟩ := h; rfl) | (obtain ⟨_, _, _, rfl, _⟩ := h; rfl) | (obtain ⟨_, _, _, _, rfl, _⟩ := h; rfl) | (obtain ⟨_, _, _, _, _, rfl, _⟩ := h; rfl) | (obtain ⟨_, _, _, _, _, _, rfl, _⟩ := h; rfl) | (obtain ⟨_, _, _, _, _, _, _, rfl, _⟩ := h; rfl) | (obtain ⟨_, _, _, _, _, _, _, _, rfl, _⟩ := h; rfl)) (k := 1) (fun cdv A outer s H E hr => rs_box_from h_led (by decide) z_max z_min hr) rd_box_from
  have h_outermost_doings : Cal l.prog w K mg base (1) "outermost_doings" ["part", "number"] spOut := cal_of F_outermost_doings m_outermost_doings b_outermost_doings sc_outermost_doings (by intro ds μ Q h; first | (obtain ⟨rfl, _⟩ := h; rfl) | (obtain ⟨_, rfl, _⟩ := h; rfl) | (obtain ⟨_, _, rfl, _⟩ := h; rfl) | (obtain ⟨_, _, _, rfl, _⟩ := h; rfl) | (obtain ⟨_, _, _, _, rfl, _⟩ := h; rfl) | (obtain ⟨_, _, _, _, _, rfl, _⟩ := h; rfl) | (obtain ⟨_, _, _, _, _, _, rfl, _⟩ := h; rfl) | (obtain ⟨_, _, _, _, _, _, _, rfl, _⟩ := h; rfl) | (obtain ⟨_, _, _, _, _, _, _, _, rfl, _⟩ := h; rfl)) (k := 0) (fun cdv A outer s H E hr => rs_outermost_doings z_list z_min z_range hr) rd_outermost_doings
  have h_box_repeated : Cal l.prog w K mg base (3) "box_repeated" ["box", "part", "number"] spBrep := cal_of F_box_repeated m_box_repeated b_box_repeated sc_box_repeated (by intro ds μ Q h; first | (obtain ⟨rfl, _⟩ := h; rfl) | (obtain ⟨_, rfl, _⟩ := h; rfl) | (obtain ⟨_, _, rfl, _⟩ := h; rfl) | (obtain ⟨_, _, _, rfl, _⟩ := h; rfl) | (obtain ⟨_, _, _, _, rfl, _⟩ := h; rfl) | (obtain ⟨_, _, _, _, _, rfl, _⟩ := h; rfl) | (obtain ⟨_, _, _, _, _, _, rfl, _⟩ := h; rfl) | (obtain ⟨_, _, _, _, _, _, _, rfl, _⟩ := h; rfl) | (obtain ⟨_, _, _, _, _, _, _, _, rfl, _⟩ := h; rfl)) (k := 2) (fun cdv A outer s H E hr => rs_box_repeated h_box_from (by decide) h_box_round (by decide) h_outermost_doings (by decide) h_pen_repeated (by decide) hr) rd_box_repeated
  have step_word_box : ∀ j, Cal l.prog w K mg base (2 * j + 13) "deed_box" ["deed"] (spDb j) → Cal l.prog w K mg base (2 * j + 13 + 1) "word_box" ["word"] (spWb j) := fun j ih => cal_of F_word_box m_word_box b_word_box sc_word_box (by intro ds μ Q h; first | (obtain ⟨rfl, _⟩ := h; rfl) | (obtain ⟨_, rfl, _⟩ := h; rfl) | (obtain ⟨_, _, rfl, _⟩ := h; rfl) | (obtain ⟨_, _, _, rfl, _⟩ := h; rfl) | (obtain ⟨_, _, _, _, rfl, _⟩ := h; rfl) | (obtain ⟨_, _, _, _, _, rfl, _⟩ := h; rfl) | (obtain ⟨_, _, _, _, _, _, rfl, _⟩ := h; rfl) | (obtain ⟨_, _, _, _, _, _, _, rfl, _⟩ := h; rfl) | (obtain ⟨_, _, _, _, _, _, _, _, rfl, _⟩ := h; rfl)) (k := 2 * j + 13) (fun cdv A outer s H E hr => rs_word_box h_box_from (by omega) h_box_round (by omega) ih (Nat.le_refl _) h_led (by omega) h_pen_behind_deed (by omega) g_START hr) (rd_word_box j)
  have fam_word_box : ∀ j, Cal l.prog w K mg base (2 * j + 13) "deed_box" ["deed"] (spDb j) := fun j => by
    induction j with
    | zero => exact (cal_zero F_deed_box m_deed_box b_deed_box (by intro ds μ Q h; first | (obtain ⟨_, _, h⟩ := h; omega) | (obtain ⟨_, _, _, h⟩ := h; omega) | (obtain ⟨_, _, _, _, h⟩ := h; omega))).mono (by omega)
    | succ j ih => exact (cal_of F_deed_box m_deed_box b_deed_box sc_deed_box (by intro ds μ Q h; first | (obtain ⟨rfl, _⟩ := h; rfl) | (obtain ⟨_, rfl, _⟩ := h; rfl) | (obtain ⟨_, _, rfl, _⟩ := h; rfl) | (obtain ⟨_, _, _, rfl, _⟩ := h; rfl) | (obtain ⟨_, _, _, _, rfl, _⟩ := h; rfl) | (obtain ⟨_, _, _, _, _, rfl, _⟩ := h; rfl) | (obtain ⟨_, _, _, _, _, _, rfl, _⟩ := h; rfl) | (obtain ⟨_, _, _, _, _, _, _, rfl, _⟩ := h; rfl) | (obtain ⟨_, _, _, _, _, _, _, _, rfl, _⟩ := h; rfl)) (k := 2 * j + 13 + 1) (fun cdv A outer s H E hr => rs_deed_box h_box_repeated (by omega) h_pen_behind (by omega) (step_word_box j ih) (Nat.le_refl _) hr) (rd_deed_box j)).mono (by omega)
  have h_deed_box := fam_word_box 5
  have h_word_box := step_word_box 5 h_deed_box
  have h_box_of : Cal l.prog w K mg base (25) "box_of" ["word"] spBoxOf := cal_of F_box_of m_box_of b_box_of sc_box_of (by intro ds μ Q h; first | (obtain ⟨rfl, _⟩ := h; rfl) | (obtain ⟨_, rfl, _⟩ := h; rfl) | (obtain ⟨_, _, rfl, _⟩ := h; rfl) | (obtain ⟨_, _, _, rfl, _⟩ := h; rfl) | (obtain ⟨_, _, _, _, rfl, _⟩ := h; rfl) | (obtain ⟨_, _, _, _, _, rfl, _⟩ := h; rfl) | (obtain ⟨_, _, _, _, _, _, rfl, _⟩ := h; rfl) | (obtain ⟨_, _, _, _, _, _, _, rfl, _⟩ := h; rfl) | (obtain ⟨_, _, _, _, _, _, _, _, rfl, _⟩ := h; rfl)) (k := 24) (fun cdv A outer s H E hr => rs_box_of h_check_word (by decide) h_word_box (by decide) hr) rd_box_of
  have h_Look___init__ : CalT l.prog w K mg base (2) C_Look "__init__" ["self", "stroke"] spInit := calT_of F_Look___init__ a_Look___init__ i_Look___init__ b_Look___init__ sc_Look___init__ (by intro ds μ Q h; first | (obtain ⟨rfl, _⟩ := h; rfl) | (obtain ⟨_, rfl, _⟩ := h; rfl) | (obtain ⟨_, _, rfl, _⟩ := h; rfl) | (obtain ⟨_, _, _, rfl, _⟩ := h; rfl) | (obtain ⟨_, _, _, _, rfl, _⟩ := h; rfl) | (obtain ⟨_, _, _, _, _, rfl, _⟩ := h; rfl) | (obtain ⟨_, _, _, _, _, _, rfl, _⟩ := h; rfl) | (obtain ⟨_, _, _, _, _, _, _, rfl, _⟩ := h; rfl) | (obtain ⟨_, _, _, _, _, _, _, _, rfl, _⟩ := h; rfl)) (k := 1) (fun cdv A outer s H E hr => rs_Look___init__ h_ends_of (by decide) oc_Look na_Look_greatest na_Look_least na_Look_left g_MOST_LOOKED_AT hr) rd_Look___init__
  have h_Look_is_within : CalT l.prog w K mg base (1) C_Look "is_within" ["self", "box"] spIsw := calT_of F_Look_is_within a_Look_is_within i_Look_is_within b_Look_is_within sc_Look_is_within (by intro ds μ Q h; first | (obtain ⟨rfl, _⟩ := h; rfl) | (obtain ⟨_, rfl, _⟩ := h; rfl) | (obtain ⟨_, _, rfl, _⟩ := h; rfl) | (obtain ⟨_, _, _, rfl, _⟩ := h; rfl) | (obtain ⟨_, _, _, _, rfl, _⟩ := h; rfl) | (obtain ⟨_, _, _, _, _, rfl, _⟩ := h; rfl) | (obtain ⟨_, _, _, _, _, _, rfl, _⟩ := h; rfl) | (obtain ⟨_, _, _, _, _, _, _, rfl, _⟩ := h; rfl) | (obtain ⟨_, _, _, _, _, _, _, _, rfl, _⟩ := h; rfl)) (k := 0) (fun cdv A outer s H E hr => rs_Look_is_within oc_Look na_Look_greatest na_Look_least hr) rd_Look_is_within
  have h_Look_count_doing : CalT l.prog w K mg base (1) C_Look "count_doing" ["self"] spCd := calT_of F_Look_count_doing a_Look_count_doing i_Look_count_doing b_Look_count_doing sc_Look_count_doing (by intro ds μ Q h; first | (obtain ⟨rfl, _⟩ := h; rfl) | (obtain ⟨_, rfl, _⟩ := h; rfl) | (obtain ⟨_, _, rfl, _⟩ := h; rfl) | (obtain ⟨_, _, _, rfl, _⟩ := h; rfl) | (obtain ⟨_, _, _, _, rfl, _⟩ := h; rfl) | (obtain ⟨_, _, _, _, _, rfl, _⟩ := h; rfl) | (obtain ⟨_, _, _, _, _, _, rfl, _⟩ := h; rfl) | (obtain ⟨_, _, _, _, _, _, _, rfl, _⟩ := h; rfl) | (obtain ⟨_, _, _, _, _, _, _, _, rfl, _⟩ := h; rfl)) (k := 0) (fun cdv A outer s H E hr => rs_Look_count_doing oc_Look na_Look_left hr) rd_Look_count_doing
  have fam_span_of_doings : ∀ j, Cal l.prog w K mg base (j + 0) "span_of_doings" ["number", "low", "high", "shift", "least", "greatest"] (spSpan j) := fun j => by
    induction j with
    | zero => exact (cal_zero F_span_of_doings m_span_of_doings b_span_of_doings (by intro ds μ Q h; first | (obtain ⟨_, _, h⟩ := h; omega) | (obtain ⟨_, _, _, h⟩ := h; omega) | (obtain ⟨_, _, _, _, h⟩ := h; omega) | (obtain ⟨_, _, _, _, _, _, _, _, h⟩ := h; omega) | (obtain ⟨_, _, _, _, _, _, _, h, _⟩ := h; split at h <;> omega))).mono (by omega)
    | succ j ih => exact (cal_of F_span_of_doings m_span_of_doings b_span_of_doings sc_span_of_doings (by intro ds μ Q h; first | (obtain ⟨rfl, _⟩ := h; rfl) | (obtain ⟨_, rfl, _⟩ := h; rfl) | (obtain ⟨_, _, rfl, _⟩ := h; rfl) | (obtain ⟨_, _, _, rfl, _⟩ := h; rfl) | (obtain ⟨_, _, _, _, rfl, _⟩ := h; rfl) | (obtain ⟨_, _, _, _, _, rfl, _⟩ := h; rfl) | (obtain ⟨_, _, _, _, _, _, rfl, _⟩ := h; rfl) | (obtain ⟨_, _, _, _, _, _, _, rfl, _⟩ := h; rfl) | (obtain ⟨_, _, _, _, _, _, _, _, rfl, _⟩ := h; rfl)) (k := j + 0) (fun cdv A outer s H E hr => rs_span_of_doings ih (Nat.le_refl _) z_max z_min hr) (rd_span_of_doings j)).mono (by omega)
  have h_span_of_doings := fam_span_of_doings 2
  have h_doings_to_ask : Cal l.prog w K mg base (3) "doings_to_ask" ["number", "part", "pen", "box", "look"] spAsk := cal_of F_doings_to_ask m_doings_to_ask b_doings_to_ask sc_doings_to_ask (by intro ds μ Q h; first | (obtain ⟨rfl, _⟩ := h; rfl) | (obtain ⟨_, rfl, _⟩ := h; rfl) | (obtain ⟨_, _, rfl, _⟩ := h; rfl) | (obtain ⟨_, _, _, rfl, _⟩ := h; rfl) | (obtain ⟨_, _, _, _, rfl, _⟩ := h; rfl) | (obtain ⟨_, _, _, _, _, rfl, _⟩ := h; rfl) | (obtain ⟨_, _, _, _, _, _, rfl, _⟩ := h; rfl) | (obtain ⟨_, _, _, _, _, _, _, rfl, _⟩ := h; rfl) | (obtain ⟨_, _, _, _, _, _, _, _, rfl, _⟩ := h; rfl)) (k := 2) (fun cdv A outer s H E hr => rs_doings_to_ask h_box_from (by decide) h_led (by decide) h_span_of_doings (by decide) oc_Look na_Look_greatest na_Look_least z_max z_min g_START hr) rd_doings_to_ask
  have h_doings_like : Cal l.prog w K mg base (1) "doings_like" ["doing", "number", "part"] spLike := cal_of F_doings_like m_doings_like b_doings_like sc_doings_like (by intro ds μ Q h; first | (obtain ⟨rfl, _⟩ := h; rfl) | (obtain ⟨_, rfl, _⟩ := h; rfl) | (obtain ⟨_, _, rfl, _⟩ := h; rfl) | (obtain ⟨_, _, _, rfl, _⟩ := h; rfl) | (obtain ⟨_, _, _, _, rfl, _⟩ := h; rfl) | (obtain ⟨_, _, _, _, _, rfl, _⟩ := h; rfl) | (obtain ⟨_, _, _, _, _, _, rfl, _⟩ := h; rfl) | (obtain ⟨_, _, _, _, _, _, _, rfl, _⟩ := h; rfl) | (obtain ⟨_, _, _, _, _, _, _, _, rfl, _⟩ := h; rfl)) (k := 0) (fun cdv A outer s H E hr => rs_doings_like g_START hr) rd_doings_like
  have step_often_in_deed : ∀ j, Cal l.prog w K mg base (3 * j + 24) "often_in_times" ["number", "word", "pen", "look"] (spOt j) → Cal l.prog w K mg base (3 * j + 24 + 1) "often_in_deed" ["deed", "pen", "look"] (spOd j) := fun j ih => cal_of F_often_in_deed m_often_in_deed b_often_in_deed sc_often_in_deed (by intro ds μ Q h; first | (obtain ⟨rfl, _⟩ := h; rfl) | (obtain ⟨_, rfl, _⟩ := h; rfl) | (obtain ⟨_, _, rfl, _⟩ := h; rfl) | (obtain ⟨_, _, _, rfl, _⟩ := h; rfl) | (obtain ⟨_, _, _, _, rfl, _⟩ := h; rfl) | (obtain ⟨_, _, _, _, _, rfl, _⟩ := h; rfl) | (obtain ⟨_, _, _, _, _, _, rfl, _⟩ := h; rfl) | (obtain ⟨_, _, _, _, _, _, _, rfl, _⟩ := h; rfl) | (obtain ⟨_, _, _, _, _, _, _, _, rfl, _⟩ := h; rfl)) (k := 3 * j + 24) (fun cdv A outer s H E hr => rs_often_in_deed h_Look_is_within (by omega) h_box_from (by omega) h_deed_box (by omega) ih (Nat.le_refl _) oc_Look hr) (rd_often_in_deed j)
  have step_often_in_word : ∀ j, Cal l.prog w K mg base (3 * j + 24) "often_in_times" ["number", "word", "pen", "look"] (spOt j) → Cal l.prog w K mg base (3 * j + 24 + 2) "often_in_word" ["word", "pen", "look"] (spOw j) := fun j ih => cal_of F_often_in_word m_often_in_word b_often_in_word sc_often_in_word (by intro ds μ Q h; first | (obtain ⟨rfl, _⟩ := h; rfl) | (obtain ⟨_, rfl, _⟩ := h; rfl) | (obtain ⟨_, _, rfl, _⟩ := h; rfl) | (obtain ⟨_, _, _, rfl, _⟩ := h; rfl) | (obtain ⟨_, _, _, _, rfl, _⟩ := h; rfl) | (obtain ⟨_, _, _, _, _, rfl, _⟩ := h; rfl) | (obtain ⟨_, _, _, _, _, _, rfl, _⟩ := h; rfl) | (obtain ⟨_, _, _, _, _, _, _, rfl, _⟩ := h; rfl) | (obtain ⟨_, _, _, _, _, _, _, _, rfl, _⟩ := h; rfl)) (k := 3 * j + 24 + 1) (fun cdv A outer s H E hr => rs_often_in_word h_led (by omega) (step_often_in_deed j ih) (Nat.le_refl _) h_pen_behind_deed (by omega) hr) (rd_often_in_word j)
  have fam_often_in_times : ∀ j, Cal l.prog w K mg base (3 * j + 24) "often_in_times" ["number", "word", "pen", "look"] (spOt j) := fun j => by
    induction j with
    | zero => exact (cal_zero F_often_in_times m_often_in_times b_often_in_times (by intro ds μ Q h; first | (obtain ⟨_, _, h⟩ := h; omega) | (obtain ⟨_, _, _, h⟩ := h; omega) | (obtain ⟨_, _, _, _, h⟩ := h; omega) | (obtain ⟨_, _, _, _, _, h⟩ := h; omega) | (obtain ⟨_, _, _, _, _, _, h⟩ := h; omega) | (obtain ⟨_, _, _, _, _, _, _, _, _, h, _⟩ := h; omega))).mono (by omega)
    | succ j ih => exact (cal_of F_often_in_times m_often_in_times b_often_in_times sc_often_in_times (by intro ds μ Q h; first | (obtain ⟨rfl, _⟩ := h; rfl) | (obtain ⟨_, rfl, _⟩ := h; rfl) | (obtain ⟨_, _, rfl, _⟩ := h; rfl) | (obtain ⟨_, _, _, rfl, _⟩ := h; rfl) | (obtain ⟨_, _, _, _, rfl, _⟩ := h; rfl) | (obtain ⟨_, _, _, _, _, rfl, _⟩ := h; rfl) | (obtain ⟨_, _, _, _, _, _, rfl, _⟩ := h; rfl) | (obtain ⟨_, _, _, _, _, _, _, rfl, _⟩ := h; rfl) | (obtain ⟨_, _, _, _, _, _, _, _, rfl, _⟩ := h; rfl)) (k := 3 * j + 24 + 2) (fun cdv A outer s H E hr => rs_often_in_times h_Look_count_doing (by omega) h_Look_is_within (by omega) h_box_from (by omega) h_doings_like (by omega) h_doings_to_ask (by omega) h_led (by omega) (step_often_in_word j ih) (Nat.le_refl _) h_pen_behind (by omega) h_pen_repeated (by omega) h_word_box (by omega) oc_Look z_range hr) (rd_often_in_times j)).mono (by omega)
  have h_often_in_times := fam_often_in_times 5
  have h_often_in_deed := step_often_in_deed 5 h_often_in_times
  have h_often_in_word := step_often_in_word 5 h_often_in_times
  have h_drawn_often : Cal l.prog w K mg base (42) "drawn_often" ["word", "stroke"] spDo := cal_of F_drawn_often m_drawn_often b_drawn_often sc_drawn_often (by intro ds μ Q h; first | (obtain ⟨rfl, _⟩ := h; rfl) | (obtain ⟨_, rfl, _⟩ := h; rfl) | (obtain ⟨_, _, rfl, _⟩ := h; rfl) | (obtain ⟨_, _, _, rfl, _⟩ := h; rfl) | (obtain ⟨_, _, _, _, rfl, _⟩ := h; rfl) | (obtain ⟨_, _, _, _, _, rfl, _⟩ := h; rfl) | (obtain ⟨_, _, _, _, _, _, rfl, _⟩ := h; rfl) | (obtain ⟨_, _, _, _, _, _, _, rfl, _⟩ := h; rfl) | (obtain ⟨_, _, _, _, _, _, _, _, rfl, _⟩ := h; rfl)) (k := 41) (fun cdv A outer s H E hr => rs_drawn_often h_Look___init__ (by decide) h_check_stroke (by decide) h_check_word (by decide) h_often_in_word (by decide) oc_Look mk_Look kp_Look m_Look g_START hr) rd_drawn_often
  have h__law_state : Cal l.prog w K mg base (1) "_law_state" ["script", "k"] spTState := cal_of F__law_state m__law_state b__law_state sc__law_state (by intro ds μ Q h; first | (obtain ⟨rfl, _⟩ := h; rfl) | (obtain ⟨_, rfl, _⟩ := h; rfl) | (obtain ⟨_, _, rfl, _⟩ := h; rfl) | (obtain ⟨_, _, _, rfl, _⟩ := h; rfl) | (obtain ⟨_, _, _, _, rfl, _⟩ := h; rfl) | (obtain ⟨_, _, _, _, _, rfl, _⟩ := h; rfl) | (obtain ⟨_, _, _, _, _, _, rfl, _⟩ := h; rfl) | (obtain ⟨_, _, _, _, _, _, _, rfl, _⟩ := h; rfl) | (obtain ⟨_, _, _, _, _, _, _, _, rfl, _⟩ := h; rfl)) (k := 0) (fun cdv A outer s H E hr => rs__law_state z_len hr) rd__law_state
  have h__law_take : Cal l.prog w K mg base (1) "_law_take" ["state", "many"] spTake := cal_of F__law_take m__law_take b__law_take sc__law_take (by intro ds μ Q h; first | (obtain ⟨rfl, _⟩ := h; rfl) | (obtain ⟨_, rfl, _⟩ := h; rfl) | (obtain ⟨_, _, rfl, _⟩ := h; rfl) | (obtain ⟨_, _, _, rfl, _⟩ := h; rfl) | (obtain ⟨_, _, _, _, rfl, _⟩ := h; rfl) | (obtain ⟨_, _, _, _, _, rfl, _⟩ := h; rfl) | (obtain ⟨_, _, _, _, _, _, rfl, _⟩ := h; rfl) | (obtain ⟨_, _, _, _, _, _, _, rfl, _⟩ := h; rfl) | (obtain ⟨_, _, _, _, _, _, _, _, rfl, _⟩ := h; rfl)) (k := 0) (fun cdv A outer s H E hr => rs__law_take hr) rd__law_take
  have h__law_whole : Cal l.prog w K mg base (1) "_law_whole" ["found"] spWhole := cal_of F__law_whole m__law_whole b__law_whole sc__law_whole (by intro ds μ Q h; first | (obtain ⟨rfl, _⟩ := h; rfl) | (obtain ⟨_, rfl, _⟩ := h; rfl) | (obtain ⟨_, _, rfl, _⟩ := h; rfl) | (obtain ⟨_, _, _, rfl, _⟩ := h; rfl) | (obtain ⟨_, _, _, _, rfl, _⟩ := h; rfl) | (obtain ⟨_, _, _, _, _, rfl, _⟩ := h; rfl) | (obtain ⟨_, _, _, _, _, _, rfl, _⟩ := h; rfl) | (obtain ⟨_, _, _, _, _, _, _, rfl, _⟩ := h; rfl) | (obtain ⟨_, _, _, _, _, _, _, _, rfl, _⟩ := h; rfl)) (k := 0) (fun cdv A outer s H E hr => rs__law_whole z_bool z_int z_isinstance hr) rd__law_whole
  have h__law_is_row : Cal l.prog w K mg base (2) "_law_is_row" ["found", "due"] spIsRow := cal_of F__law_is_row m__law_is_row b__law_is_row sc__law_is_row (by intro ds μ Q h; first | (obtain ⟨rfl, _⟩ := h; rfl) | (obtain ⟨_, rfl, _⟩ := h; rfl) | (obtain ⟨_, _, rfl, _⟩ := h; rfl) | (obtain ⟨_, _, _, rfl, _⟩ := h; rfl) | (obtain ⟨_, _, _, _, rfl, _⟩ := h; rfl) | (obtain ⟨_, _, _, _, _, rfl, _⟩ := h; rfl) | (obtain ⟨_, _, _, _, _, _, rfl, _⟩ := h; rfl) | (obtain ⟨_, _, _, _, _, _, _, rfl, _⟩ := h; rfl) | (obtain ⟨_, _, _, _, _, _, _, _, rfl, _⟩ := h; rfl)) (k := 1) (fun cdv A outer s H E hr => rs__law_is_row h__law_whole (by decide) z_all z_isinstance z_tuple hr) rd__law_is_row
  exact fnok_of F_law sc_law (by intro ds μ Q h; first | (obtain ⟨rfl, _⟩ := h; rfl) | (obtain ⟨_, rfl, _⟩ := h; rfl) | (obtain ⟨_, _, rfl, _⟩ := h; rfl) | (obtain ⟨_, _, _, rfl, _⟩ := h; rfl) | (obtain ⟨_, _, _, _, rfl, _⟩ := h; rfl) | (obtain ⟨_, _, _, _, _, rfl, _⟩ := h; rfl) | (obtain ⟨_, _, _, _, _, _, rfl, _⟩ := h; rfl) | (obtain ⟨_, _, _, _, _, _, _, rfl, _⟩ := h; rfl) | (obtain ⟨_, _, _, _, _, _, _, _, rfl, _⟩ := h; rfl)) (k := 42) (fun cdv A outer s H E hr => rs_law h__law_is_row (by decide) h__law_state (by decide) h__law_take (by decide) h_box_of (by decide) h_drawn_often (by decide) z_int z_range hr) rd_law
theorem walk {l : PySem.W.OpenLaw} {q : Program} {loose : List Str} {XP : (Str → Option Value) → Heap → Prop} {YP : World → Heap → Prop} {d : DefRec} {K : Params → Fg} (hn : l.most = some 63) (hdf : d.params.defaults = [])
    (hY : ∀ (w : World) (h : Heap), YP w h → (K w.params).In h)
    (F : ∀ (w : World) (mg : Str → Option Value) (fa : Addr) (h : Heap), (K w.params).In h → h.Ns mainGlobals mg → mg d.name = some (.ref fa) →
      ∃ fd : FuncData, (∀ (s : Shared) (u : Value), BindsTo s fd ⟨[u], []⟩ [("script", u)]) ∧ ∀ base : Heap, (K w.params).In base → base.Ns mainGlobals mg → FnOk l.prog w (K w.params) mg base CX0 43 fa fd ["script"] (lift (K w.params) spLaw)) :
    PySem.W.WalkO q loose XP YP l.row.toRowW d [] (fun f vs => PySem.call f vs) :=
  L2.walk_of (n := 63) (k := 43) (x := "script") (CX := fun _ => CX0) (sp := fun w => lift (K w.params) spLaw) hn (by decide) hdf ⟨rfl, by decide, by decide⟩ hY F (fun _ _ a ns hl hO hS => law_lift hO hS ⟨ns, rfl, hl, fun _ => rfl⟩) fun _ _ _ _ _ z => z
end Pv
open PySem PySem.W PyProof.Rows
set_option maxRecDepth 100000 in
set_option maxHeartbeats 0 in
theorem PySem.Challenge.cw_penwright_k42_whole_times_within_times_holds : PySem.Challenge.rw_penwright_k42_whole_times_within_times.Holds := by
  w_on; o_law; k_head; (case hw => w_witness2)
  k_fill
  refine Pv.walk (l := PySem.Challenge.rw_penwright_k42_whole_times_within_times) rfl rfl (fun w h Y => PySem.W.kIn_of Y) ?F
  case F =>
    intro w mg fa h KX G hmg
    refine' Pv.all_mk KX G hmg ?a_check_word ?l_check_word ?c_check_word ?k_check_word ?a_checked_count ?l_checked_count ?c_checked_count ?k_checked_count ?a_checked_deed_count ?l_checked_deed_count ?c_checked_deed_count ?k_checked_deed_count ?a_check_number ?l_check_number ?c_check_number ?k_check_number ?a_led ?l_led ?c_led ?k_led ?a_pen_behind ?l_pen_behind ?c_pen_behind ?k_pen_behind ?a_pen_behind_deed ?l_pen_behind_deed ?c_pen_behind_deed ?k_pen_behind_deed ?a_pen_repeated ?l_pen_repeated ?c_pen_repeated ?k_pen_repeated ?a_check_stroke ?l_check_stroke ?c_check_stroke ?k_check_stroke ?a_ends_of ?l_ends_of ?c_ends_of ?k_ends_of ?a_box_of ?l_box_of ?c_box_of ?k_box_of ?a_word_box ?l_word_box ?c_word_box ?k_word_box ?a_deed_box ?l_deed_box ?c_deed_box ?k_deed_box ?a_box_repeated ?l_box_repeated ?c_box_repeated ?k_box_repeated ?a_outermost_doings ?l_outermost_doings ?c_outermost_doings ?k_outermost_doings ?a_box_round ?l_box_round ?c_box_round ?k_box_round ?a_box_from ?l_box_from ?c_box_from ?k_box_from ?a_drawn_often ?l_drawn_often ?c_drawn_often ?k_drawn_often ?a_often_in_word ?l_often_in_word ?c_often_in_word ?k_often_in_word ?a_often_in_deed ?l_often_in_deed ?c_often_in_deed ?k_often_in_deed ?a_often_in_times ?l_often_in_times ?c_often_in_times ?k_often_in_times ?a_doings_to_ask ?l_doings_to_ask ?c_doings_to_ask ?k_doings_to_ask ?a_span_of_doings ?l_span_of_doings ?c_span_of_doings ?k_span_of_doings ?a_doings_like ?l_doings_like ?c_doings_like ?k_doings_like ?a__law_state ?l__law_state ?c__law_state ?k__law_state ?a__law_take ?l__law_take ?c__law_take ?k__law_take ?a__law_whole ?l__law_whole ?c__law_whole ?k__law_whole ?a__law_is_row ?l__law_is_row ?c__law_is_row ?k__law_is_row ?a_law ?l_law ?c_law ?k_law ?ac_Look ?pg_Look ?hd_Look ?po_Look ?sa_Look ?mk_Look ?kp_Look ?na_Look_greatest ?na_Look_least ?na_Look_left ?a_Look___init__ ?i_Look___init__ ?l_Look___init__ ?c_Look___init__ ?k_Look___init__ ?a_Look_is_within ?i_Look_is_within ?l_Look_is_within ?c_Look_is_within ?k_Look_is_within ?a_Look_count_doing ?i_Look_count_doing ?l_Look_count_doing ?c_Look_count_doing ?k_Look_count_doing ?e_MOST_DEEDS ?e_MOST_DEEP ?e_GREATEST_NUMBER ?e_PLAIN_KINDS ?ql_4 ?e_KINDS_FROM_NOUGHT ?ql_8 ?e_START ?ql_11 ?e_AHEAD ?ql_15 ?ql_25 ?ql_22 ?ql_19 ?ql_16 ?e_WAYS ?ql_28 ?e_MOST_LOOKED_AT ?zz_abs ?zz_all ?zz_bool ?zz_int ?zz_isinstance ?zz_len ?zz_list ?zz_max ?zz_min ?zz_range ?zz_tuple
    (case a_check_word => k_is); (case l_check_word => k_is); (case c_check_word => k_is); (case k_check_word => k_is); (case a_checked_count => k_is); (case l_checked_count => k_is); (case c_checked_count => k_is); (case k_checked_count => k_is); (case a_checked_deed_count => k_is); (case l_checked_deed_count => k_is); (case c_checked_deed_count => k_is); (case k_checked_deed_count => k_is); (case a_check_number => k_is); (case l_check_number => k_is); (case c_check_number => k_is); (case k_check_number => k_is); (case a_led => k_is); (case l_led => k_is); (case c_led => k_is); (case k_led => k_is); (case a_pen_behind => k_is); (case l_pen_behind => k_is); (case c_pen_behind => k_is); (case k_pen_behind => k_is); (case a_pen_behind_deed => k_is); (case l_pen_behind_deed => k_is); (case c_pen_behind_deed => k_is); (case k_pen_behind_deed => k_is); (case a_pen_repeated => k_is); (case l_pen_repeated => k_is); (case c_pen_repeated => k_is); (case k_pen_repeated => k_is); (case a_check_stroke => k_is); (case l_check_stroke => k_is); (case c_check_stroke => k_is); (case k_check_stroke => k_is); (case a_ends_of => k_is); (case l_ends_of => k_is); (case c_ends_of => k_is); (case k_ends_of => k_is); (case a_box_of => k_is); (case l_box_of => k_is); (case c_box_of => k_is); (case k_box_of => k_is); (case a_word_box => k_is); (case l_word_box => k_is); (case c_word_box => k_is); (case k_word_box => k_is); (case a_deed_box => k_is); (case l_deed_box => k_is); (case c_deed_box => k_is); (case k_deed_box => k_is); (case a_box_repeated => k_is); (case l_box_repeated => k_is); (case c_box_repeated => k_is); (case k_box_repeated => k_is); (case a_outermost_doings => k_is); (case l_outermost_doings => k_is); (case c_outermost_doings => k_is); (case k_outermost_doings => k_is); (case a_box_round => k_is); (case l_box_round => k_is); (case c_box_round => k_is); (case k_box_round => k_is); (case a_box_from => k_is); (case l_box_from => k_is); (case c_box_from => k_is); (case k_box_from => k_is); (case a_drawn_often => k_is); (case l_drawn_often => k_is); (case c_drawn_often => k_is); (case k_drawn_often => k_is); (case a_often_in_word => k_is); (case l_often_in_word => k_is); (case c_often_in_word => k_is); (case k_often_in_word => k_is); (case a_often_in_deed => k_is); (case l_often_in_deed => k_is); (case c_often_in_deed => k_is); (case k_often_in_deed => k_is); (case a_often_in_times => k_is); (case l_often_in_times => k_is); (case c_often_in_times => k_is); (case k_often_in_times => k_is); (case a_doings_to_ask => k_is); (case l_doings_to_ask => k_is); (case c_doings_to_ask => k_is); (case k_doings_to_ask => k_is); (case a_span_of_doings => k_is); (case l_span_of_doings => k_is); (case c_span_of_doings => k_is); (case k_span_of_doings => k_is); (case a_doings_like => k_is); (case l_doings_like => k_is); (case c_doings_like => k_is); (case k_doings_like => k_is); (case a__law_state => k_is); (case l__law_state => k_is); (case c__law_state => k_is); (case k__law_state => k_is); (case a__law_take => k_is); (case l__law_take => k_is); (case c__law_take => k_is); (case k__law_take => k_is); (case a__law_whole => k_is); (case l__law_whole => k_is); (case c__law_whole => k_is); (case k__law_whole => k_is); (case a__law_is_row => k_is); (case l__law_is_row => k_is); (case c__law_is_row => k_is); (case k__law_is_row => k_is); (case a_law => k_is); (case l_law => k_is); (case c_law => k_is); (case k_law => k_is); (case ac_Look => k_is); (case pg_Look => k_is); (case hd_Look => k_is); (case po_Look => k_is); (case sa_Look => k_is); (case mk_Look => k_is); (case kp_Look => k_is); (case na_Look_greatest => k_is); (case na_Look_least => k_is); (case na_Look_left => k_is); (case a_Look___init__ => k_is); (case i_Look___init__ => k_is); (case l_Look___init__ => k_is); (case c_Look___init__ => k_is); (case k_Look___init__ => k_is); (case a_Look_is_within => k_is); (case i_Look_is_within => k_is); (case l_Look_is_within => k_is); (case c_Look_is_within => k_is); (case k_Look_is_within => k_is); (case a_Look_count_doing => k_is); (case i_Look_count_doing => k_is); (case l_Look_count_doing => k_is); (case c_Look_count_doing => k_is); (case k_Look_count_doing => k_is); (case e_MOST_DEEDS => k_is); (case e_MOST_DEEP => k_is); (case e_GREATEST_NUMBER => k_is); (case e_PLAIN_KINDS => k_is); (case ql_4 => k_is); (case e_KINDS_FROM_NOUGHT => k_is); (case ql_8 => k_is); (case e_START => k_is); (case ql_11 => k_is); (case e_AHEAD => k_is); (case ql_15 => k_is); (case ql_25 => k_is); (case ql_22 => k_is); (case ql_19 => k_is); (case ql_16 => k_is); (case e_WAYS => k_is); (case ql_28 => k_is); (case e_MOST_LOOKED_AT => k_is); (case zz_abs => k_is); (case zz_all => k_is); (case zz_bool => k_is); (case zz_int => k_is); (case zz_isinstance => k_is); (case zz_len => k_is); (case zz_list => k_is); (case zz_max => k_is); (case zz_min => k_is); (case zz_range => k_is); (case zz_tuple => k_is)
